/-
  Parts of this proof: The contract of the reference's SameSite.
-/
import Derived.Test.YtaaffmbnhjaebaaGreatZQRsmxd
import Derived.Test.YtaaffmbnhjaebaaGreatZQRsrxd
import Derived.Test.YtaaffmbnhjaebaaGreatZQSam
import Derived.Deep.CutRange
namespace Go.Proofs.YtaaffmbnhjaebaaGreat.Md
open Go.RowKit Go.Maps
open Go.Proofs.YtaaffmbnhjaebaaGreat.Sm (sameSL setRow_prev heap_prev)
open Go.Proofs.YtaaffmbnhjaebaaGreat.Ex (Lo Gives bl_drew block_lt)
set_option maxHeartbeats 8000000
set_option linter.unusedVariables false
theorem pre_V {t : TypeId} {c : Array Value} (ht : Big t c.size) (h1 : c.all (·.oneCell') = true) (z : Array Value) (hz : z.size = c.size) (W : World) (o : Obj) (B : Nat) (hB : W.heap.size = B) : (storeVar t ⟨B, 0, none⟩ (.agg c)).run Tryz.prog ((W.alloc (.cells z t)).alloc o) = .ok () ((W.alloc (.cells c t)).alloc o) := by
 subst hB
 rw [run_storeVar_row _ _ t t z c (heap_prev _ _ _) ht.2 hz h1, setRow_prev]
theorem pre_C {t : TypeId} {c : Array Value} (ht : Big t c.size) (h1 : c.all (·.oneCell') = true) (z : Array Value) (hz : z.size = c.size) (W : World) (o : Obj) (B : Nat) (hB : W.heap.size = B) : (storeCells ⟨B, 0, none⟩ c.toList 0).run Tryz.prog ((W.alloc (.cells z t)).alloc o) = .ok () ((W.alloc (.cells c t)).alloc o) := by
 have h := pre_V ht h1 z hz W o B hB
 cases e : Tryz.prog.info? t with
 | none => have := ht.2; rw [e] at this; cases this
 | some i0 =>
  have hi2 : i0.size = c.size := by have := ht.2; rw [e] at this; simpa using this
  simpa [storeVar, sizeOf, typeInfo, e, Value.cells, hi2] using h
theorem pre_A {t : TypeId} {c : Array Value} (ht : Big t c.size) (h1 : c.all (·.oneCell') = true) (z : Array Value) (hz : z.size = c.size) (W : World) (o : Obj) (B : Nat) (hB : W.heap.size = B) : (Instr.storeAt t (.pointer (some ⟨B, 0, none⟩)) (.agg c)).run Tryz.prog ((W.alloc (.cells z t)).alloc o) = .ok () ((W.alloc (.cells c t)).alloc o) := by
 simp only [Instr.storeAt, Instr.sureAddr, Sem.run_bind, Sem.run_pure, Result.andThen]
 exact pre_V ht h1 z hz W o B hB
theorem pre_DV {t : TypeId} {c : Array Value} (ht : Big t c.size) (h1 : c.all (·.oneCell') = true) (z : Array Value) (hz : z.size = c.size) (W : World) (o : Obj) (B : Nat) (hB : W.heap.size = B) : (storeVar t ⟨B, 0, none⟩ (.agg c)).run Tryz.prog ((W.alloc (.cells z t)).alloc o).drew = .ok () ((W.alloc (.cells c t)).alloc o).drew := pre_V ht h1 z hz W.drew o B hB
theorem pre_DC {t : TypeId} {c : Array Value} (ht : Big t c.size) (h1 : c.all (·.oneCell') = true) (z : Array Value) (hz : z.size = c.size) (W : World) (o : Obj) (B : Nat) (hB : W.heap.size = B) : (storeCells ⟨B, 0, none⟩ c.toList 0).run Tryz.prog ((W.alloc (.cells z t)).alloc o).drew = .ok () ((W.alloc (.cells c t)).alloc o).drew := pre_C ht h1 z hz W.drew o B hB
theorem pre_DA {t : TypeId} {c : Array Value} (ht : Big t c.size) (h1 : c.all (·.oneCell') = true) (z : Array Value) (hz : z.size = c.size) (W : World) (o : Obj) (B : Nat) (hB : W.heap.size = B) : (Instr.storeAt t (.pointer (some ⟨B, 0, none⟩)) (.agg c)).run Tryz.prog ((W.alloc (.cells z t)).alloc o).drew = .ok () ((W.alloc (.cells c t)).alloc o).drew := pre_A ht h1 z hz W.drew o B hB
theorem put_DV {t : TypeId} {c : Array Value} (ht : Big t c.size) (h1 : c.all (·.oneCell') = true) (z : Array Value) (hz : z.size = c.size) (W : World) (B : Nat) (hB : W.heap.size = B) : (storeVar t ⟨B, 0, none⟩ (.agg c)).run Tryz.prog (W.alloc (.cells z t)).drew = .ok () (W.alloc (.cells c t)).drew := put_V ht h1 z hz W.drew B hB
theorem put_DC {t : TypeId} {c : Array Value} (ht : Big t c.size) (h1 : c.all (·.oneCell') = true) (z : Array Value) (hz : z.size = c.size) (W : World) (B : Nat) (hB : W.heap.size = B) : (storeCells ⟨B, 0, none⟩ c.toList 0).run Tryz.prog (W.alloc (.cells z t)).drew = .ok () (W.alloc (.cells c t)).drew := put_C ht h1 z hz W.drew B hB
theorem put_DA {t : TypeId} {c : Array Value} (ht : Big t c.size) (h1 : c.all (·.oneCell') = true) (z : Array Value) (hz : z.size = c.size) (W : World) (B : Nat) (hB : W.heap.size = B) : (Instr.storeAt t (.pointer (some ⟨B, 0, none⟩)) (.agg c)).run Tryz.prog (W.alloc (.cells z t)).drew = .ok () (W.alloc (.cells c t)).drew := put_A ht h1 z hz W.drew B hB
theorem wpList_known {P : Program} {ops : Array Oper} {Q : Exit → Act → World → Prop} {a : Act} {w : World} {rest : List Oper} {o : Oper} {v : Value} (hw : Region.wanted o (yielded ops a.tmps) = true) (hv : (execOp a.eval o).run P w = .ok (.value v) w) (h : wpList P ops Q rest (a.put o.dst v) w) : wpList P ops Q (o :: rest) a w := by
 simp only [wpList, hw, if_true]
 left
 unfold Oper.wp
 rw [hv]
 exact h
structure WA (P : Program) (OPS : List Oper) (Q : Exit → Act → World → Prop) (n : Nat) (a : Act) (w : World) : Prop where
 out : wpList P OPS.toArray Q (OPS.drop n) a w
theorem wa_start {P : Program} (OPS : List Oper) {l : List Oper} {Q : Exit → Act → World → Prop} {a : Act} {w : World} (hE : l = OPS) (h : ∀ Q' : Exit → Act → World → Prop, Hid (∀ e a w, Q e a w → Q' e a w) → WA P OPS Q' 0 a w) : wpList P l.toArray Q l a w := by
 subst hE; exact (h Q (Lib.hid fun _ _ _ h => h)).out
section
variable {P : Program} {OPS : List Oper} {Q : Exit → Act → World → Prop} {a : Act} {w : World}
theorem wa_known (n : Nat) (o : Oper) (ev : Operand → Value) (v : Value) (ho : OPS.drop n = o :: OPS.drop (n + 1)) (hw : Region.wanted o (yielded OPS.toArray a.tmps) = true) (he : execOp a.eval o = execOp ev o) (hv : (execOp ev o).run P w = .ok (.value v) w) (h : WA P OPS Q (n + 1) (a.put o.dst v) w) : WA P OPS Q n a w :=
 ⟨by rw [ho]; exact wpList_known hw (by rw [he]; exact hv) h.out⟩
theorem wa_skip (n : Nat) (o : Oper) (ho : OPS.drop n = o :: OPS.drop (n + 1)) (hw : Region.wanted o (yielded OPS.toArray a.tmps) = false) (h : WA P OPS Q (n + 1) (a.put o.dst undef) w) : WA P OPS Q n a w :=
 ⟨by rw [ho]; exact wpList_skip hw h.out⟩
theorem wa_call (n : Nat) (o : Oper) (ho : OPS.drop n = o :: OPS.drop (n + 1)) (hw : Region.wanted o (yielded OPS.toArray a.tmps) = true) (h : ∀ K : Act → World → Prop, Hid (∀ a w, WA P OPS Q (n + 1) a w → K a w) → o.wp P a w K Q) : WA P OPS Q n a w := ⟨by
 rw [ho]
 refine wpList_step fun K hK => ?_
 rw [if_pos hw]
 exact h K (Lib.hid fun a w h => hK a w h.out)⟩
theorem wa_end (n : Nat) (hn : OPS.drop n = []) (h : Q .normal a w) : WA P OPS Q n a w := ⟨by rw [hn]; exact h⟩
theorem wa_is {n : Nat} (b : Act) (h : a = b) (h2 : WA P OPS Q n b w) : WA P OPS Q n a w := h ▸ h2
end
theorem wa_out {Q Q' : Exit → Act → World → Prop} {a : Act} {w : World} (b : Act) (h : a = b) (hQ : Hid (∀ e a w, Q e a w → Q' e a w)) (h2 : Q .normal b w) : Q' .normal a w := h ▸ hQ.out _ _ _ h2
def TwoBox (wr : World) (t : TypeId) (c d : Array Value) (a b : Value) (wc : World) : Prop := ∃ g1 g2 : Nat, a = .pointer (some ⟨g1, 0, none⟩) ∧ b = .pointer (some ⟨g2, 0, none⟩) ∧ Box wc g1 t c ∧ Box wc g2 t d ∧ Below wr.heap.size wr wc
theorem twoBox_new (w : World) (t : TypeId) (c d : Array Value) : Box ((w.alloc (.cells c t)).alloc (.cells d t)).drew w.heap.size t c ∧ Box ((w.alloc (.cells c t)).alloc (.cells d t)).drew (w.heap.size + 1) t d := (far2 (w := w) t t c d).out _ (bl_drew (Below.refl _ _))
set_option maxRecDepth 100000 in
def ssOps : List Oper := [{ dst := some 15, op := Op.fieldAddr 42 (Operand.tmp 2) 0, type := 0, pos := "ref.go:422", after := #[], guard := none },
 { dst := some 16, op := Op.load 9 (Operand.tmp 15), type := 9, pos := "ref.go:422", after := #[{ on := 0, ground := Ground.data }], guard := none },
 { dst := some 17, op := Op.fieldAddr 42 (Operand.tmp 3) 0, type := 0, pos := "ref.go:422", after := #[], guard := none },
 { dst := some 18, op := Op.load 9 (Operand.tmp 17), type := 9, pos := "ref.go:422", after := #[{ on := 2, ground := Ground.data }], guard := none },
 { dst := some 19, op := Op.binOp BinOp.neq 9 (Operand.tmp 16) (Operand.tmp 18) 9, type := 4, pos := "ref.go:422", after := #[{ on := 1, ground := Ground.data }, { on := 3, ground := Ground.data }], guard := none },
 { dst := some 20, op := Op.move (Operand.tmp 19), type := 4, pos := "ref.go:422", after := #[{ on := 4, ground := Ground.data }], guard := none },
 { dst := some 21, op := Op.fieldAddr 42 (Operand.tmp 2) 1, type := 0, pos := "ref.go:422", after := #[{ on := 5, ground := Ground.guard }], guard := some (5, false) },
 { dst := some 22, op := Op.load 22 (Operand.tmp 21), type := 22, pos := "ref.go:422", after := #[{ on := 6, ground := Ground.data }, { on := 5, ground := Ground.guard }], guard := some (5, false) },
 { dst := some 23, op := Op.fieldAddr 42 (Operand.tmp 3) 1, type := 0, pos := "ref.go:422", after := #[{ on := 5, ground := Ground.guard }], guard := some (5, false) },
 { dst := some 24, op := Op.load 22 (Operand.tmp 23), type := 22, pos := "ref.go:422", after := #[{ on := 8, ground := Ground.data }, { on := 5, ground := Ground.guard }], guard := some (5, false) },
 { dst := some 25, op := Op.call { callee := Callee.value (Operand.func 49), args := #[Operand.tmp 22, Operand.tmp 24], argTypes := #[22, 22] }, type := 4, pos := "ref.go:422", after := #[{ on := 7, ground := Ground.data }, { on := 9, ground := Ground.data }, { on := 5, ground := Ground.chain }, { on := 5, ground := Ground.guard }], guard := some (5, false) },
 { dst := some 26, op := Op.unOp UnOp.not 4 (Operand.tmp 25), type := 4, pos := "ref.go:422", after := #[{ on := 10, ground := Ground.data }, { on := 5, ground := Ground.guard }], guard := some (5, false) },
 { dst := some 27, op := Op.pick (Operand.tmp 20) (Operand.const (Value.bool true)) (Operand.tmp 26), type := 4, pos := "ref.go:422", after := #[{ on := 5, ground := Ground.data }, { on := 11, ground := Ground.data }], guard := none },
 { dst := some 28, op := Op.move (Operand.tmp 27), type := 4, pos := "ref.go:422", after := #[{ on := 12, ground := Ground.data }, { on := 10, ground := Ground.chain }], guard := none },
 { dst := some 29, op := Op.fieldAddr 42 (Operand.tmp 2) 2, type := 0, pos := "ref.go:422", after := #[{ on := 13, ground := Ground.guard }], guard := some (13, false) },
 { dst := some 30, op := Op.load 34 (Operand.tmp 29), type := 34, pos := "ref.go:422", after := #[{ on := 14, ground := Ground.data }, { on := 13, ground := Ground.guard }], guard := some (13, false) },
 { dst := some 31, op := Op.call { callee := Callee.builtin Builtin.len, args := #[Operand.tmp 30], argTypes := #[34] }, type := 3, pos := "ref.go:422", after := #[{ on := 15, ground := Ground.data }, { on := 13, ground := Ground.guard }], guard := some (13, false) },
 { dst := some 32, op := Op.fieldAddr 42 (Operand.tmp 3) 2, type := 0, pos := "ref.go:422", after := #[{ on := 13, ground := Ground.guard }], guard := some (13, false) },
 { dst := some 33, op := Op.load 34 (Operand.tmp 32), type := 34, pos := "ref.go:422", after := #[{ on := 17, ground := Ground.data }, { on := 13, ground := Ground.guard }], guard := some (13, false) },
 { dst := some 34, op := Op.call { callee := Callee.builtin Builtin.len, args := #[Operand.tmp 33], argTypes := #[34] }, type := 3, pos := "ref.go:422", after := #[{ on := 18, ground := Ground.data }, { on := 13, ground := Ground.guard }], guard := some (13, false) },
 { dst := some 35, op := Op.binOp BinOp.neq 3 (Operand.tmp 31) (Operand.tmp 34) 3, type := 4, pos := "ref.go:422", after := #[{ on := 16, ground := Ground.data }, { on := 19, ground := Ground.data }, { on := 13, ground := Ground.guard }], guard := some (13, false) },
 { dst := some 36, op := Op.pick (Operand.tmp 28) (Operand.const (Value.bool true)) (Operand.tmp 35), type := 4, pos := "ref.go:422", after := #[{ on := 13, ground := Ground.data }, { on := 20, ground := Ground.data }], guard := none },
 { dst := some 37, op := Op.move (Operand.tmp 36), type := 4, pos := "ref.go:422", after := #[{ on := 21, ground := Ground.data }, { on := 13, ground := Ground.chain }], guard := none },
 { dst := some 38, op := Op.fieldAddr 42 (Operand.tmp 2) 3, type := 0, pos := "ref.go:422", after := #[{ on := 22, ground := Ground.guard }], guard := some (22, false) },
 { dst := some 39, op := Op.load 35 (Operand.tmp 38), type := 35, pos := "ref.go:422", after := #[{ on := 23, ground := Ground.data }, { on := 22, ground := Ground.guard }], guard := some (22, false) },
 { dst := some 40, op := Op.call { callee := Callee.builtin Builtin.len, args := #[Operand.tmp 39], argTypes := #[35] }, type := 3, pos := "ref.go:422", after := #[{ on := 24, ground := Ground.data }, { on := 22, ground := Ground.guard }], guard := some (22, false) },
 { dst := some 41, op := Op.fieldAddr 42 (Operand.tmp 3) 3, type := 0, pos := "ref.go:422", after := #[{ on := 22, ground := Ground.guard }], guard := some (22, false) },
 { dst := some 42, op := Op.load 35 (Operand.tmp 41), type := 35, pos := "ref.go:422", after := #[{ on := 26, ground := Ground.data }, { on := 22, ground := Ground.guard }], guard := some (22, false) },
 { dst := some 43, op := Op.call { callee := Callee.builtin Builtin.len, args := #[Operand.tmp 42], argTypes := #[35] }, type := 3, pos := "ref.go:422", after := #[{ on := 27, ground := Ground.data }, { on := 22, ground := Ground.guard }], guard := some (22, false) },
 { dst := some 44, op := Op.binOp BinOp.neq 3 (Operand.tmp 40) (Operand.tmp 43) 3, type := 4, pos := "ref.go:422", after := #[{ on := 25, ground := Ground.data }, { on := 28, ground := Ground.data }, { on := 22, ground := Ground.guard }], guard := some (22, false) },
 { dst := some 45, op := Op.pick (Operand.tmp 37) (Operand.const (Value.bool true)) (Operand.tmp 44), type := 4, pos := "ref.go:422", after := #[{ on := 22, ground := Ground.data }, { on := 29, ground := Ground.data }], guard := none },
 { dst := some 46, op := Op.move (Operand.tmp 45), type := 4, pos := "ref.go:422", after := #[{ on := 30, ground := Ground.data }, { on := 22, ground := Ground.chain }], guard := none },
 { dst := some 47, op := Op.fieldAddr 42 (Operand.tmp 2) 4, type := 0, pos := "ref.go:422", after := #[{ on := 31, ground := Ground.guard }], guard := some (31, false) },
 { dst := some 48, op := Op.load 36 (Operand.tmp 47), type := 36, pos := "ref.go:422", after := #[{ on := 32, ground := Ground.data }, { on := 31, ground := Ground.guard }], guard := some (31, false) },
 { dst := some 49, op := Op.call { callee := Callee.builtin Builtin.len, args := #[Operand.tmp 48], argTypes := #[36] }, type := 3, pos := "ref.go:422", after := #[{ on := 33, ground := Ground.data }, { on := 31, ground := Ground.guard }], guard := some (31, false) },
 { dst := some 50, op := Op.fieldAddr 42 (Operand.tmp 3) 4, type := 0, pos := "ref.go:422", after := #[{ on := 31, ground := Ground.guard }], guard := some (31, false) },
 { dst := some 51, op := Op.load 36 (Operand.tmp 50), type := 36, pos := "ref.go:422", after := #[{ on := 35, ground := Ground.data }, { on := 31, ground := Ground.guard }], guard := some (31, false) },
 { dst := some 52, op := Op.call { callee := Callee.builtin Builtin.len, args := #[Operand.tmp 51], argTypes := #[36] }, type := 3, pos := "ref.go:422", after := #[{ on := 36, ground := Ground.data }, { on := 31, ground := Ground.guard }], guard := some (31, false) },
 { dst := some 53, op := Op.binOp BinOp.neq 3 (Operand.tmp 49) (Operand.tmp 52) 3, type := 4, pos := "ref.go:422", after := #[{ on := 34, ground := Ground.data }, { on := 37, ground := Ground.data }, { on := 31, ground := Ground.guard }], guard := some (31, false) },
 { dst := some 54, op := Op.pick (Operand.tmp 46) (Operand.const (Value.bool true)) (Operand.tmp 53), type := 4, pos := "ref.go:422", after := #[{ on := 31, ground := Ground.data }, { on := 38, ground := Ground.data }], guard := none },
 { dst := some 55, op := Op.move (Operand.tmp 54), type := 4, pos := "ref.go:422", after := #[{ on := 39, ground := Ground.data }, { on := 31, ground := Ground.chain }], guard := none },
 { dst := some 56, op := Op.fieldAddr 42 (Operand.tmp 2) 10, type := 0, pos := "ref.go:422", after := #[{ on := 40, ground := Ground.guard }], guard := some (40, false) },
 { dst := some 57, op := Op.load 38 (Operand.tmp 56), type := 38, pos := "ref.go:422", after := #[{ on := 41, ground := Ground.data }, { on := 40, ground := Ground.guard }], guard := some (40, false) },
 { dst := some 58, op := Op.call { callee := Callee.builtin Builtin.len, args := #[Operand.tmp 57], argTypes := #[38] }, type := 3, pos := "ref.go:422", after := #[{ on := 42, ground := Ground.data }, { on := 40, ground := Ground.guard }], guard := some (40, false) },
 { dst := some 59, op := Op.fieldAddr 42 (Operand.tmp 3) 10, type := 0, pos := "ref.go:422", after := #[{ on := 40, ground := Ground.guard }], guard := some (40, false) },
 { dst := some 60, op := Op.load 38 (Operand.tmp 59), type := 38, pos := "ref.go:422", after := #[{ on := 44, ground := Ground.data }, { on := 40, ground := Ground.guard }], guard := some (40, false) },
 { dst := some 61, op := Op.call { callee := Callee.builtin Builtin.len, args := #[Operand.tmp 60], argTypes := #[38] }, type := 3, pos := "ref.go:422", after := #[{ on := 45, ground := Ground.data }, { on := 40, ground := Ground.guard }], guard := some (40, false) },
 { dst := some 62, op := Op.binOp BinOp.neq 3 (Operand.tmp 58) (Operand.tmp 61) 3, type := 4, pos := "ref.go:422", after := #[{ on := 43, ground := Ground.data }, { on := 46, ground := Ground.data }, { on := 40, ground := Ground.guard }], guard := some (40, false) },
 { dst := some 63, op := Op.pick (Operand.tmp 55) (Operand.const (Value.bool true)) (Operand.tmp 62), type := 4, pos := "ref.go:422", after := #[{ on := 40, ground := Ground.data }, { on := 47, ground := Ground.data }], guard := none },
 { dst := some 64, op := Op.move (Operand.tmp 63), type := 4, pos := "ref.go:422", after := #[{ on := 48, ground := Ground.data }, { on := 40, ground := Ground.chain }], guard := none },
 { dst := some 65, op := Op.fieldAddr 42 (Operand.tmp 2) 11, type := 0, pos := "ref.go:422", after := #[{ on := 49, ground := Ground.guard }], guard := some (49, false) },
 { dst := some 66, op := Op.load 39 (Operand.tmp 65), type := 39, pos := "ref.go:422", after := #[{ on := 50, ground := Ground.data }, { on := 49, ground := Ground.guard }], guard := some (49, false) },
 { dst := some 67, op := Op.call { callee := Callee.builtin Builtin.len, args := #[Operand.tmp 66], argTypes := #[39] }, type := 3, pos := "ref.go:422", after := #[{ on := 51, ground := Ground.data }, { on := 49, ground := Ground.guard }], guard := some (49, false) },
 { dst := some 68, op := Op.fieldAddr 42 (Operand.tmp 3) 11, type := 0, pos := "ref.go:422", after := #[{ on := 49, ground := Ground.guard }], guard := some (49, false) },
 { dst := some 69, op := Op.load 39 (Operand.tmp 68), type := 39, pos := "ref.go:422", after := #[{ on := 53, ground := Ground.data }, { on := 49, ground := Ground.guard }], guard := some (49, false) },
 { dst := some 70, op := Op.call { callee := Callee.builtin Builtin.len, args := #[Operand.tmp 69], argTypes := #[39] }, type := 3, pos := "ref.go:422", after := #[{ on := 54, ground := Ground.data }, { on := 49, ground := Ground.guard }], guard := some (49, false) },
 { dst := some 71, op := Op.binOp BinOp.neq 3 (Operand.tmp 67) (Operand.tmp 70) 3, type := 4, pos := "ref.go:422", after := #[{ on := 52, ground := Ground.data }, { on := 55, ground := Ground.data }, { on := 49, ground := Ground.guard }], guard := some (49, false) },
 { dst := some 72, op := Op.pick (Operand.tmp 64) (Operand.const (Value.bool true)) (Operand.tmp 71), type := 4, pos := "ref.go:422", after := #[{ on := 49, ground := Ground.data }, { on := 56, ground := Ground.data }], guard := none },
 { dst := some 73, op := Op.move (Operand.tmp 72), type := 4, pos := "ref.go:422", after := #[{ on := 57, ground := Ground.data }, { on := 49, ground := Ground.chain }], guard := none },
 { dst := some 74, op := Op.fieldAddr 42 (Operand.tmp 2) 12, type := 0, pos := "ref.go:422", after := #[{ on := 58, ground := Ground.guard }], guard := some (58, false) },
 { dst := some 75, op := Op.load 40 (Operand.tmp 74), type := 40, pos := "ref.go:422", after := #[{ on := 59, ground := Ground.data }, { on := 58, ground := Ground.guard }], guard := some (58, false) },
 { dst := some 76, op := Op.call { callee := Callee.builtin Builtin.len, args := #[Operand.tmp 75], argTypes := #[40] }, type := 3, pos := "ref.go:422", after := #[{ on := 60, ground := Ground.data }, { on := 58, ground := Ground.guard }], guard := some (58, false) },
 { dst := some 77, op := Op.fieldAddr 42 (Operand.tmp 3) 12, type := 0, pos := "ref.go:422", after := #[{ on := 58, ground := Ground.guard }], guard := some (58, false) },
 { dst := some 78, op := Op.load 40 (Operand.tmp 77), type := 40, pos := "ref.go:422", after := #[{ on := 62, ground := Ground.data }, { on := 58, ground := Ground.guard }], guard := some (58, false) },
 { dst := some 79, op := Op.call { callee := Callee.builtin Builtin.len, args := #[Operand.tmp 78], argTypes := #[40] }, type := 3, pos := "ref.go:422", after := #[{ on := 63, ground := Ground.data }, { on := 58, ground := Ground.guard }], guard := some (58, false) },
 { dst := some 80, op := Op.binOp BinOp.neq 3 (Operand.tmp 76) (Operand.tmp 79) 3, type := 4, pos := "ref.go:422", after := #[{ on := 61, ground := Ground.data }, { on := 64, ground := Ground.data }, { on := 58, ground := Ground.guard }], guard := some (58, false) },
 { dst := some 81, op := Op.pick (Operand.tmp 73) (Operand.const (Value.bool true)) (Operand.tmp 80), type := 4, pos := "ref.go:422", after := #[{ on := 58, ground := Ground.data }, { on := 65, ground := Ground.data }], guard := none }]
def ssO (i : Nat) : Oper := ssOps.getD i ⟨none, .move (.tmp 0), 0, "", #[], none⟩
theorem zQRssd_5 {p : Prop} (h : p := by
 have HN := Lib.hid (show siB x y = false by rw [HR.out, Hn.out]; try simp)
 clear hr
 go_wp2_with fail
 go_ret
 exact ⟨by rw [HN.out]; rfl, HC.out⟩
 ) : p := h
theorem zQRssd_0 {p : Prop} (h : p := by
 have hr : saB x1 y1 = false := by rw [HRR.out.1, HRR.out.2]; simp
 have Hn := Lib.hid (show b11 = false by rw [← H11.out]; exact eqB_stop HX1.out HY1.out hr)
 exact zQRssd_5
 ) : p := h
theorem zQRssd_1 {p : Prop} (h : p := by
 have Hy := Lib.hid (eqB_take HX1.out HY1.out HA.out hr)
 clear hr
 go_wp2_with fail
 try (go_quiet (fail); go_wp2_with fail)
 go_roundw
 case rel => first | exact ⟨k + 1, by omega, by go_num, Lib.hid (by have h1 := HW.out; exact bl), Hy⟩ | ((repeat apply Exists.intro); refine And.intro ?_ rfl; exact ⟨k + 1, by omega, by go_num, Lib.hid (by have h1 := HW.out; exact bl), Hy⟩)
 case measure => simp [intOf]; omega
 ) : p := h
theorem zQRssd_2 {p : Prop} (h : p := by
 clear HQQ
 go_wp2_with fail
 go_ret
 exact ⟨by rw [HN.out]; rfl, HV1.out⟩
 ) : p := h
theorem zQRssd_3 {p : Prop} (h : p := by
 have HN := Lib.hid (show siB x y = false by rw [HR.out, Hn.out]; try simp)
 clear hr
 go_wp2_with fail
 try (go_quiet (fail); go_wp2_with fail)
 go_ret
 exact ⟨by rw [HN.out]; rfl, by have h1 := HBW.out; exact bl⟩
 ) : p := h
theorem zQRssd_4 {p : Prop} (h : p := by
 have HN := Lib.hid (show siB x y = false by rw [HR.out, Hn.out]; try simp)
 clear hr
 go_wp2_with fail
 go_ret
 exact ⟨by rw [HN.out]; rfl, by have h1 := HBW.out; have h2 := HC0.out; exact bl⟩
 ) : p := h
theorem zQRssd_6 {p : Prop} (h : p := by kernel_rfl) : p := h
theorem zQRssd_7 {p : Prop} (h : p := by first | (go_simp; done) | (go_simp; with_reducible rfl)) : p := h
theorem zQRssd_8 {p : Prop} (h : p := by rw [hz, hcs2]) : p := h
theorem zQRssd_9 {p : Prop} (h : p := by rw [hz, hcs]) : p := h
theorem zQRssd_a {p : Prop} (h : p := by have h1 := HW.out; have h2 := HBC.out; exact bl) : p := h
set_option maxRecDepth 100000 in
theorem rsite_same (x y : Ste) (P Q : PSte) (w : World) (hx : OSte (Lo w.heap.size) w x P) (hy : OSte (Lo w.heap.size) w y Q) : Calls Tryz.prog 50 #[.agg (cSte x P), .agg (cSte y Q)] w (Gives (.bool (siB x y)) w) := by
 have HX := Lib.hid hx
 have HY := Lib.hid hy
 have FX := far2 (w := w) 42 42 (cSte x P) (cSte y Q)
 obtain ⟨b0, h0⟩ : ∃ b, txB x.nm y.nm = b := ⟨_, rfl⟩
 obtain ⟨b1, h1⟩ : ∃ b, eqB vaB x.va y.va = b := ⟨_, rfl⟩
 obtain ⟨b2, h2⟩ : ∃ b, eqB reB x.rs y.rs = b := ⟨_, rfl⟩
 obtain ⟨b3, h3⟩ : ∃ b, eqB soB x.st y.st = b := ⟨_, rfl⟩
 obtain ⟨b4, h4⟩ : ∃ b, eqB blB x.be y.be = b := ⟨_, rfl⟩
 obtain ⟨b5, h5⟩ : ∃ b, eqB txB x.qu y.qu = b := ⟨_, rfl⟩
 obtain ⟨b6, h6⟩ : ∃ b, eqB txB x.sm y.sm = b := ⟨_, rfl⟩
 obtain ⟨b7, h7⟩ : ∃ b, eqB txB x.ta y.ta = b := ⟨_, rfl⟩
 obtain ⟨b8, h8⟩ : ∃ b, eqB txB x.le y.le = b := ⟨_, rfl⟩
 obtain ⟨b9, h9⟩ : ∃ b, eqB txB x.co y.co = b := ⟨_, rfl⟩
 obtain ⟨b10, h10⟩ : ∃ b, eqB roB x.ro y.ro = b := ⟨_, rfl⟩
 obtain ⟨b11, h11⟩ : ∃ b, eqB saB x.ss y.ss = b := ⟨_, rfl⟩
 obtain ⟨b12, h12⟩ : ∃ b, eqB lwB x.la y.la = b := ⟨_, rfl⟩
 have HB := Lib.hid (show siB x y = (b0 && b1 && b2 && b3 && b4 && b5 && b6 && b7 && b8 && b9 && b10 && b11 && b12) by unfold siB; rw [h0, h1, h2, h3, h4, h5, h6, h7, h8, h9, h10, h11, h12])
 have H0 := Lib.hid h0
 have H1 := Lib.hid h1
 have H2 := Lib.hid h2
 have H3 := Lib.hid h3
 have H4 := Lib.hid h4
 have H5 := Lib.hid h5
 have H6 := Lib.hid h6
 have H7 := Lib.hid h7
 have H8 := Lib.hid h8
 have H9 := Lib.hid h9
 have H10 := Lib.hid h10
 have H11 := Lib.hid h11
 have H12 := Lib.hid h12
 have u0 : (x.nm.toList == y.nm.toList) = b0 := by rw [tx_is]; exact h0
 clear h0 h1 h2 h3 h4 h5 h6 h7 h8 h9 h10 h11 h12
 have C1 := Lib.hid (fun W (hW : Below w.heap.size w W) => (show Calls Tryz.prog 49 #[.slice P.vap P.vam P.vac, .slice Q.vap Q.vam Q.vac] W (Gives (.bool b1) W) by rw [← H1.out]; exact rsame_Val (Lib.hid (HX.out.va.on RVal.map hW)) (Lib.hid (HY.out.va.on RVal.map hW))))
 have C5 := Lib.hid (fun W (hW : Below w.heap.size w W) => (show Calls Tryz.prog 91 #[.slice P.qup P.qum P.quc, .slice Q.qup Q.qum Q.quc] W (Gives (.bool b5) W) by rw [← H5.out]; exact rsame_Txt (Lib.hid (HX.out.qu.on RTxt.map hW)) (Lib.hid (HY.out.qu.on RTxt.map hW))))
 have C6 := Lib.hid (fun W (hW : Below w.heap.size w W) => (show Calls Tryz.prog 91 #[.slice P.smp P.smm P.smc, .slice Q.smp Q.smm Q.smc] W (Gives (.bool b6) W) by rw [← H6.out]; exact rsame_Txt (Lib.hid (HX.out.sm.on RTxt.map hW)) (Lib.hid (HY.out.sm.on RTxt.map hW))))
 have C7 := Lib.hid (fun W (hW : Below w.heap.size w W) => (show Calls Tryz.prog 91 #[.slice P.tap P.tam P.tac, .slice Q.tap Q.tam Q.tac] W (Gives (.bool b7) W) by rw [← H7.out]; exact rsame_Txt (Lib.hid (HX.out.ta.on RTxt.map hW)) (Lib.hid (HY.out.ta.on RTxt.map hW))))
 have C8 := Lib.hid (fun W (hW : Below w.heap.size w W) => (show Calls Tryz.prog 91 #[.slice P.lep P.lem P.lec, .slice Q.lep Q.lem Q.lec] W (Gives (.bool b8) W) by rw [← H8.out]; exact rsame_Txt (Lib.hid (HX.out.le.on RTxt.map hW)) (Lib.hid (HY.out.le.on RTxt.map hW))))
 have C9 := Lib.hid (fun W (hW : Below w.heap.size w W) => (show Calls Tryz.prog 91 #[.slice P.cop P.com P.coc, .slice Q.cop Q.com Q.coc] W (Gives (.bool b9) W) by rw [← H9.out]; exact rsame_Txt (Lib.hid (HX.out.co.on RTxt.map hW)) (Lib.hid (HY.out.co.on RTxt.map hW))))
 obtain ⟨hl2, hm2⟩ := hx.rs.len
 obtain ⟨hk2, hn2⟩ := hy.rs.len
 have HL2 := Lib.hid (And.intro hl2 hm2)
 have HK2 := Lib.hid (And.intro hk2 hn2)
 obtain ⟨hl3, hm3⟩ := hx.st.len
 obtain ⟨hk3, hn3⟩ := hy.st.len
 have HL3 := Lib.hid (And.intro hl3 hm3)
 have HK3 := Lib.hid (And.intro hk3 hn3)
 obtain ⟨hl4, hm4⟩ := hx.be.len
 obtain ⟨hk4, hn4⟩ := hy.be.len
 have HL4 := Lib.hid (And.intro hl4 hm4)
 have HK4 := Lib.hid (And.intro hk4 hn4)
 obtain ⟨hl10, hm10⟩ := hx.ro.len
 obtain ⟨hk10, hn10⟩ := hy.ro.len
 have HL10 := Lib.hid (And.intro hl10 hm10)
 have HK10 := Lib.hid (And.intro hk10 hn10)
 obtain ⟨hl11, hm11⟩ := hx.ss.len
 obtain ⟨hk11, hn11⟩ := hy.ss.len
 have HL11 := Lib.hid (And.intro hl11 hm11)
 have HK11 := Lib.hid (And.intro hk11 hn11)
 obtain ⟨hl12, hm12⟩ := hx.la.len
 obtain ⟨hk12, hn12⟩ := hy.la.len
 have HL12 := Lib.hid (And.intro hl12 hm12)
 have HK12 := Lib.hid (And.intro hk12 hn12)
 clear hx hy hl2 hm2 hk2 hn2 hl3 hm3 hk3 hn3 hl4 hm4 hk4 hn4 hl10 hm10 hk10 hn10 hl11 hm11 hk11 hn11 hl12 hm12 hk12 hn12
 have q := FX.out ((w.alloc (.cells (cSte x P) 42)).alloc (.cells (cSte y Q) 42)) (Below.refl _ _)
 have g0 := q.1.get (cSte0 x P)
 have gk0 := q.2.get (cSte0 y Q)
 have g1 := q.1.get (cSte1 x P)
 have gk1 := q.2.get (cSte1 y Q)
 clear q
 go_enter Tryz.func50, Tryz.ntmps50
 go_upto_region 1 with fail
 refine wp_region_lit ?_
 refine wa_start ssOps zQRssd_6 fun Q1 HQQ => ?_
 refine wa_is (⟨#[.agg (cSte x P), .agg (cSte y Q), .pointer (some ⟨w.heap.size, 0, none⟩), .pointer (some ⟨w.heap.size + 1, 0, none⟩), .bool false, undef, undef, undef, undef, undef, undef, undef, undef, undef, undef, undef, undef, undef, undef, undef, undef, undef, undef, undef, undef, undef, undef, undef, undef, undef, undef, undef, undef, undef, undef, undef, undef, undef, undef, undef, undef, undef, undef, undef, undef, undef, undef, undef, undef, undef, undef, undef, undef, undef, undef, undef, undef, undef, undef, undef, undef, undef, undef, undef, undef, undef, undef, undef, undef, undef, undef, undef, undef, undef, undef, undef, undef, undef, undef, undef, undef, undef, undef, undef, undef, undef, undef, undef, undef, undef, undef, undef, undef, undef, undef, undef, undef, undef, undef, undef, undef, undef, undef, undef, undef, undef, undef, undef, undef, undef, undef, undef, undef, undef, undef, undef, undef, undef, undef, undef, undef, undef, undef, undef, undef, undef, undef, undef, undef, undef, undef, undef, undef, undef, undef, undef, undef, undef, undef, undef, undef, undef, undef, undef, undef, undef, undef, undef, undef, undef, undef, undef, undef, undef, undef, undef, undef, undef, undef, undef, undef, undef, undef, undef, undef, undef, undef, undef, undef, undef, undef, undef, undef, undef, undef, undef, undef, undef, undef, undef, undef, undef, undef, undef, undef, undef, undef, undef, undef, undef, undef, undef, undef, undef, undef, undef, undef, undef, undef, undef, undef, undef, undef, undef, undef, undef, undef, undef, undef, undef, undef, undef, undef, undef, undef, undef, undef, undef, undef, undef, undef, undef, undef, undef, undef, undef, undef, undef, undef, undef, undef, undef, undef, undef, undef, undef, undef, undef, undef, undef, undef, undef, undef, undef, undef, undef, undef, undef, undef, undef, undef, undef, undef, undef, undef, undef, undef, undef, undef, undef, undef, undef, undef, undef, undef, undef, undef, undef, undef, undef, undef, undef, undef, undef, undef, undef, undef, undef, undef, undef, undef, undef, undef, undef, undef, undef, undef, undef, undef, undef, undef], []⟩) zQRssd_6 ?_
 refine wa_known 0 (ssO 0) (fun q => match q with | .tmp 2 => (.pointer (some ⟨w.heap.size, 0, none⟩) : Value) | .const v => v | _ => undef) (.pointer (some ⟨w.heap.size, 0, none⟩)) zQRssd_6 zQRssd_6 zQRssd_6 zQRssd_6 ?_
 refine wa_known 1 ({ dst := some 16, op := Op.load 9 (Operand.tmp 15), type := 9, pos := "ref.go:422", after := #[{ on := 0, ground := Ground.data }], guard := none }) (fun _ => (.pointer (some ⟨w.heap.size, 0, none⟩) : Value)) (.string x.nm) zQRssd_6 zQRssd_6 zQRssd_6 zQRssd_7 ?_
 refine wa_known 2 (ssO 2) (fun q => match q with | .tmp 3 => (.pointer (some ⟨w.heap.size + 1, 0, none⟩) : Value) | .const v => v | _ => undef) (.pointer (some ⟨w.heap.size + 1, 0, none⟩)) zQRssd_6 zQRssd_6 zQRssd_6 zQRssd_6 ?_
 refine wa_known 3 ({ dst := some 18, op := Op.load 9 (Operand.tmp 17), type := 9, pos := "ref.go:422", after := #[{ on := 2, ground := Ground.data }], guard := none }) (fun _ => (.pointer (some ⟨w.heap.size + 1, 0, none⟩) : Value)) (.string y.nm) zQRssd_6 zQRssd_6 zQRssd_6 zQRssd_7 ?_
 cases b0 with
 | false =>
  have HN := Lib.hid (show siB x y = false by rw [HB.out]; simp)
  refine wa_known 4 ({ dst := some 19, op := Op.binOp BinOp.neq 9 (Operand.tmp 16) (Operand.tmp 18) 9, type := 4, pos := "ref.go:422", after := #[{ on := 1, ground := Ground.data }, { on := 3, ground := Ground.data }], guard := none }) (fun q => match q with | .tmp 16 => (.string x.nm : Value) | _ => (.string y.nm : Value)) (.bool true) zQRssd_6 zQRssd_6 zQRssd_6 zQRssd_7 ?_
  refine wa_known 5 (ssO 5) (fun q => match q with | .tmp 19 => (.bool true : Value) | .const v => v | _ => undef) (.bool true) zQRssd_6 zQRssd_6 zQRssd_6 zQRssd_6 ?_
  refine wa_skip 6 (ssO 6) zQRssd_6 zQRssd_6 ?_
  refine wa_skip 7 (ssO 7) zQRssd_6 zQRssd_6 ?_
  refine wa_skip 8 (ssO 8) zQRssd_6 zQRssd_6 ?_
  refine wa_skip 9 (ssO 9) zQRssd_6 zQRssd_6 ?_
  refine wa_skip 10 (ssO 10) zQRssd_6 zQRssd_6 ?_
  refine wa_skip 11 (ssO 11) zQRssd_6 zQRssd_6 ?_
  refine wa_known 12 (ssO 12) (fun q => match q with | .tmp 20 => (.bool true : Value) | .tmp 26 => (undef : Value) | .const v => v | _ => undef) (.bool true) zQRssd_6 zQRssd_6 zQRssd_6 zQRssd_6 ?_
  refine wa_known 13 (ssO 13) (fun q => match q with | .tmp 27 => (.bool true : Value) | .const v => v | _ => undef) (.bool true) zQRssd_6 zQRssd_6 zQRssd_6 zQRssd_6 ?_
  refine wa_skip 14 (ssO 14) zQRssd_6 zQRssd_6 ?_
  refine wa_skip 15 (ssO 15) zQRssd_6 zQRssd_6 ?_
  refine wa_skip 16 (ssO 16) zQRssd_6 zQRssd_6 ?_
  refine wa_skip 17 (ssO 17) zQRssd_6 zQRssd_6 ?_
  refine wa_skip 18 (ssO 18) zQRssd_6 zQRssd_6 ?_
  refine wa_skip 19 (ssO 19) zQRssd_6 zQRssd_6 ?_
  refine wa_skip 20 (ssO 20) zQRssd_6 zQRssd_6 ?_
  refine wa_known 21 (ssO 21) (fun q => match q with | .tmp 28 => (.bool true : Value) | .tmp 35 => (undef : Value) | .const v => v | _ => undef) (.bool true) zQRssd_6 zQRssd_6 zQRssd_6 zQRssd_6 ?_
  refine wa_known 22 (ssO 22) (fun q => match q with | .tmp 36 => (.bool true : Value) | .const v => v | _ => undef) (.bool true) zQRssd_6 zQRssd_6 zQRssd_6 zQRssd_6 ?_
  refine wa_skip 23 (ssO 23) zQRssd_6 zQRssd_6 ?_
  refine wa_skip 24 (ssO 24) zQRssd_6 zQRssd_6 ?_
  refine wa_skip 25 (ssO 25) zQRssd_6 zQRssd_6 ?_
  refine wa_skip 26 (ssO 26) zQRssd_6 zQRssd_6 ?_
  refine wa_skip 27 (ssO 27) zQRssd_6 zQRssd_6 ?_
  refine wa_skip 28 (ssO 28) zQRssd_6 zQRssd_6 ?_
  refine wa_skip 29 (ssO 29) zQRssd_6 zQRssd_6 ?_
  refine wa_known 30 (ssO 30) (fun q => match q with | .tmp 37 => (.bool true : Value) | .tmp 44 => (undef : Value) | .const v => v | _ => undef) (.bool true) zQRssd_6 zQRssd_6 zQRssd_6 zQRssd_6 ?_
  refine wa_known 31 (ssO 31) (fun q => match q with | .tmp 45 => (.bool true : Value) | .const v => v | _ => undef) (.bool true) zQRssd_6 zQRssd_6 zQRssd_6 zQRssd_6 ?_
  refine wa_skip 32 (ssO 32) zQRssd_6 zQRssd_6 ?_
  refine wa_skip 33 (ssO 33) zQRssd_6 zQRssd_6 ?_
  refine wa_skip 34 (ssO 34) zQRssd_6 zQRssd_6 ?_
  refine wa_skip 35 (ssO 35) zQRssd_6 zQRssd_6 ?_
  refine wa_skip 36 (ssO 36) zQRssd_6 zQRssd_6 ?_
  refine wa_skip 37 (ssO 37) zQRssd_6 zQRssd_6 ?_
  refine wa_skip 38 (ssO 38) zQRssd_6 zQRssd_6 ?_
  refine wa_known 39 (ssO 39) (fun q => match q with | .tmp 46 => (.bool true : Value) | .tmp 53 => (undef : Value) | .const v => v | _ => undef) (.bool true) zQRssd_6 zQRssd_6 zQRssd_6 zQRssd_6 ?_
  refine wa_known 40 (ssO 40) (fun q => match q with | .tmp 54 => (.bool true : Value) | .const v => v | _ => undef) (.bool true) zQRssd_6 zQRssd_6 zQRssd_6 zQRssd_6 ?_
  refine wa_skip 41 (ssO 41) zQRssd_6 zQRssd_6 ?_
  refine wa_skip 42 (ssO 42) zQRssd_6 zQRssd_6 ?_
  refine wa_skip 43 (ssO 43) zQRssd_6 zQRssd_6 ?_
  refine wa_skip 44 (ssO 44) zQRssd_6 zQRssd_6 ?_
  refine wa_skip 45 (ssO 45) zQRssd_6 zQRssd_6 ?_
  refine wa_skip 46 (ssO 46) zQRssd_6 zQRssd_6 ?_
  refine wa_skip 47 (ssO 47) zQRssd_6 zQRssd_6 ?_
  refine wa_known 48 (ssO 48) (fun q => match q with | .tmp 55 => (.bool true : Value) | .tmp 62 => (undef : Value) | .const v => v | _ => undef) (.bool true) zQRssd_6 zQRssd_6 zQRssd_6 zQRssd_6 ?_
  refine wa_known 49 (ssO 49) (fun q => match q with | .tmp 63 => (.bool true : Value) | .const v => v | _ => undef) (.bool true) zQRssd_6 zQRssd_6 zQRssd_6 zQRssd_6 ?_
  refine wa_skip 50 (ssO 50) zQRssd_6 zQRssd_6 ?_
  refine wa_skip 51 (ssO 51) zQRssd_6 zQRssd_6 ?_
  refine wa_skip 52 (ssO 52) zQRssd_6 zQRssd_6 ?_
  refine wa_skip 53 (ssO 53) zQRssd_6 zQRssd_6 ?_
  refine wa_skip 54 (ssO 54) zQRssd_6 zQRssd_6 ?_
  refine wa_skip 55 (ssO 55) zQRssd_6 zQRssd_6 ?_
  refine wa_skip 56 (ssO 56) zQRssd_6 zQRssd_6 ?_
  refine wa_known 57 (ssO 57) (fun q => match q with | .tmp 64 => (.bool true : Value) | .tmp 71 => (undef : Value) | .const v => v | _ => undef) (.bool true) zQRssd_6 zQRssd_6 zQRssd_6 zQRssd_6 ?_
  refine wa_known 58 (ssO 58) (fun q => match q with | .tmp 72 => (.bool true : Value) | .const v => v | _ => undef) (.bool true) zQRssd_6 zQRssd_6 zQRssd_6 zQRssd_6 ?_
  refine wa_skip 59 (ssO 59) zQRssd_6 zQRssd_6 ?_
  refine wa_skip 60 (ssO 60) zQRssd_6 zQRssd_6 ?_
  refine wa_skip 61 (ssO 61) zQRssd_6 zQRssd_6 ?_
  refine wa_skip 62 (ssO 62) zQRssd_6 zQRssd_6 ?_
  refine wa_skip 63 (ssO 63) zQRssd_6 zQRssd_6 ?_
  refine wa_skip 64 (ssO 64) zQRssd_6 zQRssd_6 ?_
  refine wa_skip 65 (ssO 65) zQRssd_6 zQRssd_6 ?_
  refine wa_known 66 (ssO 66) (fun q => match q with | .tmp 73 => (.bool true : Value) | .tmp 80 => (undef : Value) | .const v => v | _ => undef) (.bool true) zQRssd_6 zQRssd_6 zQRssd_6 zQRssd_6 ?_
  refine wa_end 67 zQRssd_6 ?_
  refine wa_out (⟨#[.agg (cSte x P), .agg (cSte y Q), .pointer (some ⟨w.heap.size, 0, none⟩), .pointer (some ⟨w.heap.size + 1, 0, none⟩), .bool false, undef, undef, undef, undef, undef, undef, undef, undef, undef, undef, .pointer (some ⟨w.heap.size, 0, none⟩), .string x.nm, .pointer (some ⟨w.heap.size + 1, 0, none⟩), .string y.nm, .bool true, .bool true, undef, undef, undef, undef, undef, undef, .bool true, .bool true, undef, undef, undef, undef, undef, undef, undef, .bool true, .bool true, undef, undef, undef, undef, undef, undef, undef, .bool true, .bool true, undef, undef, undef, undef, undef, undef, undef, .bool true, .bool true, undef, undef, undef, undef, undef, undef, undef, .bool true, .bool true, undef, undef, undef, undef, undef, undef, undef, .bool true, .bool true, undef, undef, undef, undef, undef, undef, undef, .bool true, undef, undef, undef, undef, undef, undef, undef, undef, undef, undef, undef, undef, undef, undef, undef, undef, undef, undef, undef, undef, undef, undef, undef, undef, undef, undef, undef, undef, undef, undef, undef, undef, undef, undef, undef, undef, undef, undef, undef, undef, undef, undef, undef, undef, undef, undef, undef, undef, undef, undef, undef, undef, undef, undef, undef, undef, undef, undef, undef, undef, undef, undef, undef, undef, undef, undef, undef, undef, undef, undef, undef, undef, undef, undef, undef, undef, undef, undef, undef, undef, undef, undef, undef, undef, undef, undef, undef, undef, undef, undef, undef, undef, undef, undef, undef, undef, undef, undef, undef, undef, undef, undef, undef, undef, undef, undef, undef, undef, undef, undef, undef, undef, undef, undef, undef, undef, undef, undef, undef, undef, undef, undef, undef, undef, undef, undef, undef, undef, undef, undef, undef, undef, undef, undef, undef, undef, undef, undef, undef, undef, undef, undef, undef, undef, undef, undef, undef, undef, undef, undef, undef, undef, undef, undef, undef, undef, undef, undef, undef, undef, undef, undef, undef, undef, undef, undef, undef, undef, undef, undef, undef, undef, undef, undef, undef, undef, undef, undef, undef, undef, undef, undef, undef, undef, undef, undef, undef, undef, undef, undef, undef, undef, undef, undef, undef, undef, undef, undef, undef, undef, undef, undef, undef, undef, undef, undef, undef, undef, undef], []⟩) zQRssd_6 HQQ ?_
  clear HQQ
  go_wp2_with fail
  go_ret
  exact ⟨by rw [HN.out]; rfl, bl⟩
 | true =>
 refine wa_known 4 ({ dst := some 19, op := Op.binOp BinOp.neq 9 (Operand.tmp 16) (Operand.tmp 18) 9, type := 4, pos := "ref.go:422", after := #[{ on := 1, ground := Ground.data }, { on := 3, ground := Ground.data }], guard := none }) (fun q => match q with | .tmp 16 => (.string x.nm : Value) | _ => (.string y.nm : Value)) (.bool false) zQRssd_6 zQRssd_6 zQRssd_6 zQRssd_7 ?_
 refine wa_known 5 (ssO 5) (fun q => match q with | .tmp 19 => (.bool false : Value) | .const v => v | _ => undef) (.bool false) zQRssd_6 zQRssd_6 zQRssd_6 zQRssd_6 ?_
 refine wa_known 6 (ssO 6) (fun q => match q with | .tmp 2 => (.pointer (some ⟨w.heap.size, 0, none⟩) : Value) | .const v => v | _ => undef) (.pointer (some ⟨w.heap.size, 1, none⟩)) zQRssd_6 zQRssd_6 zQRssd_6 zQRssd_6 ?_
 refine wa_known 7 ({ dst := some 22, op := Op.load 22 (Operand.tmp 21), type := 22, pos := "ref.go:422", after := #[{ on := 6, ground := Ground.data }, { on := 5, ground := Ground.guard }], guard := some (5, false) }) (fun _ => (.pointer (some ⟨w.heap.size, 1, none⟩) : Value)) (.slice P.vap P.vam P.vac) zQRssd_6 zQRssd_6 zQRssd_6 zQRssd_7 ?_
 refine wa_known 8 (ssO 8) (fun q => match q with | .tmp 3 => (.pointer (some ⟨w.heap.size + 1, 0, none⟩) : Value) | .const v => v | _ => undef) (.pointer (some ⟨w.heap.size + 1, 1, none⟩)) zQRssd_6 zQRssd_6 zQRssd_6 zQRssd_6 ?_
 refine wa_known 9 ({ dst := some 24, op := Op.load 22 (Operand.tmp 23), type := 22, pos := "ref.go:422", after := #[{ on := 8, ground := Ground.data }, { on := 5, ground := Ground.guard }], guard := some (5, false) }) (fun _ => (.pointer (some ⟨w.heap.size + 1, 1, none⟩) : Value)) (.slice Q.vap Q.vam Q.vac) zQRssd_6 zQRssd_6 zQRssd_6 zQRssd_7 ?_
 refine wa_is (⟨#[.agg (cSte x P), .agg (cSte y Q), .pointer (some ⟨w.heap.size, 0, none⟩), .pointer (some ⟨w.heap.size + 1, 0, none⟩), .bool false, undef, undef, undef, undef, undef, undef, undef, undef, undef, undef, .pointer (some ⟨w.heap.size, 0, none⟩), .string x.nm, .pointer (some ⟨w.heap.size + 1, 0, none⟩), .string y.nm, .bool false, .bool false, .pointer (some ⟨w.heap.size, 1, none⟩), .slice P.vap P.vam P.vac, .pointer (some ⟨w.heap.size + 1, 1, none⟩), .slice Q.vap Q.vam Q.vac, undef, undef, undef, undef, undef, undef, undef, undef, undef, undef, undef, undef, undef, undef, undef, undef, undef, undef, undef, undef, undef, undef, undef, undef, undef, undef, undef, undef, undef, undef, undef, undef, undef, undef, undef, undef, undef, undef, undef, undef, undef, undef, undef, undef, undef, undef, undef, undef, undef, undef, undef, undef, undef, undef, undef, undef, undef, undef, undef, undef, undef, undef, undef, undef, undef, undef, undef, undef, undef, undef, undef, undef, undef, undef, undef, undef, undef, undef, undef, undef, undef, undef, undef, undef, undef, undef, undef, undef, undef, undef, undef, undef, undef, undef, undef, undef, undef, undef, undef, undef, undef, undef, undef, undef, undef, undef, undef, undef, undef, undef, undef, undef, undef, undef, undef, undef, undef, undef, undef, undef, undef, undef, undef, undef, undef, undef, undef, undef, undef, undef, undef, undef, undef, undef, undef, undef, undef, undef, undef, undef, undef, undef, undef, undef, undef, undef, undef, undef, undef, undef, undef, undef, undef, undef, undef, undef, undef, undef, undef, undef, undef, undef, undef, undef, undef, undef, undef, undef, undef, undef, undef, undef, undef, undef, undef, undef, undef, undef, undef, undef, undef, undef, undef, undef, undef, undef, undef, undef, undef, undef, undef, undef, undef, undef, undef, undef, undef, undef, undef, undef, undef, undef, undef, undef, undef, undef, undef, undef, undef, undef, undef, undef, undef, undef, undef, undef, undef, undef, undef, undef, undef, undef, undef, undef, undef, undef, undef, undef, undef, undef, undef, undef, undef, undef, undef, undef, undef, undef, undef, undef, undef, undef, undef, undef, undef, undef, undef, undef, undef, undef, undef, undef, undef, undef, undef, undef, undef, undef, undef, undef, undef, undef, undef, undef, undef, undef], []⟩) zQRssd_6 ?_
 refine wa_call 10 ({ dst := some 25, op := Op.call { callee := Callee.value (Operand.func 49), args := #[Operand.tmp 22, Operand.tmp 24], argTypes := #[22, 22] }, type := 4, pos := "ref.go:422", after := #[{ on := 7, ground := Ground.data }, { on := 9, ground := Ground.data }, { on := 5, ground := Ground.chain }, { on := 5, ground := Ground.guard }], guard := some (5, false) }) zQRssd_6 zQRssd_6 fun KX HKX => ?_
 go_simp
 clear g0 gk0 g1 gk1
 refine (C1.out _ bl).mono ?_
 rintro e v1 ⟨rfl, hb1⟩
 have HW1 : Hid (Below ((w.alloc (.cells (cSte x P) 42)).alloc (.cells (cSte y Q) 42)).heap.size ((w.alloc (.cells (cSte x P) 42)).alloc (.cells (cSte y Q) 42)) v1) := Lib.hid bl
 have HV1 : Hid (Below w.heap.size w v1) := Lib.hid bl
 clear hb1
 have q := FX.out v1 HW1.out
 have g2 := q.1.get (cSte2 x P)
 have gk2 := q.2.get (cSte2 y Q)
 have g3 := q.1.get (cSte3 x P)
 have gk3 := q.2.get (cSte3 y Q)
 have g4 := q.1.get (cSte4 x P)
 have gk4 := q.2.get (cSte4 y Q)
 have g10 := q.1.get (cSte10 x P)
 have gk10 := q.2.get (cSte10 y Q)
 have g11 := q.1.get (cSte11 x P)
 have gk11 := q.2.get (cSte11 y Q)
 have g12 := q.1.get (cSte12 x P)
 have gk12 := q.2.get (cSte12 y Q)
 have g5 := q.1.get (cSte5 x P)
 have gk5 := q.2.get (cSte5 y Q)
 clear q
 refine HKX.out _ _ ?_
 clear HKX KX
 cases b1 with
 | false =>
  have HN := Lib.hid (show siB x y = false by rw [HB.out]; simp)
  refine wa_is (⟨#[.agg (cSte x P), .agg (cSte y Q), .pointer (some ⟨w.heap.size, 0, none⟩), .pointer (some ⟨w.heap.size + 1, 0, none⟩), .bool false, undef, undef, undef, undef, undef, undef, undef, undef, undef, undef, .pointer (some ⟨w.heap.size, 0, none⟩), .string x.nm, .pointer (some ⟨w.heap.size + 1, 0, none⟩), .string y.nm, .bool false, .bool false, .pointer (some ⟨w.heap.size, 1, none⟩), .slice P.vap P.vam P.vac, .pointer (some ⟨w.heap.size + 1, 1, none⟩), .slice Q.vap Q.vam Q.vac, .bool false, undef, undef, undef, undef, undef, undef, undef, undef, undef, undef, undef, undef, undef, undef, undef, undef, undef, undef, undef, undef, undef, undef, undef, undef, undef, undef, undef, undef, undef, undef, undef, undef, undef, undef, undef, undef, undef, undef, undef, undef, undef, undef, undef, undef, undef, undef, undef, undef, undef, undef, undef, undef, undef, undef, undef, undef, undef, undef, undef, undef, undef, undef, undef, undef, undef, undef, undef, undef, undef, undef, undef, undef, undef, undef, undef, undef, undef, undef, undef, undef, undef, undef, undef, undef, undef, undef, undef, undef, undef, undef, undef, undef, undef, undef, undef, undef, undef, undef, undef, undef, undef, undef, undef, undef, undef, undef, undef, undef, undef, undef, undef, undef, undef, undef, undef, undef, undef, undef, undef, undef, undef, undef, undef, undef, undef, undef, undef, undef, undef, undef, undef, undef, undef, undef, undef, undef, undef, undef, undef, undef, undef, undef, undef, undef, undef, undef, undef, undef, undef, undef, undef, undef, undef, undef, undef, undef, undef, undef, undef, undef, undef, undef, undef, undef, undef, undef, undef, undef, undef, undef, undef, undef, undef, undef, undef, undef, undef, undef, undef, undef, undef, undef, undef, undef, undef, undef, undef, undef, undef, undef, undef, undef, undef, undef, undef, undef, undef, undef, undef, undef, undef, undef, undef, undef, undef, undef, undef, undef, undef, undef, undef, undef, undef, undef, undef, undef, undef, undef, undef, undef, undef, undef, undef, undef, undef, undef, undef, undef, undef, undef, undef, undef, undef, undef, undef, undef, undef, undef, undef, undef, undef, undef, undef, undef, undef, undef, undef, undef, undef, undef, undef, undef, undef, undef, undef, undef, undef, undef, undef, undef, undef, undef, undef, undef, undef], []⟩) zQRssd_6 ?_
  refine wa_known 11 (ssO 11) (fun q => match q with | .tmp 25 => (.bool false : Value) | .const v => v | _ => undef) (.bool true) zQRssd_6 zQRssd_6 zQRssd_6 zQRssd_6 ?_
  refine wa_known 12 (ssO 12) (fun q => match q with | .tmp 20 => (.bool false : Value) | .tmp 26 => (.bool true : Value) | .const v => v | _ => undef) (.bool true) zQRssd_6 zQRssd_6 zQRssd_6 zQRssd_6 ?_
  refine wa_known 13 (ssO 13) (fun q => match q with | .tmp 27 => (.bool true : Value) | .const v => v | _ => undef) (.bool true) zQRssd_6 zQRssd_6 zQRssd_6 zQRssd_6 ?_
  refine wa_skip 14 (ssO 14) zQRssd_6 zQRssd_6 ?_
  refine wa_skip 15 (ssO 15) zQRssd_6 zQRssd_6 ?_
  refine wa_skip 16 (ssO 16) zQRssd_6 zQRssd_6 ?_
  refine wa_skip 17 (ssO 17) zQRssd_6 zQRssd_6 ?_
  refine wa_skip 18 (ssO 18) zQRssd_6 zQRssd_6 ?_
  refine wa_skip 19 (ssO 19) zQRssd_6 zQRssd_6 ?_
  refine wa_skip 20 (ssO 20) zQRssd_6 zQRssd_6 ?_
  refine wa_known 21 (ssO 21) (fun q => match q with | .tmp 28 => (.bool true : Value) | .tmp 35 => (undef : Value) | .const v => v | _ => undef) (.bool true) zQRssd_6 zQRssd_6 zQRssd_6 zQRssd_6 ?_
  refine wa_known 22 (ssO 22) (fun q => match q with | .tmp 36 => (.bool true : Value) | .const v => v | _ => undef) (.bool true) zQRssd_6 zQRssd_6 zQRssd_6 zQRssd_6 ?_
  refine wa_skip 23 (ssO 23) zQRssd_6 zQRssd_6 ?_
  refine wa_skip 24 (ssO 24) zQRssd_6 zQRssd_6 ?_
  refine wa_skip 25 (ssO 25) zQRssd_6 zQRssd_6 ?_
  refine wa_skip 26 (ssO 26) zQRssd_6 zQRssd_6 ?_
  refine wa_skip 27 (ssO 27) zQRssd_6 zQRssd_6 ?_
  refine wa_skip 28 (ssO 28) zQRssd_6 zQRssd_6 ?_
  refine wa_skip 29 (ssO 29) zQRssd_6 zQRssd_6 ?_
  refine wa_known 30 (ssO 30) (fun q => match q with | .tmp 37 => (.bool true : Value) | .tmp 44 => (undef : Value) | .const v => v | _ => undef) (.bool true) zQRssd_6 zQRssd_6 zQRssd_6 zQRssd_6 ?_
  refine wa_known 31 (ssO 31) (fun q => match q with | .tmp 45 => (.bool true : Value) | .const v => v | _ => undef) (.bool true) zQRssd_6 zQRssd_6 zQRssd_6 zQRssd_6 ?_
  refine wa_skip 32 (ssO 32) zQRssd_6 zQRssd_6 ?_
  refine wa_skip 33 (ssO 33) zQRssd_6 zQRssd_6 ?_
  refine wa_skip 34 (ssO 34) zQRssd_6 zQRssd_6 ?_
  refine wa_skip 35 (ssO 35) zQRssd_6 zQRssd_6 ?_
  refine wa_skip 36 (ssO 36) zQRssd_6 zQRssd_6 ?_
  refine wa_skip 37 (ssO 37) zQRssd_6 zQRssd_6 ?_
  refine wa_skip 38 (ssO 38) zQRssd_6 zQRssd_6 ?_
  refine wa_known 39 (ssO 39) (fun q => match q with | .tmp 46 => (.bool true : Value) | .tmp 53 => (undef : Value) | .const v => v | _ => undef) (.bool true) zQRssd_6 zQRssd_6 zQRssd_6 zQRssd_6 ?_
  refine wa_known 40 (ssO 40) (fun q => match q with | .tmp 54 => (.bool true : Value) | .const v => v | _ => undef) (.bool true) zQRssd_6 zQRssd_6 zQRssd_6 zQRssd_6 ?_
  refine wa_skip 41 (ssO 41) zQRssd_6 zQRssd_6 ?_
  refine wa_skip 42 (ssO 42) zQRssd_6 zQRssd_6 ?_
  refine wa_skip 43 (ssO 43) zQRssd_6 zQRssd_6 ?_
  refine wa_skip 44 (ssO 44) zQRssd_6 zQRssd_6 ?_
  refine wa_skip 45 (ssO 45) zQRssd_6 zQRssd_6 ?_
  refine wa_skip 46 (ssO 46) zQRssd_6 zQRssd_6 ?_
  refine wa_skip 47 (ssO 47) zQRssd_6 zQRssd_6 ?_
  refine wa_known 48 (ssO 48) (fun q => match q with | .tmp 55 => (.bool true : Value) | .tmp 62 => (undef : Value) | .const v => v | _ => undef) (.bool true) zQRssd_6 zQRssd_6 zQRssd_6 zQRssd_6 ?_
  refine wa_known 49 (ssO 49) (fun q => match q with | .tmp 63 => (.bool true : Value) | .const v => v | _ => undef) (.bool true) zQRssd_6 zQRssd_6 zQRssd_6 zQRssd_6 ?_
  refine wa_skip 50 (ssO 50) zQRssd_6 zQRssd_6 ?_
  refine wa_skip 51 (ssO 51) zQRssd_6 zQRssd_6 ?_
  refine wa_skip 52 (ssO 52) zQRssd_6 zQRssd_6 ?_
  refine wa_skip 53 (ssO 53) zQRssd_6 zQRssd_6 ?_
  refine wa_skip 54 (ssO 54) zQRssd_6 zQRssd_6 ?_
  refine wa_skip 55 (ssO 55) zQRssd_6 zQRssd_6 ?_
  refine wa_skip 56 (ssO 56) zQRssd_6 zQRssd_6 ?_
  refine wa_known 57 (ssO 57) (fun q => match q with | .tmp 64 => (.bool true : Value) | .tmp 71 => (undef : Value) | .const v => v | _ => undef) (.bool true) zQRssd_6 zQRssd_6 zQRssd_6 zQRssd_6 ?_
  refine wa_known 58 (ssO 58) (fun q => match q with | .tmp 72 => (.bool true : Value) | .const v => v | _ => undef) (.bool true) zQRssd_6 zQRssd_6 zQRssd_6 zQRssd_6 ?_
  refine wa_skip 59 (ssO 59) zQRssd_6 zQRssd_6 ?_
  refine wa_skip 60 (ssO 60) zQRssd_6 zQRssd_6 ?_
  refine wa_skip 61 (ssO 61) zQRssd_6 zQRssd_6 ?_
  refine wa_skip 62 (ssO 62) zQRssd_6 zQRssd_6 ?_
  refine wa_skip 63 (ssO 63) zQRssd_6 zQRssd_6 ?_
  refine wa_skip 64 (ssO 64) zQRssd_6 zQRssd_6 ?_
  refine wa_skip 65 (ssO 65) zQRssd_6 zQRssd_6 ?_
  refine wa_known 66 (ssO 66) (fun q => match q with | .tmp 73 => (.bool true : Value) | .tmp 80 => (undef : Value) | .const v => v | _ => undef) (.bool true) zQRssd_6 zQRssd_6 zQRssd_6 zQRssd_6 ?_
  refine wa_end 67 zQRssd_6 ?_
  refine wa_out (⟨#[.agg (cSte x P), .agg (cSte y Q), .pointer (some ⟨w.heap.size, 0, none⟩), .pointer (some ⟨w.heap.size + 1, 0, none⟩), .bool false, undef, undef, undef, undef, undef, undef, undef, undef, undef, undef, .pointer (some ⟨w.heap.size, 0, none⟩), .string x.nm, .pointer (some ⟨w.heap.size + 1, 0, none⟩), .string y.nm, .bool false, .bool false, .pointer (some ⟨w.heap.size, 1, none⟩), .slice P.vap P.vam P.vac, .pointer (some ⟨w.heap.size + 1, 1, none⟩), .slice Q.vap Q.vam Q.vac, .bool false, .bool true, .bool true, .bool true, undef, undef, undef, undef, undef, undef, undef, .bool true, .bool true, undef, undef, undef, undef, undef, undef, undef, .bool true, .bool true, undef, undef, undef, undef, undef, undef, undef, .bool true, .bool true, undef, undef, undef, undef, undef, undef, undef, .bool true, .bool true, undef, undef, undef, undef, undef, undef, undef, .bool true, .bool true, undef, undef, undef, undef, undef, undef, undef, .bool true, undef, undef, undef, undef, undef, undef, undef, undef, undef, undef, undef, undef, undef, undef, undef, undef, undef, undef, undef, undef, undef, undef, undef, undef, undef, undef, undef, undef, undef, undef, undef, undef, undef, undef, undef, undef, undef, undef, undef, undef, undef, undef, undef, undef, undef, undef, undef, undef, undef, undef, undef, undef, undef, undef, undef, undef, undef, undef, undef, undef, undef, undef, undef, undef, undef, undef, undef, undef, undef, undef, undef, undef, undef, undef, undef, undef, undef, undef, undef, undef, undef, undef, undef, undef, undef, undef, undef, undef, undef, undef, undef, undef, undef, undef, undef, undef, undef, undef, undef, undef, undef, undef, undef, undef, undef, undef, undef, undef, undef, undef, undef, undef, undef, undef, undef, undef, undef, undef, undef, undef, undef, undef, undef, undef, undef, undef, undef, undef, undef, undef, undef, undef, undef, undef, undef, undef, undef, undef, undef, undef, undef, undef, undef, undef, undef, undef, undef, undef, undef, undef, undef, undef, undef, undef, undef, undef, undef, undef, undef, undef, undef, undef, undef, undef, undef, undef, undef, undef, undef, undef, undef, undef, undef, undef, undef, undef, undef, undef, undef, undef, undef, undef, undef, undef, undef, undef, undef, undef, undef, undef, undef, undef, undef, undef, undef, undef, undef, undef, undef, undef, undef, undef, undef, undef, undef, undef, undef, undef, undef], []⟩) zQRssd_6 HQQ ?_
  exact zQRssd_2
 | true =>
 refine wa_is (⟨#[.agg (cSte x P), .agg (cSte y Q), .pointer (some ⟨w.heap.size, 0, none⟩), .pointer (some ⟨w.heap.size + 1, 0, none⟩), .bool false, undef, undef, undef, undef, undef, undef, undef, undef, undef, undef, .pointer (some ⟨w.heap.size, 0, none⟩), .string x.nm, .pointer (some ⟨w.heap.size + 1, 0, none⟩), .string y.nm, .bool false, .bool false, .pointer (some ⟨w.heap.size, 1, none⟩), .slice P.vap P.vam P.vac, .pointer (some ⟨w.heap.size + 1, 1, none⟩), .slice Q.vap Q.vam Q.vac, .bool true, undef, undef, undef, undef, undef, undef, undef, undef, undef, undef, undef, undef, undef, undef, undef, undef, undef, undef, undef, undef, undef, undef, undef, undef, undef, undef, undef, undef, undef, undef, undef, undef, undef, undef, undef, undef, undef, undef, undef, undef, undef, undef, undef, undef, undef, undef, undef, undef, undef, undef, undef, undef, undef, undef, undef, undef, undef, undef, undef, undef, undef, undef, undef, undef, undef, undef, undef, undef, undef, undef, undef, undef, undef, undef, undef, undef, undef, undef, undef, undef, undef, undef, undef, undef, undef, undef, undef, undef, undef, undef, undef, undef, undef, undef, undef, undef, undef, undef, undef, undef, undef, undef, undef, undef, undef, undef, undef, undef, undef, undef, undef, undef, undef, undef, undef, undef, undef, undef, undef, undef, undef, undef, undef, undef, undef, undef, undef, undef, undef, undef, undef, undef, undef, undef, undef, undef, undef, undef, undef, undef, undef, undef, undef, undef, undef, undef, undef, undef, undef, undef, undef, undef, undef, undef, undef, undef, undef, undef, undef, undef, undef, undef, undef, undef, undef, undef, undef, undef, undef, undef, undef, undef, undef, undef, undef, undef, undef, undef, undef, undef, undef, undef, undef, undef, undef, undef, undef, undef, undef, undef, undef, undef, undef, undef, undef, undef, undef, undef, undef, undef, undef, undef, undef, undef, undef, undef, undef, undef, undef, undef, undef, undef, undef, undef, undef, undef, undef, undef, undef, undef, undef, undef, undef, undef, undef, undef, undef, undef, undef, undef, undef, undef, undef, undef, undef, undef, undef, undef, undef, undef, undef, undef, undef, undef, undef, undef, undef, undef, undef, undef, undef, undef, undef, undef, undef, undef, undef, undef, undef, undef, undef, undef, undef, undef, undef], []⟩) zQRssd_6 ?_
 refine wa_known 11 (ssO 11) (fun q => match q with | .tmp 25 => (.bool true : Value) | .const v => v | _ => undef) (.bool false) zQRssd_6 zQRssd_6 zQRssd_6 zQRssd_6 ?_
 refine wa_known 12 (ssO 12) (fun q => match q with | .tmp 20 => (.bool false : Value) | .tmp 26 => (.bool false : Value) | .const v => v | _ => undef) (.bool false) zQRssd_6 zQRssd_6 zQRssd_6 zQRssd_6 ?_
 refine wa_known 13 (ssO 13) (fun q => match q with | .tmp 27 => (.bool false : Value) | .const v => v | _ => undef) (.bool false) zQRssd_6 zQRssd_6 zQRssd_6 zQRssd_6 ?_
 refine wa_known 14 (ssO 14) (fun q => match q with | .tmp 2 => (.pointer (some ⟨w.heap.size, 0, none⟩) : Value) | .const v => v | _ => undef) (.pointer (some ⟨w.heap.size, 2, none⟩)) zQRssd_6 zQRssd_6 zQRssd_6 zQRssd_6 ?_
 refine wa_known 15 ({ dst := some 30, op := Op.load 34 (Operand.tmp 29), type := 34, pos := "ref.go:422", after := #[{ on := 14, ground := Ground.data }, { on := 13, ground := Ground.guard }], guard := some (13, false) }) (fun _ => (.pointer (some ⟨w.heap.size, 2, none⟩) : Value)) (.slice P.rsp P.rsm P.rsc) zQRssd_6 zQRssd_6 zQRssd_6 zQRssd_7 ?_
 refine wa_known 16 ({ dst := some 31, op := Op.call { callee := Callee.builtin Builtin.len, args := #[Operand.tmp 30], argTypes := #[34] }, type := 3, pos := "ref.go:422", after := #[{ on := 15, ground := Ground.data }, { on := 13, ground := Ground.guard }], guard := some (13, false) }) (fun _ => (.slice P.rsp P.rsm P.rsc : Value)) (.int .i64 (P.rsm : Nat)) zQRssd_6 zQRssd_6 zQRssd_6 zQRssd_7 ?_
 refine wa_known 17 (ssO 17) (fun q => match q with | .tmp 3 => (.pointer (some ⟨w.heap.size + 1, 0, none⟩) : Value) | .const v => v | _ => undef) (.pointer (some ⟨w.heap.size + 1, 2, none⟩)) zQRssd_6 zQRssd_6 zQRssd_6 zQRssd_6 ?_
 refine wa_known 18 ({ dst := some 33, op := Op.load 34 (Operand.tmp 32), type := 34, pos := "ref.go:422", after := #[{ on := 17, ground := Ground.data }, { on := 13, ground := Ground.guard }], guard := some (13, false) }) (fun _ => (.pointer (some ⟨w.heap.size + 1, 2, none⟩) : Value)) (.slice Q.rsp Q.rsm Q.rsc) zQRssd_6 zQRssd_6 zQRssd_6 zQRssd_7 ?_
 refine wa_known 19 ({ dst := some 34, op := Op.call { callee := Callee.builtin Builtin.len, args := #[Operand.tmp 33], argTypes := #[34] }, type := 3, pos := "ref.go:422", after := #[{ on := 18, ground := Ground.data }, { on := 13, ground := Ground.guard }], guard := some (13, false) }) (fun _ => (.slice Q.rsp Q.rsm Q.rsc : Value)) (.int .i64 (Q.rsm : Nat)) zQRssd_6 zQRssd_6 zQRssd_6 zQRssd_7 ?_
 clear g2 gk2
 by_cases e2 : P.rsm = Q.rsm
 rotate_left 1
 · have z2 : b2 = false := by rw [← H2.out]; exact eqB_len (by rw [HL2.out.1, HK2.out.1]; exact e2)
   have HN := Lib.hid (show siB x y = false by rw [HB.out, z2]; simp)
   have w2 : ((P.rsm : Int) != (Q.rsm : Int)) = true := bne_iff_ne.2 (by omega)
   clear z2 e2
   refine wa_known 20 ({ dst := some 35, op := Op.binOp BinOp.neq 3 (Operand.tmp 31) (Operand.tmp 34) 3, type := 4, pos := "ref.go:422", after := #[{ on := 16, ground := Ground.data }, { on := 19, ground := Ground.data }, { on := 13, ground := Ground.guard }], guard := some (13, false) }) (fun q => match q with | .tmp 31 => (.int .i64 (P.rsm : Nat) : Value) | _ => (.int .i64 (Q.rsm : Nat) : Value)) (.bool true) zQRssd_6 zQRssd_6 zQRssd_6 zQRssd_7 ?_
   clear w2
   refine wa_known 21 (ssO 21) (fun q => match q with | .tmp 28 => (.bool false : Value) | .tmp 35 => (.bool true : Value) | .const v => v | _ => undef) (.bool true) zQRssd_6 zQRssd_6 zQRssd_6 zQRssd_6 ?_
   refine wa_known 22 (ssO 22) (fun q => match q with | .tmp 36 => (.bool true : Value) | .const v => v | _ => undef) (.bool true) zQRssd_6 zQRssd_6 zQRssd_6 zQRssd_6 ?_
   refine wa_skip 23 (ssO 23) zQRssd_6 zQRssd_6 ?_
   refine wa_skip 24 (ssO 24) zQRssd_6 zQRssd_6 ?_
   refine wa_skip 25 (ssO 25) zQRssd_6 zQRssd_6 ?_
   refine wa_skip 26 (ssO 26) zQRssd_6 zQRssd_6 ?_
   refine wa_skip 27 (ssO 27) zQRssd_6 zQRssd_6 ?_
   refine wa_skip 28 (ssO 28) zQRssd_6 zQRssd_6 ?_
   refine wa_skip 29 (ssO 29) zQRssd_6 zQRssd_6 ?_
   refine wa_known 30 (ssO 30) (fun q => match q with | .tmp 37 => (.bool true : Value) | .tmp 44 => (undef : Value) | .const v => v | _ => undef) (.bool true) zQRssd_6 zQRssd_6 zQRssd_6 zQRssd_6 ?_
   refine wa_known 31 (ssO 31) (fun q => match q with | .tmp 45 => (.bool true : Value) | .const v => v | _ => undef) (.bool true) zQRssd_6 zQRssd_6 zQRssd_6 zQRssd_6 ?_
   refine wa_skip 32 (ssO 32) zQRssd_6 zQRssd_6 ?_
   refine wa_skip 33 (ssO 33) zQRssd_6 zQRssd_6 ?_
   refine wa_skip 34 (ssO 34) zQRssd_6 zQRssd_6 ?_
   refine wa_skip 35 (ssO 35) zQRssd_6 zQRssd_6 ?_
   refine wa_skip 36 (ssO 36) zQRssd_6 zQRssd_6 ?_
   refine wa_skip 37 (ssO 37) zQRssd_6 zQRssd_6 ?_
   refine wa_skip 38 (ssO 38) zQRssd_6 zQRssd_6 ?_
   refine wa_known 39 (ssO 39) (fun q => match q with | .tmp 46 => (.bool true : Value) | .tmp 53 => (undef : Value) | .const v => v | _ => undef) (.bool true) zQRssd_6 zQRssd_6 zQRssd_6 zQRssd_6 ?_
   refine wa_known 40 (ssO 40) (fun q => match q with | .tmp 54 => (.bool true : Value) | .const v => v | _ => undef) (.bool true) zQRssd_6 zQRssd_6 zQRssd_6 zQRssd_6 ?_
   refine wa_skip 41 (ssO 41) zQRssd_6 zQRssd_6 ?_
   refine wa_skip 42 (ssO 42) zQRssd_6 zQRssd_6 ?_
   refine wa_skip 43 (ssO 43) zQRssd_6 zQRssd_6 ?_
   refine wa_skip 44 (ssO 44) zQRssd_6 zQRssd_6 ?_
   refine wa_skip 45 (ssO 45) zQRssd_6 zQRssd_6 ?_
   refine wa_skip 46 (ssO 46) zQRssd_6 zQRssd_6 ?_
   refine wa_skip 47 (ssO 47) zQRssd_6 zQRssd_6 ?_
   refine wa_known 48 (ssO 48) (fun q => match q with | .tmp 55 => (.bool true : Value) | .tmp 62 => (undef : Value) | .const v => v | _ => undef) (.bool true) zQRssd_6 zQRssd_6 zQRssd_6 zQRssd_6 ?_
   refine wa_known 49 (ssO 49) (fun q => match q with | .tmp 63 => (.bool true : Value) | .const v => v | _ => undef) (.bool true) zQRssd_6 zQRssd_6 zQRssd_6 zQRssd_6 ?_
   refine wa_skip 50 (ssO 50) zQRssd_6 zQRssd_6 ?_
   refine wa_skip 51 (ssO 51) zQRssd_6 zQRssd_6 ?_
   refine wa_skip 52 (ssO 52) zQRssd_6 zQRssd_6 ?_
   refine wa_skip 53 (ssO 53) zQRssd_6 zQRssd_6 ?_
   refine wa_skip 54 (ssO 54) zQRssd_6 zQRssd_6 ?_
   refine wa_skip 55 (ssO 55) zQRssd_6 zQRssd_6 ?_
   refine wa_skip 56 (ssO 56) zQRssd_6 zQRssd_6 ?_
   refine wa_known 57 (ssO 57) (fun q => match q with | .tmp 64 => (.bool true : Value) | .tmp 71 => (undef : Value) | .const v => v | _ => undef) (.bool true) zQRssd_6 zQRssd_6 zQRssd_6 zQRssd_6 ?_
   refine wa_known 58 (ssO 58) (fun q => match q with | .tmp 72 => (.bool true : Value) | .const v => v | _ => undef) (.bool true) zQRssd_6 zQRssd_6 zQRssd_6 zQRssd_6 ?_
   refine wa_skip 59 (ssO 59) zQRssd_6 zQRssd_6 ?_
   refine wa_skip 60 (ssO 60) zQRssd_6 zQRssd_6 ?_
   refine wa_skip 61 (ssO 61) zQRssd_6 zQRssd_6 ?_
   refine wa_skip 62 (ssO 62) zQRssd_6 zQRssd_6 ?_
   refine wa_skip 63 (ssO 63) zQRssd_6 zQRssd_6 ?_
   refine wa_skip 64 (ssO 64) zQRssd_6 zQRssd_6 ?_
   refine wa_skip 65 (ssO 65) zQRssd_6 zQRssd_6 ?_
   refine wa_known 66 (ssO 66) (fun q => match q with | .tmp 73 => (.bool true : Value) | .tmp 80 => (undef : Value) | .const v => v | _ => undef) (.bool true) zQRssd_6 zQRssd_6 zQRssd_6 zQRssd_6 ?_
   refine wa_end 67 zQRssd_6 ?_
   refine wa_out (⟨#[.agg (cSte x P), .agg (cSte y Q), .pointer (some ⟨w.heap.size, 0, none⟩), .pointer (some ⟨w.heap.size + 1, 0, none⟩), .bool false, undef, undef, undef, undef, undef, undef, undef, undef, undef, undef, .pointer (some ⟨w.heap.size, 0, none⟩), .string x.nm, .pointer (some ⟨w.heap.size + 1, 0, none⟩), .string y.nm, .bool false, .bool false, .pointer (some ⟨w.heap.size, 1, none⟩), .slice P.vap P.vam P.vac, .pointer (some ⟨w.heap.size + 1, 1, none⟩), .slice Q.vap Q.vam Q.vac, .bool true, .bool false, .bool false, .bool false, .pointer (some ⟨w.heap.size, 2, none⟩), .slice P.rsp P.rsm P.rsc, .int .i64 (P.rsm : Nat), .pointer (some ⟨w.heap.size + 1, 2, none⟩), .slice Q.rsp Q.rsm Q.rsc, .int .i64 (Q.rsm : Nat), .bool true, .bool true, .bool true, undef, undef, undef, undef, undef, undef, undef, .bool true, .bool true, undef, undef, undef, undef, undef, undef, undef, .bool true, .bool true, undef, undef, undef, undef, undef, undef, undef, .bool true, .bool true, undef, undef, undef, undef, undef, undef, undef, .bool true, .bool true, undef, undef, undef, undef, undef, undef, undef, .bool true, undef, undef, undef, undef, undef, undef, undef, undef, undef, undef, undef, undef, undef, undef, undef, undef, undef, undef, undef, undef, undef, undef, undef, undef, undef, undef, undef, undef, undef, undef, undef, undef, undef, undef, undef, undef, undef, undef, undef, undef, undef, undef, undef, undef, undef, undef, undef, undef, undef, undef, undef, undef, undef, undef, undef, undef, undef, undef, undef, undef, undef, undef, undef, undef, undef, undef, undef, undef, undef, undef, undef, undef, undef, undef, undef, undef, undef, undef, undef, undef, undef, undef, undef, undef, undef, undef, undef, undef, undef, undef, undef, undef, undef, undef, undef, undef, undef, undef, undef, undef, undef, undef, undef, undef, undef, undef, undef, undef, undef, undef, undef, undef, undef, undef, undef, undef, undef, undef, undef, undef, undef, undef, undef, undef, undef, undef, undef, undef, undef, undef, undef, undef, undef, undef, undef, undef, undef, undef, undef, undef, undef, undef, undef, undef, undef, undef, undef, undef, undef, undef, undef, undef, undef, undef, undef, undef, undef, undef, undef, undef, undef, undef, undef, undef, undef, undef, undef, undef, undef, undef, undef, undef, undef, undef, undef, undef, undef, undef, undef, undef, undef, undef, undef, undef, undef, undef, undef, undef, undef, undef, undef, undef, undef, undef, undef, undef, undef, undef, undef, undef, undef, undef, undef, undef, undef, undef, undef, undef, undef], []⟩) zQRssd_6 HQQ ?_
   exact zQRssd_2
 have w2 : ((P.rsm : Int) != (Q.rsm : Int)) = false := by rw [bne, show ((P.rsm : Int) == (Q.rsm : Int)) = true from beq_iff_eq.2 (by omega)]; rfl
 replace e2 := Lib.hid e2
 refine wa_known 20 ({ dst := some 35, op := Op.binOp BinOp.neq 3 (Operand.tmp 31) (Operand.tmp 34) 3, type := 4, pos := "ref.go:422", after := #[{ on := 16, ground := Ground.data }, { on := 19, ground := Ground.data }, { on := 13, ground := Ground.guard }], guard := some (13, false) }) (fun q => match q with | .tmp 31 => (.int .i64 (P.rsm : Nat) : Value) | _ => (.int .i64 (Q.rsm : Nat) : Value)) (.bool false) zQRssd_6 zQRssd_6 zQRssd_6 zQRssd_7 ?_
 clear w2
 refine wa_known 21 (ssO 21) (fun q => match q with | .tmp 28 => (.bool false : Value) | .tmp 35 => (.bool false : Value) | .const v => v | _ => undef) (.bool false) zQRssd_6 zQRssd_6 zQRssd_6 zQRssd_6 ?_
 refine wa_known 22 (ssO 22) (fun q => match q with | .tmp 36 => (.bool false : Value) | .const v => v | _ => undef) (.bool false) zQRssd_6 zQRssd_6 zQRssd_6 zQRssd_6 ?_
 refine wa_known 23 (ssO 23) (fun q => match q with | .tmp 2 => (.pointer (some ⟨w.heap.size, 0, none⟩) : Value) | .const v => v | _ => undef) (.pointer (some ⟨w.heap.size, 3, none⟩)) zQRssd_6 zQRssd_6 zQRssd_6 zQRssd_6 ?_
 refine wa_known 24 ({ dst := some 39, op := Op.load 35 (Operand.tmp 38), type := 35, pos := "ref.go:422", after := #[{ on := 23, ground := Ground.data }, { on := 22, ground := Ground.guard }], guard := some (22, false) }) (fun _ => (.pointer (some ⟨w.heap.size, 3, none⟩) : Value)) (.slice P.stp P.stm P.stc) zQRssd_6 zQRssd_6 zQRssd_6 zQRssd_7 ?_
 refine wa_known 25 ({ dst := some 40, op := Op.call { callee := Callee.builtin Builtin.len, args := #[Operand.tmp 39], argTypes := #[35] }, type := 3, pos := "ref.go:422", after := #[{ on := 24, ground := Ground.data }, { on := 22, ground := Ground.guard }], guard := some (22, false) }) (fun _ => (.slice P.stp P.stm P.stc : Value)) (.int .i64 (P.stm : Nat)) zQRssd_6 zQRssd_6 zQRssd_6 zQRssd_7 ?_
 refine wa_known 26 (ssO 26) (fun q => match q with | .tmp 3 => (.pointer (some ⟨w.heap.size + 1, 0, none⟩) : Value) | .const v => v | _ => undef) (.pointer (some ⟨w.heap.size + 1, 3, none⟩)) zQRssd_6 zQRssd_6 zQRssd_6 zQRssd_6 ?_
 refine wa_known 27 ({ dst := some 42, op := Op.load 35 (Operand.tmp 41), type := 35, pos := "ref.go:422", after := #[{ on := 26, ground := Ground.data }, { on := 22, ground := Ground.guard }], guard := some (22, false) }) (fun _ => (.pointer (some ⟨w.heap.size + 1, 3, none⟩) : Value)) (.slice Q.stp Q.stm Q.stc) zQRssd_6 zQRssd_6 zQRssd_6 zQRssd_7 ?_
 refine wa_known 28 ({ dst := some 43, op := Op.call { callee := Callee.builtin Builtin.len, args := #[Operand.tmp 42], argTypes := #[35] }, type := 3, pos := "ref.go:422", after := #[{ on := 27, ground := Ground.data }, { on := 22, ground := Ground.guard }], guard := some (22, false) }) (fun _ => (.slice Q.stp Q.stm Q.stc : Value)) (.int .i64 (Q.stm : Nat)) zQRssd_6 zQRssd_6 zQRssd_6 zQRssd_7 ?_
 clear g3 gk3
 by_cases e3 : P.stm = Q.stm
 rotate_left 1
 · have z3 : b3 = false := by rw [← H3.out]; exact eqB_len (by rw [HL3.out.1, HK3.out.1]; exact e3)
   have HN := Lib.hid (show siB x y = false by rw [HB.out, z3]; simp)
   have w2 : ((P.stm : Int) != (Q.stm : Int)) = true := bne_iff_ne.2 (by omega)
   clear z3 e3
   refine wa_known 29 ({ dst := some 44, op := Op.binOp BinOp.neq 3 (Operand.tmp 40) (Operand.tmp 43) 3, type := 4, pos := "ref.go:422", after := #[{ on := 25, ground := Ground.data }, { on := 28, ground := Ground.data }, { on := 22, ground := Ground.guard }], guard := some (22, false) }) (fun q => match q with | .tmp 40 => (.int .i64 (P.stm : Nat) : Value) | _ => (.int .i64 (Q.stm : Nat) : Value)) (.bool true) zQRssd_6 zQRssd_6 zQRssd_6 zQRssd_7 ?_
   clear w2
   refine wa_known 30 (ssO 30) (fun q => match q with | .tmp 37 => (.bool false : Value) | .tmp 44 => (.bool true : Value) | .const v => v | _ => undef) (.bool true) zQRssd_6 zQRssd_6 zQRssd_6 zQRssd_6 ?_
   refine wa_known 31 (ssO 31) (fun q => match q with | .tmp 45 => (.bool true : Value) | .const v => v | _ => undef) (.bool true) zQRssd_6 zQRssd_6 zQRssd_6 zQRssd_6 ?_
   refine wa_skip 32 (ssO 32) zQRssd_6 zQRssd_6 ?_
   refine wa_skip 33 (ssO 33) zQRssd_6 zQRssd_6 ?_
   refine wa_skip 34 (ssO 34) zQRssd_6 zQRssd_6 ?_
   refine wa_skip 35 (ssO 35) zQRssd_6 zQRssd_6 ?_
   refine wa_skip 36 (ssO 36) zQRssd_6 zQRssd_6 ?_
   refine wa_skip 37 (ssO 37) zQRssd_6 zQRssd_6 ?_
   refine wa_skip 38 (ssO 38) zQRssd_6 zQRssd_6 ?_
   refine wa_known 39 (ssO 39) (fun q => match q with | .tmp 46 => (.bool true : Value) | .tmp 53 => (undef : Value) | .const v => v | _ => undef) (.bool true) zQRssd_6 zQRssd_6 zQRssd_6 zQRssd_6 ?_
   refine wa_known 40 (ssO 40) (fun q => match q with | .tmp 54 => (.bool true : Value) | .const v => v | _ => undef) (.bool true) zQRssd_6 zQRssd_6 zQRssd_6 zQRssd_6 ?_
   refine wa_skip 41 (ssO 41) zQRssd_6 zQRssd_6 ?_
   refine wa_skip 42 (ssO 42) zQRssd_6 zQRssd_6 ?_
   refine wa_skip 43 (ssO 43) zQRssd_6 zQRssd_6 ?_
   refine wa_skip 44 (ssO 44) zQRssd_6 zQRssd_6 ?_
   refine wa_skip 45 (ssO 45) zQRssd_6 zQRssd_6 ?_
   refine wa_skip 46 (ssO 46) zQRssd_6 zQRssd_6 ?_
   refine wa_skip 47 (ssO 47) zQRssd_6 zQRssd_6 ?_
   refine wa_known 48 (ssO 48) (fun q => match q with | .tmp 55 => (.bool true : Value) | .tmp 62 => (undef : Value) | .const v => v | _ => undef) (.bool true) zQRssd_6 zQRssd_6 zQRssd_6 zQRssd_6 ?_
   refine wa_known 49 (ssO 49) (fun q => match q with | .tmp 63 => (.bool true : Value) | .const v => v | _ => undef) (.bool true) zQRssd_6 zQRssd_6 zQRssd_6 zQRssd_6 ?_
   refine wa_skip 50 (ssO 50) zQRssd_6 zQRssd_6 ?_
   refine wa_skip 51 (ssO 51) zQRssd_6 zQRssd_6 ?_
   refine wa_skip 52 (ssO 52) zQRssd_6 zQRssd_6 ?_
   refine wa_skip 53 (ssO 53) zQRssd_6 zQRssd_6 ?_
   refine wa_skip 54 (ssO 54) zQRssd_6 zQRssd_6 ?_
   refine wa_skip 55 (ssO 55) zQRssd_6 zQRssd_6 ?_
   refine wa_skip 56 (ssO 56) zQRssd_6 zQRssd_6 ?_
   refine wa_known 57 (ssO 57) (fun q => match q with | .tmp 64 => (.bool true : Value) | .tmp 71 => (undef : Value) | .const v => v | _ => undef) (.bool true) zQRssd_6 zQRssd_6 zQRssd_6 zQRssd_6 ?_
   refine wa_known 58 (ssO 58) (fun q => match q with | .tmp 72 => (.bool true : Value) | .const v => v | _ => undef) (.bool true) zQRssd_6 zQRssd_6 zQRssd_6 zQRssd_6 ?_
   refine wa_skip 59 (ssO 59) zQRssd_6 zQRssd_6 ?_
   refine wa_skip 60 (ssO 60) zQRssd_6 zQRssd_6 ?_
   refine wa_skip 61 (ssO 61) zQRssd_6 zQRssd_6 ?_
   refine wa_skip 62 (ssO 62) zQRssd_6 zQRssd_6 ?_
   refine wa_skip 63 (ssO 63) zQRssd_6 zQRssd_6 ?_
   refine wa_skip 64 (ssO 64) zQRssd_6 zQRssd_6 ?_
   refine wa_skip 65 (ssO 65) zQRssd_6 zQRssd_6 ?_
   refine wa_known 66 (ssO 66) (fun q => match q with | .tmp 73 => (.bool true : Value) | .tmp 80 => (undef : Value) | .const v => v | _ => undef) (.bool true) zQRssd_6 zQRssd_6 zQRssd_6 zQRssd_6 ?_
   refine wa_end 67 zQRssd_6 ?_
   refine wa_out (⟨#[.agg (cSte x P), .agg (cSte y Q), .pointer (some ⟨w.heap.size, 0, none⟩), .pointer (some ⟨w.heap.size + 1, 0, none⟩), .bool false, undef, undef, undef, undef, undef, undef, undef, undef, undef, undef, .pointer (some ⟨w.heap.size, 0, none⟩), .string x.nm, .pointer (some ⟨w.heap.size + 1, 0, none⟩), .string y.nm, .bool false, .bool false, .pointer (some ⟨w.heap.size, 1, none⟩), .slice P.vap P.vam P.vac, .pointer (some ⟨w.heap.size + 1, 1, none⟩), .slice Q.vap Q.vam Q.vac, .bool true, .bool false, .bool false, .bool false, .pointer (some ⟨w.heap.size, 2, none⟩), .slice P.rsp P.rsm P.rsc, .int .i64 (P.rsm : Nat), .pointer (some ⟨w.heap.size + 1, 2, none⟩), .slice Q.rsp Q.rsm Q.rsc, .int .i64 (Q.rsm : Nat), .bool false, .bool false, .bool false, .pointer (some ⟨w.heap.size, 3, none⟩), .slice P.stp P.stm P.stc, .int .i64 (P.stm : Nat), .pointer (some ⟨w.heap.size + 1, 3, none⟩), .slice Q.stp Q.stm Q.stc, .int .i64 (Q.stm : Nat), .bool true, .bool true, .bool true, undef, undef, undef, undef, undef, undef, undef, .bool true, .bool true, undef, undef, undef, undef, undef, undef, undef, .bool true, .bool true, undef, undef, undef, undef, undef, undef, undef, .bool true, .bool true, undef, undef, undef, undef, undef, undef, undef, .bool true, undef, undef, undef, undef, undef, undef, undef, undef, undef, undef, undef, undef, undef, undef, undef, undef, undef, undef, undef, undef, undef, undef, undef, undef, undef, undef, undef, undef, undef, undef, undef, undef, undef, undef, undef, undef, undef, undef, undef, undef, undef, undef, undef, undef, undef, undef, undef, undef, undef, undef, undef, undef, undef, undef, undef, undef, undef, undef, undef, undef, undef, undef, undef, undef, undef, undef, undef, undef, undef, undef, undef, undef, undef, undef, undef, undef, undef, undef, undef, undef, undef, undef, undef, undef, undef, undef, undef, undef, undef, undef, undef, undef, undef, undef, undef, undef, undef, undef, undef, undef, undef, undef, undef, undef, undef, undef, undef, undef, undef, undef, undef, undef, undef, undef, undef, undef, undef, undef, undef, undef, undef, undef, undef, undef, undef, undef, undef, undef, undef, undef, undef, undef, undef, undef, undef, undef, undef, undef, undef, undef, undef, undef, undef, undef, undef, undef, undef, undef, undef, undef, undef, undef, undef, undef, undef, undef, undef, undef, undef, undef, undef, undef, undef, undef, undef, undef, undef, undef, undef, undef, undef, undef, undef, undef, undef, undef, undef, undef, undef, undef, undef, undef, undef, undef, undef, undef, undef, undef, undef, undef, undef, undef, undef, undef, undef, undef, undef, undef, undef, undef, undef, undef, undef, undef, undef, undef, undef, undef, undef], []⟩) zQRssd_6 HQQ ?_
   exact zQRssd_2
 have w3 : ((P.stm : Int) != (Q.stm : Int)) = false := by rw [bne, show ((P.stm : Int) == (Q.stm : Int)) = true from beq_iff_eq.2 (by omega)]; rfl
 replace e3 := Lib.hid e3
 refine wa_known 29 ({ dst := some 44, op := Op.binOp BinOp.neq 3 (Operand.tmp 40) (Operand.tmp 43) 3, type := 4, pos := "ref.go:422", after := #[{ on := 25, ground := Ground.data }, { on := 28, ground := Ground.data }, { on := 22, ground := Ground.guard }], guard := some (22, false) }) (fun q => match q with | .tmp 40 => (.int .i64 (P.stm : Nat) : Value) | _ => (.int .i64 (Q.stm : Nat) : Value)) (.bool false) zQRssd_6 zQRssd_6 zQRssd_6 zQRssd_7 ?_
 clear w3
 refine wa_known 30 (ssO 30) (fun q => match q with | .tmp 37 => (.bool false : Value) | .tmp 44 => (.bool false : Value) | .const v => v | _ => undef) (.bool false) zQRssd_6 zQRssd_6 zQRssd_6 zQRssd_6 ?_
 refine wa_known 31 (ssO 31) (fun q => match q with | .tmp 45 => (.bool false : Value) | .const v => v | _ => undef) (.bool false) zQRssd_6 zQRssd_6 zQRssd_6 zQRssd_6 ?_
 refine wa_known 32 (ssO 32) (fun q => match q with | .tmp 2 => (.pointer (some ⟨w.heap.size, 0, none⟩) : Value) | .const v => v | _ => undef) (.pointer (some ⟨w.heap.size, 4, none⟩)) zQRssd_6 zQRssd_6 zQRssd_6 zQRssd_6 ?_
 refine wa_known 33 ({ dst := some 48, op := Op.load 36 (Operand.tmp 47), type := 36, pos := "ref.go:422", after := #[{ on := 32, ground := Ground.data }, { on := 31, ground := Ground.guard }], guard := some (31, false) }) (fun _ => (.pointer (some ⟨w.heap.size, 4, none⟩) : Value)) (.slice P.bep P.bem P.bec) zQRssd_6 zQRssd_6 zQRssd_6 zQRssd_7 ?_
 refine wa_known 34 ({ dst := some 49, op := Op.call { callee := Callee.builtin Builtin.len, args := #[Operand.tmp 48], argTypes := #[36] }, type := 3, pos := "ref.go:422", after := #[{ on := 33, ground := Ground.data }, { on := 31, ground := Ground.guard }], guard := some (31, false) }) (fun _ => (.slice P.bep P.bem P.bec : Value)) (.int .i64 (P.bem : Nat)) zQRssd_6 zQRssd_6 zQRssd_6 zQRssd_7 ?_
 refine wa_known 35 (ssO 35) (fun q => match q with | .tmp 3 => (.pointer (some ⟨w.heap.size + 1, 0, none⟩) : Value) | .const v => v | _ => undef) (.pointer (some ⟨w.heap.size + 1, 4, none⟩)) zQRssd_6 zQRssd_6 zQRssd_6 zQRssd_6 ?_
 refine wa_known 36 ({ dst := some 51, op := Op.load 36 (Operand.tmp 50), type := 36, pos := "ref.go:422", after := #[{ on := 35, ground := Ground.data }, { on := 31, ground := Ground.guard }], guard := some (31, false) }) (fun _ => (.pointer (some ⟨w.heap.size + 1, 4, none⟩) : Value)) (.slice Q.bep Q.bem Q.bec) zQRssd_6 zQRssd_6 zQRssd_6 zQRssd_7 ?_
 refine wa_known 37 ({ dst := some 52, op := Op.call { callee := Callee.builtin Builtin.len, args := #[Operand.tmp 51], argTypes := #[36] }, type := 3, pos := "ref.go:422", after := #[{ on := 36, ground := Ground.data }, { on := 31, ground := Ground.guard }], guard := some (31, false) }) (fun _ => (.slice Q.bep Q.bem Q.bec : Value)) (.int .i64 (Q.bem : Nat)) zQRssd_6 zQRssd_6 zQRssd_6 zQRssd_7 ?_
 clear g4 gk4
 by_cases e4 : P.bem = Q.bem
 rotate_left 1
 · have z4 : b4 = false := by rw [← H4.out]; exact eqB_len (by rw [HL4.out.1, HK4.out.1]; exact e4)
   have HN := Lib.hid (show siB x y = false by rw [HB.out, z4]; simp)
   have w2 : ((P.bem : Int) != (Q.bem : Int)) = true := bne_iff_ne.2 (by omega)
   clear z4 e4
   refine wa_known 38 ({ dst := some 53, op := Op.binOp BinOp.neq 3 (Operand.tmp 49) (Operand.tmp 52) 3, type := 4, pos := "ref.go:422", after := #[{ on := 34, ground := Ground.data }, { on := 37, ground := Ground.data }, { on := 31, ground := Ground.guard }], guard := some (31, false) }) (fun q => match q with | .tmp 49 => (.int .i64 (P.bem : Nat) : Value) | _ => (.int .i64 (Q.bem : Nat) : Value)) (.bool true) zQRssd_6 zQRssd_6 zQRssd_6 zQRssd_7 ?_
   clear w2
   refine wa_known 39 (ssO 39) (fun q => match q with | .tmp 46 => (.bool false : Value) | .tmp 53 => (.bool true : Value) | .const v => v | _ => undef) (.bool true) zQRssd_6 zQRssd_6 zQRssd_6 zQRssd_6 ?_
   refine wa_known 40 (ssO 40) (fun q => match q with | .tmp 54 => (.bool true : Value) | .const v => v | _ => undef) (.bool true) zQRssd_6 zQRssd_6 zQRssd_6 zQRssd_6 ?_
   refine wa_skip 41 (ssO 41) zQRssd_6 zQRssd_6 ?_
   refine wa_skip 42 (ssO 42) zQRssd_6 zQRssd_6 ?_
   refine wa_skip 43 (ssO 43) zQRssd_6 zQRssd_6 ?_
   refine wa_skip 44 (ssO 44) zQRssd_6 zQRssd_6 ?_
   refine wa_skip 45 (ssO 45) zQRssd_6 zQRssd_6 ?_
   refine wa_skip 46 (ssO 46) zQRssd_6 zQRssd_6 ?_
   refine wa_skip 47 (ssO 47) zQRssd_6 zQRssd_6 ?_
   refine wa_known 48 (ssO 48) (fun q => match q with | .tmp 55 => (.bool true : Value) | .tmp 62 => (undef : Value) | .const v => v | _ => undef) (.bool true) zQRssd_6 zQRssd_6 zQRssd_6 zQRssd_6 ?_
   refine wa_known 49 (ssO 49) (fun q => match q with | .tmp 63 => (.bool true : Value) | .const v => v | _ => undef) (.bool true) zQRssd_6 zQRssd_6 zQRssd_6 zQRssd_6 ?_
   refine wa_skip 50 (ssO 50) zQRssd_6 zQRssd_6 ?_
   refine wa_skip 51 (ssO 51) zQRssd_6 zQRssd_6 ?_
   refine wa_skip 52 (ssO 52) zQRssd_6 zQRssd_6 ?_
   refine wa_skip 53 (ssO 53) zQRssd_6 zQRssd_6 ?_
   refine wa_skip 54 (ssO 54) zQRssd_6 zQRssd_6 ?_
   refine wa_skip 55 (ssO 55) zQRssd_6 zQRssd_6 ?_
   refine wa_skip 56 (ssO 56) zQRssd_6 zQRssd_6 ?_
   refine wa_known 57 (ssO 57) (fun q => match q with | .tmp 64 => (.bool true : Value) | .tmp 71 => (undef : Value) | .const v => v | _ => undef) (.bool true) zQRssd_6 zQRssd_6 zQRssd_6 zQRssd_6 ?_
   refine wa_known 58 (ssO 58) (fun q => match q with | .tmp 72 => (.bool true : Value) | .const v => v | _ => undef) (.bool true) zQRssd_6 zQRssd_6 zQRssd_6 zQRssd_6 ?_
   refine wa_skip 59 (ssO 59) zQRssd_6 zQRssd_6 ?_
   refine wa_skip 60 (ssO 60) zQRssd_6 zQRssd_6 ?_
   refine wa_skip 61 (ssO 61) zQRssd_6 zQRssd_6 ?_
   refine wa_skip 62 (ssO 62) zQRssd_6 zQRssd_6 ?_
   refine wa_skip 63 (ssO 63) zQRssd_6 zQRssd_6 ?_
   refine wa_skip 64 (ssO 64) zQRssd_6 zQRssd_6 ?_
   refine wa_skip 65 (ssO 65) zQRssd_6 zQRssd_6 ?_
   refine wa_known 66 (ssO 66) (fun q => match q with | .tmp 73 => (.bool true : Value) | .tmp 80 => (undef : Value) | .const v => v | _ => undef) (.bool true) zQRssd_6 zQRssd_6 zQRssd_6 zQRssd_6 ?_
   refine wa_end 67 zQRssd_6 ?_
   refine wa_out (⟨#[.agg (cSte x P), .agg (cSte y Q), .pointer (some ⟨w.heap.size, 0, none⟩), .pointer (some ⟨w.heap.size + 1, 0, none⟩), .bool false, undef, undef, undef, undef, undef, undef, undef, undef, undef, undef, .pointer (some ⟨w.heap.size, 0, none⟩), .string x.nm, .pointer (some ⟨w.heap.size + 1, 0, none⟩), .string y.nm, .bool false, .bool false, .pointer (some ⟨w.heap.size, 1, none⟩), .slice P.vap P.vam P.vac, .pointer (some ⟨w.heap.size + 1, 1, none⟩), .slice Q.vap Q.vam Q.vac, .bool true, .bool false, .bool false, .bool false, .pointer (some ⟨w.heap.size, 2, none⟩), .slice P.rsp P.rsm P.rsc, .int .i64 (P.rsm : Nat), .pointer (some ⟨w.heap.size + 1, 2, none⟩), .slice Q.rsp Q.rsm Q.rsc, .int .i64 (Q.rsm : Nat), .bool false, .bool false, .bool false, .pointer (some ⟨w.heap.size, 3, none⟩), .slice P.stp P.stm P.stc, .int .i64 (P.stm : Nat), .pointer (some ⟨w.heap.size + 1, 3, none⟩), .slice Q.stp Q.stm Q.stc, .int .i64 (Q.stm : Nat), .bool false, .bool false, .bool false, .pointer (some ⟨w.heap.size, 4, none⟩), .slice P.bep P.bem P.bec, .int .i64 (P.bem : Nat), .pointer (some ⟨w.heap.size + 1, 4, none⟩), .slice Q.bep Q.bem Q.bec, .int .i64 (Q.bem : Nat), .bool true, .bool true, .bool true, undef, undef, undef, undef, undef, undef, undef, .bool true, .bool true, undef, undef, undef, undef, undef, undef, undef, .bool true, .bool true, undef, undef, undef, undef, undef, undef, undef, .bool true, undef, undef, undef, undef, undef, undef, undef, undef, undef, undef, undef, undef, undef, undef, undef, undef, undef, undef, undef, undef, undef, undef, undef, undef, undef, undef, undef, undef, undef, undef, undef, undef, undef, undef, undef, undef, undef, undef, undef, undef, undef, undef, undef, undef, undef, undef, undef, undef, undef, undef, undef, undef, undef, undef, undef, undef, undef, undef, undef, undef, undef, undef, undef, undef, undef, undef, undef, undef, undef, undef, undef, undef, undef, undef, undef, undef, undef, undef, undef, undef, undef, undef, undef, undef, undef, undef, undef, undef, undef, undef, undef, undef, undef, undef, undef, undef, undef, undef, undef, undef, undef, undef, undef, undef, undef, undef, undef, undef, undef, undef, undef, undef, undef, undef, undef, undef, undef, undef, undef, undef, undef, undef, undef, undef, undef, undef, undef, undef, undef, undef, undef, undef, undef, undef, undef, undef, undef, undef, undef, undef, undef, undef, undef, undef, undef, undef, undef, undef, undef, undef, undef, undef, undef, undef, undef, undef, undef, undef, undef, undef, undef, undef, undef, undef, undef, undef, undef, undef, undef, undef, undef, undef, undef, undef, undef, undef, undef, undef, undef, undef, undef, undef, undef, undef, undef, undef, undef, undef, undef, undef, undef, undef, undef, undef, undef, undef, undef, undef, undef, undef, undef, undef, undef, undef, undef, undef, undef, undef, undef], []⟩) zQRssd_6 HQQ ?_
   exact zQRssd_2
 have w4 : ((P.bem : Int) != (Q.bem : Int)) = false := by rw [bne, show ((P.bem : Int) == (Q.bem : Int)) = true from beq_iff_eq.2 (by omega)]; rfl
 replace e4 := Lib.hid e4
 refine wa_known 38 ({ dst := some 53, op := Op.binOp BinOp.neq 3 (Operand.tmp 49) (Operand.tmp 52) 3, type := 4, pos := "ref.go:422", after := #[{ on := 34, ground := Ground.data }, { on := 37, ground := Ground.data }, { on := 31, ground := Ground.guard }], guard := some (31, false) }) (fun q => match q with | .tmp 49 => (.int .i64 (P.bem : Nat) : Value) | _ => (.int .i64 (Q.bem : Nat) : Value)) (.bool false) zQRssd_6 zQRssd_6 zQRssd_6 zQRssd_7 ?_
 clear w4
 refine wa_known 39 (ssO 39) (fun q => match q with | .tmp 46 => (.bool false : Value) | .tmp 53 => (.bool false : Value) | .const v => v | _ => undef) (.bool false) zQRssd_6 zQRssd_6 zQRssd_6 zQRssd_6 ?_
 refine wa_known 40 (ssO 40) (fun q => match q with | .tmp 54 => (.bool false : Value) | .const v => v | _ => undef) (.bool false) zQRssd_6 zQRssd_6 zQRssd_6 zQRssd_6 ?_
 refine wa_known 41 (ssO 41) (fun q => match q with | .tmp 2 => (.pointer (some ⟨w.heap.size, 0, none⟩) : Value) | .const v => v | _ => undef) (.pointer (some ⟨w.heap.size, 10, none⟩)) zQRssd_6 zQRssd_6 zQRssd_6 zQRssd_6 ?_
 refine wa_known 42 ({ dst := some 57, op := Op.load 38 (Operand.tmp 56), type := 38, pos := "ref.go:422", after := #[{ on := 41, ground := Ground.data }, { on := 40, ground := Ground.guard }], guard := some (40, false) }) (fun _ => (.pointer (some ⟨w.heap.size, 10, none⟩) : Value)) (.slice P.rop P.rom P.roc) zQRssd_6 zQRssd_6 zQRssd_6 zQRssd_7 ?_
 refine wa_known 43 ({ dst := some 58, op := Op.call { callee := Callee.builtin Builtin.len, args := #[Operand.tmp 57], argTypes := #[38] }, type := 3, pos := "ref.go:422", after := #[{ on := 42, ground := Ground.data }, { on := 40, ground := Ground.guard }], guard := some (40, false) }) (fun _ => (.slice P.rop P.rom P.roc : Value)) (.int .i64 (P.rom : Nat)) zQRssd_6 zQRssd_6 zQRssd_6 zQRssd_7 ?_
 refine wa_known 44 (ssO 44) (fun q => match q with | .tmp 3 => (.pointer (some ⟨w.heap.size + 1, 0, none⟩) : Value) | .const v => v | _ => undef) (.pointer (some ⟨w.heap.size + 1, 10, none⟩)) zQRssd_6 zQRssd_6 zQRssd_6 zQRssd_6 ?_
 refine wa_known 45 ({ dst := some 60, op := Op.load 38 (Operand.tmp 59), type := 38, pos := "ref.go:422", after := #[{ on := 44, ground := Ground.data }, { on := 40, ground := Ground.guard }], guard := some (40, false) }) (fun _ => (.pointer (some ⟨w.heap.size + 1, 10, none⟩) : Value)) (.slice Q.rop Q.rom Q.roc) zQRssd_6 zQRssd_6 zQRssd_6 zQRssd_7 ?_
 refine wa_known 46 ({ dst := some 61, op := Op.call { callee := Callee.builtin Builtin.len, args := #[Operand.tmp 60], argTypes := #[38] }, type := 3, pos := "ref.go:422", after := #[{ on := 45, ground := Ground.data }, { on := 40, ground := Ground.guard }], guard := some (40, false) }) (fun _ => (.slice Q.rop Q.rom Q.roc : Value)) (.int .i64 (Q.rom : Nat)) zQRssd_6 zQRssd_6 zQRssd_6 zQRssd_7 ?_
 clear g10 gk10
 by_cases e10 : P.rom = Q.rom
 rotate_left 1
 · have z10 : b10 = false := by rw [← H10.out]; exact eqB_len (by rw [HL10.out.1, HK10.out.1]; exact e10)
   have HN := Lib.hid (show siB x y = false by rw [HB.out, z10]; simp)
   have w2 : ((P.rom : Int) != (Q.rom : Int)) = true := bne_iff_ne.2 (by omega)
   clear z10 e10
   refine wa_known 47 ({ dst := some 62, op := Op.binOp BinOp.neq 3 (Operand.tmp 58) (Operand.tmp 61) 3, type := 4, pos := "ref.go:422", after := #[{ on := 43, ground := Ground.data }, { on := 46, ground := Ground.data }, { on := 40, ground := Ground.guard }], guard := some (40, false) }) (fun q => match q with | .tmp 58 => (.int .i64 (P.rom : Nat) : Value) | _ => (.int .i64 (Q.rom : Nat) : Value)) (.bool true) zQRssd_6 zQRssd_6 zQRssd_6 zQRssd_7 ?_
   clear w2
   refine wa_known 48 (ssO 48) (fun q => match q with | .tmp 55 => (.bool false : Value) | .tmp 62 => (.bool true : Value) | .const v => v | _ => undef) (.bool true) zQRssd_6 zQRssd_6 zQRssd_6 zQRssd_6 ?_
   refine wa_known 49 (ssO 49) (fun q => match q with | .tmp 63 => (.bool true : Value) | .const v => v | _ => undef) (.bool true) zQRssd_6 zQRssd_6 zQRssd_6 zQRssd_6 ?_
   refine wa_skip 50 (ssO 50) zQRssd_6 zQRssd_6 ?_
   refine wa_skip 51 (ssO 51) zQRssd_6 zQRssd_6 ?_
   refine wa_skip 52 (ssO 52) zQRssd_6 zQRssd_6 ?_
   refine wa_skip 53 (ssO 53) zQRssd_6 zQRssd_6 ?_
   refine wa_skip 54 (ssO 54) zQRssd_6 zQRssd_6 ?_
   refine wa_skip 55 (ssO 55) zQRssd_6 zQRssd_6 ?_
   refine wa_skip 56 (ssO 56) zQRssd_6 zQRssd_6 ?_
   refine wa_known 57 (ssO 57) (fun q => match q with | .tmp 64 => (.bool true : Value) | .tmp 71 => (undef : Value) | .const v => v | _ => undef) (.bool true) zQRssd_6 zQRssd_6 zQRssd_6 zQRssd_6 ?_
   refine wa_known 58 (ssO 58) (fun q => match q with | .tmp 72 => (.bool true : Value) | .const v => v | _ => undef) (.bool true) zQRssd_6 zQRssd_6 zQRssd_6 zQRssd_6 ?_
   refine wa_skip 59 (ssO 59) zQRssd_6 zQRssd_6 ?_
   refine wa_skip 60 (ssO 60) zQRssd_6 zQRssd_6 ?_
   refine wa_skip 61 (ssO 61) zQRssd_6 zQRssd_6 ?_
   refine wa_skip 62 (ssO 62) zQRssd_6 zQRssd_6 ?_
   refine wa_skip 63 (ssO 63) zQRssd_6 zQRssd_6 ?_
   refine wa_skip 64 (ssO 64) zQRssd_6 zQRssd_6 ?_
   refine wa_skip 65 (ssO 65) zQRssd_6 zQRssd_6 ?_
   refine wa_known 66 (ssO 66) (fun q => match q with | .tmp 73 => (.bool true : Value) | .tmp 80 => (undef : Value) | .const v => v | _ => undef) (.bool true) zQRssd_6 zQRssd_6 zQRssd_6 zQRssd_6 ?_
   refine wa_end 67 zQRssd_6 ?_
   refine wa_out (⟨#[.agg (cSte x P), .agg (cSte y Q), .pointer (some ⟨w.heap.size, 0, none⟩), .pointer (some ⟨w.heap.size + 1, 0, none⟩), .bool false, undef, undef, undef, undef, undef, undef, undef, undef, undef, undef, .pointer (some ⟨w.heap.size, 0, none⟩), .string x.nm, .pointer (some ⟨w.heap.size + 1, 0, none⟩), .string y.nm, .bool false, .bool false, .pointer (some ⟨w.heap.size, 1, none⟩), .slice P.vap P.vam P.vac, .pointer (some ⟨w.heap.size + 1, 1, none⟩), .slice Q.vap Q.vam Q.vac, .bool true, .bool false, .bool false, .bool false, .pointer (some ⟨w.heap.size, 2, none⟩), .slice P.rsp P.rsm P.rsc, .int .i64 (P.rsm : Nat), .pointer (some ⟨w.heap.size + 1, 2, none⟩), .slice Q.rsp Q.rsm Q.rsc, .int .i64 (Q.rsm : Nat), .bool false, .bool false, .bool false, .pointer (some ⟨w.heap.size, 3, none⟩), .slice P.stp P.stm P.stc, .int .i64 (P.stm : Nat), .pointer (some ⟨w.heap.size + 1, 3, none⟩), .slice Q.stp Q.stm Q.stc, .int .i64 (Q.stm : Nat), .bool false, .bool false, .bool false, .pointer (some ⟨w.heap.size, 4, none⟩), .slice P.bep P.bem P.bec, .int .i64 (P.bem : Nat), .pointer (some ⟨w.heap.size + 1, 4, none⟩), .slice Q.bep Q.bem Q.bec, .int .i64 (Q.bem : Nat), .bool false, .bool false, .bool false, .pointer (some ⟨w.heap.size, 10, none⟩), .slice P.rop P.rom P.roc, .int .i64 (P.rom : Nat), .pointer (some ⟨w.heap.size + 1, 10, none⟩), .slice Q.rop Q.rom Q.roc, .int .i64 (Q.rom : Nat), .bool true, .bool true, .bool true, undef, undef, undef, undef, undef, undef, undef, .bool true, .bool true, undef, undef, undef, undef, undef, undef, undef, .bool true, undef, undef, undef, undef, undef, undef, undef, undef, undef, undef, undef, undef, undef, undef, undef, undef, undef, undef, undef, undef, undef, undef, undef, undef, undef, undef, undef, undef, undef, undef, undef, undef, undef, undef, undef, undef, undef, undef, undef, undef, undef, undef, undef, undef, undef, undef, undef, undef, undef, undef, undef, undef, undef, undef, undef, undef, undef, undef, undef, undef, undef, undef, undef, undef, undef, undef, undef, undef, undef, undef, undef, undef, undef, undef, undef, undef, undef, undef, undef, undef, undef, undef, undef, undef, undef, undef, undef, undef, undef, undef, undef, undef, undef, undef, undef, undef, undef, undef, undef, undef, undef, undef, undef, undef, undef, undef, undef, undef, undef, undef, undef, undef, undef, undef, undef, undef, undef, undef, undef, undef, undef, undef, undef, undef, undef, undef, undef, undef, undef, undef, undef, undef, undef, undef, undef, undef, undef, undef, undef, undef, undef, undef, undef, undef, undef, undef, undef, undef, undef, undef, undef, undef, undef, undef, undef, undef, undef, undef, undef, undef, undef, undef, undef, undef, undef, undef, undef, undef, undef, undef, undef, undef, undef, undef, undef, undef, undef, undef, undef, undef, undef, undef, undef, undef, undef, undef, undef, undef, undef, undef, undef, undef, undef, undef, undef, undef, undef, undef, undef, undef, undef, undef, undef, undef, undef, undef, undef, undef, undef], []⟩) zQRssd_6 HQQ ?_
   exact zQRssd_2
 have w10 : ((P.rom : Int) != (Q.rom : Int)) = false := by rw [bne, show ((P.rom : Int) == (Q.rom : Int)) = true from beq_iff_eq.2 (by omega)]; rfl
 replace e10 := Lib.hid e10
 refine wa_known 47 ({ dst := some 62, op := Op.binOp BinOp.neq 3 (Operand.tmp 58) (Operand.tmp 61) 3, type := 4, pos := "ref.go:422", after := #[{ on := 43, ground := Ground.data }, { on := 46, ground := Ground.data }, { on := 40, ground := Ground.guard }], guard := some (40, false) }) (fun q => match q with | .tmp 58 => (.int .i64 (P.rom : Nat) : Value) | _ => (.int .i64 (Q.rom : Nat) : Value)) (.bool false) zQRssd_6 zQRssd_6 zQRssd_6 zQRssd_7 ?_
 clear w10
 refine wa_known 48 (ssO 48) (fun q => match q with | .tmp 55 => (.bool false : Value) | .tmp 62 => (.bool false : Value) | .const v => v | _ => undef) (.bool false) zQRssd_6 zQRssd_6 zQRssd_6 zQRssd_6 ?_
 refine wa_known 49 (ssO 49) (fun q => match q with | .tmp 63 => (.bool false : Value) | .const v => v | _ => undef) (.bool false) zQRssd_6 zQRssd_6 zQRssd_6 zQRssd_6 ?_
 refine wa_known 50 (ssO 50) (fun q => match q with | .tmp 2 => (.pointer (some ⟨w.heap.size, 0, none⟩) : Value) | .const v => v | _ => undef) (.pointer (some ⟨w.heap.size, 11, none⟩)) zQRssd_6 zQRssd_6 zQRssd_6 zQRssd_6 ?_
 refine wa_known 51 ({ dst := some 66, op := Op.load 39 (Operand.tmp 65), type := 39, pos := "ref.go:422", after := #[{ on := 50, ground := Ground.data }, { on := 49, ground := Ground.guard }], guard := some (49, false) }) (fun _ => (.pointer (some ⟨w.heap.size, 11, none⟩) : Value)) (.slice P.ssp P.ssm P.ssc) zQRssd_6 zQRssd_6 zQRssd_6 zQRssd_7 ?_
 refine wa_known 52 ({ dst := some 67, op := Op.call { callee := Callee.builtin Builtin.len, args := #[Operand.tmp 66], argTypes := #[39] }, type := 3, pos := "ref.go:422", after := #[{ on := 51, ground := Ground.data }, { on := 49, ground := Ground.guard }], guard := some (49, false) }) (fun _ => (.slice P.ssp P.ssm P.ssc : Value)) (.int .i64 (P.ssm : Nat)) zQRssd_6 zQRssd_6 zQRssd_6 zQRssd_7 ?_
 refine wa_known 53 (ssO 53) (fun q => match q with | .tmp 3 => (.pointer (some ⟨w.heap.size + 1, 0, none⟩) : Value) | .const v => v | _ => undef) (.pointer (some ⟨w.heap.size + 1, 11, none⟩)) zQRssd_6 zQRssd_6 zQRssd_6 zQRssd_6 ?_
 refine wa_known 54 ({ dst := some 69, op := Op.load 39 (Operand.tmp 68), type := 39, pos := "ref.go:422", after := #[{ on := 53, ground := Ground.data }, { on := 49, ground := Ground.guard }], guard := some (49, false) }) (fun _ => (.pointer (some ⟨w.heap.size + 1, 11, none⟩) : Value)) (.slice Q.ssp Q.ssm Q.ssc) zQRssd_6 zQRssd_6 zQRssd_6 zQRssd_7 ?_
 refine wa_known 55 ({ dst := some 70, op := Op.call { callee := Callee.builtin Builtin.len, args := #[Operand.tmp 69], argTypes := #[39] }, type := 3, pos := "ref.go:422", after := #[{ on := 54, ground := Ground.data }, { on := 49, ground := Ground.guard }], guard := some (49, false) }) (fun _ => (.slice Q.ssp Q.ssm Q.ssc : Value)) (.int .i64 (Q.ssm : Nat)) zQRssd_6 zQRssd_6 zQRssd_6 zQRssd_7 ?_
 clear g11 gk11
 by_cases e11 : P.ssm = Q.ssm
 rotate_left 1
 · have z11 : b11 = false := by rw [← H11.out]; exact eqB_len (by rw [HL11.out.1, HK11.out.1]; exact e11)
   have HN := Lib.hid (show siB x y = false by rw [HB.out, z11]; simp)
   have w2 : ((P.ssm : Int) != (Q.ssm : Int)) = true := bne_iff_ne.2 (by omega)
   clear z11 e11
   refine wa_known 56 ({ dst := some 71, op := Op.binOp BinOp.neq 3 (Operand.tmp 67) (Operand.tmp 70) 3, type := 4, pos := "ref.go:422", after := #[{ on := 52, ground := Ground.data }, { on := 55, ground := Ground.data }, { on := 49, ground := Ground.guard }], guard := some (49, false) }) (fun q => match q with | .tmp 67 => (.int .i64 (P.ssm : Nat) : Value) | _ => (.int .i64 (Q.ssm : Nat) : Value)) (.bool true) zQRssd_6 zQRssd_6 zQRssd_6 zQRssd_7 ?_
   clear w2
   refine wa_known 57 (ssO 57) (fun q => match q with | .tmp 64 => (.bool false : Value) | .tmp 71 => (.bool true : Value) | .const v => v | _ => undef) (.bool true) zQRssd_6 zQRssd_6 zQRssd_6 zQRssd_6 ?_
   refine wa_known 58 (ssO 58) (fun q => match q with | .tmp 72 => (.bool true : Value) | .const v => v | _ => undef) (.bool true) zQRssd_6 zQRssd_6 zQRssd_6 zQRssd_6 ?_
   refine wa_skip 59 (ssO 59) zQRssd_6 zQRssd_6 ?_
   refine wa_skip 60 (ssO 60) zQRssd_6 zQRssd_6 ?_
   refine wa_skip 61 (ssO 61) zQRssd_6 zQRssd_6 ?_
   refine wa_skip 62 (ssO 62) zQRssd_6 zQRssd_6 ?_
   refine wa_skip 63 (ssO 63) zQRssd_6 zQRssd_6 ?_
   refine wa_skip 64 (ssO 64) zQRssd_6 zQRssd_6 ?_
   refine wa_skip 65 (ssO 65) zQRssd_6 zQRssd_6 ?_
   refine wa_known 66 (ssO 66) (fun q => match q with | .tmp 73 => (.bool true : Value) | .tmp 80 => (undef : Value) | .const v => v | _ => undef) (.bool true) zQRssd_6 zQRssd_6 zQRssd_6 zQRssd_6 ?_
   refine wa_end 67 zQRssd_6 ?_
   refine wa_out (⟨#[.agg (cSte x P), .agg (cSte y Q), .pointer (some ⟨w.heap.size, 0, none⟩), .pointer (some ⟨w.heap.size + 1, 0, none⟩), .bool false, undef, undef, undef, undef, undef, undef, undef, undef, undef, undef, .pointer (some ⟨w.heap.size, 0, none⟩), .string x.nm, .pointer (some ⟨w.heap.size + 1, 0, none⟩), .string y.nm, .bool false, .bool false, .pointer (some ⟨w.heap.size, 1, none⟩), .slice P.vap P.vam P.vac, .pointer (some ⟨w.heap.size + 1, 1, none⟩), .slice Q.vap Q.vam Q.vac, .bool true, .bool false, .bool false, .bool false, .pointer (some ⟨w.heap.size, 2, none⟩), .slice P.rsp P.rsm P.rsc, .int .i64 (P.rsm : Nat), .pointer (some ⟨w.heap.size + 1, 2, none⟩), .slice Q.rsp Q.rsm Q.rsc, .int .i64 (Q.rsm : Nat), .bool false, .bool false, .bool false, .pointer (some ⟨w.heap.size, 3, none⟩), .slice P.stp P.stm P.stc, .int .i64 (P.stm : Nat), .pointer (some ⟨w.heap.size + 1, 3, none⟩), .slice Q.stp Q.stm Q.stc, .int .i64 (Q.stm : Nat), .bool false, .bool false, .bool false, .pointer (some ⟨w.heap.size, 4, none⟩), .slice P.bep P.bem P.bec, .int .i64 (P.bem : Nat), .pointer (some ⟨w.heap.size + 1, 4, none⟩), .slice Q.bep Q.bem Q.bec, .int .i64 (Q.bem : Nat), .bool false, .bool false, .bool false, .pointer (some ⟨w.heap.size, 10, none⟩), .slice P.rop P.rom P.roc, .int .i64 (P.rom : Nat), .pointer (some ⟨w.heap.size + 1, 10, none⟩), .slice Q.rop Q.rom Q.roc, .int .i64 (Q.rom : Nat), .bool false, .bool false, .bool false, .pointer (some ⟨w.heap.size, 11, none⟩), .slice P.ssp P.ssm P.ssc, .int .i64 (P.ssm : Nat), .pointer (some ⟨w.heap.size + 1, 11, none⟩), .slice Q.ssp Q.ssm Q.ssc, .int .i64 (Q.ssm : Nat), .bool true, .bool true, .bool true, undef, undef, undef, undef, undef, undef, undef, .bool true, undef, undef, undef, undef, undef, undef, undef, undef, undef, undef, undef, undef, undef, undef, undef, undef, undef, undef, undef, undef, undef, undef, undef, undef, undef, undef, undef, undef, undef, undef, undef, undef, undef, undef, undef, undef, undef, undef, undef, undef, undef, undef, undef, undef, undef, undef, undef, undef, undef, undef, undef, undef, undef, undef, undef, undef, undef, undef, undef, undef, undef, undef, undef, undef, undef, undef, undef, undef, undef, undef, undef, undef, undef, undef, undef, undef, undef, undef, undef, undef, undef, undef, undef, undef, undef, undef, undef, undef, undef, undef, undef, undef, undef, undef, undef, undef, undef, undef, undef, undef, undef, undef, undef, undef, undef, undef, undef, undef, undef, undef, undef, undef, undef, undef, undef, undef, undef, undef, undef, undef, undef, undef, undef, undef, undef, undef, undef, undef, undef, undef, undef, undef, undef, undef, undef, undef, undef, undef, undef, undef, undef, undef, undef, undef, undef, undef, undef, undef, undef, undef, undef, undef, undef, undef, undef, undef, undef, undef, undef, undef, undef, undef, undef, undef, undef, undef, undef, undef, undef, undef, undef, undef, undef, undef, undef, undef, undef, undef, undef, undef, undef, undef, undef, undef, undef, undef, undef, undef, undef, undef, undef, undef, undef, undef, undef, undef, undef, undef, undef, undef, undef, undef, undef, undef, undef, undef, undef, undef, undef], []⟩) zQRssd_6 HQQ ?_
   exact zQRssd_2
 have w11 : ((P.ssm : Int) != (Q.ssm : Int)) = false := by rw [bne, show ((P.ssm : Int) == (Q.ssm : Int)) = true from beq_iff_eq.2 (by omega)]; rfl
 replace e11 := Lib.hid e11
 refine wa_known 56 ({ dst := some 71, op := Op.binOp BinOp.neq 3 (Operand.tmp 67) (Operand.tmp 70) 3, type := 4, pos := "ref.go:422", after := #[{ on := 52, ground := Ground.data }, { on := 55, ground := Ground.data }, { on := 49, ground := Ground.guard }], guard := some (49, false) }) (fun q => match q with | .tmp 67 => (.int .i64 (P.ssm : Nat) : Value) | _ => (.int .i64 (Q.ssm : Nat) : Value)) (.bool false) zQRssd_6 zQRssd_6 zQRssd_6 zQRssd_7 ?_
 clear w11
 refine wa_known 57 (ssO 57) (fun q => match q with | .tmp 64 => (.bool false : Value) | .tmp 71 => (.bool false : Value) | .const v => v | _ => undef) (.bool false) zQRssd_6 zQRssd_6 zQRssd_6 zQRssd_6 ?_
 refine wa_known 58 (ssO 58) (fun q => match q with | .tmp 72 => (.bool false : Value) | .const v => v | _ => undef) (.bool false) zQRssd_6 zQRssd_6 zQRssd_6 zQRssd_6 ?_
 refine wa_known 59 (ssO 59) (fun q => match q with | .tmp 2 => (.pointer (some ⟨w.heap.size, 0, none⟩) : Value) | .const v => v | _ => undef) (.pointer (some ⟨w.heap.size, 12, none⟩)) zQRssd_6 zQRssd_6 zQRssd_6 zQRssd_6 ?_
 refine wa_known 60 ({ dst := some 75, op := Op.load 40 (Operand.tmp 74), type := 40, pos := "ref.go:422", after := #[{ on := 59, ground := Ground.data }, { on := 58, ground := Ground.guard }], guard := some (58, false) }) (fun _ => (.pointer (some ⟨w.heap.size, 12, none⟩) : Value)) (.slice P.lap P.lam P.lac) zQRssd_6 zQRssd_6 zQRssd_6 zQRssd_7 ?_
 refine wa_known 61 ({ dst := some 76, op := Op.call { callee := Callee.builtin Builtin.len, args := #[Operand.tmp 75], argTypes := #[40] }, type := 3, pos := "ref.go:422", after := #[{ on := 60, ground := Ground.data }, { on := 58, ground := Ground.guard }], guard := some (58, false) }) (fun _ => (.slice P.lap P.lam P.lac : Value)) (.int .i64 (P.lam : Nat)) zQRssd_6 zQRssd_6 zQRssd_6 zQRssd_7 ?_
 refine wa_known 62 (ssO 62) (fun q => match q with | .tmp 3 => (.pointer (some ⟨w.heap.size + 1, 0, none⟩) : Value) | .const v => v | _ => undef) (.pointer (some ⟨w.heap.size + 1, 12, none⟩)) zQRssd_6 zQRssd_6 zQRssd_6 zQRssd_6 ?_
 refine wa_known 63 ({ dst := some 78, op := Op.load 40 (Operand.tmp 77), type := 40, pos := "ref.go:422", after := #[{ on := 62, ground := Ground.data }, { on := 58, ground := Ground.guard }], guard := some (58, false) }) (fun _ => (.pointer (some ⟨w.heap.size + 1, 12, none⟩) : Value)) (.slice Q.lap Q.lam Q.lac) zQRssd_6 zQRssd_6 zQRssd_6 zQRssd_7 ?_
 refine wa_known 64 ({ dst := some 79, op := Op.call { callee := Callee.builtin Builtin.len, args := #[Operand.tmp 78], argTypes := #[40] }, type := 3, pos := "ref.go:422", after := #[{ on := 63, ground := Ground.data }, { on := 58, ground := Ground.guard }], guard := some (58, false) }) (fun _ => (.slice Q.lap Q.lam Q.lac : Value)) (.int .i64 (Q.lam : Nat)) zQRssd_6 zQRssd_6 zQRssd_6 zQRssd_7 ?_
 clear g12 gk12
 by_cases e12 : P.lam = Q.lam
 rotate_left 1
 · have z12 : b12 = false := by rw [← H12.out]; exact eqB_len (by rw [HL12.out.1, HK12.out.1]; exact e12)
   have HN := Lib.hid (show siB x y = false by rw [HB.out, z12]; simp)
   have w2 : ((P.lam : Int) != (Q.lam : Int)) = true := bne_iff_ne.2 (by omega)
   clear z12 e12
   refine wa_known 65 ({ dst := some 80, op := Op.binOp BinOp.neq 3 (Operand.tmp 76) (Operand.tmp 79) 3, type := 4, pos := "ref.go:422", after := #[{ on := 61, ground := Ground.data }, { on := 64, ground := Ground.data }, { on := 58, ground := Ground.guard }], guard := some (58, false) }) (fun q => match q with | .tmp 76 => (.int .i64 (P.lam : Nat) : Value) | _ => (.int .i64 (Q.lam : Nat) : Value)) (.bool true) zQRssd_6 zQRssd_6 zQRssd_6 zQRssd_7 ?_
   clear w2
   refine wa_known 66 (ssO 66) (fun q => match q with | .tmp 73 => (.bool false : Value) | .tmp 80 => (.bool true : Value) | .const v => v | _ => undef) (.bool true) zQRssd_6 zQRssd_6 zQRssd_6 zQRssd_6 ?_
   refine wa_end 67 zQRssd_6 ?_
   refine wa_out (⟨#[.agg (cSte x P), .agg (cSte y Q), .pointer (some ⟨w.heap.size, 0, none⟩), .pointer (some ⟨w.heap.size + 1, 0, none⟩), .bool false, undef, undef, undef, undef, undef, undef, undef, undef, undef, undef, .pointer (some ⟨w.heap.size, 0, none⟩), .string x.nm, .pointer (some ⟨w.heap.size + 1, 0, none⟩), .string y.nm, .bool false, .bool false, .pointer (some ⟨w.heap.size, 1, none⟩), .slice P.vap P.vam P.vac, .pointer (some ⟨w.heap.size + 1, 1, none⟩), .slice Q.vap Q.vam Q.vac, .bool true, .bool false, .bool false, .bool false, .pointer (some ⟨w.heap.size, 2, none⟩), .slice P.rsp P.rsm P.rsc, .int .i64 (P.rsm : Nat), .pointer (some ⟨w.heap.size + 1, 2, none⟩), .slice Q.rsp Q.rsm Q.rsc, .int .i64 (Q.rsm : Nat), .bool false, .bool false, .bool false, .pointer (some ⟨w.heap.size, 3, none⟩), .slice P.stp P.stm P.stc, .int .i64 (P.stm : Nat), .pointer (some ⟨w.heap.size + 1, 3, none⟩), .slice Q.stp Q.stm Q.stc, .int .i64 (Q.stm : Nat), .bool false, .bool false, .bool false, .pointer (some ⟨w.heap.size, 4, none⟩), .slice P.bep P.bem P.bec, .int .i64 (P.bem : Nat), .pointer (some ⟨w.heap.size + 1, 4, none⟩), .slice Q.bep Q.bem Q.bec, .int .i64 (Q.bem : Nat), .bool false, .bool false, .bool false, .pointer (some ⟨w.heap.size, 10, none⟩), .slice P.rop P.rom P.roc, .int .i64 (P.rom : Nat), .pointer (some ⟨w.heap.size + 1, 10, none⟩), .slice Q.rop Q.rom Q.roc, .int .i64 (Q.rom : Nat), .bool false, .bool false, .bool false, .pointer (some ⟨w.heap.size, 11, none⟩), .slice P.ssp P.ssm P.ssc, .int .i64 (P.ssm : Nat), .pointer (some ⟨w.heap.size + 1, 11, none⟩), .slice Q.ssp Q.ssm Q.ssc, .int .i64 (Q.ssm : Nat), .bool false, .bool false, .bool false, .pointer (some ⟨w.heap.size, 12, none⟩), .slice P.lap P.lam P.lac, .int .i64 (P.lam : Nat), .pointer (some ⟨w.heap.size + 1, 12, none⟩), .slice Q.lap Q.lam Q.lac, .int .i64 (Q.lam : Nat), .bool true, .bool true, undef, undef, undef, undef, undef, undef, undef, undef, undef, undef, undef, undef, undef, undef, undef, undef, undef, undef, undef, undef, undef, undef, undef, undef, undef, undef, undef, undef, undef, undef, undef, undef, undef, undef, undef, undef, undef, undef, undef, undef, undef, undef, undef, undef, undef, undef, undef, undef, undef, undef, undef, undef, undef, undef, undef, undef, undef, undef, undef, undef, undef, undef, undef, undef, undef, undef, undef, undef, undef, undef, undef, undef, undef, undef, undef, undef, undef, undef, undef, undef, undef, undef, undef, undef, undef, undef, undef, undef, undef, undef, undef, undef, undef, undef, undef, undef, undef, undef, undef, undef, undef, undef, undef, undef, undef, undef, undef, undef, undef, undef, undef, undef, undef, undef, undef, undef, undef, undef, undef, undef, undef, undef, undef, undef, undef, undef, undef, undef, undef, undef, undef, undef, undef, undef, undef, undef, undef, undef, undef, undef, undef, undef, undef, undef, undef, undef, undef, undef, undef, undef, undef, undef, undef, undef, undef, undef, undef, undef, undef, undef, undef, undef, undef, undef, undef, undef, undef, undef, undef, undef, undef, undef, undef, undef, undef, undef, undef, undef, undef, undef, undef, undef, undef, undef, undef, undef, undef, undef, undef, undef, undef, undef, undef, undef, undef, undef, undef, undef, undef, undef, undef, undef, undef, undef, undef, undef, undef, undef, undef], []⟩) zQRssd_6 HQQ ?_
   exact zQRssd_2
 have w12 : ((P.lam : Int) != (Q.lam : Int)) = false := by rw [bne, show ((P.lam : Int) == (Q.lam : Int)) = true from beq_iff_eq.2 (by omega)]; rfl
 replace e12 := Lib.hid e12
 refine wa_known 65 ({ dst := some 80, op := Op.binOp BinOp.neq 3 (Operand.tmp 76) (Operand.tmp 79) 3, type := 4, pos := "ref.go:422", after := #[{ on := 61, ground := Ground.data }, { on := 64, ground := Ground.data }, { on := 58, ground := Ground.guard }], guard := some (58, false) }) (fun q => match q with | .tmp 76 => (.int .i64 (P.lam : Nat) : Value) | _ => (.int .i64 (Q.lam : Nat) : Value)) (.bool false) zQRssd_6 zQRssd_6 zQRssd_6 zQRssd_7 ?_
 clear w12
 refine wa_known 66 (ssO 66) (fun q => match q with | .tmp 73 => (.bool false : Value) | .tmp 80 => (.bool false : Value) | .const v => v | _ => undef) (.bool false) zQRssd_6 zQRssd_6 zQRssd_6 zQRssd_6 ?_
 refine wa_end 67 zQRssd_6 ?_
 refine wa_out (⟨#[.agg (cSte x P), .agg (cSte y Q), .pointer (some ⟨w.heap.size, 0, none⟩), .pointer (some ⟨w.heap.size + 1, 0, none⟩), .bool false, undef, undef, undef, undef, undef, undef, undef, undef, undef, undef, .pointer (some ⟨w.heap.size, 0, none⟩), .string x.nm, .pointer (some ⟨w.heap.size + 1, 0, none⟩), .string y.nm, .bool false, .bool false, .pointer (some ⟨w.heap.size, 1, none⟩), .slice P.vap P.vam P.vac, .pointer (some ⟨w.heap.size + 1, 1, none⟩), .slice Q.vap Q.vam Q.vac, .bool true, .bool false, .bool false, .bool false, .pointer (some ⟨w.heap.size, 2, none⟩), .slice P.rsp P.rsm P.rsc, .int .i64 (P.rsm : Nat), .pointer (some ⟨w.heap.size + 1, 2, none⟩), .slice Q.rsp Q.rsm Q.rsc, .int .i64 (Q.rsm : Nat), .bool false, .bool false, .bool false, .pointer (some ⟨w.heap.size, 3, none⟩), .slice P.stp P.stm P.stc, .int .i64 (P.stm : Nat), .pointer (some ⟨w.heap.size + 1, 3, none⟩), .slice Q.stp Q.stm Q.stc, .int .i64 (Q.stm : Nat), .bool false, .bool false, .bool false, .pointer (some ⟨w.heap.size, 4, none⟩), .slice P.bep P.bem P.bec, .int .i64 (P.bem : Nat), .pointer (some ⟨w.heap.size + 1, 4, none⟩), .slice Q.bep Q.bem Q.bec, .int .i64 (Q.bem : Nat), .bool false, .bool false, .bool false, .pointer (some ⟨w.heap.size, 10, none⟩), .slice P.rop P.rom P.roc, .int .i64 (P.rom : Nat), .pointer (some ⟨w.heap.size + 1, 10, none⟩), .slice Q.rop Q.rom Q.roc, .int .i64 (Q.rom : Nat), .bool false, .bool false, .bool false, .pointer (some ⟨w.heap.size, 11, none⟩), .slice P.ssp P.ssm P.ssc, .int .i64 (P.ssm : Nat), .pointer (some ⟨w.heap.size + 1, 11, none⟩), .slice Q.ssp Q.ssm Q.ssc, .int .i64 (Q.ssm : Nat), .bool false, .bool false, .bool false, .pointer (some ⟨w.heap.size, 12, none⟩), .slice P.lap P.lam P.lac, .int .i64 (P.lam : Nat), .pointer (some ⟨w.heap.size + 1, 12, none⟩), .slice Q.lap Q.lam Q.lac, .int .i64 (Q.lam : Nat), .bool false, .bool false, undef, undef, undef, undef, undef, undef, undef, undef, undef, undef, undef, undef, undef, undef, undef, undef, undef, undef, undef, undef, undef, undef, undef, undef, undef, undef, undef, undef, undef, undef, undef, undef, undef, undef, undef, undef, undef, undef, undef, undef, undef, undef, undef, undef, undef, undef, undef, undef, undef, undef, undef, undef, undef, undef, undef, undef, undef, undef, undef, undef, undef, undef, undef, undef, undef, undef, undef, undef, undef, undef, undef, undef, undef, undef, undef, undef, undef, undef, undef, undef, undef, undef, undef, undef, undef, undef, undef, undef, undef, undef, undef, undef, undef, undef, undef, undef, undef, undef, undef, undef, undef, undef, undef, undef, undef, undef, undef, undef, undef, undef, undef, undef, undef, undef, undef, undef, undef, undef, undef, undef, undef, undef, undef, undef, undef, undef, undef, undef, undef, undef, undef, undef, undef, undef, undef, undef, undef, undef, undef, undef, undef, undef, undef, undef, undef, undef, undef, undef, undef, undef, undef, undef, undef, undef, undef, undef, undef, undef, undef, undef, undef, undef, undef, undef, undef, undef, undef, undef, undef, undef, undef, undef, undef, undef, undef, undef, undef, undef, undef, undef, undef, undef, undef, undef, undef, undef, undef, undef, undef, undef, undef, undef, undef, undef, undef, undef, undef, undef, undef, undef, undef, undef, undef, undef, undef, undef, undef, undef, undef], []⟩) zQRssd_6 HQQ ?_
 clear HQQ
 go_wp2_with fail
 clear g5 gk5
 refine (C5.out _ HV1.out).mono ?_
 rintro e v2 ⟨rfl, hb2⟩
 have HW2 : Hid (Below ((w.alloc (.cells (cSte x P) 42)).alloc (.cells (cSte y Q) 42)).heap.size ((w.alloc (.cells (cSte x P) 42)).alloc (.cells (cSte y Q) 42)) v2) := Lib.hid (by have h1 := HW1.out; exact bl)
 have HV2 : Hid (Below w.heap.size w v2) := Lib.hid (by have h1 := HV1.out; exact bl)
 clear hb2
 cases b5 with
 | false =>
  have HN := Lib.hid (show siB x y = false by rw [HB.out]; simp)
  go_wp2_with fail
  go_ret
  exact ⟨by rw [HN.out]; rfl, HV2.out⟩
 | true =>
 have q := FX.out v2 HW2.out
 have g6 := q.1.get (cSte6 x P)
 have gk6 := q.2.get (cSte6 y Q)
 clear q
 go_wp2_with fail
 clear g6 gk6
 refine (C6.out _ HV2.out).mono ?_
 rintro e v3 ⟨rfl, hb3⟩
 have HW3 : Hid (Below ((w.alloc (.cells (cSte x P) 42)).alloc (.cells (cSte y Q) 42)).heap.size ((w.alloc (.cells (cSte x P) 42)).alloc (.cells (cSte y Q) 42)) v3) := Lib.hid (by have h1 := HW2.out; exact bl)
 have HV3 : Hid (Below w.heap.size w v3) := Lib.hid (by have h1 := HV2.out; exact bl)
 clear hb3
 cases b6 with
 | false =>
  have HN := Lib.hid (show siB x y = false by rw [HB.out]; simp)
  go_wp2_with fail
  go_ret
  exact ⟨by rw [HN.out]; rfl, HV3.out⟩
 | true =>
 have q := FX.out v3 HW3.out
 have g7 := q.1.get (cSte7 x P)
 have gk7 := q.2.get (cSte7 y Q)
 clear q
 go_wp2_with fail
 clear g7 gk7
 refine (C7.out _ HV3.out).mono ?_
 rintro e v4 ⟨rfl, hb4⟩
 have HW4 : Hid (Below ((w.alloc (.cells (cSte x P) 42)).alloc (.cells (cSte y Q) 42)).heap.size ((w.alloc (.cells (cSte x P) 42)).alloc (.cells (cSte y Q) 42)) v4) := Lib.hid (by have h1 := HW3.out; exact bl)
 have HV4 : Hid (Below w.heap.size w v4) := Lib.hid (by have h1 := HV3.out; exact bl)
 clear hb4
 cases b7 with
 | false =>
  have HN := Lib.hid (show siB x y = false by rw [HB.out]; simp)
  go_wp2_with fail
  go_ret
  exact ⟨by rw [HN.out]; rfl, HV4.out⟩
 | true =>
 have q := FX.out v4 HW4.out
 have g8 := q.1.get (cSte8 x P)
 have gk8 := q.2.get (cSte8 y Q)
 clear q
 go_wp2_with fail
 clear g8 gk8
 refine (C8.out _ HV4.out).mono ?_
 rintro e v5 ⟨rfl, hb5⟩
 have HW5 : Hid (Below ((w.alloc (.cells (cSte x P) 42)).alloc (.cells (cSte y Q) 42)).heap.size ((w.alloc (.cells (cSte x P) 42)).alloc (.cells (cSte y Q) 42)) v5) := Lib.hid (by have h1 := HW4.out; exact bl)
 have HV5 : Hid (Below w.heap.size w v5) := Lib.hid (by have h1 := HV4.out; exact bl)
 clear hb5
 cases b8 with
 | false =>
  have HN := Lib.hid (show siB x y = false by rw [HB.out]; simp)
  go_wp2_with fail
  go_ret
  exact ⟨by rw [HN.out]; rfl, HV5.out⟩
 | true =>
 have q := FX.out v5 HW5.out
 have g9 := q.1.get (cSte9 x P)
 have gk9 := q.2.get (cSte9 y Q)
 clear q
 go_wp2_with fail
 clear g9 gk9
 refine (C9.out _ HV5.out).mono ?_
 rintro e v6 ⟨rfl, hb6⟩
 have HW6 : Hid (Below ((w.alloc (.cells (cSte x P) 42)).alloc (.cells (cSte y Q) 42)).heap.size ((w.alloc (.cells (cSte x P) 42)).alloc (.cells (cSte y Q) 42)) v6) := Lib.hid (by have h1 := HW5.out; exact bl)
 have HV6 : Hid (Below w.heap.size w v6) := Lib.hid (by have h1 := HV5.out; exact bl)
 clear hb6
 cases b9 with
 | false =>
  have HN := Lib.hid (show siB x y = false by rw [HB.out]; simp)
  go_wp2_with fail
  go_ret
  exact ⟨by rw [HN.out]; rfl, HV6.out⟩
 | true =>
 have HR := Lib.hid (show siB x y = (b2 && (b3 && (b4 && (b10 && (b11 && (b12)))))) by rw [HB.out]; simp only [Bool.true_and, Bool.and_true, Bool.and_assoc])
 clear HB
 go_wp2_with fail
 obtain ⟨kk2, hkk2⟩ : ∃ n : Nat, 17 = n := ⟨_, rfl⟩
 have hsz2 : ∀ w, (sizeOf 92).run Tryz.prog w = .ok kk2 w := fun w => by rw [Tryz.sizeOf92, hkk2]
 have HKK2 := Lib.hid hkk2
 clear hkk2
 go_loopw [5] (fun i wr => ∃ k : Nat, k ≤ P.rsm ∧ i = .int .i64 (k : Nat) ∧ Hid (Below ((w.alloc (.cells (cSte x P) 42)).alloc (.cells (cSte y Q) 42)).heap.size ((w.alloc (.cells (cSte x P) 42)).alloc (.cells (cSte y Q) 42)) wr) ∧ Hid (eqB reB (x.rs.take k) (y.rs.take k) = true)) (fun i _ => P.rsm - (intOf i).toNat)
 case atStart => exact ⟨0, Nat.zero_le _, rfl, Lib.hid (by have h1 := HW6.out; exact bl), Lib.hid rfl⟩
 case round =>
  obtain ⟨k, hk, rfl, HW, HA⟩ := hrel
  have k0 : (0 : Int) ≤ (k : Int) := by omega
  have k3 : (P.rsm : Int) ≤ 9223372036854775807 := by have h2 := HL2.out.2; omega
  have hbw : Below w.heap.size w wr := by have h1 := HW.out; exact bl
  have HBW := Lib.hid hbw
  have q := FX.out wr HW.out
  have g1 := q.1.get (cSte2 x P)
  have g2 := q.2.get (cSte2 y Q)
  clear q
  rcases Nat.lt_or_ge k P.rsm with h | h
  · have k1 : (k : Int) < (P.rsm : Int) := by omega
    have k2 : (k : Int) < (Q.rsm : Int) := by have h2 := e2.out; omega
    have hkl : k < x.rs.length := by rw [HL2.out.1]; exact h
    have hkl2 : k < y.rs.length := by rw [HK2.out.1]; omega
    obtain ⟨b, o, hp, hbG, hG, hcell⟩ := (HX.out.rs.on RRes.map hbw).rows (by omega)
    obtain ⟨c, hcs, hat, hR⟩ := hcell.out k hkl
    obtain ⟨bb, o2, hp2, hbG2, hG2, hcell2⟩ := (HY.out.rs.on RRes.map hbw).rows (by omega)
    obtain ⟨d, hcs2, hat2, hR2⟩ := hcell2.out k hkl2
    obtain ⟨x1, hx1⟩ : ∃ z, x.rs[k] = z := ⟨_, rfl⟩
    obtain ⟨y1, hy1⟩ : ∃ z, y.rs[k] = z := ⟨_, rfl⟩
    have HX1 := Lib.hid (show x.rs[k]? = some x1 by rw [← hx1]; exact List.getElem?_eq_getElem hkl)
    have HY1 := Lib.hid (show y.rs[k]? = some y1 by rw [← hy1]; exact List.getElem?_eq_getElem hkl2)
    rw [hx1] at hR
    rw [hy1] at hR2
    rw [hp] at g1
    rw [hp2] at g2
    obtain ⟨r, hr⟩ : ∃ r, reB x1 y1 = r := ⟨_, rfl⟩
    obtain ⟨P1, rfl, hP1⟩ := hR
    obtain ⟨Q1, rfl, hQ1⟩ := hR2
    have C := Lib.hid (fun W (hW : Below wr.heap.size wr W) => (show Calls Tryz.prog 92 #[.agg (cRes x1 P1), .agg (cRes y1 Q1)] W (Gives (.bool r) W) by rw [← hr]; exact rres_same x1 y1 P1 Q1 W (hP1.on hW) (hQ1.on hW)))
    have FR : Hid (∀ W, Below wr.heap.size wr W → W.cell? ⟨w.heap.size, 2, none⟩ = some (.slice (some ⟨b, o, none⟩) P.rsm P.rsc) ∧ W.cell? ⟨w.heap.size + 1, 2, none⟩ = some (.slice (some ⟨bb, o2, none⟩) Q.rsm Q.rsc) ∧ (loadCellsFrom ⟨b, o + k * kk2, none⟩ 0 kk2 #[]).run Tryz.prog W = .ok (cRes x1 P1) W ∧ (loadCellsFrom ⟨bb, o2 + k * kk2, none⟩ 0 kk2 #[]).run Tryz.prog W = .ok (cRes y1 Q1) W) := Lib.hid fun W hW => ⟨(hW.cell (p := ⟨w.heap.size, 2, none⟩) (block_lt g1)).trans g1, (hW.cell (p := ⟨w.heap.size + 1, 2, none⟩) (block_lt g2)).trans g2, ((hat.on hW hG).at HKK2.out).ldN (by rw [hcs]; exact HKK2.out), ((hat2.on hW hG2).at HKK2.out).ldN (by rw [hcs2]; exact HKK2.out)⟩
    clear hp hp2 hx1 hy1 hcell hcs hat hkl hcell2 hcs2 hat2 hkl2 hbw hP1 hQ1 hbG hG hbG2 hG2
    go_wp2_with fail
    clear g1 g2
    go_region_held3 (fun W => W.cell? ⟨w.heap.size, 2, none⟩ = some (.slice (some ⟨b, o, none⟩) P.rsm P.rsc) ∧ W.cell? ⟨w.heap.size + 1, 2, none⟩ = some (.slice (some ⟨bb, o2, none⟩) Q.rsm Q.rsc) ∧ (loadCellsFrom ⟨b, o + k * kk2, none⟩ 0 kk2 #[]).run Tryz.prog W = .ok (cRes x1 P1) W ∧ (loadCellsFrom ⟨bb, o2 + k * kk2, none⟩ 0 kk2 #[]).run Tryz.prog W = .ok (cRes y1 Q1) W) (first | (refine FR.out _ ?_; exact bl; done) | (go_keep; done)) (first
     | (go_at_call 92; refine (C.out _ bl).mono ?_; rintro e vc ⟨rfl, hbc⟩))
    all_goals
     have HBC := Lib.hid hbc
     clear hbc
     cases r
     · have Hn := Lib.hid (show b2 = false by rw [← H2.out]; exact eqB_stop HX1.out HY1.out hr)
       have HN := Lib.hid (show siB x y = false by rw [HR.out, Hn.out]; try simp)
       clear hr
       go_wp2_with fail
       go_ret
       exact ⟨by rw [HN.out]; rfl, by have h1 := HBW.out; have h2 := HBC.out; exact bl⟩
     · have Hy := Lib.hid (eqB_take HX1.out HY1.out HA.out hr)
       clear hr
       go_wp2_with fail
       go_roundw
       case rel => first | exact ⟨k + 1, by omega, by go_num, Lib.hid zQRssd_a, Hy⟩ | ((repeat apply Exists.intro); refine And.intro ?_ rfl; exact ⟨k + 1, by omega, by go_num, Lib.hid zQRssd_a, Hy⟩)
       case measure => simp [intOf]; omega
  · clear k3
    obtain rfl : k = P.rsm := by omega
    have hb : b2 = true := by rw [← H2.out]; have h1 := HA.out; rwa [List.take_of_length_le (by rw [HL2.out.1]; exact Nat.le_refl _), List.take_of_length_le (by rw [HK2.out.1]; have h2 := e2.out; omega)] at h1
    subst hb
    rw [Bool.true_and] at HR
    have HG2 := HW
    go_wp2_with fail
    clear g1 g2 hk k0 h hbw HBW HA HW
    obtain ⟨kk3, hkk3⟩ : ∃ n : Nat, 3 = n := ⟨_, rfl⟩
    have hsz3 : ∀ w, (sizeOf 95).run Tryz.prog w = .ok kk3 w := fun w => by rw [Tryz.sizeOf95, hkk3]
    have HKK3 := Lib.hid hkk3
    clear hkk3
    go_loopw [6] (fun i wr => ∃ k : Nat, k ≤ P.stm ∧ i = .int .i64 (k : Nat) ∧ Hid (Below ((w.alloc (.cells (cSte x P) 42)).alloc (.cells (cSte y Q) 42)).heap.size ((w.alloc (.cells (cSte x P) 42)).alloc (.cells (cSte y Q) 42)) wr) ∧ Hid (eqB soB (x.st.take k) (y.st.take k) = true)) (fun i _ => P.stm - (intOf i).toNat)
    case atStart => exact ⟨0, Nat.zero_le _, rfl, Lib.hid (by have h1 := HG2.out; exact bl), Lib.hid rfl⟩
    case round =>
     obtain ⟨k, hk, rfl, HW, HA⟩ := hrel
     have k0 : (0 : Int) ≤ (k : Int) := by omega
     have k3 : (P.stm : Int) ≤ 9223372036854775807 := by have h2 := HL3.out.2; omega
     have hbw : Below w.heap.size w wr := by have h1 := HW.out; exact bl
     have HBW := Lib.hid hbw
     have q := FX.out wr HW.out
     have g1 := q.1.get (cSte3 x P)
     have g2 := q.2.get (cSte3 y Q)
     clear q
     rcases Nat.lt_or_ge k P.stm with h | h
     · have k1 : (k : Int) < (P.stm : Int) := by omega
       have k2 : (k : Int) < (Q.stm : Int) := by have h2 := e3.out; omega
       have hkl : k < x.st.length := by rw [HL3.out.1]; exact h
       have hkl2 : k < y.st.length := by rw [HK3.out.1]; omega
       obtain ⟨b, o, hp, hbG, hG, hcell⟩ := (HX.out.st.on RSto.map hbw).rows (by omega)
       obtain ⟨c, hcs, hat, hR⟩ := hcell.out k hkl
       obtain ⟨bb, o2, hp2, hbG2, hG2, hcell2⟩ := (HY.out.st.on RSto.map hbw).rows (by omega)
       obtain ⟨d, hcs2, hat2, hR2⟩ := hcell2.out k hkl2
       obtain ⟨x1, hx1⟩ : ∃ z, x.st[k] = z := ⟨_, rfl⟩
       obtain ⟨y1, hy1⟩ : ∃ z, y.st[k] = z := ⟨_, rfl⟩
       have HX1 := Lib.hid (show x.st[k]? = some x1 by rw [← hx1]; exact List.getElem?_eq_getElem hkl)
       have HY1 := Lib.hid (show y.st[k]? = some y1 by rw [← hy1]; exact List.getElem?_eq_getElem hkl2)
       rw [hx1] at hR
       rw [hy1] at hR2
       rw [hp] at g1
       rw [hp2] at g2
       obtain ⟨r, hr⟩ : ∃ r, soB x1 y1 = r := ⟨_, rfl⟩
       have hcsz : c.size = kk3 := by rw [hcs, HKK3.out]
       have hcsz2 : d.size = kk3 := by rw [hcs2, HKK3.out]
       have bt : Big 95 c.size := by rw [hcs]; exact bSto
       have bt2 : Big 95 d.size := by rw [hcs2]; exact bSto
       have ld0 := fun n => At.ldN (w := wr.drewN n) (hat.at HKK3.out) hcsz
       have le0 := fun n => At.ldN (w := wr.drewN n) (hat2.at HKK3.out) hcsz2
       have ld1 := fun n => At.ldV (w := wr.drewN n) (hat.at HKK3.out) bt
       have le1 := fun n => At.ldV (w := wr.drewN n) (hat2.at HKK3.out) bt2
       have ld2 := fun n => At.ldA (w := wr.drewN n) (hat.at HKK3.out) bt
       have le2 := fun n => At.ldA (w := wr.drewN n) (hat2.at HKK3.out) bt2
       have heq : ∀ W, (Op.equalIn 10000 95 (.agg c) (.agg d)).run Tryz.prog W = .ok r W := fun W => by rw [hR, hR2, ← hr]; exact eq_Sto _ _ W
       clear hp hp2 bt bt2 hx1 hy1 hcell hcs hat hR hkl hcell2 hcs2 hat2 hR2 hkl2 hbw
       cases r
       · have Hn := Lib.hid (show b3 = false by rw [← H3.out]; exact eqB_stop HX1.out HY1.out hr)
         exact zQRssd_3
       · exact zQRssd_1
     · clear k3
       obtain rfl : k = P.stm := by omega
       have hb : b3 = true := by rw [← H3.out]; have h1 := HA.out; rwa [List.take_of_length_le (by rw [HL3.out.1]; exact Nat.le_refl _), List.take_of_length_le (by rw [HK3.out.1]; have h2 := e3.out; omega)] at h1
       subst hb
       rw [Bool.true_and] at HR
       have HG3 := HW
       go_wp2_with fail
       clear g1 g2 hk k0 h hbw HBW HA HW
       obtain ⟨kk4, hkk4⟩ : ∃ n : Nat, 3 = n := ⟨_, rfl⟩
       have hsz4 : ∀ w, (sizeOf 97).run Tryz.prog w = .ok kk4 w := fun w => by rw [Tryz.sizeOf97, hkk4]
       have HKK4 := Lib.hid hkk4
       clear hkk4
       go_loopw [7] (fun i wr => ∃ k : Nat, k ≤ P.bem ∧ i = .int .i64 (k : Nat) ∧ Hid (Below ((w.alloc (.cells (cSte x P) 42)).alloc (.cells (cSte y Q) 42)).heap.size ((w.alloc (.cells (cSte x P) 42)).alloc (.cells (cSte y Q) 42)) wr) ∧ Hid (eqB blB (x.be.take k) (y.be.take k) = true)) (fun i _ => P.bem - (intOf i).toNat)
       case atStart => exact ⟨0, Nat.zero_le _, rfl, Lib.hid (by have h1 := HG3.out; exact bl), Lib.hid rfl⟩
       case round =>
        obtain ⟨k, hk, rfl, HW, HA⟩ := hrel
        have k0 : (0 : Int) ≤ (k : Int) := by omega
        have k3 : (P.bem : Int) ≤ 9223372036854775807 := by have h2 := HL4.out.2; omega
        have hbw : Below w.heap.size w wr := by have h1 := HW.out; exact bl
        have HBW := Lib.hid hbw
        have q := FX.out wr HW.out
        have g1 := q.1.get (cSte4 x P)
        have g2 := q.2.get (cSte4 y Q)
        clear q
        rcases Nat.lt_or_ge k P.bem with h | h
        · have k1 : (k : Int) < (P.bem : Int) := by omega
          have k2 : (k : Int) < (Q.bem : Int) := by have h2 := e4.out; omega
          have hkl : k < x.be.length := by rw [HL4.out.1]; exact h
          have hkl2 : k < y.be.length := by rw [HK4.out.1]; omega
          obtain ⟨b, o, hp, hbG, hG, hcell⟩ := (HX.out.be.on RBlt.map hbw).rows (by omega)
          obtain ⟨c, hcs, hat, hR⟩ := hcell.out k hkl
          obtain ⟨bb, o2, hp2, hbG2, hG2, hcell2⟩ := (HY.out.be.on RBlt.map hbw).rows (by omega)
          obtain ⟨d, hcs2, hat2, hR2⟩ := hcell2.out k hkl2
          obtain ⟨x1, hx1⟩ : ∃ z, x.be[k] = z := ⟨_, rfl⟩
          obtain ⟨y1, hy1⟩ : ∃ z, y.be[k] = z := ⟨_, rfl⟩
          have HX1 := Lib.hid (show x.be[k]? = some x1 by rw [← hx1]; exact List.getElem?_eq_getElem hkl)
          have HY1 := Lib.hid (show y.be[k]? = some y1 by rw [← hy1]; exact List.getElem?_eq_getElem hkl2)
          rw [hx1] at hR
          rw [hy1] at hR2
          rw [hp] at g1
          rw [hp2] at g2
          obtain ⟨r, hr⟩ : ∃ r, blB x1 y1 = r := ⟨_, rfl⟩
          have hcsz : c.size = kk4 := by rw [hcs, HKK4.out]
          have hcsz2 : d.size = kk4 := by rw [hcs2, HKK4.out]
          have bt : Big 97 c.size := by rw [hcs]; exact bBlt
          have bt2 : Big 97 d.size := by rw [hcs2]; exact bBlt
          have ld0 := fun n => At.ldN (w := wr.drewN n) (hat.at HKK4.out) hcsz
          have le0 := fun n => At.ldN (w := wr.drewN n) (hat2.at HKK4.out) hcsz2
          have ld1 := fun n => At.ldV (w := wr.drewN n) (hat.at HKK4.out) bt
          have le1 := fun n => At.ldV (w := wr.drewN n) (hat2.at HKK4.out) bt2
          have ld2 := fun n => At.ldA (w := wr.drewN n) (hat.at HKK4.out) bt
          have le2 := fun n => At.ldA (w := wr.drewN n) (hat2.at HKK4.out) bt2
          have heq : ∀ W, (Op.equalIn 10000 97 (.agg c) (.agg d)).run Tryz.prog W = .ok r W := fun W => by rw [hR, hR2, ← hr]; exact eq_Blt _ _ W
          clear hp hp2 bt bt2 hx1 hy1 hcell hcs hat hR hkl hcell2 hcs2 hat2 hR2 hkl2 hbw
          cases r
          · have Hn := Lib.hid (show b4 = false by rw [← H4.out]; exact eqB_stop HX1.out HY1.out hr)
            exact zQRssd_3
          · exact zQRssd_1
        · clear k3
          obtain rfl : k = P.bem := by omega
          have hb : b4 = true := by rw [← H4.out]; have h1 := HA.out; rwa [List.take_of_length_le (by rw [HL4.out.1]; exact Nat.le_refl _), List.take_of_length_le (by rw [HK4.out.1]; have h2 := e4.out; omega)] at h1
          subst hb
          rw [Bool.true_and] at HR
          have HG4 := HW
          go_wp2_with fail
          clear g1 g2 hk k0 h hbw HBW HA HW
          obtain ⟨kk10, hkk10⟩ : ∃ n : Nat, 4 = n := ⟨_, rfl⟩
          have hsz10 : ∀ w, (sizeOf 79).run Tryz.prog w = .ok kk10 w := fun w => by rw [Tryz.sizeOf79, hkk10]
          have HKK10 := Lib.hid hkk10
          clear hkk10
          go_loopw [8] (fun i wr => ∃ k : Nat, k ≤ P.rom ∧ i = .int .i64 (k : Nat) ∧ Hid (Below ((w.alloc (.cells (cSte x P) 42)).alloc (.cells (cSte y Q) 42)).heap.size ((w.alloc (.cells (cSte x P) 42)).alloc (.cells (cSte y Q) 42)) wr) ∧ Hid (eqB roB (x.ro.take k) (y.ro.take k) = true)) (fun i _ => P.rom - (intOf i).toNat)
          case atStart => exact ⟨0, Nat.zero_le _, rfl, Lib.hid (by have h1 := HG4.out; exact bl), Lib.hid rfl⟩
          case round =>
           obtain ⟨k, hk, rfl, HW, HA⟩ := hrel
           have k0 : (0 : Int) ≤ (k : Int) := by omega
           have k3 : (P.rom : Int) ≤ 9223372036854775807 := by have h2 := HL10.out.2; omega
           have hbw : Below w.heap.size w wr := by have h1 := HW.out; exact bl
           have HBW := Lib.hid hbw
           have q := FX.out wr HW.out
           have g1 := q.1.get (cSte10 x P)
           have g2 := q.2.get (cSte10 y Q)
           clear q
           rcases Nat.lt_or_ge k P.rom with h | h
           · have k1 : (k : Int) < (P.rom : Int) := by omega
             have k2 : (k : Int) < (Q.rom : Int) := by have h2 := e10.out; omega
             have hkl : k < x.ro.length := by rw [HL10.out.1]; exact h
             have hkl2 : k < y.ro.length := by rw [HK10.out.1]; omega
             obtain ⟨b, o, hp, hbG, hG, hcell⟩ := (HX.out.ro.on RRou.map hbw).rows (by omega)
             obtain ⟨c, hcs, hat, hR⟩ := hcell.out k hkl
             obtain ⟨bb, o2, hp2, hbG2, hG2, hcell2⟩ := (HY.out.ro.on RRou.map hbw).rows (by omega)
             obtain ⟨d, hcs2, hat2, hR2⟩ := hcell2.out k hkl2
             obtain ⟨x1, hx1⟩ : ∃ z, x.ro[k] = z := ⟨_, rfl⟩
             obtain ⟨y1, hy1⟩ : ∃ z, y.ro[k] = z := ⟨_, rfl⟩
             have HX1 := Lib.hid (show x.ro[k]? = some x1 by rw [← hx1]; exact List.getElem?_eq_getElem hkl)
             have HY1 := Lib.hid (show y.ro[k]? = some y1 by rw [← hy1]; exact List.getElem?_eq_getElem hkl2)
             rw [hx1] at hR
             rw [hy1] at hR2
             rw [hp] at g1
             rw [hp2] at g2
             obtain ⟨r, hr⟩ : ∃ r, roB x1 y1 = r := ⟨_, rfl⟩
             obtain ⟨P1, rfl, hP1⟩ := hR
             obtain ⟨Q1, rfl, hQ1⟩ := hR2
             have HP1 := Lib.hid hP1
             have HQ1 := Lib.hid hQ1
             have bt : Big 79 (cRou x1 P1).size := by rw [hcs]; exact bRou
             have bt2 : Big 79 (cRou y1 Q1).size := by rw [hcs2]; exact bRou
             have FR : Hid (∀ W, Below wr.heap.size wr W → W.cell? ⟨w.heap.size, 10, none⟩ = some (.slice (some ⟨b, o, none⟩) P.rom P.roc) ∧ W.cell? ⟨w.heap.size + 1, 10, none⟩ = some (.slice (some ⟨bb, o2, none⟩) Q.rom Q.roc) ∧ (loadCellsFrom ⟨b, o + k * kk10, none⟩ 0 kk10 #[]).run Tryz.prog W = .ok (cRou x1 P1) W ∧ (loadCellsFrom ⟨bb, o2 + k * kk10, none⟩ 0 kk10 #[]).run Tryz.prog W = .ok (cRou y1 Q1) W) := Lib.hid fun W hW => ⟨(hW.cell (p := ⟨w.heap.size, 10, none⟩) (block_lt g1)).trans g1, (hW.cell (p := ⟨w.heap.size + 1, 10, none⟩) (block_lt g2)).trans g2, ((hat.on hW hG).at HKK10.out).ldN (by rw [hcs]; exact HKK10.out), ((hat2.on hW hG2).at HKK10.out).ldN (by rw [hcs2]; exact HKK10.out)⟩
             have sp0 := fun (z : Array Value) (hz : z.size = 4) => put_C bt (cRou_one x1 P1) z zQRssd_9
             have sp1 := fun (z : Array Value) (hz : z.size = 4) => put_V bt (cRou_one x1 P1) z zQRssd_9
             have sp2 := fun (z : Array Value) (hz : z.size = 4) => put_A bt (cRou_one x1 P1) z zQRssd_9
             have sp3 := fun (z : Array Value) (hz : z.size = 4) => put_DC bt (cRou_one x1 P1) z zQRssd_9
             have sp4 := fun (z : Array Value) (hz : z.size = 4) => put_DV bt (cRou_one x1 P1) z zQRssd_9
             have sp5 := fun (z : Array Value) (hz : z.size = 4) => put_DA bt (cRou_one x1 P1) z zQRssd_9
             have sp6 := fun (z : Array Value) (hz : z.size = 4) => pre_C bt (cRou_one x1 P1) z zQRssd_9
             have sp7 := fun (z : Array Value) (hz : z.size = 4) => pre_V bt (cRou_one x1 P1) z zQRssd_9
             have sp8 := fun (z : Array Value) (hz : z.size = 4) => pre_A bt (cRou_one x1 P1) z zQRssd_9
             have sp9 := fun (z : Array Value) (hz : z.size = 4) => pre_DC bt (cRou_one x1 P1) z zQRssd_9
             have sp10 := fun (z : Array Value) (hz : z.size = 4) => pre_DV bt (cRou_one x1 P1) z zQRssd_9
             have sp11 := fun (z : Array Value) (hz : z.size = 4) => pre_DA bt (cRou_one x1 P1) z zQRssd_9
             have sp12 := fun (z : Array Value) (hz : z.size = 4) => put_C bt2 (cRou_one y1 Q1) z zQRssd_8
             have sp13 := fun (z : Array Value) (hz : z.size = 4) => put_V bt2 (cRou_one y1 Q1) z zQRssd_8
             have sp14 := fun (z : Array Value) (hz : z.size = 4) => put_A bt2 (cRou_one y1 Q1) z zQRssd_8
             have sp15 := fun (z : Array Value) (hz : z.size = 4) => put_DC bt2 (cRou_one y1 Q1) z zQRssd_8
             have sp16 := fun (z : Array Value) (hz : z.size = 4) => put_DV bt2 (cRou_one y1 Q1) z zQRssd_8
             have sp17 := fun (z : Array Value) (hz : z.size = 4) => put_DA bt2 (cRou_one y1 Q1) z zQRssd_8
             have sp18 := fun (z : Array Value) (hz : z.size = 4) => pre_C bt2 (cRou_one y1 Q1) z zQRssd_8
             have sp19 := fun (z : Array Value) (hz : z.size = 4) => pre_V bt2 (cRou_one y1 Q1) z zQRssd_8
             have sp20 := fun (z : Array Value) (hz : z.size = 4) => pre_A bt2 (cRou_one y1 Q1) z zQRssd_8
             have sp21 := fun (z : Array Value) (hz : z.size = 4) => pre_DC bt2 (cRou_one y1 Q1) z zQRssd_8
             have sp22 := fun (z : Array Value) (hz : z.size = 4) => pre_DV bt2 (cRou_one y1 Q1) z zQRssd_8
             have sp23 := fun (z : Array Value) (hz : z.size = 4) => pre_DA bt2 (cRou_one y1 Q1) z zQRssd_8
             clear hp hp2 hx1 hy1 hcell hcs hat hkl hcell2 hcs2 hat2 hkl2 hbw hP1 hQ1 hbG hG hbG2 hG2 bt bt2
             go_upto_region 23 with fail
             clear g1 g2
             go_cut [9, 10] from 175 to 220 (TwoBox wr 79 (cRou x1 P1) (cRou y1 Q1))
             case first =>
              go_region_held3 (fun W => W.cell? ⟨w.heap.size, 10, none⟩ = some (.slice (some ⟨b, o, none⟩) P.rom P.roc) ∧ W.cell? ⟨w.heap.size + 1, 10, none⟩ = some (.slice (some ⟨bb, o2, none⟩) Q.rom Q.roc) ∧ (loadCellsFrom ⟨b, o + k * kk10, none⟩ 0 kk10 #[]).run Tryz.prog W = .ok (cRou x1 P1) W ∧ (loadCellsFrom ⟨bb, o2 + k * kk10, none⟩ 0 kk10 #[]).run Tryz.prog W = .ok (cRou y1 Q1) W) (first | (refine FR.out _ ?_; exact bl; done) | (go_keep; done)) (fail)
              all_goals
               go_wp2_with fail
               go_meet
               first
                | exact ⟨_, _, rfl, rfl, (twoBox_new wr 79 (cRou x1 P1) (cRou y1 Q1)).1, (twoBox_new wr 79 (cRou x1 P1) (cRou y1 Q1)).2, bl⟩
                | exact ⟨_, _, rfl, rfl, (twoBox_new wr 79 (cRou y1 Q1) (cRou x1 P1)).2, (twoBox_new wr 79 (cRou y1 Q1) (cRou x1 P1)).1, bl⟩
             case rest =>
              obtain ⟨g1, g2, rfl, rfl, B1, B2, hBc⟩ := hcut
              rename_i wc
              clear sp0 sp1 sp2 sp3 sp4 sp5 sp6 sp7 sp8 sp9 sp10 sp11 sp12 sp13 sp14 sp15 sp16 sp17 sp18 sp19 sp20 sp21 sp22 sp23 FR
              have HC : Hid (Below w.heap.size w wc) := Lib.hid (by have h1 := HBW.out; exact bl)
              have HCW : Hid (Below wr.heap.size wr wc) := Lib.hid hBc
              have FB : Hid (∀ W, Below wc.heap.size wc W → Box W g1 79 (cRou x1 P1) ∧ Box W g2 79 (cRou y1 Q1)) := Lib.hid fun W hb => ⟨B1.on hb, B2.on hb⟩
              clear B1 B2 hBc
              obtain ⟨r1, q1⟩ : ∃ r, txB x1.nm y1.nm = r := ⟨_, rfl⟩
              obtain ⟨r2, q2⟩ : ∃ r, eqB fdB x1.ps y1.ps = r := ⟨_, rfl⟩
              obtain ⟨r3, q3⟩ : ∃ r, eqB fdB x1.ls y1.ls = r := ⟨_, rfl⟩
              obtain ⟨r4, q4⟩ : ∃ r, sameSL x1.bo y1.bo = r := ⟨_, rfl⟩
              have hr2 : r = (r1 && r2 && r3 && r4) := by rw [← hr]; unfold roB; rw [q1, q2, q3, q4]
              have D2 := Lib.hid (fun W (hW : Below wr.heap.size wr W) => (show Calls Tryz.prog 93 #[.slice P1.psp P1.psm P1.psc, .slice Q1.psp Q1.psm Q1.psc] W (Gives (.bool r2) W) by rw [← q2]; exact rsame_Fld (Lib.hid (HP1.out.on hW).ps) (Lib.hid (HQ1.out.on hW).ps)))
              have D3 := Lib.hid (fun W (hW : Below wr.heap.size wr W) => (show Calls Tryz.prog 93 #[.slice P1.lsp P1.lsm P1.lsc, .slice Q1.lsp Q1.lsm Q1.lsc] W (Gives (.bool r3) W) by rw [← q3]; exact rsame_Fld (Lib.hid (HP1.out.on hW).ls) (Lib.hid (HQ1.out.on hW).ls)))
              have D4 := Lib.hid (fun W (hW : Below wr.heap.size wr W) => (show Calls Tryz.prog 94 #[.slice P1.bop P1.bom P1.boc, .slice Q1.bop Q1.bom Q1.boc] W (Gives (.bool r4) W) by rw [← q4]; exact Sm.rsameS_any x1.bo y1.bo P1.bop P1.bom P1.boc Q1.bop Q1.bom Q1.boc W (HP1.out.on hW).bo (HQ1.out.on hW).bo))
              have t1 : (x1.nm.toList == y1.nm.toList) = r1 := by rw [tx_is]; exact q1
              have HRR := Lib.hid (And.intro hr hr2)
              clear q1 q2 q3 q4 hr hr2
              have q := FB.out wc (Below.refl _ _)
              have m0 := q.1.get (cRou0 x1 P1)
              have l0 := q.2.get (cRou0 y1 Q1)
              have m1 := q.1.get (cRou1 x1 P1)
              have l1 := q.2.get (cRou1 y1 Q1)
              clear q
              cases r1 with
              | false =>
               have hr : roB x1 y1 = false := by rw [HRR.out.1, HRR.out.2]; simp
               have Hn := Lib.hid (show b10 = false by rw [← H10.out]; exact eqB_stop HX1.out HY1.out hr)
               exact zQRssd_5
              | true =>
              go_wp2_with fail
              refine (D2.out _ HCW.out).mono ?_
              rintro e wd0 ⟨rfl, hbd⟩
              have HC0 : Hid (Below wr.heap.size wr wd0) := Lib.hid (by have h1 := HCW.out; exact bl)
              have HE0 : Hid (Below wc.heap.size wc wd0) := Lib.hid (by exact hbd)
              clear hbd m0 l0 m1 l1
              have q := FB.out wd0 HE0.out
              have m0 := q.1.get (cRou2 x1 P1)
              have l0 := q.2.get (cRou2 y1 Q1)
              have m1 : True := trivial
              have l1 : True := trivial
              clear q
              cases r2 with
              | false =>
               have hr : roB x1 y1 = false := by rw [HRR.out.1, HRR.out.2]; simp
               have Hn := Lib.hid (show b10 = false by rw [← H10.out]; exact eqB_stop HX1.out HY1.out hr)
               exact zQRssd_4
              | true =>
              go_wp2_with fail
              refine (D3.out _ HC0.out).mono ?_
              rintro e wd1 ⟨rfl, hbd⟩
              have HC1 : Hid (Below wr.heap.size wr wd1) := Lib.hid (by have h1 := HC0.out; exact bl)
              have HE1 : Hid (Below wc.heap.size wc wd1) := Lib.hid (by have h1 := HE0.out; exact bl)
              clear hbd m0 l0 m1 l1
              have q := FB.out wd1 HE1.out
              have m0 := q.1.get (cRou3 x1 P1)
              have l0 := q.2.get (cRou3 y1 Q1)
              have m1 : True := trivial
              have l1 : True := trivial
              clear q
              cases r3 with
              | false =>
               have hr : roB x1 y1 = false := by rw [HRR.out.1, HRR.out.2]; simp
               have Hn := Lib.hid (show b10 = false by rw [← H10.out]; exact eqB_stop HX1.out HY1.out hr)
               have HN := Lib.hid (show siB x y = false by rw [HR.out, Hn.out]; try simp)
               clear hr
               go_wp2_with fail
               go_ret
               exact ⟨by rw [HN.out]; rfl, by have h1 := HBW.out; have h2 := HC1.out; exact bl⟩
              | true =>
              go_wp2_with fail
              refine (D4.out _ HC1.out).mono ?_
              rintro e wd2 ⟨rfl, hbd⟩
              have HC2 : Hid (Below wr.heap.size wr wd2) := Lib.hid (by have h1 := HC1.out; exact bl)
              have HE2 : Hid (Below wc.heap.size wc wd2) := Lib.hid (by have h1 := HE1.out; exact bl)
              clear hbd m0 l0 m1 l1
              have m0 : True := trivial
              cases r4 with
              | false =>
               have hr : roB x1 y1 = false := by rw [HRR.out.1, HRR.out.2]; simp
               have Hn := Lib.hid (show b10 = false by rw [← H10.out]; exact eqB_stop HX1.out HY1.out hr)
               have HN := Lib.hid (show siB x y = false by rw [HR.out, Hn.out]; try simp)
               clear hr
               go_wp2_with fail
               go_ret
               exact ⟨by rw [HN.out]; rfl, by have h1 := HBW.out; have h2 := HC2.out; exact bl⟩
              | true =>
              have hr : roB x1 y1 = true := by rw [HRR.out.1, HRR.out.2]; rfl
              have Hy := Lib.hid (eqB_take HX1.out HY1.out HA.out hr)
              clear hr
              go_wp2_with fail
              go_roundw
              case rel => first | exact ⟨k + 1, by omega, by go_num, Lib.hid (by have h1 := HW.out; have h2 := HC2.out; exact bl), Hy⟩ | ((repeat apply Exists.intro); refine And.intro ?_ rfl; exact ⟨k + 1, by omega, by go_num, Lib.hid (by have h1 := HW.out; have h2 := HC2.out; exact bl), Hy⟩)
              case measure => simp [intOf]; omega
           · clear k3
             obtain rfl : k = P.rom := by omega
             have hb : b10 = true := by rw [← H10.out]; have h1 := HA.out; rwa [List.take_of_length_le (by rw [HL10.out.1]; exact Nat.le_refl _), List.take_of_length_le (by rw [HK10.out.1]; have h2 := e10.out; omega)] at h1
             subst hb
             rw [Bool.true_and] at HR
             have HG10 := HW
             go_wp2_with fail
             clear g1 g2 hk k0 h hbw HBW HA HW
             obtain ⟨kk11, hkk11⟩ : ∃ n : Nat, 5 = n := ⟨_, rfl⟩
             have hsz11 : ∀ w, (sizeOf 105).run Tryz.prog w = .ok kk11 w := fun w => by rw [Tryz.sizeOf105, hkk11]
             have HKK11 := Lib.hid hkk11
             clear hkk11
             go_loopw [11] (fun i wr => ∃ k : Nat, k ≤ P.ssm ∧ i = .int .i64 (k : Nat) ∧ Hid (Below ((w.alloc (.cells (cSte x P) 42)).alloc (.cells (cSte y Q) 42)).heap.size ((w.alloc (.cells (cSte x P) 42)).alloc (.cells (cSte y Q) 42)) wr) ∧ Hid (eqB saB (x.ss.take k) (y.ss.take k) = true)) (fun i _ => P.ssm - (intOf i).toNat)
             case atStart => exact ⟨0, Nat.zero_le _, rfl, Lib.hid (by have h1 := HG10.out; exact bl), Lib.hid rfl⟩
             case round =>
              obtain ⟨k, hk, rfl, HW, HA⟩ := hrel
              have k0 : (0 : Int) ≤ (k : Int) := by omega
              have k3 : (P.ssm : Int) ≤ 9223372036854775807 := by have h2 := HL11.out.2; omega
              have hbw : Below w.heap.size w wr := by have h1 := HW.out; exact bl
              have HBW := Lib.hid hbw
              have q := FX.out wr HW.out
              have g1 := q.1.get (cSte11 x P)
              have g2 := q.2.get (cSte11 y Q)
              clear q
              rcases Nat.lt_or_ge k P.ssm with h | h
              · have k1 : (k : Int) < (P.ssm : Int) := by omega
                have k2 : (k : Int) < (Q.ssm : Int) := by have h2 := e11.out; omega
                have hkl : k < x.ss.length := by rw [HL11.out.1]; exact h
                have hkl2 : k < y.ss.length := by rw [HK11.out.1]; omega
                obtain ⟨b, o, hp, hbG, hG, hcell⟩ := (HX.out.ss.on RSta.map hbw).rows (by omega)
                obtain ⟨c, hcs, hat, hR⟩ := hcell.out k hkl
                obtain ⟨bb, o2, hp2, hbG2, hG2, hcell2⟩ := (HY.out.ss.on RSta.map hbw).rows (by omega)
                obtain ⟨d, hcs2, hat2, hR2⟩ := hcell2.out k hkl2
                obtain ⟨x1, hx1⟩ : ∃ z, x.ss[k] = z := ⟨_, rfl⟩
                obtain ⟨y1, hy1⟩ : ∃ z, y.ss[k] = z := ⟨_, rfl⟩
                have HX1 := Lib.hid (show x.ss[k]? = some x1 by rw [← hx1]; exact List.getElem?_eq_getElem hkl)
                have HY1 := Lib.hid (show y.ss[k]? = some y1 by rw [← hy1]; exact List.getElem?_eq_getElem hkl2)
                rw [hx1] at hR
                rw [hy1] at hR2
                rw [hp] at g1
                rw [hp2] at g2
                obtain ⟨r, hr⟩ : ∃ r, saB x1 y1 = r := ⟨_, rfl⟩
                obtain ⟨P1, rfl, hP1⟩ := hR
                obtain ⟨Q1, rfl, hQ1⟩ := hR2
                have HP1 := Lib.hid hP1
                have HQ1 := Lib.hid hQ1
                have bt : Big 105 (cSta x1 P1).size := by rw [hcs]; exact bSta
                have bt2 : Big 105 (cSta y1 Q1).size := by rw [hcs2]; exact bSta
                have FR : Hid (∀ W, Below wr.heap.size wr W → W.cell? ⟨w.heap.size, 11, none⟩ = some (.slice (some ⟨b, o, none⟩) P.ssm P.ssc) ∧ W.cell? ⟨w.heap.size + 1, 11, none⟩ = some (.slice (some ⟨bb, o2, none⟩) Q.ssm Q.ssc) ∧ (loadCellsFrom ⟨b, o + k * kk11, none⟩ 0 kk11 #[]).run Tryz.prog W = .ok (cSta x1 P1) W ∧ (loadCellsFrom ⟨bb, o2 + k * kk11, none⟩ 0 kk11 #[]).run Tryz.prog W = .ok (cSta y1 Q1) W) := Lib.hid fun W hW => ⟨(hW.cell (p := ⟨w.heap.size, 11, none⟩) (block_lt g1)).trans g1, (hW.cell (p := ⟨w.heap.size + 1, 11, none⟩) (block_lt g2)).trans g2, ((hat.on hW hG).at HKK11.out).ldN (by rw [hcs]; exact HKK11.out), ((hat2.on hW hG2).at HKK11.out).ldN (by rw [hcs2]; exact HKK11.out)⟩
                have sp0 := fun (z : Array Value) (hz : z.size = 5) => put_C bt (cSta_one x1 P1) z zQRssd_9
                have sp1 := fun (z : Array Value) (hz : z.size = 5) => put_V bt (cSta_one x1 P1) z zQRssd_9
                have sp2 := fun (z : Array Value) (hz : z.size = 5) => put_A bt (cSta_one x1 P1) z zQRssd_9
                have sp3 := fun (z : Array Value) (hz : z.size = 5) => put_DC bt (cSta_one x1 P1) z zQRssd_9
                have sp4 := fun (z : Array Value) (hz : z.size = 5) => put_DV bt (cSta_one x1 P1) z zQRssd_9
                have sp5 := fun (z : Array Value) (hz : z.size = 5) => put_DA bt (cSta_one x1 P1) z zQRssd_9
                have sp6 := fun (z : Array Value) (hz : z.size = 5) => pre_C bt (cSta_one x1 P1) z zQRssd_9
                have sp7 := fun (z : Array Value) (hz : z.size = 5) => pre_V bt (cSta_one x1 P1) z zQRssd_9
                have sp8 := fun (z : Array Value) (hz : z.size = 5) => pre_A bt (cSta_one x1 P1) z zQRssd_9
                have sp9 := fun (z : Array Value) (hz : z.size = 5) => pre_DC bt (cSta_one x1 P1) z zQRssd_9
                have sp10 := fun (z : Array Value) (hz : z.size = 5) => pre_DV bt (cSta_one x1 P1) z zQRssd_9
                have sp11 := fun (z : Array Value) (hz : z.size = 5) => pre_DA bt (cSta_one x1 P1) z zQRssd_9
                have sp12 := fun (z : Array Value) (hz : z.size = 5) => put_C bt2 (cSta_one y1 Q1) z zQRssd_8
                have sp13 := fun (z : Array Value) (hz : z.size = 5) => put_V bt2 (cSta_one y1 Q1) z zQRssd_8
                have sp14 := fun (z : Array Value) (hz : z.size = 5) => put_A bt2 (cSta_one y1 Q1) z zQRssd_8
                have sp15 := fun (z : Array Value) (hz : z.size = 5) => put_DC bt2 (cSta_one y1 Q1) z zQRssd_8
                have sp16 := fun (z : Array Value) (hz : z.size = 5) => put_DV bt2 (cSta_one y1 Q1) z zQRssd_8
                have sp17 := fun (z : Array Value) (hz : z.size = 5) => put_DA bt2 (cSta_one y1 Q1) z zQRssd_8
                have sp18 := fun (z : Array Value) (hz : z.size = 5) => pre_C bt2 (cSta_one y1 Q1) z zQRssd_8
                have sp19 := fun (z : Array Value) (hz : z.size = 5) => pre_V bt2 (cSta_one y1 Q1) z zQRssd_8
                have sp20 := fun (z : Array Value) (hz : z.size = 5) => pre_A bt2 (cSta_one y1 Q1) z zQRssd_8
                have sp21 := fun (z : Array Value) (hz : z.size = 5) => pre_DC bt2 (cSta_one y1 Q1) z zQRssd_8
                have sp22 := fun (z : Array Value) (hz : z.size = 5) => pre_DV bt2 (cSta_one y1 Q1) z zQRssd_8
                have sp23 := fun (z : Array Value) (hz : z.size = 5) => pre_DA bt2 (cSta_one y1 Q1) z zQRssd_8
                clear hp hp2 hx1 hy1 hcell hcs hat hkl hcell2 hcs2 hat2 hkl2 hbw hP1 hQ1 hbG hG hbG2 hG2 bt bt2
                go_upto_region 29 with fail
                clear g1 g2
                go_cut [12, 13] from 221 to 271 (TwoBox wr 105 (cSta x1 P1) (cSta y1 Q1))
                case first =>
                 go_region_held3 (fun W => W.cell? ⟨w.heap.size, 11, none⟩ = some (.slice (some ⟨b, o, none⟩) P.ssm P.ssc) ∧ W.cell? ⟨w.heap.size + 1, 11, none⟩ = some (.slice (some ⟨bb, o2, none⟩) Q.ssm Q.ssc) ∧ (loadCellsFrom ⟨b, o + k * kk11, none⟩ 0 kk11 #[]).run Tryz.prog W = .ok (cSta x1 P1) W ∧ (loadCellsFrom ⟨bb, o2 + k * kk11, none⟩ 0 kk11 #[]).run Tryz.prog W = .ok (cSta y1 Q1) W) (first | (refine FR.out _ ?_; exact bl; done) | (go_keep; done)) (fail)
                 all_goals
                  go_wp2_with fail
                  go_meet
                  first
                   | exact ⟨_, _, rfl, rfl, (twoBox_new wr 105 (cSta x1 P1) (cSta y1 Q1)).1, (twoBox_new wr 105 (cSta x1 P1) (cSta y1 Q1)).2, bl⟩
                   | exact ⟨_, _, rfl, rfl, (twoBox_new wr 105 (cSta y1 Q1) (cSta x1 P1)).2, (twoBox_new wr 105 (cSta y1 Q1) (cSta x1 P1)).1, bl⟩
                case rest =>
                 obtain ⟨g1, g2, rfl, rfl, B1, B2, hBc⟩ := hcut
                 rename_i wc
                 clear sp0 sp1 sp2 sp3 sp4 sp5 sp6 sp7 sp8 sp9 sp10 sp11 sp12 sp13 sp14 sp15 sp16 sp17 sp18 sp19 sp20 sp21 sp22 sp23 FR
                 have HC : Hid (Below w.heap.size w wc) := Lib.hid (by have h1 := HBW.out; exact bl)
                 have HCW : Hid (Below wr.heap.size wr wc) := Lib.hid hBc
                 have FB : Hid (∀ W, Below wc.heap.size wc W → Box W g1 105 (cSta x1 P1) ∧ Box W g2 105 (cSta y1 Q1)) := Lib.hid fun W hb => ⟨B1.on hb, B2.on hb⟩
                 clear B1 B2 hBc
                 obtain ⟨r1, q1⟩ : ∃ r, txB x1.ro y1.ro = r := ⟨_, rfl⟩
                 obtain ⟨r2, q2⟩ : ∃ r, inB x1.a y1.a = r := ⟨_, rfl⟩
                 obtain ⟨r3, q3⟩ : ∃ r, inB x1.e y1.e = r := ⟨_, rfl⟩
                 obtain ⟨r4, q4⟩ : ∃ r, inB x1.u y1.u = r := ⟨_, rfl⟩
                 obtain ⟨r5, q5⟩ : ∃ r, eqB inB x1.ar y1.ar = r := ⟨_, rfl⟩
                 have hr2 : r = (r1 && r5 && r2 && r3 && r4) := by rw [← hr]; unfold saB; rw [q1, q2, q3, q4, q5]
                 have D5 := Lib.hid (fun W (hW : Below wr.heap.size wr W) => (show Calls Tryz.prog 95 #[.slice P1.arp P1.arm P1.arc, .slice Q1.arp Q1.arm Q1.arc] W (Gives (.bool r5) W) by rw [← q5]; exact rsame_Int (Lib.hid (HP1.out.on hW).ar) (Lib.hid (HQ1.out.on hW).ar)))
                 have t1 : (x1.ro.toList == y1.ro.toList) = r1 := by rw [tx_is]; exact q1
                 have t2 : (x1.a == y1.a) = r2 := by rw [in_is]; exact q2
                 have t3 : (x1.e == y1.e) = r3 := by rw [in_is]; exact q3
                 have t4 : (x1.u == y1.u) = r4 := by rw [in_is]; exact q4
                 have s2 : (x1.a != y1.a) = !r2 := by rw [bne, t2]
                 have s3 : (x1.e != y1.e) = !r3 := by rw [bne, t3]
                 have s4 : (x1.u != y1.u) = !r4 := by rw [bne, t4]
                 have HRR := Lib.hid (And.intro hr hr2)
                 clear q1 q2 q3 q4 q5 hr hr2
                 have q := FB.out wc (Below.refl _ _)
                 have m0 := q.1.get (cSta0 x1 P1)
                 have l0 := q.2.get (cSta0 y1 Q1)
                 have m1 := q.1.get (cSta1 x1 P1)
                 have l1 := q.2.get (cSta1 y1 Q1)
                 have m2 := q.1.get (cSta2 x1 P1)
                 have l2 := q.2.get (cSta2 y1 Q1)
                 have m3 := q.1.get (cSta3 x1 P1)
                 have l3 := q.2.get (cSta3 y1 Q1)
                 have m4 := q.1.get (cSta4 x1 P1)
                 have l4 := q.2.get (cSta4 y1 Q1)
                 clear q
                 cases r1 with
                 | false =>
                  exact zQRssd_0
                 | true =>
                 cases r2 with
                 | false =>
                  simp only [Bool.not_false] at s2
                  exact zQRssd_0
                 | true =>
                 simp only [Bool.not_true] at s2
                 cases r3 with
                 | false =>
                  simp only [Bool.not_false] at s3
                  exact zQRssd_0
                 | true =>
                 simp only [Bool.not_true] at s3
                 cases r4 with
                 | false =>
                  simp only [Bool.not_false] at s4
                  exact zQRssd_0
                 | true =>
                 simp only [Bool.not_true] at s4
                 go_wp2_with fail
                 refine (D5.out _ HCW.out).mono ?_
                 rintro e wd ⟨rfl, hbd⟩
                 have HC0 : Hid (Below wr.heap.size wr wd) := Lib.hid (by have h1 := HCW.out; exact bl)
                 clear hbd m0 l0 m1 l1 m2 l2 m3 l3 m4 l4
                 cases r5 with
                 | false =>
                  have hr : saB x1 y1 = false := by rw [HRR.out.1, HRR.out.2]; simp
                  have Hn := Lib.hid (show b11 = false by rw [← H11.out]; exact eqB_stop HX1.out HY1.out hr)
                  exact zQRssd_4
                 | true =>
                 have hr : saB x1 y1 = true := by rw [HRR.out.1, HRR.out.2]; rfl
                 have Hy := Lib.hid (eqB_take HX1.out HY1.out HA.out hr)
                 clear hr
                 go_wp2_with fail
                 go_roundw
                 case rel => first | exact ⟨k + 1, by omega, by go_num, Lib.hid (by have h1 := HW.out; have h2 := HC0.out; exact bl), Hy⟩ | ((repeat apply Exists.intro); refine And.intro ?_ rfl; exact ⟨k + 1, by omega, by go_num, Lib.hid (by have h1 := HW.out; have h2 := HC0.out; exact bl), Hy⟩)
                 case measure => simp [intOf]; omega
              · clear k3
                obtain rfl : k = P.ssm := by omega
                have hb : b11 = true := by rw [← H11.out]; have h1 := HA.out; rwa [List.take_of_length_le (by rw [HL11.out.1]; exact Nat.le_refl _), List.take_of_length_le (by rw [HK11.out.1]; have h2 := e11.out; omega)] at h1
                subst hb
                rw [Bool.true_and] at HR
                have HG11 := HW
                go_wp2_with fail
                clear g1 g2 hk k0 h hbw HBW HA HW
                obtain ⟨kk12, hkk12⟩ : ∃ n : Nat, 3 = n := ⟨_, rfl⟩
                have hsz12 : ∀ w, (sizeOf 57).run Tryz.prog w = .ok kk12 w := fun w => by rw [Tryz.sizeOf57, hkk12]
                have HKK12 := Lib.hid hkk12
                clear hkk12
                go_loopw [14] (fun i wr => ∃ k : Nat, k ≤ P.lam ∧ i = .int .i64 (k : Nat) ∧ Hid (Below ((w.alloc (.cells (cSte x P) 42)).alloc (.cells (cSte y Q) 42)).heap.size ((w.alloc (.cells (cSte x P) 42)).alloc (.cells (cSte y Q) 42)) wr) ∧ Hid (eqB lwB (x.la.take k) (y.la.take k) = true)) (fun i _ => P.lam - (intOf i).toNat)
                case atStart => exact ⟨0, Nat.zero_le _, rfl, Lib.hid (by have h1 := HG11.out; exact bl), Lib.hid rfl⟩
                case round =>
                 obtain ⟨k, hk, rfl, HW, HA⟩ := hrel
                 have k0 : (0 : Int) ≤ (k : Int) := by omega
                 have k3 : (P.lam : Int) ≤ 9223372036854775807 := by have h2 := HL12.out.2; omega
                 have hbw : Below w.heap.size w wr := by have h1 := HW.out; exact bl
                 have HBW := Lib.hid hbw
                 have q := FX.out wr HW.out
                 have g1 := q.1.get (cSte12 x P)
                 have g2 := q.2.get (cSte12 y Q)
                 clear q
                 rcases Nat.lt_or_ge k P.lam with h | h
                 · have k1 : (k : Int) < (P.lam : Int) := by omega
                   have k2 : (k : Int) < (Q.lam : Int) := by have h2 := e12.out; omega
                   have hkl : k < x.la.length := by rw [HL12.out.1]; exact h
                   have hkl2 : k < y.la.length := by rw [HK12.out.1]; omega
                   obtain ⟨b, o, hp, hbG, hG, hcell⟩ := (HX.out.la.on RLw.map hbw).rows (by omega)
                   obtain ⟨c, hcs, hat, hR⟩ := hcell.out k hkl
                   obtain ⟨bb, o2, hp2, hbG2, hG2, hcell2⟩ := (HY.out.la.on RLw.map hbw).rows (by omega)
                   obtain ⟨d, hcs2, hat2, hR2⟩ := hcell2.out k hkl2
                   obtain ⟨x1, hx1⟩ : ∃ z, x.la[k] = z := ⟨_, rfl⟩
                   obtain ⟨y1, hy1⟩ : ∃ z, y.la[k] = z := ⟨_, rfl⟩
                   have HX1 := Lib.hid (show x.la[k]? = some x1 by rw [← hx1]; exact List.getElem?_eq_getElem hkl)
                   have HY1 := Lib.hid (show y.la[k]? = some y1 by rw [← hy1]; exact List.getElem?_eq_getElem hkl2)
                   rw [hx1] at hR
                   rw [hy1] at hR2
                   rw [hp] at g1
                   rw [hp2] at g2
                   obtain ⟨r, hr⟩ : ∃ r, lwB x1 y1 = r := ⟨_, rfl⟩
                   obtain ⟨P1, rfl, hP1⟩ := hR
                   obtain ⟨Q1, rfl, hQ1⟩ := hR2
                   have C := Lib.hid (fun W (hW : Below wr.heap.size wr W) => (show Calls Tryz.prog 96 #[.agg (cLw x1 P1), .agg (cLw y1 Q1)] W (Gives (.bool r) W) by rw [← hr]; exact rlaw_same x1 y1 P1 Q1 W (hP1.on hW) (hQ1.on hW)))
                   have FR : Hid (∀ W, Below wr.heap.size wr W → W.cell? ⟨w.heap.size, 12, none⟩ = some (.slice (some ⟨b, o, none⟩) P.lam P.lac) ∧ W.cell? ⟨w.heap.size + 1, 12, none⟩ = some (.slice (some ⟨bb, o2, none⟩) Q.lam Q.lac) ∧ (loadCellsFrom ⟨b, o + k * kk12, none⟩ 0 kk12 #[]).run Tryz.prog W = .ok (cLw x1 P1) W ∧ (loadCellsFrom ⟨bb, o2 + k * kk12, none⟩ 0 kk12 #[]).run Tryz.prog W = .ok (cLw y1 Q1) W) := Lib.hid fun W hW => ⟨(hW.cell (p := ⟨w.heap.size, 12, none⟩) (block_lt g1)).trans g1, (hW.cell (p := ⟨w.heap.size + 1, 12, none⟩) (block_lt g2)).trans g2, ((hat.on hW hG).at HKK12.out).ldN (by rw [hcs]; exact HKK12.out), ((hat2.on hW hG2).at HKK12.out).ldN (by rw [hcs2]; exact HKK12.out)⟩
                   clear hp hp2 hx1 hy1 hcell hcs hat hkl hcell2 hcs2 hat2 hkl2 hbw hP1 hQ1 hbG hG hbG2 hG2
                   go_wp2_with fail
                   clear g1 g2
                   go_region_held3 (fun W => W.cell? ⟨w.heap.size, 12, none⟩ = some (.slice (some ⟨b, o, none⟩) P.lam P.lac) ∧ W.cell? ⟨w.heap.size + 1, 12, none⟩ = some (.slice (some ⟨bb, o2, none⟩) Q.lam Q.lac) ∧ (loadCellsFrom ⟨b, o + k * kk12, none⟩ 0 kk12 #[]).run Tryz.prog W = .ok (cLw x1 P1) W ∧ (loadCellsFrom ⟨bb, o2 + k * kk12, none⟩ 0 kk12 #[]).run Tryz.prog W = .ok (cLw y1 Q1) W) (first | (refine FR.out _ ?_; exact bl; done) | (go_keep; done)) (first
                    | (go_at_call 96; refine (C.out _ bl).mono ?_; rintro e vc ⟨rfl, hbc⟩))
                   all_goals
                    have HBC := Lib.hid hbc
                    clear hbc
                    cases r
                    · have Hn := Lib.hid (show b12 = false by rw [← H12.out]; exact eqB_stop HX1.out HY1.out hr)
                      have HN := Lib.hid (show siB x y = false by rw [HR.out, Hn.out]; try simp)
                      clear hr
                      go_wp2_with fail
                      go_ret
                      exact ⟨by rw [HN.out]; rfl, by have h1 := HBW.out; have h2 := HBC.out; exact bl⟩
                    · have Hy := Lib.hid (eqB_take HX1.out HY1.out HA.out hr)
                      clear hr
                      go_wp2_with fail
                      go_roundw
                      case rel => first | exact ⟨k + 1, by omega, by go_num, Lib.hid zQRssd_a, Hy⟩ | ((repeat apply Exists.intro); refine And.intro ?_ rfl; exact ⟨k + 1, by omega, by go_num, Lib.hid zQRssd_a, Hy⟩)
                      case measure => simp [intOf]; omega
                 · clear k3
                   obtain rfl : k = P.lam := by omega
                   have hb : b12 = true := by rw [← H12.out]; have h1 := HA.out; rwa [List.take_of_length_le (by rw [HL12.out.1]; exact Nat.le_refl _), List.take_of_length_le (by rw [HK12.out.1]; have h2 := e12.out; omega)] at h1
                   subst hb
                   go_wp2_with fail
                   go_ret
                   exact ⟨by rw [HR.out]; rfl, hbw⟩
end Go.Proofs.YtaaffmbnhjaebaaGreat.Md
