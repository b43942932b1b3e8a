/- Arrays of three numbers, of three ranges: when they are equal. No condition. -/
import Derived.Test.YtjfcjclhbnmgcaaPlSmall
import Derived.ChangeKeysEq
import Derived.WalkSpells
namespace Go.Proofs.Ytjfcjclhbnmgcaa
open Go.RowKit
set_option linter.unusedVariables false
set_option linter.unusedSimpArgs false

theorem info_int' : (Try.prog.info? 3).map (fun i => (i.zero, i.size, i.bytes)) = some (some (.int .i64 0), 1, 8) := by kernel_rfl
theorem cells_int : Try.prog.cellsOf 3 = 1 := by kernel_rfl
theorem eqInt_run (p q : Int) (w : World) : (Op.equalIn 9999 3 (.int .i64 p) (.int .i64 q)).run Try.prog w = .ok (p == q) w := run_equalIn_int w 9998 3 .i64 .i64 p q (by kernel_rfl)
def eq3 (a b c x y z : Int) : Bool := decide (a = x ∧ b = y ∧ c = z)
theorem eq3_at (t : TypeId) (hu : Try.prog.underlying t = some (.array 3 3)) (a b c x y z : Int) (w : World) : (Op.equal t (.agg #[.int .i64 a, .int .i64 b, .int .i64 c]) (.agg #[.int .i64 x, .int .i64 y, .int .i64 z])).run Try.prog w = .ok (eq3 a b c x y z) w := by
  obtain ⟨i0, hi, _, hz1, _⟩ := info_parts info_int'
  show (Op.equalIn (9999 + 1) _ _ _).run _ _ = _
  rw [run_equalIn_array w 9999 _ _ hu hi]
  unfold eq3
  simp [Op.eqItems, part, go_sem, eqInt_run, cells_int]
  by_cases h1 : a = x
  · by_cases h2 : b = y
    · by_cases h3 : c = z <;> simp [h1, h2, h3]
    · simp [h1, h2]
  · simp [h1]
theorem eq3_run (a b c x y z : Int) (w : World) : (Go.binOp .eql 23 (.agg #[.int .i64 a, .int .i64 b, .int .i64 c]) (.agg #[.int .i64 x, .int .i64 y, .int .i64 z])).run Try.prog w = .ok (.bool (eq3 a b c x y z)) w := by
  simp [Go.binOp, go_sem, eq3_at 23 (by kernel_rfl)]
theorem eq3V_run (a b c x y z : Int) (w : World) : (Go.binOp .eql 110 (.agg #[.int .i64 a, .int .i64 b, .int .i64 c]) (.agg #[.int .i64 x, .int .i64 y, .int .i64 z])).run Try.prog w = .ok (.bool (eq3 a b c x y z)) w := by
  simp [Go.binOp, go_sem, eq3_at 110 (by kernel_rfl)]
theorem neq3_run (a b c x y z : Int) (w : World) : (Go.binOp .neq 23 (.agg #[.int .i64 a, .int .i64 b, .int .i64 c]) (.agg #[.int .i64 x, .int .i64 y, .int .i64 z])).run Try.prog w = .ok (.bool (!eq3 a b c x y z)) w := by
  simp [Go.binOp, go_sem, eq3_at 23 (by kernel_rfl)]
theorem eqRange_run (p q r s : Int) (w : World) : (Op.equalIn 9999 90 (.agg #[.int .i64 p, .int .i64 q]) (.agg #[.int .i64 r, .int .i64 s])).run Try.prog w = .ok (decide (p = r ∧ q = s)) w := by
  have hn : ∀ (a b : Int) (w : World), (Op.equalIn 9998 3 (.int .i64 a) (.int .i64 b)).run Try.prog w = .ok (a == b) w := fun a b w => run_equalIn_int w 9997 3 .i64 .i64 a b (by kernel_rfl)
  have hf : ((Try.prog.fieldsOf 90).toList.map fun f => (f.name, f.type, f.offset)) = [("Lo", 3, 0), ("Hi", 3, 1)] := by kernel_rfl
  show (Op.equalIn (9998 + 1) _ _ _).run _ _ = _
  rw [run_equalIn_struct w 9998 _ _ _ (by kernel_rfl) (by kernel_rfl)]
  cases h1 : (Try.prog.fieldsOf 90).toList with
  | nil => rw [h1] at hf; simp at hf
  | cons f fs =>
    cases fs with
    | nil => rw [h1] at hf; simp at hf
    | cons g gs =>
      cases gs with
      | cons _ _ => rw [h1] at hf; simp at hf
      | nil =>
        rw [h1] at hf
        simp at hf
        obtain ⟨⟨f1, f2, f3⟩, g1, g2, g3⟩ := hf
        simp [Op.eqFields, part, go_sem, f1, f2, f3, g1, g2, g3, hn, cells_int]
        by_cases h1 : p = r
        · by_cases h2 : q = s <;> simp [h1, h2]
        · simp [h1]
theorem info_range' : (Try.prog.info? 90).map (fun i => (i.zero, i.size, i.bytes)) = some (some (.agg #[.int .i64 0, .int .i64 0]), 2, 16) := by kernel_rfl
theorem cells_range : Try.prog.cellsOf 90 = 2 := by kernel_rfl
def eq6 (a b c d e f p q r s t u : Int) : Bool := decide ((a = p ∧ b = q) ∧ (c = r ∧ d = s) ∧ (e = t ∧ f = u))
theorem eq6_at (a b c d e f p q r s t u : Int) (w : World) : (Op.equal 107 (.agg #[.int .i64 a, .int .i64 b, .int .i64 c, .int .i64 d, .int .i64 e, .int .i64 f]) (.agg #[.int .i64 p, .int .i64 q, .int .i64 r, .int .i64 s, .int .i64 t, .int .i64 u])).run Try.prog w = .ok (eq6 a b c d e f p q r s t u) w := by
  obtain ⟨i0, hi, _, hz1, _⟩ := info_parts info_range'
  show (Op.equalIn (9999 + 1) _ _ _).run _ _ = _
  rw [run_equalIn_array w 9999 _ _ (show Try.prog.underlying 107 = some (.array 3 90) by kernel_rfl) hi]
  have hp : ∀ (cs : Array Value) (off : Nat) (x y : Value) (W : World), cs.extract off (off + 2) = #[x, y] → (part 90 cs off).run Try.prog W = .ok (.agg #[x, y]) W := fun cs off x y W h => by
    unfold part
    simp [go_sem, h, cells_range]
  unfold eq6
  simp [Op.eqItems, go_sem, eqRange_run, cells_range, hp]
  by_cases h1 : a = p
  · by_cases h2 : b = q
    · by_cases h3 : c = r
      · by_cases h4 : d = s
        · by_cases h5 : e = t
          · by_cases h6 : f = u <;> simp [h1, h2, h3, h4, h5, h6]
          · simp [h1, h2, h3, h4, h5]
        · simp [h1, h2, h3, h4]
      · simp [h1, h2, h3]
    · simp [h1, h2]
  · simp [h1]
theorem eq6_run (a b c d e f p q r s t u : Int) (w : World) : (Go.binOp .eql 107 (.agg #[.int .i64 a, .int .i64 b, .int .i64 c, .int .i64 d, .int .i64 e, .int .i64 f]) (.agg #[.int .i64 p, .int .i64 q, .int .i64 r, .int .i64 s, .int .i64 t, .int .i64 u])).run Try.prog w = .ok (.bool (eq6 a b c d e f p q r s t u)) w := by
  simp [Go.binOp, go_sem, eq6_at]
theorem neq6_run (a b c d e f p q r s t u : Int) (w : World) : (Go.binOp .neq 107 (.agg #[.int .i64 a, .int .i64 b, .int .i64 c, .int .i64 d, .int .i64 e, .int .i64 f]) (.agg #[.int .i64 p, .int .i64 q, .int .i64 r, .int .i64 s, .int .i64 t, .int .i64 u])).run Try.prog w = .ok (.bool (!eq6 a b c d e f p q r s t u)) w := by
  simp [Go.binOp, go_sem, eq6_at]
theorem eq3_self (a b c : Int) : eq3 a b c a b c = true := by simp [eq3]
theorem eq6_self (a b c d e f : Int) : eq6 a b c d e f a b c d e f = true := by simp [eq6]
end Go.Proofs.Ytjfcjclhbnmgcaa
