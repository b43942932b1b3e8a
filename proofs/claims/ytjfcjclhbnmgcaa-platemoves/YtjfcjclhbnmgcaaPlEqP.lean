/- When two forces are equal. No condition. -/
import Derived.Test.YtjfcjclhbnmgcaaPlEq
namespace Go.Proofs.Ytjfcjclhbnmgcaa
open Go.RowKit
set_option linter.unusedVariables false
set_option linter.unusedSimpArgs false

theorem info_arr3 : (Try.prog.info? 23).map (fun i => (i.zero, i.size, i.bytes)) = some (some (.agg #[.int .i64 0, .int .i64 0, .int .i64 0]), 3, 24) := by kernel_rfl
theorem cells_arr3 : Try.prog.cellsOf 23 = 3 := by kernel_rfl
theorem eqInt8_run (p q : Int) (w : World) : (Op.equalIn 9998 3 (.int .i64 p) (.int .i64 q)).run Try.prog w = .ok (p == q) w := run_equalIn_int w 9997 3 .i64 .i64 p q (by kernel_rfl)
theorem eqArr_run (a b c x y z : Int) (w : World) : (Op.equalIn 9999 23 (.agg #[.int .i64 a, .int .i64 b, .int .i64 c]) (.agg #[.int .i64 x, .int .i64 y, .int .i64 z])).run Try.prog w = .ok (eq3 a b c x y z) w := by
  obtain ⟨i0, hi, _, hz1, _⟩ := info_parts info_int'
  show (Op.equalIn (9998 + 1) _ _ _).run _ _ = _
  rw [run_equalIn_array w 9998 _ _ (show Try.prog.underlying 23 = some (.array 3 3) by kernel_rfl) hi]
  unfold eq3
  simp [Op.eqItems, part, go_sem, eqInt8_run, cells_int]
  by_cases h1 : a = x
  · by_cases h2 : b = y
    · by_cases h3 : c = z <;> simp [h1, h2, h3]
    · simp [h1, h2]
  · simp [h1]
theorem eqP_at (a b c d e f p q r s t u : Int) (w : World) : (Op.equal 40 (.agg #[.int .i64 a, .int .i64 b, .int .i64 c, .int .i64 d, .int .i64 e, .int .i64 f]) (.agg #[.int .i64 p, .int .i64 q, .int .i64 r, .int .i64 s, .int .i64 t, .int .i64 u])).run Try.prog w = .ok (eq3 a b c p q r && eq3 d e f s t u) w := by
  have hf : ((Try.prog.fieldsOf 40).toList.map fun f => (f.name, f.type, f.offset)) = [("At", 23, 0), ("Force", 23, 3)] := by kernel_rfl
  have hp : ∀ (cs : Array Value) (off : Nat) (x y z : Value) (W : World), cs.extract off (off + 3) = #[x, y, z] → (part 23 cs off).run Try.prog W = .ok (.agg #[x, y, z]) W := fun cs off x y z W h => by
    unfold part
    simp [go_sem, h, cells_arr3]
  show (Op.equalIn (9999 + 1) _ _ _).run _ _ = _
  rw [run_equalIn_struct w 9999 _ _ _ (by kernel_rfl) (by kernel_rfl)]
  cases h1 : (Try.prog.fieldsOf 40).toList with
  | nil => rw [h1] at hf; simp at hf
  | cons f1 fs =>
    cases fs with
    | nil => rw [h1] at hf; simp at hf
    | cons g gs =>
      cases gs with
      | cons _ _ => rw [h1] at hf; simp at hf
      | nil =>
        rw [h1] at hf
        simp at hf
        obtain ⟨⟨f1, f2, f3⟩, g1, g2, g3⟩ := hf
        simp [Op.eqFields, go_sem, f1, f2, f3, g1, g2, g3, hp, eqArr_run]
        by_cases h1 : eq3 a b c p q r = true
        · by_cases h2 : eq3 d e f s t u = true <;> simp [h1, h2]
        · simp [h1]
theorem eqP_self (a b c d e f : Int) (w : World) : (Go.binOp .eql 40 (.agg #[.int .i64 a, .int .i64 b, .int .i64 c, .int .i64 d, .int .i64 e, .int .i64 f]) (.agg #[.int .i64 a, .int .i64 b, .int .i64 c, .int .i64 d, .int .i64 e, .int .i64 f])).run Try.prog w = .ok (.bool true) w := by
  simp [Go.binOp, go_sem, eqP_at, eq3_self]
theorem neqP_self (a b c d e f : Int) (w : World) : (Go.binOp .neq 40 (.agg #[.int .i64 a, .int .i64 b, .int .i64 c, .int .i64 d, .int .i64 e, .int .i64 f]) (.agg #[.int .i64 a, .int .i64 b, .int .i64 c, .int .i64 d, .int .i64 e, .int .i64 f])).run Try.prog w = .ok (.bool false) w := by
  simp [Go.binOp, go_sem, eqP_at, eq3_self]
end Go.Proofs.Ytjfcjclhbnmgcaa
