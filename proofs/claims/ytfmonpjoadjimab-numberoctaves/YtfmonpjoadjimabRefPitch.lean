/- Contracts of agrafferef01.IsPitch and Normal; small exponents. Bounds are premises of each theorem. -/
import Derived.Test.YtfmonpjoadjimabPitchOk
import Derived.Test.YtfmonpjoadjimabNormal
import Derived.Test.YtfmonpjoadjimabRefFrac
import Derived.Test.YtfmonpjoadjimabEnclose
namespace Go.Proofs.Ytfmonpjoadjimab
open Go.RowKit
set_option linter.unusedVariables false
set_option linter.unusedSimpArgs false

/-- The error of two pitches. -/
def pitchesErr (a b c d e f g h : Int) : Int := if okP a b c d ∧ okP e f g h then 0 else 2
theorem pitchErr_cases (a b c d : Int) : (pitchErr a b c d = 0 ∧ okP a b c d) ∨ (pitchErr a b c d = 2 ∧ ¬ okP a b c d) := by
  unfold pitchErr
  by_cases h : okP a b c d
  · rw [if_pos h]; exact Or.inl ⟨rfl, h⟩
  · rw [if_neg h]; exact Or.inr ⟨rfl, h⟩

def pitchR (a b c d e : Int) : Value := .tuple #[.agg #[.int .i64 a, .int .i64 b, .int .i64 c, .int .i64 d], .int .i64 e]
/-- Exponents that are not great, over a denominator. -/
def inE (x : Int) : Prop := -10000 ≤ x ∧ x ≤ 10000
def smallP (a b c d : Int) : Prop := (1 ≤ d ∧ d ≤ 12) ∧ inE a ∧ inE b ∧ inE c
theorem small_ok {a b c d : Int} (h : okP a b c d) : smallP a b c d := by
  obtain ⟨hd, ha, hb, hc⟩ := h
  unfold okE at ha hb hc
  exact ⟨hd, ⟨by omega, by omega⟩, ⟨by omega, by omega⟩, ⟨by omega, by omega⟩⟩
/-- An exponent of a product over both denominators. -/
def jn (x h s y d : Int) : Int := x * h + s * y * d
theorem jn_facts {x h s y d : Int} (hx : inE x) (hy : inE y) (hh : 1 ≤ h ∧ h ≤ 12) (hd : 1 ≤ d ∧ d ≤ 12) (hs : -1 ≤ s ∧ s ≤ 1) :
    (-120000 ≤ x * h ∧ x * h ≤ 120000) ∧ (-10000 ≤ s * y ∧ s * y ≤ 10000) ∧ (-120000 ≤ s * y * d ∧ s * y * d ≤ 120000) ∧ (-240000 ≤ jn x h s y d ∧ jn x h s y d ≤ 240000) := by
  unfold inE at hx hy
  have h1 := mul_bound (x := x) (y := h) 10000 12 (by omega) (by omega)
  have h2 := mul_bound (x := s) (y := y) 1 10000 (by omega) (by omega)
  have h3 := mul_bound (x := s * y) (y := d) 10000 12 (by omega) (by omega)
  rw [show (10000 * 12 : Nat) = 120000 from rfl] at h1 h3
  rw [show (1 * 10000 : Nat) = 10000 from rfl] at h2
  unfold jn
  omega
theorem jn_wraps {x h s y d : Int} (hx : inE x) (hy : inE y) (hh : 1 ≤ h ∧ h ≤ 12) (hd : 1 ≤ d ∧ d ≤ 12) (hs : -1 ≤ s ∧ s ≤ 1) :
    IntKind.i64.wrap (x * h) = x * h ∧ IntKind.i64.wrap (s * y) = s * y ∧ IntKind.i64.wrap (s * y * d) = s * y * d ∧ IntKind.i64.wrap (x * h + s * y * d) = jn x h s y d := by
  obtain ⟨h1, h2, h3, h4⟩ := jn_facts hx hy hh hd hs
  unfold jn at h4 ⊢
  rw [IntKind.wrap_i64, IntKind.wrap_i64, IntKind.wrap_i64, IntKind.wrap_i64]
  omega

theorem gcdB (a b : Int) (g : Nat) (w : World) (ha : -9223372036854775807 ≤ a ∧ a ≤ 9223372036854775807) (hb : -9223372036854775807 ≤ b ∧ b ≤ 9223372036854775807) (hg : Nat.gcd a.natAbs b.natAbs = g) :
    Calls Try.prog 84 #[.int .i64 a, .int .i64 b] w fun e w' => e = .returned (.int .i64 (g : Int)) ∧ Below w.heap.size w w' :=
  (gcd_any a b w (by omega) hb (Or.inl ha.1)).mono fun _ _ ⟨he, n, hn⟩ => ⟨by rw [he, hg], hn ▸ below_drewN (Below.refl _ _) n⟩

theorem gcdP_eq (a b c d : Int) : Nat.gcd (Nat.gcd a.natAbs b.natAbs) (Nat.gcd c.natAbs d.natAbs) = gcdP a b c d := by
  unfold gcdP gcdAll
  simp only [List.foldl, Nat.gcd_zero_left]
  rw [Nat.gcd_assoc (Nat.gcd a.natAbs b.natAbs)]
theorem gcdP_nat_le {a b c d : Int} (h : 1 ≤ d) : (gcdP a b c d : Int) ≤ d := gcdP_le h

set_option maxHeartbeats 1000000 in
set_option maxRecDepth 100000 in
theorem refNormal_any (a b c d : Int) (w : World) (ha : -1000000000000 ≤ a ∧ a ≤ 1000000000000) (hb : -1000000000000 ≤ b ∧ b ≤ 1000000000000) (hc : -1000000000000 ≤ c ∧ c ≤ 1000000000000) (hd : 1 ≤ d ∧ d ≤ 1000000000000) :
    Calls Try.prog 93 #[.agg #[.int .i64 a, .int .i64 b, .int .i64 c, .int .i64 d]] w fun x w' => x = .returned (pitchV (a.tdiv (gcdP a b c d)) (b.tdiv (gcdP a b c d)) (c.tdiv (gcdP a b c d)) (d / (gcdP a b c d))) ∧ Below w.heap.size w w' := by
  have hg := gcdP_pos (a := a) (b := b) (c := c) hd.1
  have hgl := gcdP_le (a := a) (b := b) (c := c) hd.1
  have h3' := gcdP_eq a b c d
  obtain ⟨g1, h1⟩ : ∃ g1 : Nat, Nat.gcd a.natAbs b.natAbs = g1 := ⟨_, rfl⟩
  obtain ⟨g2, h2⟩ : ∃ g2 : Nat, Nat.gcd c.natAbs d.natAbs = g2 := ⟨_, rfl⟩
  obtain ⟨g, h3⟩ : ∃ g : Nat, gcdP a b c d = g := ⟨_, rfl⟩
  have l2 : g2 ≤ 1000000000000 := by rw [← h2]; have := Nat.gcd_le_right c.natAbs (n := d.natAbs) (by omega); omega
  have l1 : g1 ≤ 1000000000000 := by rw [← h1]; exact gcd_le (by omega) (by omega)
  rw [h1, h2, h3] at h3'
  rw [h3] at hg hgl ⊢
  have H1 := hide h1
  have H2 := hide h2
  have H3 : Hid (Nat.gcd (g1 : Int).natAbs (g2 : Int).natAbs = g) := hide (by simpa using h3')
  clear h1 h2 h3 h3'
  have t1 := tdiv_in (a := a) (g := g) (by omega) (by omega)
  have t2 := tdiv_in (a := b) (g := g) (by omega) (by omega)
  have t3 := tdiv_in (a := c) (g := g) (by omega) (by omega)
  have ng : ¬ (g : Int) = 0 := by omega
  have ng' : ¬ g = 0 := by omega
  have L0 := hide (Lv.start w)
  go_enter Try.func93, Try.ntmps93
  go_wp2
  have L1 : Hid (Lv w _ _) := hide ((L0.out.put [.int .i64 a, .int .i64 b, .int .i64 c, .int .i64 d] 23).put [.int .i64 0, .int .i64 0, .int .i64 0, .int .i64 0] 23)
  go_region_held3 (fun w' => w'.cell? ⟨w.heap.size, 0, none⟩ = some (.int .i64 a) ∧ w'.cell? ⟨w.heap.size, 1, none⟩ = some (.int .i64 b) ∧ w'.cell? ⟨w.heap.size, 2, none⟩ = some (.int .i64 c) ∧ w'.cell? ⟨w.heap.size, 3, none⟩ = some (.int .i64 d))
    (go_keep)
    (first | (go_at_call 84; (with_reducible refine Lv.call (gcdB a b g1 _ (by omega) (by omega) H1.out) (L1.out.drew) ?_); intro w2 L2'; have L2 := hide L2'; have F2 := L2'.at; clear L2'; simp only [AllAt, CellsAt, updL, List.map, Nat.zero_add, Nat.reduceAdd, and_true, World.size_alloc, World.heap_drewN, heap_drew, size_set, Nat.add_eq_left, Nat.left_eq_add, Nat.add_right_cancel_iff, Nat.reduceEqDiff, Nat.one_ne_zero, Nat.succ_ne_zero, Nat.zero_ne_one, reduceIte, List.set_cons_zero, List.set_cons_succ] at F2) | (go_at_call 84; (with_reducible refine Lv.call (gcdB c d g2 _ (by omega) (by omega) H2.out) L2.out ?_); intro w3 L3'; have L3 := hide L3'; have F3 := L3'.at; clear L3' F2; simp only [AllAt, CellsAt, updL, List.map, Nat.zero_add, Nat.reduceAdd, and_true, World.size_alloc, World.heap_drewN, heap_drew, size_set, Nat.add_eq_left, Nat.left_eq_add, Nat.add_right_cancel_iff, Nat.reduceEqDiff, Nat.one_ne_zero, Nat.succ_ne_zero, Nat.zero_ne_one, reduceIte, List.set_cons_zero, List.set_cons_succ] at F3) | (go_at_call 84; (with_reducible refine Lv.call (gcdB g1 g2 g _ (by omega) (by omega) H3.out) L3.out ?_); intro w4 L4'; have L4 := hide L4'; have F4 := L4'.at; clear L4' F3; simp only [AllAt, CellsAt, updL, List.map, Nat.zero_add, Nat.reduceAdd, and_true, World.size_alloc, World.heap_drewN, heap_drew, size_set, Nat.add_eq_left, Nat.left_eq_add, Nat.add_right_cancel_iff, Nat.reduceEqDiff, Nat.one_ne_zero, Nat.succ_ne_zero, Nat.zero_ne_one, reduceIte, List.set_cons_zero, List.set_cons_succ] at F4))
  go_wp2
  go_region
  go_wp2
  refine bodyPost_ret (v := pitchV (a.tdiv g) (b.tdiv g) (c.tdiv g) (d / g)) (by simp [results, Try.results93, go_sem, F4, pitchV]) rfl ⟨rfl, ?_⟩
  repeat (first | (with_reducible exact L4.out.below) | refine Below.setCell ?_ (by first | omega | (simp; done) | (simp; omega)) _ | refine Below.alloc ?_ (by first | omega | (simp; done) | (simp; omega)) _ | refine below_drewN ?_ _ | refine Below.drew ?_)
end Go.Proofs.Ytfmonpjoadjimab
