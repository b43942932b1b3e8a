/- The contract of number.Times. -/
import Derived.Test.YtjomcobhinnikaaFracTwo
import Derived.Test.YtjomcobhinnikaaProdN
namespace Go.Proofs.Ytjomcobhinnikaa
open Go.RowKit

set_option maxHeartbeats 1000000 in
set_option maxRecDepth 100000 in
theorem times_ok (a b c d : Int) (w : World) (h1 : okF a b) (h2 : okF c d) (hE : fracsErr a b c d = 0) :
    Calls Try.prog 11 #[.agg #[.int .i64 a, .int .i64 b], .agg #[.int .i64 c, .int .i64 d]] w fun e w' => e = .returned (.tuple #[.agg #[.int .i64 (lN (a * c) (b * d)), .int .i64 (lD (a * c) (b * d))], .int .i64 (lE (a * c) (b * d))]) ∧ Below w.heap.size w w' := by
  obtain ⟨⟨hb1, _⟩, ha, hb2⟩ := h1
  obtain ⟨⟨hd1, _⟩, hc, hd2⟩ := h2
  obtain ⟨p0, p1⟩ := prodN ha hc
  obtain ⟨p2, p3⟩ := prodD ⟨hb1, hb2⟩ ⟨hd1, hd2⟩
  have HE := hide hE
  clear hE
  go_enter Try.func11, Try.ntmps11
  go_wp2_with fail
  refine (checkFracs_any _ 2 a b c d _ (by omega) (by omega) (by omega) (by omega) (Blk.new _ _ _ _ (by simp))).mono ?_
  rintro e w2 ⟨rfl, hb⟩
  rw [HE.out]
  have A2 : Hid (Blk w2 w.heap.size 29 #[.int .i64 a, .int .i64 b]) := ((((Blk.new w _ _ _ rfl).alloc _).alloc _).alloc _).kept hb
  have C2 : Hid (Blk w2 (w.heap.size + 1) 29 #[.int .i64 c, .int .i64 d]) := (((Blk.new (w.alloc _) _ _ _ (by simp)).alloc _).alloc _).kept hb
  have R2 : Hid (Blk w2 (w.heap.size + 1 + 1) 29 #[.int .i64 0, .int .i64 0]) := ((Blk.new ((w.alloc _).alloc _) _ _ _ (by simp)).alloc _).kept hb
  have HB : Hid (Below w.heap.size w w2) := ((below_two w _ _).trans (below_two ((w.alloc _).alloc _) _ _ |>.mono (by simp; omega))).trans (hb.mono (by simp; omega))
  clear hb
  obtain ⟨⟨q0, q1⟩, _⟩ := A2.out.c2
  obtain ⟨⟨q2, q3⟩, _⟩ := C2.out.c2
  go_wp2_with fail
  refine (lowest_any (a * c) (b * d) _ (by omega) (by omega)).mono ?_
  rintro e w3 ⟨rfl, hb⟩
  have R3 := hide (R2.out.kept hb)
  have HB3 := hide (HB.out.trans (hb.mono HB.out.size))
  clear hb
  obtain ⟨⟨t0, t1⟩, f0, f1⟩ := R3.out.c2
  go_wp2
  refine bodyPost_ret (v := .tuple #[.agg #[.int .i64 (lN (a * c) (b * d)), .int .i64 (lD (a * c) (b * d))], .int .i64 (lE (a * c) (b * d))]) (by simp [results, Try.results11, go_sem, t0, t1]) rfl ⟨rfl, ?_⟩
  repeat (first | exact HB3.out | refine Below.setCell ?_ (by simp; omega) _)

set_option maxHeartbeats 1000000 in
set_option maxRecDepth 100000 in
theorem times_bad (a b c d E : Int) (w : World) (ha : -9223372036854775808 ≤ a ∧ a ≤ 9223372036854775807) (hb : -9223372036854775808 ≤ b ∧ b ≤ 9223372036854775807) (hc : -9223372036854775808 ≤ c ∧ c ≤ 9223372036854775807) (hd : -9223372036854775808 ≤ d ∧ d ≤ 9223372036854775807) (hE : fracsErr a b c d = E) (he : E = 2 ∨ E = 3) :
    Calls Try.prog 11 #[.agg #[.int .i64 a, .int .i64 b], .agg #[.int .i64 c, .int .i64 d]] w fun e w' => e = .returned (.tuple #[.agg #[.int .i64 0, .int .i64 0], .int .i64 E]) ∧ Below w.heap.size w w' := by
  have HE := hide hE
  clear hE
  go_enter Try.func11, Try.ntmps11
  go_wp2_with fail
  refine (checkFracs_any _ 2 a b c d _ ha hb hc hd (Blk.new _ _ _ _ (by simp))).mono ?_
  rintro e w2 ⟨rfl, hb2⟩
  rw [HE.out]
  have R2 : Hid (Blk w2 (w.heap.size + 1 + 1) 29 #[.int .i64 0, .int .i64 0]) := ((Blk.new ((w.alloc _).alloc _) _ _ _ (by simp)).alloc _).kept hb2
  have HB : Hid (Below w.heap.size w w2) := ((below_two w _ _).trans (below_two ((w.alloc _).alloc _) _ _ |>.mono (by simp; omega))).trans (hb2.mono (by simp; omega))
  clear hb2 HE
  obtain ⟨⟨t0, t1⟩, f0, f1⟩ := R2.out.c2
  rcases he with rfl | rfl
  · go_wp2
    refine bodyPost_ret (v := .tuple #[.agg #[.int .i64 0, .int .i64 0], .int .i64 2]) (by simp [results, Try.results11, go_sem, t0, t1]) rfl ⟨rfl, ?_⟩
    repeat (first | exact HB.out | refine Below.setCell ?_ (by simp; omega) _)
  · go_wp2
    refine bodyPost_ret (v := .tuple #[.agg #[.int .i64 0, .int .i64 0], .int .i64 3]) (by simp [results, Try.results11, go_sem, t0, t1]) rfl ⟨rfl, ?_⟩
    repeat (first | exact HB.out | refine Below.setCell ?_ (by simp; omega) _)

end Go.Proofs.Ytjomcobhinnikaa
