/- The contract of number.Normal. -/
import Derived.Test.YtjomcobhinnikaaPitch
namespace Go.Proofs.Ytjomcobhinnikaa
open Go.RowKit

set_option maxHeartbeats 1000000 in
set_option maxRecDepth 100000 in
theorem normal_bad (a b c d : Int) (w : World) (h : ¬ okP a b c d) :
    Calls Try.prog 37 #[.agg #[.int .i64 a, .int .i64 b, .int .i64 c, .int .i64 d]] w fun e w' => e = .returned (.tuple #[pitchV 0 0 0 0, .int .i64 2]) ∧ Below w.heap.size w w' := by
  have HE : Hid (pitchErr a b c d = 2) := if_neg h
  clear h
  go_enter Try.func37, Try.ntmps37
  go_wp2_with fail
  refine (checkPitch_any _ _ _ _ _).mono ?_
  rintro e w2 ⟨rfl, hb2⟩
  rw [HE.out]
  obtain ⟨hc2, hf2⟩ := old_cells hb2
  have hsz := hb2.size
  have HB := hide hb2
  clear hb2
  have hsz2 : w.heap.size + 2 ≤ w2.heap.size := by simpa using hsz
  go_wp2
  refine bodyPost_ret (v := .tuple #[pitchV 0 0 0 0, .int .i64 2]) (by simp [results, Try.results37, go_sem, hc2, pitchV]) rfl ⟨rfl, ?_⟩
  have hB : Below w.heap.size w w2 := by
    refine Below.trans ?_ (HB.out.mono (by simp; omega))
    repeat (first | exact Below.refl _ _ | refine Below.alloc ?_ (by first | omega | (simp; done) | (simp; omega)) _ | refine below_drewN ?_ _)
  repeat (first | exact hB | refine Below.setCell ?_ (by simp) _)

set_option maxHeartbeats 1000000 in
set_option maxRecDepth 100000 in
theorem normal_good (a b c d : Int) (w : World) (h : okP a b c d) :
    Calls Try.prog 37 #[.agg #[.int .i64 a, .int .i64 b, .int .i64 c, .int .i64 d]] w fun e w' => e = .returned (.tuple #[.agg #[.int .i64 (p2 a b c d), .int .i64 (p3 a b c d), .int .i64 (p5 a b c d), .int .i64 (pd a b c d)], .int .i64 (pe a b c d)]) ∧ Below w.heap.size w w' := by
  have HE : Hid (pitchErr a b c d = 0) := if_pos h
  obtain ⟨hd, ha, hb, hc⟩ := h
  unfold okE at ha hb hc
  go_enter Try.func37, Try.ntmps37
  go_wp2_with fail
  refine (checkPitch_any _ _ _ _ _).mono ?_
  rintro e w2 ⟨rfl, hb2⟩
  rw [HE.out]
  have B2 : Hid (Blk w2 w.heap.size 51 #[.int .i64 a, .int .i64 b, .int .i64 c, .int .i64 d]) := ((Blk.new w _ _ _ rfl).alloc _).kept hb2
  have R2 : Hid (Blk w2 (w.heap.size + 1) 51 #[.int .i64 0, .int .i64 0, .int .i64 0, .int .i64 0]) := (Blk.new (w.alloc _) _ _ _ (by simp)).kept hb2
  have HB : Hid (Below w.heap.size w w2) := (below_two w _ _).trans (hb2.mono (by simp; omega))
  clear hb2
  obtain ⟨⟨q0, q1, q2, q3⟩, _⟩ := B2.out.c4
  go_wp2
  go_region_held3 (fun w' => w'.cell? ⟨w.heap.size, 0, none⟩ = some (.int .i64 a) ∧ w'.cell? ⟨w.heap.size, 1, none⟩ = some (.int .i64 b) ∧ w'.cell? ⟨w.heap.size, 2, none⟩ = some (.int .i64 c) ∧ w'.cell? ⟨w.heap.size, 3, none⟩ = some (.int .i64 d))
    (go_keep)
    (first | (go_at_call 48; refine (exponentsOf_any _ _ _ _ _).mono ?_; rintro e w3 ⟨rfl, hb3⟩; have B3 := hide (B2.out.drew.kept hb3); have R3 := hide (R2.out.drew.kept hb3); have HB3 := hide (HB.out.drew.trans (hb3.mono HB.out.size)); clear hb3; obtain ⟨⟨r0, r1, r2, r3⟩, _⟩ := B3.out.c4) | (go_at_call 47; refine (pitchOf_any _ _ _ _ _ (by omega) (by omega) (by omega) (by omega)).mono ?_; rintro e w4 ⟨rfl, hb4⟩; have B4 := hide (B3.out.kept hb4); have R4 := hide (R3.out.kept hb4); have HB4 := hide (HB3.out.trans (hb4.mono HB3.out.size)); clear hb4; obtain ⟨⟨s0, s1, s2, s3⟩, _⟩ := B4.out.c4; obtain ⟨⟨t0, t1, t2, t3⟩, f0, f1, f2, f3⟩ := R4.out.c4))
  go_wp2
  refine bodyPost_ret (v := .tuple #[.agg #[.int .i64 (p2 a b c d), .int .i64 (p3 a b c d), .int .i64 (p5 a b c d), .int .i64 (pd a b c d)], .int .i64 (pe a b c d)]) (by simp [results, Try.results37, go_sem, t0, t1, t2, t3]) rfl ⟨rfl, ?_⟩
  repeat (first | exact HB4.out | refine Below.setCell ?_ (by simp) _)
end Go.Proofs.Ytjomcobhinnikaa
