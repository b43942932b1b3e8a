/- Contracts of agrafferef01.Rounded and number.Rounded. -/
import Derived.Test.YtfmonpjoadjimaaRefFrac
namespace Go.Proofs.Ytfmonpjoadjimaa
open Go.RowKit

/-- A multiple rounded down, and up. -/
def rdn (n d t : Int) : Int := n * t / d
def rup (n d t : Int) : Int := -(-(n * t) / d)
set_option maxHeartbeats 1000000 in
set_option maxRecDepth 100000 in
theorem refRounded_any (n d t : Int) (w : World) (hn : -1000000000 ≤ n ∧ n ≤ 1000000000) (hd : 1 ≤ d ∧ d ≤ 1000000000) (ht : 1 ≤ t ∧ t ≤ 1000000000) :
    Calls Try.prog 23 #[.agg #[.int .i64 n, .int .i64 d], .int .i64 t] w fun e w' => e = .returned (.agg #[.int .i64 (rdn n d t), .int .i64 (rup n d t)]) ∧ Below w.heap.size w w' := by
  obtain ⟨hp0, hp1⟩ := prod_in hn ht
  have hd2 : d ≤ 9000000000000000000 := by omega
  have HW : Hid (IntKind.i64.wrap (n * t) = n * t) := by show _ = _; rw [IntKind.wrap_i64]; omega
  go_enter Try.func23, Try.ntmps23
  go_wp2
  go_region_held3 (fun w' => w'.cell? ⟨w.heap.size, 0, none⟩ = some (.int .i64 n) ∧ w'.cell? ⟨w.heap.size, 1, none⟩ = some (.int .i64 d))
    (go_keep)
    (first | (go_at_call 52; rw [HW.out]; refine (floorB (n * t) d _ hp0 hp1 hd.1 hd2).mono ?_; rintro e w3 ⟨rfl, hb3⟩; have B3 : Hid (Blk w3 w.heap.size 23 #[.int .i64 n, .int .i64 d]) := ((Blk.new w _ _ _ rfl).alloc _).drew.kept hb3; have R3 : Hid (Blk w3 (w.heap.size + 1) 37 #[.int .i64 0, .int .i64 0]) := (Blk.new (w.alloc _) _ _ _ (by simp)).drew.kept hb3; have HB3 : Hid (Below w.heap.size w w3) := (below_two w _ _).drew.trans (hb3.mono (by simp; omega)); clear hb3; obtain ⟨⟨r0, r1⟩, _⟩ := B3.out.c2) | (go_at_call 53; refine (ceilB (n * t) d _ hp0 hp1 hd.1 hd2).mono ?_; rintro e w4 ⟨rfl, hb4⟩; have B4 := hide (B3.out.kept hb4); have R4 := hide (R3.out.kept hb4); have HB4 := hide (HB3.out.trans (hb4.mono HB3.out.size)); clear hb4; obtain ⟨⟨s0, s1⟩, _⟩ := B4.out.c2; obtain ⟨⟨t0, t1⟩, f0, f1⟩ := R4.out.c2))
  go_wp2
  refine bodyPost_ret (v := .agg #[.int .i64 (n * t / d), .int .i64 (-(-(n * t) / d))]) (by simp [results, Try.results23, go_sem, t0, t1]) rfl ⟨rfl, ?_⟩
  repeat (first | exact HB4.out | refine Below.setCell ?_ (by simp) _)

set_option maxHeartbeats 1000000 in
set_option maxRecDepth 100000 in
theorem rounded_good (n d t : Int) (w : World) (hf : okF n d) (ht : 1 ≤ t ∧ t ≤ 1000000000) :
    Calls Try.prog 21 #[.agg #[.int .i64 n, .int .i64 d], .int .i64 t] w fun e w' => e = .returned (.tuple #[.agg #[.int .i64 (rdn n d t), .int .i64 (rup n d t)], .int .i64 0]) ∧ Below w.heap.size w w' := by
  obtain ⟨hl, hn, hd2⟩ := hf
  have hd := hl.1
  obtain ⟨hp0, hp1⟩ := prod_in hn ht
  have hd3 : d ≤ 9000000000000000000 := by omega
  have HE : Hid (fracErr n d = 0) := (if_pos hl).trans (if_pos ⟨hl, hn, hd2⟩)
  have hcm : t * n = n * t := Int.mul_comm t n
  have hq0 : -9000000000000000000 ≤ t * n := by omega
  have hq1 : t * n ≤ 9000000000000000000 := by omega
  have HC := hide hcm
  clear hl hcm
  go_enter Try.func21, Try.ntmps21
  go_wp2_with fail
  refine (checkFrac_any n d _ (by omega) (by omega)).mono ?_
  rintro e w2 ⟨rfl, hb2⟩
  rw [HE.out]
  have B2 : Hid (Blk w2 w.heap.size 23 #[.int .i64 n, .int .i64 d]) := ((Blk.new w _ _ _ rfl).alloc _).kept hb2
  have R2 : Hid (Blk w2 (w.heap.size + 1) 37 #[.int .i64 0, .int .i64 0]) := (Blk.new (w.alloc _) _ _ _ (by simp)).kept hb2
  have HB : Hid (Below w.heap.size w w2) := (below_two w _ _).trans (hb2.mono (by simp; omega))
  clear hb2
  obtain ⟨⟨q0, q1⟩, _⟩ := B2.out.c2
  go_wp2
  go_region_held3 (fun w' => w'.cell? ⟨w.heap.size, 0, none⟩ = some (.int .i64 n) ∧ w'.cell? ⟨w.heap.size, 1, none⟩ = some (.int .i64 d))
    (go_keep)
    (first | (go_at_call 50; refine (qdownB (t * n) d _ hq0 hq1 hd hd3).mono ?_; rintro e w3 ⟨rfl, hb3⟩; have B3 := hide (B2.out.drew.kept hb3); have R3 := hide (R2.out.drew.kept hb3); have HB3 := hide (HB.out.drew.trans (hb3.mono HB.out.size)); clear hb3; obtain ⟨⟨r0, r1⟩, _⟩ := B3.out.c2) | (go_at_call 51; refine (qupB (t * n) d _ hq0 hq1 hd hd3).mono ?_; rintro e w4 ⟨rfl, hb4⟩; have B4 := hide (B3.out.kept hb4); have R4 := hide (R3.out.kept hb4); have HB4 := hide (HB3.out.trans (hb4.mono HB3.out.size)); clear hb4; obtain ⟨⟨s0, s1⟩, _⟩ := B4.out.c2; obtain ⟨⟨t0, t1⟩, f0, f1⟩ := R4.out.c2))
  go_wp2
  refine bodyPost_ret (v := .tuple #[.agg #[.int .i64 (t * n / d), .int .i64 (-(-(t * n) / d))], .int .i64 0]) (by simp [results, Try.results21, go_sem, t0, t1]) rfl ⟨by rw [HC.out]; rfl, ?_⟩
  repeat (first | exact HB4.out | refine Below.setCell ?_ (by simp) _)

set_option maxHeartbeats 1000000 in
set_option maxRecDepth 100000 in
/-- An error of Rounded: the fraction's, else 2 for a wrong number of times. -/
theorem rounded_bad (n d t : Int) (w : World) (hn : -9223372036854775808 ≤ n ∧ n ≤ 9223372036854775807) (hd : -9223372036854775808 ≤ d ∧ d ≤ 9223372036854775807) (c : Int) (h : (fracErr n d = 3 ∧ c = 3) ∨ (fracErr n d = 2 ∧ c = 2) ∨ (fracErr n d = 0 ∧ c = 2 ∧ ¬ (1 ≤ t ∧ t ≤ 1000000000))) :
    Calls Try.prog 21 #[.agg #[.int .i64 n, .int .i64 d], .int .i64 t] w fun e w' => e = .returned (.tuple #[.agg #[.int .i64 0, .int .i64 0], .int .i64 c]) ∧ Below w.heap.size w w' := by
  go_enter Try.func21, Try.ntmps21
  go_wp2_with fail
  refine (checkFrac_any n d _ hn hd).mono ?_
  rintro e w2 ⟨rfl, hb2⟩
  have R2 : Hid (Blk w2 (w.heap.size + 1) 37 #[.int .i64 0, .int .i64 0]) := (Blk.new (w.alloc _) _ _ _ (by simp)).kept hb2
  have HB : Hid (Below w.heap.size w w2) := (below_two w _ _).trans (hb2.mono (by simp; omega))
  clear hb2
  obtain ⟨⟨t0, t1⟩, f0, f1⟩ := R2.out.c2
  have H := hide h
  clear h
  rcases H.out with ⟨h, rfl⟩ | ⟨h, rfl⟩ | ⟨h, rfl, ht⟩
  · rw [h]
    clear H h
    go_wp2
    refine bodyPost_ret (v := .tuple #[.agg #[.int .i64 0, .int .i64 0], .int .i64 3]) (by simp [results, Try.results21, go_sem, t0, t1]) rfl ⟨rfl, ?_⟩
    repeat (first | exact HB.out | refine Below.setCell ?_ (by simp) _)
  · rw [h]
    clear H h
    go_wp2
    refine bodyPost_ret (v := .tuple #[.agg #[.int .i64 0, .int .i64 0], .int .i64 2]) (by simp [results, Try.results21, go_sem, t0, t1]) rfl ⟨rfl, ?_⟩
    repeat (first | exact HB.out | refine Below.setCell ?_ (by simp) _)
  · rw [h]
    clear H h
    by_cases h1 : t < 1
    · clear ht
      go_wp2
      refine bodyPost_ret (v := .tuple #[.agg #[.int .i64 0, .int .i64 0], .int .i64 2]) (by simp [results, Try.results21, go_sem, t0, t1]) rfl ⟨rfl, ?_⟩
      repeat (first | exact HB.out | refine Below.setCell ?_ (by simp) _)
    · have h2 : 1000000000 < t := by omega
      clear ht
      go_wp2
      refine bodyPost_ret (v := .tuple #[.agg #[.int .i64 0, .int .i64 0], .int .i64 2]) (by simp [results, Try.results21, go_sem, t0, t1]) rfl ⟨rfl, ?_⟩
      repeat (first | exact HB.out | refine Below.setCell ?_ (by simp) _)
end Go.Proofs.Ytfmonpjoadjimaa
