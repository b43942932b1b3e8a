/- The contract of number.Line: the best line at valid dots, by the triple with the greatest bend. -/
import Derived.Test.YtjomcobhinnikaaTrend
namespace Go.Proofs.Ytjomcobhinnikaa
open Go.RowKit

def dX (ds : List (Int × Int)) (i : Nat) : Int := (ds.getD i (0, 0)).1
def dY (ds : List (Int × Int)) (i : Nat) : Int := (ds.getD i (0, 0)).2
def bH (ds : List (Int × Int)) (i j k : Nat) : Int := bendH (dX ds i) (dY ds i) (dX ds j) (dY ds j) (dX ds k) (dY ds k)
def bW (ds : List (Int × Int)) (i k : Nat) : Int := dX ds k - dX ds i
/-- The triple with the greater bend. -/
def pickT (ds : List (Int × Int)) (p : Nat × Nat × Nat) (i j k : Nat) : Nat × Nat × Nat :=
  if beyondB (bH ds i j k) (bW ds i k) (bH ds p.1 p.2.1 p.2.2) (bW ds p.1 p.2.2) = true then (i, j, k) else p
def kTo (ds : List (Int × Int)) (i j : Nat) : Nat → Nat × Nat × Nat → Nat × Nat × Nat
  | 0, p => p
  | t + 1, p => pickT ds (kTo ds i j t p) i j (j + 1 + t)
def jTo (ds : List (Int × Int)) (i : Nat) : Nat → Nat × Nat × Nat → Nat × Nat × Nat
  | 0, p => p
  | t + 1, p => kTo ds i (i + 1 + t) (ds.length - (i + 1 + t + 1)) (jTo ds i t p)
def iTo (ds : List (Int × Int)) : Nat → Nat × Nat × Nat → Nat × Nat × Nat
  | 0, p => p
  | t + 1, p => jTo ds t (ds.length - (t + 1)) (iTo ds t p)
def bestT (ds : List (Int × Int)) : Nat × Nat × Nat := iTo ds ds.length (0, 1, 2)

def okT (n : Nat) (p : Nat × Nat × Nat) : Prop := p.1 < p.2.1 ∧ p.2.1 < p.2.2 ∧ p.2.2 < n
theorem okT_pick {ds : List (Int × Int)} {n : Nat} {p : Nat × Nat × Nat} {i j k : Nat} (h : okT n p) (hi : i < j) (hj : j < k) (hk : k < n) : okT n (pickT ds p i j k) := by
  unfold pickT; split
  · exact ⟨hi, hj, hk⟩
  · exact h

structure DotsOk (ds : List (Int × Int)) : Prop where
  three : 3 ≤ ds.length
  sixty : ds.length ≤ 60
  inX : ∀ i, i < ds.length → inD (dX ds i)
  inY : ∀ i, i < ds.length → inD (dY ds i)
  asc : ∀ i k, i < k → k < ds.length → dX ds i < dX ds k

theorem dotsTo_down {ds : List (Int × Int)} : ∀ n, dotsTo ds n = 0 → ∀ k, k < n → dotErrAt ds k = 0
  | 0, _, k, hk => by omega
  | n + 1, h, k, hk => by
    rw [dotsTo] at h
    by_cases h0 : dotsTo ds n = 0
    · rw [if_pos h0] at h
      rcases Nat.lt_or_ge k n with hlt | hge
      · exact dotsTo_down n h0 k hlt
      · obtain rfl : k = n := by omega
        exact h
    · rw [if_neg h0] at h; exact absurd h h0
theorem dots_ok {ds : List (Int × Int)} (h : dotsErr ds = 0) : DotsOk ds := by
  unfold dotsErr at h
  by_cases hn : ds.length < 3 ∨ 60 < ds.length
  · rw [if_pos hn] at h; omega
  · rw [if_neg hn] at h
    have hk := dotsTo_down _ h
    have hin : ∀ i, i < ds.length → inD (dX ds i) ∧ inD (dY ds i) := fun i hi => by
      have := hk i hi
      unfold dotErrAt at this
      split at this
      · rename_i hc; exact hc
      · omega
    have hstep : ∀ i, i + 1 < ds.length → dX ds i < dX ds (i + 1) := fun i hi => by
      have := hk (i + 1) hi
      unfold dotErrAt at this
      rw [if_pos (show inD (ds.getD (i + 1) (0, 0)).1 ∧ inD (ds.getD (i + 1) (0, 0)).2 from hin (i + 1) hi)] at this
      split at this
      · omega
      · rename_i hc
        rw [Nat.add_sub_cancel] at hc
        unfold dX
        omega
    refine ⟨by omega, by omega, fun i hi => (hin i hi).1, fun i hi => (hin i hi).2, ?_⟩
    intro i k hik
    induction k with
    | zero => omega
    | succ k ih =>
      intro hk'
      rcases Nat.lt_or_ge i k with hlt | hge
      · exact Int.lt_trans (ih hlt (by omega)) (hstep k hk')
      · obtain rfl : i = k := by omega
        exact hstep i hk'
theorem DotsOk.bend {ds : List (Int × Int)} (h : DotsOk ds) {i j k : Nat} (hi : i < ds.length) (hj : j < ds.length) (hk : k < ds.length) : -800000000 ≤ bH ds i j k ∧ bH ds i j k ≤ 800000000 :=
  bendH_bound (h.inX i hi) (h.inY i hi) (h.inX j hj) (h.inY j hj) (h.inX k hk) (h.inY k hk)
theorem DotsOk.wide {ds : List (Int × Int)} (h : DotsOk ds) {i k : Nat} (hik : i < k) (hk : k < ds.length) : 0 ≤ bW ds i k ∧ bW ds i k ≤ 100000 := by
  have h1 := h.asc i k hik hk
  have h2 := h.inX i (by omega)
  have h3 := h.inX k hk
  unfold inD at h2 h3
  unfold bW
  omega

/-- What the loops keep: the proof in block g5, its bend in block g6. -/
structure LineInv (w0 : World) (ds : List (Int × Int)) (g5 g6 : Nat) (p : Nat × Nat × Nat) (W : World) : Prop where
  ok : okT ds.length p
  proof : Blk W g5 30 #[.int .i64 (p.1 : Nat), .int .i64 (p.2.1 : Nat), .int .i64 (p.2.2 : Nat)]
  most : Blk W g6 62 #[.int .i64 (bH ds p.1 p.2.1 p.2.2), .int .i64 (bW ds p.1 p.2.2)]
  res : Blk W w0.heap.size 32 #[.int .i64 0, .int .i64 0, .int .i64 0, .int .i64 0, .int .i64 0, .int .i64 0, .int .i64 0, .int .i64 0, .int .i64 0]
  below : Below w0.heap.size w0 W
theorem LineInv.kept {w0 : World} {ds : List (Int × Int)} {g5 g6 : Nat} {p : Nat × Nat × Nat} {W W' : World} (h : LineInv w0 ds g5 g6 p W) (hb : Below W.heap.size W W') : LineInv w0 ds g5 g6 p W' :=
  ⟨h.ok, h.proof.kept hb, h.most.kept hb, h.res.kept hb, h.below.trans (hb.mono h.below.size)⟩

def tSN (ax ay bx by' cx cy : Int) : Int := lN (2 * (ay * cx - cy * ax) + bendH ax ay bx by' cx cy) (2 * (cx - ax))
def tSD (ax ay bx by' cx cy : Int) : Int := lD (2 * (ay * cx - cy * ax) + bendH ax ay bx by' cx cy) (2 * (cx - ax))
def tPN (ax ay cx cy : Int) : Int := lN (cy - ay) (cx - ax)
def tPD (ax ay cx cy : Int) : Int := lD (cy - ay) (cx - ax)
def tEN (ax ay bx by' cx cy : Int) : Int := lN ((bendH ax ay bx by' cx cy).natAbs : Int) (2 * (cx - ax))
def tED (ax ay bx by' cx cy : Int) : Int := lD ((bendH ax ay bx by' cx cy).natAbs : Int) (2 * (cx - ax))
theorem trendV_parts (i j k : Nat) (ax ay bx by' cx cy : Int) : trendV i j k ax ay bx by' cx cy = .agg #[.int .i64 (tSN ax ay bx by' cx cy), .int .i64 (tSD ax ay bx by' cx cy), .int .i64 (tPN ax ay cx cy), .int .i64 (tPD ax ay cx cy), .int .i64 (tEN ax ay bx by' cx cy), .int .i64 (tED ax ay bx by' cx cy), .int .i64 i, .int .i64 j, .int .i64 k] := rfl

/-- A round whose triple has the greater bend: its numbers are stored. -/
theorem LineInv.turn {w0 : World} {ds : List (Int × Int)} {g5 g6 i j k : Nat} {p : Nat × Nat × Nat} {W : World} (h : LineInv w0 ds g5 g6 p W) (hi : i < j) (hj : j < k) (hk : k < ds.length) (h5 : w0.heap.size < g5) (h6 : w0.heap.size < g6)
    (hb : beyondB (bH ds i j k) (bW ds i k) (bH ds p.1 p.2.1 p.2.2) (bW ds p.1 p.2.2) = true) :
    LineInv w0 ds g5 g6 (pickT ds p i j k) (((((W.setCell ⟨g6, 0, none⟩ (.int .i64 (bH ds i j k))).setCell ⟨g6, 1, none⟩ (.int .i64 (bW ds i k))).setCell ⟨g5, 0, none⟩ (.int .i64 i)).setCell ⟨g5, 1, none⟩ (.int .i64 j)).setCell ⟨g5, 2, none⟩ (.int .i64 k)) := by
  have e : pickT ds p i j k = (i, j, k) := if_pos hb
  rw [e]
  have n56 : g5 ≠ g6 := h.proof.ne h.most (by decide)
  refine ⟨⟨hi, hj, hk⟩, ?_, ?_, ?_, ?_⟩
  · exact ((((h.proof.far (p := ⟨g6, 0, none⟩) n56 _).far (p := ⟨g6, 1, none⟩) n56 _).set 0 _).set 1 _).set 2 _
  · exact ((((h.most.set 0 _).set 1 _).far (p := ⟨g5, 0, none⟩) (Ne.symm n56) _).far (p := ⟨g5, 1, none⟩) (Ne.symm n56) _).far (p := ⟨g5, 2, none⟩) (Ne.symm n56) _
  · exact ((((h.res.far (p := ⟨g6, 0, none⟩) (Nat.ne_of_lt h6) _).far (p := ⟨g6, 1, none⟩) (Nat.ne_of_lt h6) _).far (p := ⟨g5, 0, none⟩) (Nat.ne_of_lt h5) _).far (p := ⟨g5, 1, none⟩) (Nat.ne_of_lt h5) _).far (p := ⟨g5, 2, none⟩) (Nat.ne_of_lt h5) _
  · exact ((((h.below.setCell (p := ⟨g6, 0, none⟩) (Nat.le_of_lt h6) _).setCell (p := ⟨g6, 1, none⟩) (Nat.le_of_lt h6) _).setCell (p := ⟨g5, 0, none⟩) (Nat.le_of_lt h5) _).setCell (p := ⟨g5, 1, none⟩) (Nat.le_of_lt h5) _).setCell (p := ⟨g5, 2, none⟩) (Nat.le_of_lt h5) _
theorem LineInv.stay {w0 : World} {ds : List (Int × Int)} {g5 g6 i j k : Nat} {p : Nat × Nat × Nat} {W : World} (h : LineInv w0 ds g5 g6 p W)
    (hb : beyondB (bH ds i j k) (bW ds i k) (bH ds p.1 p.2.1 p.2.2) (bW ds p.1 p.2.2) = false) : LineInv w0 ds g5 g6 (pickT ds p i j k) W := by
  have e : pickT ds p i j k = p := if_neg (by rw [hb]; decide)
  rw [e]; exact h

set_option maxHeartbeats 4000000 in
set_option maxRecDepth 100000 in
theorem line_good (b off n cap : Nat) (ds : List (Int × Int)) (w : World) (hn : ds.length = n) (hb : b < w.heap.size) (hok : dotsErr ds = 0)
    (hc : ∀ i, i < n → w.cell? ⟨b, off + i * 2, none⟩ = some (.int .i64 (dX ds i)) ∧ w.cell? ⟨b, off + i * 2 + 1, none⟩ = some (.int .i64 (dY ds i))) :
    Calls Try.prog 9 #[.slice (some ⟨b, off, none⟩) n cap] w fun e w' => Below w.heap.size w w' ∧
      e = .returned (.tuple #[trendV (bestT ds).1 (bestT ds).2.1 (bestT ds).2.2 (dX ds (bestT ds).1) (dY ds (bestT ds).1) (dX ds (bestT ds).2.1) (dY ds (bestT ds).2.1) (dX ds (bestT ds).2.2) (dY ds (bestT ds).2.2), .int .i64 0]) := by
  have HOK := hide (dots_ok hok)
  have n3 : 3 ≤ n := by rw [← hn]; exact HOK.out.three
  have n60 : n ≤ 60 := by rw [← hn]; exact HOK.out.sixty
  have HN := hide hn
  have HC := hide hc
  have HE := hide hok
  have HDS : Hid (Dots (w.alloc (.cells #[.int .i64 0, .int .i64 0, .int .i64 0, .int .i64 0, .int .i64 0, .int .i64 0, .int .i64 0, .int .i64 0, .int .i64 0] 32)) (w.heap.size + 1) (some ⟨b, off, none⟩) ds) := fun _ =>
    ⟨b, off, rfl, by omega, fun i hi => by
      rw [World.cell?_alloc_past _ _ _ hb, World.cell?_alloc_past _ _ _ hb]
      exact hc i (by omega)⟩
  clear hn hok hc
  go_enter Try.func9, Try.ntmps9
  go_wp2_with fail
  refine (checkDots_any _ n cap ds _ HN.out (by have := HDS.out; simpa using this)).mono ?_
  rintro e w1 ⟨rfl, hb1⟩
  rw [HE.out]
  have R1 := hide ((Blk.new w w.heap.size 32 #[.int .i64 0, .int .i64 0, .int .i64 0, .int .i64 0, .int .i64 0, .int .i64 0, .int .i64 0, .int .i64 0, .int .i64 0] rfl).kept hb1)
  have L1 : Hid (Below w.heap.size w w1) := ((Below.refl _ _).alloc (Nat.le_refl _) _).trans (hb1.mono (by simp))
  clear hb1
  have hs1 : w.heap.size < w1.heap.size := R1.out.lt
  have hbl : b < w1.heap.size := by omega
  have hbl1 : b < w1.heap.size + 1 := by omega
  have HC1 : Hid (∀ i, i < n → w1.cell? ⟨b, off + i * 2, none⟩ = some (.int .i64 (dX ds i)) ∧ w1.cell? ⟨b, off + i * 2 + 1, none⟩ = some (.int .i64 (dY ds i))) := fun i hi =>
    ⟨(L1.out.cell (p := ⟨b, off + i * 2, none⟩) hb).trans (HC.out i hi).1, (L1.out.cell (p := ⟨b, off + i * 2 + 1, none⟩) hb).trans (HC.out i hi).2⟩
  obtain ⟨q0, q1⟩ := HC1.out 0 (by omega)
  obtain ⟨q2, q3⟩ := HC1.out 1 (by omega)
  obtain ⟨q4, q5⟩ := HC1.out 2 (by omega)
  simp only [Nat.zero_mul, Nat.one_mul, Nat.add_zero, Nat.reduceMul] at q0 q1 q2 q3 q4 q5
  have z0 : (0 : Int) < (n : Int) := by omega
  have z0' : 0 < n := by omega
  have z1 : (1 : Int) < (n : Int) := by omega
  have z2 : (2 : Int) < (n : Int) := by omega
  have nb : ¬ b = w1.heap.size + 1 := by omega
  go_upto_region 5 with fail
  go_cut [6] (fun s6 wx => ∃ g6 : Nat, s6 = .pointer (some ⟨g6, 0, none⟩) ∧ w1.heap.size + 1 ≤ g6 ∧ Hid (LineInv w ds w1.heap.size g6 (0, 1, 2) wx))
  case first =>
    go_region_held3 (fun w' => w'.cell? ⟨b, off, none⟩ = some (.int .i64 (dX ds 0)) ∧ w'.cell? ⟨b, off + 1, none⟩ = some (.int .i64 (dY ds 0)) ∧ w'.cell? ⟨b, off + 2, none⟩ = some (.int .i64 (dX ds 1)) ∧ w'.cell? ⟨b, off + 2 + 1, none⟩ = some (.int .i64 (dY ds 1)) ∧
      w'.cell? ⟨b, off + 4, none⟩ = some (.int .i64 (dX ds 2)) ∧ w'.cell? ⟨b, off + 4 + 1, none⟩ = some (.int .i64 (dY ds 2)))
      (first | exact ⟨Z0, Z1, Z2, Z3, Z4, Z5⟩ | exact ⟨far2 Z0 nb nb, far2 Z1 nb nb, far2 Z2 nb nb, far2 Z3 nb nb, far2 Z4 nb nb, far2 Z5 nb nb⟩ | (simp [go_sem, World.cell?_alloc_past, hbl, hbl1, q0, q1, q2, q3, q4, q5]; done) | (simp [go_sem, World.cell?_alloc_past, LB, Z0, Z1, Z2, Z3, Z4, Z5]; done))
      ((go_at_call 22; refine (bendOf_any (dX ds 0) (dY ds 0) (dX ds 1) (dY ds 1) (dX ds 2) (dY ds 2) _ (HOK.out.inX 0 (by rw [HN.out]; omega)) (HOK.out.inY 0 (by rw [HN.out]; omega)) (HOK.out.inX 1 (by rw [HN.out]; omega)) (HOK.out.inY 1 (by rw [HN.out]; omega)) (HOK.out.inX 2 (by rw [HN.out]; omega)) (HOK.out.inY 2 (by rw [HN.out]; omega))).mono ?_; rintro e w3 ⟨rfl, hb3⟩; have Z0 : w3.cell? ⟨b, off, none⟩ = some (.int .i64 (dX ds 0)) := (hb3.cell (p := ⟨b, off, none⟩) (by simp; omega)).trans (by simp [go_sem, World.cell?_alloc_past, hbl, hbl1, q0]); have Z1 : w3.cell? ⟨b, off + 1, none⟩ = some (.int .i64 (dY ds 0)) := (hb3.cell (p := ⟨b, off + 1, none⟩) (by simp; omega)).trans (by simp [go_sem, World.cell?_alloc_past, hbl, hbl1, q1]); have Z2 : w3.cell? ⟨b, off + 2, none⟩ = some (.int .i64 (dX ds 1)) := (hb3.cell (p := ⟨b, off + 2, none⟩) (by simp; omega)).trans (by simp [go_sem, World.cell?_alloc_past, hbl, hbl1, q2]); have Z3 : w3.cell? ⟨b, off + 2 + 1, none⟩ = some (.int .i64 (dY ds 1)) := (hb3.cell (p := ⟨b, off + 2 + 1, none⟩) (by simp; omega)).trans (by simp [go_sem, World.cell?_alloc_past, hbl, hbl1, q3]); have Z4 : w3.cell? ⟨b, off + 4, none⟩ = some (.int .i64 (dX ds 2)) := (hb3.cell (p := ⟨b, off + 4, none⟩) (by simp; omega)).trans (by simp [go_sem, World.cell?_alloc_past, hbl, hbl1, q4]); have Z5 : w3.cell? ⟨b, off + 4 + 1, none⟩ = some (.int .i64 (dY ds 2)) := (hb3.cell (p := ⟨b, off + 4 + 1, none⟩) (by simp; omega)).trans (by simp [go_sem, World.cell?_alloc_past, hbl, hbl1, q5]); have BP : Blk w3 w1.heap.size 30 #[.int .i64 0, .int .i64 1, .int .i64 2] := (by first | exact (Blk.new w1 _ _ _ rfl).drew.kept hb3 | exact ((Blk.new w1 _ _ _ rfl).alloc _).drew.kept hb3); have BR := (by first | exact (R1.out.alloc _).drew.kept hb3 | exact ((R1.out.alloc _).alloc _).drew.kept hb3 : Blk w3 w.heap.size 32 #[.int .i64 0, .int .i64 0, .int .i64 0, .int .i64 0, .int .i64 0, .int .i64 0, .int .i64 0, .int .i64 0, .int .i64 0]); (try (have B7 := (Blk.new (w1.alloc (.cells #[.int .i64 0, .int .i64 1, .int .i64 2] 30)) (w1.heap.size + 1) 62 #[.int .i64 0, .int .i64 0] (by simp)).drew.kept hb3; have L7 := B7.lt; obtain ⟨⟨r7, r8⟩, f7, f8⟩ := B7.c2; have HN7 := hide B7; clear B7)); have HL3 : Hid (Below w.heap.size w w3) := (by first | exact ((L1.out.alloc L1.out.size _).drew).trans (hb3.mono (by simp; omega)) | exact (((L1.out.alloc L1.out.size _).alloc (by simp; omega) _).drew).trans (hb3.mono (by simp; omega))); have LB : b < w3.heap.size := (by have := HL3.out.size; omega); have hs3 : w1.heap.size + 1 ≤ w3.heap.size := (by have := hb3.size; simp at this; omega); have HBP := hide BP; have HBR := hide BR; clear hb3 BP BR))
    all_goals
      go_wp2_with fail
      go_meet
      refine ⟨_, rfl, ?_, hide ⟨⟨by show 0 < 1; omega, by show 1 < 2; omega, by show 2 < ds.length; rw [HN.out]; omega⟩, ?_, ?_, ?_, ?_⟩⟩
      · first | omega | (simp; done)
      · first | exact HBP.out.alloc _ | exact (HBP.out.far (by simp) _).far (by simp) _
      · first | exact Blk.new _ _ _ _ rfl | exact (HN7.out.set 0 _).set 1 _
      · first | exact HBR.out.alloc _ | exact (HBR.out.far (by simp; omega) _).far (by simp; omega) _
      · first | exact HL3.out.alloc HL3.out.size _ | exact (HL3.out.setCell (by simp; omega) _).setCell (by simp; omega) _
  case rest =>
    obtain ⟨v1, hv1⟩ : ∃ v : World, v = wc := ⟨_, rfl⟩
    subst hv1
    obtain ⟨g6, rfl, hg6, HI⟩ := hcut
    obtain ⟨g5, hg5⟩ : ∃ g, g = w1.heap.size := ⟨_, rfl⟩
    rw [← hg5] at HI ⊢
    have h5 : w.heap.size < g5 := by omega
    have h6 : w.heap.size < g6 := by omega
    clear q0 q1 q2 q3 q4 q5 hbl hbl1 nb HDS R1 L1 HC1 hs1 hg5 hg6
    go_wp2_with fail
    go_loopw [30] (fun i wr => ∃ t : Nat, t ≤ n ∧ i = .int .i64 t ∧ Hid (LineInv w ds g5 g6 (iTo ds t (0, 1, 2)) wr)) (fun i _ => n - (intOf i).toNat)
    case atStart => exact ⟨0, by omega, rfl, HI⟩
    case round =>
      obtain ⟨W1, hW1⟩ : ∃ v : World, v = wr := ⟨_, rfl⟩
      subst hW1
      obtain ⟨t, ht, rfl, HT⟩ := hrel
      by_cases htl : t < n
      · go_wp2_with fail
        go_loopw [8] (fun j wr => ∃ s : Nat, t + 1 + s ≤ n ∧ j = .int .i64 ((t + 1 + s : Nat) : Int) ∧ Hid (LineInv w ds g5 g6 (jTo ds t s (iTo ds t (0, 1, 2))) wr)) (fun j _ => n - (intOf j).toNat)
        case atStart => exact ⟨0, by omega, by go_num, HT⟩
        case round =>
          obtain ⟨W2, hW2⟩ : ∃ v : World, v = wr := ⟨_, rfl⟩
          subst hW2
          obtain ⟨s, hs, rfl, HS⟩ := hrel
          obtain ⟨j, hj⟩ : ∃ j, j = t + 1 + s := ⟨_, rfl⟩
          rw [← hj]
          have HJ := hide hj
          have hj1 : j ≤ n := by omega
          have htj : t < j := by omega
          clear hj
          by_cases hjl : j < n
          · go_wp2_with fail
            go_loopw [9] (fun k wr => ∃ r : Nat, j + 1 + r ≤ n ∧ k = .int .i64 ((j + 1 + r : Nat) : Int) ∧ Hid (LineInv w ds g5 g6 (kTo ds t j r (jTo ds t s (iTo ds t (0, 1, 2)))) wr)) (fun k _ => n - (intOf k).toNat)
            case atStart => exact ⟨0, by omega, by go_num, HS⟩
            case round =>
              obtain ⟨W3, hW3⟩ : ∃ v : World, v = wr := ⟨_, rfl⟩
              subst hW3
              obtain ⟨r, hr, rfl, HR⟩ := hrel
              obtain ⟨k, hk⟩ : ∃ k, k = j + 1 + r := ⟨_, rfl⟩
              rw [← hk]
              have HK := hide hk
              have hk1 : k ≤ n := by omega
              have hjk : j < k := by omega
              clear hk
              by_cases hkl : k < n
              · have hW := HR.out.below.size
                have hbl : b < W3.heap.size := by omega
                have nb : ¬ b = W3.heap.size := by omega
                have a0 : W3.cell? ⟨b, off + t * 2, none⟩ = some (.int .i64 (dX ds t)) := (HR.out.below.cell (p := ⟨b, off + t * 2, none⟩) hb).trans (HC.out t (by omega)).1
                have a1 : W3.cell? ⟨b, off + t * 2 + 1, none⟩ = some (.int .i64 (dY ds t)) := (HR.out.below.cell (p := ⟨b, off + t * 2 + 1, none⟩) hb).trans (HC.out t (by omega)).2
                have c0 : W3.cell? ⟨b, off + j * 2, none⟩ = some (.int .i64 (dX ds j)) := (HR.out.below.cell (p := ⟨b, off + j * 2, none⟩) hb).trans (HC.out j (by omega)).1
                have c1 : W3.cell? ⟨b, off + j * 2 + 1, none⟩ = some (.int .i64 (dY ds j)) := (HR.out.below.cell (p := ⟨b, off + j * 2 + 1, none⟩) hb).trans (HC.out j (by omega)).2
                have e0 : W3.cell? ⟨b, off + k * 2, none⟩ = some (.int .i64 (dX ds k)) := (HR.out.below.cell (p := ⟨b, off + k * 2, none⟩) hb).trans (HC.out k (by omega)).1
                have e1 : W3.cell? ⟨b, off + k * 2 + 1, none⟩ = some (.int .i64 (dY ds k)) := (HR.out.below.cell (p := ⟨b, off + k * 2 + 1, none⟩) hb).trans (HC.out k (by omega)).2
                have y0 : (0 : Int) ≤ (t : Int) := by omega
                have y1 : (t : Int) < (n : Int) := by omega
                have y2 : (0 : Int) ≤ (j : Int) := by omega
                have y3 : (j : Int) < (n : Int) := by omega
                have y4 : (0 : Int) ≤ (k : Int) := by omega
                have y5 : (k : Int) < (n : Int) := by omega
                have HTL := hide htl
                have HJL := hide hjl
                have HKL := hide hkl
                go_upto_region 15 with fail
                go_cut [10] (fun s10 wx => ∃ g10 : Nat, s10 = .pointer (some ⟨g10, 0, none⟩) ∧ Hid (Blk wx g10 62 #[.int .i64 (bH ds t j k), .int .i64 (bW ds t k)]) ∧ Hid (Below W3.heap.size W3 wx))
                case first =>
                  go_region_held3 (fun w' => w'.cell? ⟨b, off + t * 2, none⟩ = some (.int .i64 (dX ds t)) ∧ w'.cell? ⟨b, off + t * 2 + 1, none⟩ = some (.int .i64 (dY ds t)) ∧ w'.cell? ⟨b, off + j * 2, none⟩ = some (.int .i64 (dX ds j)) ∧ w'.cell? ⟨b, off + j * 2 + 1, none⟩ = some (.int .i64 (dY ds j)) ∧ w'.cell? ⟨b, off + k * 2, none⟩ = some (.int .i64 (dX ds k)) ∧ w'.cell? ⟨b, off + k * 2 + 1, none⟩ = some (.int .i64 (dY ds k)))
                    (first | exact ⟨Z0, Z1, Z2, Z3, Z4, Z5⟩ | exact ⟨far2 Z0 nb nb, far2 Z1 nb nb, far2 Z2 nb nb, far2 Z3 nb nb, far2 Z4 nb nb, far2 Z5 nb nb⟩ | exact ⟨a0, a1, c0, c1, e0, e1⟩ | (simp [go_sem, World.cell?_alloc_past, hbl, a0, a1, c0, c1, e0, e1]; done) | (simp [go_sem, World.cell?_alloc_past, LB, Z0, Z1, Z2, Z3, Z4, Z5]; done))
                    ((go_at_call 22; refine (bendOf_any (dX ds t) (dY ds t) (dX ds j) (dY ds j) (dX ds k) (dY ds k) _ (HOK.out.inX t (by rw [HN.out]; exact HTL.out)) (HOK.out.inY t (by rw [HN.out]; exact HTL.out)) (HOK.out.inX j (by rw [HN.out]; exact HJL.out)) (HOK.out.inY j (by rw [HN.out]; exact HJL.out)) (HOK.out.inX k (by rw [HN.out]; exact HKL.out)) (HOK.out.inY k (by rw [HN.out]; exact HKL.out))).mono ?_; rintro e w3 ⟨rfl, hb3⟩; have Z0 : w3.cell? ⟨b, off + t * 2, none⟩ = some (.int .i64 (dX ds t)) := (hb3.cell (p := ⟨b, off + t * 2, none⟩) (by first | exact hbl | (simp; omega))).trans (by first | exact a0 | (simp [go_sem, World.cell?_alloc_past, hbl, a0]; done)); have Z1 : w3.cell? ⟨b, off + t * 2 + 1, none⟩ = some (.int .i64 (dY ds t)) := (hb3.cell (p := ⟨b, off + t * 2 + 1, none⟩) (by first | exact hbl | (simp; omega))).trans (by first | exact a1 | (simp [go_sem, World.cell?_alloc_past, hbl, a1]; done)); have Z2 : w3.cell? ⟨b, off + j * 2, none⟩ = some (.int .i64 (dX ds j)) := (hb3.cell (p := ⟨b, off + j * 2, none⟩) (by first | exact hbl | (simp; omega))).trans (by first | exact c0 | (simp [go_sem, World.cell?_alloc_past, hbl, c0]; done)); have Z3 : w3.cell? ⟨b, off + j * 2 + 1, none⟩ = some (.int .i64 (dY ds j)) := (hb3.cell (p := ⟨b, off + j * 2 + 1, none⟩) (by first | exact hbl | (simp; omega))).trans (by first | exact c1 | (simp [go_sem, World.cell?_alloc_past, hbl, c1]; done)); have Z4 : w3.cell? ⟨b, off + k * 2, none⟩ = some (.int .i64 (dX ds k)) := (hb3.cell (p := ⟨b, off + k * 2, none⟩) (by first | exact hbl | (simp; omega))).trans (by first | exact e0 | (simp [go_sem, World.cell?_alloc_past, hbl, e0]; done)); have Z5 : w3.cell? ⟨b, off + k * 2 + 1, none⟩ = some (.int .i64 (dY ds k)) := (hb3.cell (p := ⟨b, off + k * 2 + 1, none⟩) (by first | exact hbl | (simp; omega))).trans (by first | exact e1 | (simp [go_sem, World.cell?_alloc_past, hbl, e1]; done)); (try (have B7 := (Blk.new W3 W3.heap.size 62 #[.int .i64 0, .int .i64 0] rfl).drew.kept hb3; have L7 := B7.lt; obtain ⟨⟨r7, r8⟩, f7, f8⟩ := B7.c2; have HN7 := hide B7; clear B7)); have HB3 : Hid (Below W3.heap.size W3 w3) := (by first | exact (Below.refl _ W3).drew.trans hb3 | exact ((Below.refl _ W3).alloc (Nat.le_refl _) _).drew.trans (hb3.mono (by simp))); have LB : b < w3.heap.size := (by have := HB3.out.size; omega); clear hb3))
                  all_goals
                    go_wp2_with fail
                    go_meet
                    refine ⟨_, rfl, hide ?_, hide ?_⟩
                    · first | exact Blk.new _ _ _ _ rfl | exact (HN7.out.set 0 _).set 1 _
                    · first | exact HB3.out.alloc HB3.out.size _ | exact (HB3.out.setCell (by simp) _).setCell (by simp) _
                case rest =>
                  obtain ⟨W4, hW4⟩ : ∃ v : World, v = wc := ⟨_, rfl⟩
                  subst hW4
                  obtain ⟨g10, rfl, H10, HB4⟩ := hcut
                  have HI4 := hide (HR.out.kept HB4.out)
                  clear a0 a1 c0 c1 e0 e1 y0 y1 y2 y3 y4 y5 hbl nb HR HB4
                  obtain ⟨p, hp⟩ : ∃ p, p = kTo ds t j r (jTo ds t s (iTo ds t (0, 1, 2))) := ⟨_, rfl⟩
                  rw [← hp] at HI4
                  have EP := hide hp
                  clear hp
                  obtain ⟨⟨x0, x1⟩, _⟩ := H10.out.c2
                  obtain ⟨⟨m0, m1⟩, _⟩ := HI4.out.most.c2
                  have hpo := HI4.out.ok
                  have bd1 := HOK.out.bend (i := t) (j := j) (k := k) (by rw [HN.out]; omega) (by rw [HN.out]; omega) (by rw [HN.out]; omega)
                  have bd2 := HOK.out.wide (i := t) (k := k) (by omega) (by rw [HN.out]; omega)
                  have bd3 := HOK.out.bend (i := p.1) (j := p.2.1) (k := p.2.2) (by have := hpo.1; have := hpo.2.1; have := hpo.2.2; omega) (by have := hpo.2.1; have := hpo.2.2; omega) hpo.2.2
                  have bd4 := HOK.out.wide (i := p.1) (k := p.2.2) (by have := hpo.1; have := hpo.2.1; omega) hpo.2.2
                  have HPO := hide hpo
                  clear hpo
                  go_wp2_with fail
                  refine (beyond_any _ _ _ _ _ (by omega) (by omega) bd2 bd4).mono ?_
                  rintro e W5 ⟨rfl, hb5⟩
                  have HI5 := hide (HI4.out.kept hb5)
                  have H105 := hide (H10.out.kept hb5)
                  clear hb5 x0 x1 m0 m1 HI4 H10 bd1 bd2 bd3 bd4
                  cases hbb : beyondB (bH ds t j k) (bW ds t k) (bH ds p.1 p.2.1 p.2.2) (bW ds p.1 p.2.2)
                  · have HS5 := hide (HI5.out.stay hbb)
                    clear hbb HI5 H105
                    rw [EP.out, HK.out] at HS5
                    go_wp2
                    go_roundw
                    case rel => exact ⟨r + 1, by have := HK.out; omega, by have := HK.out; go_num, HS5⟩
                    case measure => simp [intOf]; omega
                  · have HS5 := hide (HI5.out.turn htj hjk (by rw [HN.out]; exact hkl) h5 h6 hbb)
                    obtain ⟨⟨x0, x1⟩, _⟩ := H105.out.c2
                    obtain ⟨⟨m0, m1⟩, mf0, mf1⟩ := HI5.out.most.c2
                    obtain ⟨⟨p0, p1, p2⟩, pf0, pf1, pf2⟩ := HI5.out.proof.c3
                    have n56 : ¬ g5 = g6 := HI5.out.proof.ne HI5.out.most (by decide)
                    have n65 : ¬ g6 = g5 := fun e => n56 e.symm
                    clear hbb HI5 H105
                    have ek : kTo ds t j (r + 1) (jTo ds t s (iTo ds t (0, 1, 2))) = pickT ds p t j k := by rw [EP.out, HK.out]; rfl
                    have EK := hide ek
                    clear ek
                    go_wp2
                    go_roundw
                    case rel => exact ⟨r + 1, by have := HK.out; omega, by have := HK.out; go_num, by rw [EK.out]; exact HS5⟩
                    case measure => simp [intOf]; omega
              · have hkn : k = n := by omega
                have ej : kTo ds t j r (jTo ds t s (iTo ds t (0, 1, 2))) = jTo ds t (s + 1) (iTo ds t (0, 1, 2)) := by
                  have er : r = ds.length - (t + 1 + s + 1) := by have := HK.out; have := HJ.out; rw [HN.out]; omega
                  rw [jTo, HJ.out, er]
                rw [ej] at HR
                clear ej hkn
                go_wp2
                go_roundw
                case rel => exact ⟨s + 1, by have := HJ.out; omega, by have := HJ.out; go_num, HR⟩
                case measure => simp [intOf]; omega
          · have ei : jTo ds t s (iTo ds t (0, 1, 2)) = iTo ds (t + 1) (0, 1, 2) := by
              have es : s = ds.length - (t + 1) := by have := HJ.out; rw [HN.out]; omega
              rw [iTo, es]
            rw [ei] at HS
            clear ei
            go_wp2
            go_roundw
            case rel => exact ⟨t + 1, by omega, by go_num, HS⟩
            case measure => simp [intOf]; omega
      · have htn : t = ds.length := by rw [HN.out]; omega
        rw [htn] at HT
        obtain ⟨p, hp⟩ : ∃ p, p = bestT ds := ⟨_, rfl⟩
        have HT' : Hid (LineInv w ds g5 g6 p W1) := by rw [hp]; exact HT
        have EP := hide hp
        clear htn hp HT
        obtain ⟨⟨p0, p1, p2⟩, _⟩ := HT'.out.proof.c3
        obtain ⟨⟨u0, u1, u2, u3, u4, u5, u6, u7, u8⟩, f0, f1, f2, f3, f4, f5, f6, f7, f8⟩ := HT'.out.res.c9
        have hpo := HT'.out.ok
        have hW := HT'.out.below.size
        have k1 : p.1 < n := by have := hpo.1; have := hpo.2.1; have := hpo.2.2; have := HN.out; omega
        have k2 : p.2.1 < n := by have := hpo.2.1; have := hpo.2.2; have := HN.out; omega
        have k3 : p.2.2 < n := by have := hpo.2.2; have := HN.out; omega
        have K13 : Hid (p.1 < p.2.2) := by show p.1 < p.2.2; have := hpo.1; have := hpo.2.1; omega
        clear hpo
        have H1 := hide k1
        have H2 := hide k2
        have H3 := hide k3
        clear k1 k2 k3
        go_wp2_with fail
        refine (trendOf_any b off n cap p.1 p.2.1 p.2.2 (dX ds p.1) (dY ds p.1) (dX ds p.2.1) (dY ds p.2.1) (dX ds p.2.2) (dY ds p.2.2) _ H1.out H2.out H3.out (by omega)
          ((HT'.out.below.cell (p := ⟨b, off + p.1 * 2, none⟩) hb).trans (HC.out p.1 H1.out).1) ((HT'.out.below.cell (p := ⟨b, off + p.1 * 2 + 1, none⟩) hb).trans (HC.out p.1 H1.out).2)
          ((HT'.out.below.cell (p := ⟨b, off + p.2.1 * 2, none⟩) hb).trans (HC.out p.2.1 H2.out).1) ((HT'.out.below.cell (p := ⟨b, off + p.2.1 * 2 + 1, none⟩) hb).trans (HC.out p.2.1 H2.out).2)
          ((HT'.out.below.cell (p := ⟨b, off + p.2.2 * 2, none⟩) hb).trans (HC.out p.2.2 H3.out).1) ((HT'.out.below.cell (p := ⟨b, off + p.2.2 * 2 + 1, none⟩) hb).trans (HC.out p.2.2 H3.out).2)
          (HOK.out.inX _ (by rw [HN.out]; exact H1.out)) (HOK.out.inY _ (by rw [HN.out]; exact H1.out)) (HOK.out.inX _ (by rw [HN.out]; exact H2.out)) (HOK.out.inY _ (by rw [HN.out]; exact H2.out)) (HOK.out.inX _ (by rw [HN.out]; exact H3.out)) (HOK.out.inY _ (by rw [HN.out]; exact H3.out))
          (HOK.out.asc _ _ K13.out (by rw [HN.out]; exact H3.out))).mono ?_
        rintro e W2 ⟨rfl, hb2⟩
        have BR := hide (HT'.out.res.kept hb2)
        have BL : Hid (Below w.heap.size w W2) := HT'.out.below.trans (hb2.mono HT'.out.below.size)
        clear hb2 p0 p1 p2 u0 u1 u2 u3 u4 u5 u6 u7 u8 f0 f1 f2 f3 f4 f5 f6 f7 f8 HT'
        obtain ⟨⟨u0, u1, u2, u3, u4, u5, u6, u7, u8⟩, f0, f1, f2, f3, f4, f5, f6, f7, f8⟩ := BR.out.c9
        rw [trendV_parts]
        obtain ⟨z0, hz0⟩ : ∃ z, z = tSN (dX ds p.1) (dY ds p.1) (dX ds p.2.1) (dY ds p.2.1) (dX ds p.2.2) (dY ds p.2.2) := ⟨_, rfl⟩
        obtain ⟨z1, hz1⟩ : ∃ z, z = tSD (dX ds p.1) (dY ds p.1) (dX ds p.2.1) (dY ds p.2.1) (dX ds p.2.2) (dY ds p.2.2) := ⟨_, rfl⟩
        obtain ⟨z2, hz2⟩ : ∃ z, z = tPN (dX ds p.1) (dY ds p.1) (dX ds p.2.2) (dY ds p.2.2) := ⟨_, rfl⟩
        obtain ⟨z3, hz3⟩ : ∃ z, z = tPD (dX ds p.1) (dY ds p.1) (dX ds p.2.2) (dY ds p.2.2) := ⟨_, rfl⟩
        obtain ⟨z4, hz4⟩ : ∃ z, z = tEN (dX ds p.1) (dY ds p.1) (dX ds p.2.1) (dY ds p.2.1) (dX ds p.2.2) (dY ds p.2.2) := ⟨_, rfl⟩
        obtain ⟨z5, hz5⟩ : ∃ z, z = tED (dX ds p.1) (dY ds p.1) (dX ds p.2.1) (dY ds p.2.1) (dX ds p.2.2) (dY ds p.2.2) := ⟨_, rfl⟩
        rw [← hz0, ← hz1, ← hz2, ← hz3, ← hz4, ← hz5]
        have Z0 := hide hz0
        have Z1 := hide hz1
        have Z2 := hide hz2
        have Z3 := hide hz3
        have Z4 := hide hz4
        have Z5 := hide hz5
        clear hz0 hz1 hz2 hz3 hz4 hz5
        go_wp2
        refine bodyPost_ret (v := .tuple #[.agg #[.int .i64 z0, .int .i64 z1, .int .i64 z2, .int .i64 z3, .int .i64 z4, .int .i64 z5, .int .i64 (p.1 : Nat), .int .i64 (p.2.1 : Nat), .int .i64 (p.2.2 : Nat)], .int .i64 0]) (by simp [results, Try.results9, go_sem, u0, u1, u2, u3, u4, u5, u6, u7, u8]) rfl ⟨?_, ?_⟩
        · iterate 9 refine Below.setCell ?_ (by simp) _
          exact BL.out
        · rw [← EP.out, trendV_parts, ← Z0.out, ← Z1.out, ← Z2.out, ← Z3.out, ← Z4.out, ← Z5.out]
end Go.Proofs.Ytjomcobhinnikaa
