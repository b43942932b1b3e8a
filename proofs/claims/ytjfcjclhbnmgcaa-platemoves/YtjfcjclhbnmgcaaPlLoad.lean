/- The contract of plate.barLoad. Every bound is a premise of the theorem that bears it. -/
import Derived.Test.YtjfcjclhbnmgcaaPlBars
import Derived.Test.YtjfcjclhbnmgcaaPlLow
namespace Go.Proofs.Ytjfcjclhbnmgcaa
open Go.RowKit
set_option linter.unusedVariables false
set_option linter.unusedSimpArgs false

/-- What the first k loads give to a bar at c, the bars next to it at p and q. -/
def riseAt (p c x v : Int) : Int := if p < x ∧ x ≤ c then (x - p) * v else 0
def fallAt (c q x v : Int) : Int := if c < x ∧ x < q then (q - x) * v else 0
def riseTo (z : Nat → Nat → Int) (p c : Int) : Nat → Int
  | 0 => 0
  | k + 1 => riseTo z p c k + riseAt p c (z k 0) (z k 1)
def fallTo (z : Nat → Nat → Int) (c q : Int) : Nat → Int
  | 0 => 0
  | k + 1 => fallTo z c q k + fallAt c q (z k 0) (z k 1)
def inL (z : Nat → Nat → Int) (n : Nat) : Prop := ∀ i, i < n → (-20000 ≤ z i 0 ∧ z i 0 ≤ 20000) ∧ (-1000000 ≤ z i 1 ∧ z i 1 ≤ 1000000)
theorem riseAt_in {p c x v : Int} (hp : -20001 ≤ p ∧ p ≤ 20001) (hx : -20000 ≤ x ∧ x ≤ 20000) (hv : -1000000 ≤ v ∧ v ≤ 1000000) : -50000000000 ≤ riseAt p c x v ∧ riseAt p c x v ≤ 50000000000 := by
  have k := mul_bound (x := x - p) (y := v) 50000 1000000 (by omega) (by omega)
  rw [show (50000 * 1000000 : Nat) = 50000000000 from rfl] at k
  unfold riseAt
  split <;> omega
theorem fallAt_in {c q x v : Int} (hq : -20001 ≤ q ∧ q ≤ 20001) (hx : -20000 ≤ x ∧ x ≤ 20000) (hv : -1000000 ≤ v ∧ v ≤ 1000000) : -50000000000 ≤ fallAt c q x v ∧ fallAt c q x v ≤ 50000000000 := by
  have k := mul_bound (x := q - x) (y := v) 50000 1000000 (by omega) (by omega)
  rw [show (50000 * 1000000 : Nat) = 50000000000 from rfl] at k
  unfold fallAt
  split <;> omega
theorem riseTo_in {z : Nat → Nat → Int} {n : Nat} (h : inL z n) {p c : Int} (hp : -20001 ≤ p ∧ p ≤ 20001) : ∀ k, k ≤ n → -50000000000 * (k : Int) ≤ riseTo z p c k ∧ riseTo z p c k ≤ 50000000000 * (k : Int)
  | 0, _ => by simp [riseTo]
  | k + 1, hk => by
    have h1 := riseTo_in (c := c) h hp k (by omega)
    have h2 := riseAt_in (c := c) hp (h k (by omega)).1 (h k (by omega)).2
    rw [riseTo]
    omega
theorem fallTo_in {z : Nat → Nat → Int} {n : Nat} (h : inL z n) {c q : Int} (hq : -20001 ≤ q ∧ q ≤ 20001) : ∀ k, k ≤ n → -50000000000 * (k : Int) ≤ fallTo z c q k ∧ fallTo z c q k ≤ 50000000000 * (k : Int)
  | 0, _ => by simp [fallTo]
  | k + 1, hk => by
    have h1 := fallTo_in (c := c) h hq k (by omega)
    have h2 := fallAt_in (c := c) hq (h k (by omega)).1 (h k (by omega)).2
    rw [fallTo]
    omega
/-- The load of a bar, before it is brought to lowest terms. -/
def bnum (z : Nat → Nat → Int) (p c q : Int) (n : Nat) : Int := riseTo z p c n * (q - c) + fallTo z c q n * (c - p)
def bden (p c q : Int) : Int := (c - p) * (q - c)
theorem bnum_in {z : Nat → Nat → Int} {n : Nat} (h : inL z n) (hn : n ≤ 100) {p c q : Int} (hp : -20001 ≤ p ∧ p ≤ 20001) (hq : -20001 ≤ q ∧ q ≤ 20001) (hc : -20000 ≤ c ∧ c ≤ 20000) (h1 : p < c) (h2 : c < q) :
    (-250000000000000000 ≤ riseTo z p c n * (q - c) ∧ riseTo z p c n * (q - c) ≤ 250000000000000000) ∧ (-250000000000000000 ≤ fallTo z c q n * (c - p) ∧ fallTo z c q n * (c - p) ≤ 250000000000000000) ∧ (1 ≤ bden p c q ∧ bden p c q ≤ 2500000000) := by
  have r := riseTo_in (c := c) h hp n (Nat.le_refl _)
  have f := fallTo_in (c := c) h hq n (Nat.le_refl _)
  have k1 := mul_bound (x := riseTo z p c n) (y := q - c) 5000000000000 50000 (by omega) (by omega)
  have k2 := mul_bound (x := fallTo z c q n) (y := c - p) 5000000000000 50000 (by omega) (by omega)
  have k3 := mul_bound (x := c - p) (y := q - c) 50000 50000 (by omega) (by omega)
  have k4 : 1 * 1 ≤ (c - p) * (q - c) := Int.mul_le_mul (by omega) (by omega) (by omega) (by omega)
  rw [show (5000000000000 * 50000 : Nat) = 250000000000000000 from rfl] at k1 k2
  rw [show (50000 * 50000 : Nat) = 2500000000 from rfl] at k3
  unfold bden
  omega
set_option maxHeartbeats 4000000 in
set_option maxRecDepth 100000 in
theorem plBarLoad_any (A : Option Addr) (n cap : Nat) (z : Nat → Nat → Int) (p c q : Int) (w : World) (hD : Row2 w w.heap.size A n z) (hL : inL z n) (hn : n ≤ 100) (hp : -20001 ≤ p ∧ p ≤ 20001) (hq : -20001 ≤ q ∧ q ≤ 20001) (hc : -20000 ≤ c ∧ c ≤ 20000) (h1 : p < c) (h2 : c < q) :
    Calls Try.prog 77 #[.int .i64 p, .int .i64 c, .int .i64 q, .slice A n cap] w fun e w' => e = .returned (.agg #[.int .i64 ((bnum z p c q n).tdiv (gcdF (bnum z p c q n) (bden p c q))), .int .i64 (bden p c q / (gcdF (bnum z p c q n) (bden p c q)))]) ∧ Below w.heap.size w w' := by
  obtain ⟨b1, b2, b3⟩ := bnum_in hL hn hp hq hc h1 h2
  have r1 := riseTo_in (c := c) hL hp n (Nat.le_refl _)
  have f1 := fallTo_in (c := c) hL hq n (Nat.le_refl _)
  have HBN : Hid (bnum z p c q n = riseTo z p c n * (q - c) + fallTo z c q n * (c - p)) := rfl
  have HBD : Hid (bden p c q = (c - p) * (q - c)) := rfl
  have CL := hide (fun W => plLowest_any (bnum z p c q n) (bden p c q) W (by rw [HBN.out]; omega) (by omega))
  have HD := hide hD
  have HL := hide hL
  have HRI := hide (fun k hk => riseTo_in (c := c) hL hp k hk)
  have HFI := hide (fun k hk => fallTo_in (c := c) hL hq k hk)
  clear hD hL
  obtain ⟨x1, hx1⟩ : ∃ x, x = (bnum z p c q n).tdiv (gcdF (bnum z p c q n) (bden p c q)) := ⟨_, rfl⟩
  obtain ⟨x2, hx2⟩ : ∃ x, x = bden p c q / (gcdF (bnum z p c q n) (bden p c q)) := ⟨_, rfl⟩
  rw [← hx1, ← hx2] at CL
  rw [← hx1, ← hx2]
  clear hx1 hx2
  have L0 := hide (Lv.start w)
  go_enter Try.func77, Try.ntmps77
  go_wp2
  go_loopw [9, 10, 12, 13, 14, 17] (fun s9 s10 _ _ _ i wr => ∃ k : Nat, k ≤ n ∧ i = .int .i64 k ∧ s9 = .int .i64 (riseTo z p c k) ∧ s10 = .int .i64 (fallTo z c q k) ∧ Hid (Lv w wr [(w.heap.size, 65, [.int .i64 0, .int .i64 0])])) (fun _ _ _ _ _ i _ => n - (intOf i).toNat)
  case atStart => exact ⟨0, by omega, rfl, rfl, rfl, L0.out.put _ _⟩
  case round =>
    obtain ⟨k, hk, rfl, rfl, rfl, L1⟩ := hrel
    clear L0
    have F1 := L1.out.at; simp only [AllAt, CellsAt, updL, List.map, Nat.zero_add, Nat.reduceAdd, and_true, World.size_alloc, World.heap_drewN, heap_drew, size_set, Nat.add_eq_left, Nat.left_eq_add, Nat.add_right_cancel_iff, ne_up2, ne_dn2, ne_up3, ne_dn3, ne_up4, ne_dn4, Nat.reduceEqDiff, Nat.one_ne_zero, Nat.succ_ne_zero, Nat.zero_ne_one, reduceIte, List.set_cons_zero, List.set_cons_succ] at F1
    by_cases hlt : k < n
    · obtain ⟨b, off, rfl, hb, hcc⟩ := HD.out (by omega)
      have q1 := (L1.out.below.cell (by exact hb)).trans (hcc k hlt).1
      have q2 := (L1.out.below.cell (by exact hb)).trans (hcc k hlt).2
      clear hcc
      have hbr : b < wr.heap.size := by have := L1.out.size; omega
      have hlt' : (k : Int) < (n : Int) := by omega
      obtain ⟨hx, hv⟩ := HL.out k hlt
      have rk := HRI.out k hk
      have fk := HFI.out k hk
      have HR : Hid (riseTo z p c (k + 1) = riseTo z p c k + riseAt p c (z k 0) (z k 1)) := rfl
      have HF : Hid (fallTo z c q (k + 1) = fallTo z c q k + fallAt c q (z k 0) (z k 1)) := rfl
      obtain ⟨x, hxe⟩ : ∃ x, x = z k 0 := ⟨_, rfl⟩
      obtain ⟨v, hve⟩ : ∃ x, x = z k 1 := ⟨_, rfl⟩
      rw [← hxe] at q1 HR HF hx
      rw [← hve] at q2 HR HF hv
      obtain ⟨R, hRe⟩ : ∃ x, x = riseTo z p c k := ⟨_, rfl⟩
      obtain ⟨F, hFe⟩ : ∃ x, x = fallTo z c q k := ⟨_, rfl⟩
      rw [← hRe] at HR rk ⊢
      rw [← hFe] at HF fk ⊢
      clear hxe hve hRe hFe
      have m1 := mul_bound (x := x - p) (y := v) 50000 1000000 (by omega) (by omega)
      have m2 := mul_bound (x := q - x) (y := v) 50000 1000000 (by omega) (by omega)
      rw [show (50000 * 1000000 : Nat) = 50000000000 from rfl] at m1 m2
      by_cases g1 : p < x
      · by_cases g2 : x ≤ c
        · have g3 : ¬ c < x := by omega
          have HR2 : Hid (riseTo z p c (k + 1) = R + (x - p) * v) := hide (by rw [HR.out, riseAt, if_pos ⟨g1, g2⟩])
          have HF2 : Hid (fallTo z c q (k + 1) = F) := hide (by rw [HF.out, fallAt, if_neg (fun h => g3 h.1)]; omega)
          go_wp2
          go_quiet (fail)
          go_wp2
          go_roundw
          case rel => exact ⟨k + 1, by omega, by go_num, by rw [HR2.out], by rw [HF2.out], hide (((L1.out.put _ _).drewN _).of (by simp))⟩
          case measure => simp [intOf]; omega
        · have g3 : c < x := by omega
          have HR2 : Hid (riseTo z p c (k + 1) = R) := hide (by rw [HR.out, riseAt, if_neg (fun h => g2 h.2)]; omega)
          by_cases g4 : x < q
          · have HF2 : Hid (fallTo z c q (k + 1) = F + (q - x) * v) := hide (by rw [HF.out, fallAt, if_pos ⟨g3, g4⟩])
            go_wp2
            go_quiet (fail)
            go_wp2
            go_roundw
            case rel => exact ⟨k + 1, by omega, by go_num, by rw [HR2.out], by rw [HF2.out], hide (((L1.out.put _ _).drewN _).of (by simp))⟩
            case measure => simp [intOf]; omega
          · have HF2 : Hid (fallTo z c q (k + 1) = F) := hide (by rw [HF.out, fallAt, if_neg (fun h => g4 h.2)]; omega)
            go_wp2
            go_quiet (fail)
            go_wp2
            go_roundw
            case rel => exact ⟨k + 1, by omega, by go_num, by rw [HR2.out], by rw [HF2.out], hide (((L1.out.put _ _).drewN _).of (by simp))⟩
            case measure => simp [intOf]; omega
      · have g3 : ¬ c < x := by omega
        have HR2 : Hid (riseTo z p c (k + 1) = R) := hide (by rw [HR.out, riseAt, if_neg (fun h => g1 h.1)]; omega)
        have HF2 : Hid (fallTo z c q (k + 1) = F) := hide (by rw [HF.out, fallAt, if_neg (fun h => g3 h.1)]; omega)
        go_wp2
        go_quiet (fail)
        go_wp2
        go_roundw
        case rel => exact ⟨k + 1, by omega, by go_num, by rw [HR2.out], by rw [HF2.out], hide (((L1.out.put _ _).drewN _).of (by simp))⟩
        case measure => simp [intOf]; omega
    · obtain rfl : n = k := by omega
      rw [HBN.out, HBD.out] at CL
      rw [HBD.out] at b3
      clear HRI HFI HD HL
      obtain ⟨R, hR⟩ : ∃ x, x = riseTo z p c n := ⟨_, rfl⟩
      obtain ⟨F, hF⟩ : ∃ x, x = fallTo z c q n := ⟨_, rfl⟩
      rw [← hR] at CL b1 r1 ⊢
      rw [← hF] at CL b2 f1 ⊢
      clear hR hF HBN HBD
      go_wp2_with fail
      refine Lv.call (CL.out _) L1.out ?_
      intro w2 L2'; have L2 := hide L2'; have F2 := L2'.at; clear L2'; simp only [AllAt, CellsAt, updL, List.map, Nat.zero_add, Nat.reduceAdd, and_true, World.size_alloc, World.heap_drewN, heap_drew, size_set, Nat.add_eq_left, Nat.left_eq_add, Nat.add_right_cancel_iff, ne_up2, ne_dn2, ne_up3, ne_dn3, ne_up4, ne_dn4, Nat.reduceEqDiff, Nat.one_ne_zero, Nat.succ_ne_zero, Nat.zero_ne_one, reduceIte, List.set_cons_zero, List.set_cons_succ] at F2
      go_wp2
      refine bodyPost_ret (v := .agg #[.int .i64 x1, .int .i64 x2]) (by simp [results, Try.results77, go_sem, F2]) rfl ⟨rfl, ?_⟩
      repeat (first | (with_reducible exact L2.out.below) | refine Below.setCell ?_ (by first | omega | (simp; done) | (simp; omega)) _ | refine Below.alloc ?_ (by first | omega | (simp; done) | (simp; omega)) _ | refine below_drewN ?_ _ | refine Below.drew ?_)
end Go.Proofs.Ytjfcjclhbnmgcaa
