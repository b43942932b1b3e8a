/- The contract of number.Solve where a pass lowers nothing: the greatest solution is returned. -/
import Derived.Test.YtjomcobhinnikaaLower
import Derived.Deep.OwnRows
import Derived.Deep.DeepCutAuto
import Derived.RegionTactic
namespace Go.Proofs.Ytjomcobhinnikaa
open Go.RowKit

theorem info_int : (Try.prog.info? 3).map (fun i => (i.zero, i.size, i.bytes)) = some (some (.int .i64 0), 1, 8) := by kernel_rfl

def zerosL (n : Nat) : List Int := List.replicate n 0
/-- After r passes. -/
def solveSt (bs : List (Int × Int × Int)) (n : Nat) : Nat → LowSt
  | 0 => ⟨zerosL n, zerosL n, -1⟩
  | r + 1 => lowAll bs (solveSt bs n r).vs (solveSt bs n r).ls

theorem made_own (w : World) (base n g : Nat) (hg : w.heap.size = g) (hb : base ≤ g) (hn : n ≤ 1000) :
    (w.alloc (.cells (madeCells #[.int .i64 0] n) 3)).ownsRow base 3 1 (.slice (some ⟨g, 0, none⟩) n n) n (i64s (zerosL n)) := by
  subst hg
  have h := w.ownsRow_lit (e := 3) (size := 1) (madeCells #[.int .i64 0] n) n hb (by unfold maxLen; omega) (by have e := congrArg List.length (toList_madeCells_one (.int .i64 0) n); simpa using e)
  rw [toList_madeCells_one] at h
  have e : i64s (zerosL n) = List.replicate n (Value.int .i64 0) := by simp [i64s, zerosL]
  rw [e]
  exact h

theorem sys_ok {n : Nat} {bs : List (Int × Int × Int)} (h : sysErr n bs = 0) : (1 ≤ n ∧ n ≤ 60) ∧ bs.length ≤ 200 ∧ BndsOk n bs := by
  unfold sysErr at h
  by_cases h1 : (n : Int) < 1 ∨ 60 < (n : Int)
  · rw [if_pos h1] at h; omega
  · rw [if_neg h1] at h
    by_cases h2 : 200 < bs.length
    · rw [if_pos h2] at h; omega
    · rw [if_neg h2] at h
      refine ⟨by omega, by omega, fun i hi => ?_⟩
      have := bndsTo_down _ h i hi
      unfold bndErr at this
      split at this
      · rename_i hc
        split at this
        · rename_i hd
          have e1 := of_decide_eq_true (show decide _ = true from hc.1)
          have e2 := of_decide_eq_true (show decide _ = true from hc.2)
          have e3 := of_decide_eq_true (show decide _ = true from hd)
          exact ⟨e1, e2, e3⟩
        · omega
      · omega

theorem LowInv.reset {w0 W : World} {B base g1 g2 n c1 c2 : Nat} {st : LowSt} {K : Int} (h : LowInv w0 B base g1 g2 n c1 c2 st K W) (low : Int) : LowInv w0 B base g1 g2 n c1 c2 ⟨st.vs, st.ls, low⟩ K W := ⟨h.v, h.l, h.bound, h.below⟩

theorem solve_start (w w1 : World) (n : Nat) (hn : n ≤ 1000) (hb : Below w.heap.size w w1) :
    LowInv w w.heap.size w.heap.size w1.heap.size (w1.heap.size + 1) n n n ⟨zerosL n, zerosL n, -1⟩ 0 (((w1.alloc (.cells (madeCells #[.int .i64 0] n) 3)).alloc (.cells (madeCells #[.int .i64 0] n) 3)).drew) ∧
    LowInv w w.heap.size w.heap.size (w1.heap.size + 1) w1.heap.size n n n ⟨zerosL n, zerosL n, -1⟩ 0 (((w1.alloc (.cells (madeCells #[.int .i64 0] n) 3)).alloc (.cells (madeCells #[.int .i64 0] n) 3)).drew) := by
  have h1 := (made_own w1 w.heap.size n w1.heap.size rfl hb.size hn).alloc (.cells (madeCells #[.int .i64 0] n) 3)
  have h2 := made_own (w1.alloc (.cells (madeCells #[.int .i64 0] n) 3)) w.heap.size n (w1.heap.size + 1) (by simp) (by have := hb.size; omega) hn
  have h3 : Below w.heap.size w (((w1.alloc (.cells (madeCells #[.int .i64 0] n) 3)).alloc (.cells (madeCells #[.int .i64 0] n) 3)).drew) := ((hb.alloc hb.size _).alloc (by have := hb.size; simp; omega) _).drew
  have hz : ∀ x ∈ zerosL n, -(0 : Int) ≤ x ∧ x ≤ 0 := fun x hx => by
    have := List.eq_of_mem_replicate hx
    omega
  exact ⟨⟨h1, h2, hz, h3⟩, ⟨h2, h1, hz, h3⟩⟩

def SolveOk (w : World) (bs : List (Int × Int × Int)) (n r : Nat) (e : Ending) (w' : World) : Prop :=
  ∃ g, e = .returned (.tuple #[.slice (some ⟨g, 0, none⟩) n n, .slice none 0 0, .int .i64 0]) ∧ w'.ownsRow w.heap.size 3 1 (.slice (some ⟨g, 0, none⟩) n n) n (i64s (solveSt bs n (r + 1)).vs) ∧ Below w.heap.size w w'

set_option maxHeartbeats 2000000 in
set_option maxRecDepth 100000 in
theorem solve_ok (n : Nat) (A : Option Addr) (len cap r : Nat) (bs : List (Int × Int × Int)) (w : World) (hn : bs.length = len) (h : Bnds w w.heap.size A bs) (hs : sysErr n bs = 0)
    (hr : r < n) (hup : ∀ q, q < r → 0 ≤ (solveSt bs n (q + 1)).low) (hlow : (solveSt bs n (r + 1)).low < 0) :
    Calls Try.prog 19 #[.int .i64 n, .slice A len cap] w (SolveOk w bs n r) := by
  obtain ⟨hn60, hl200, hok⟩ := sys_ok hs
  have hmk := fun W => run_make_row' (P := Try.prog) 53 3 (.int .i64 0) 8 Try.underlying53 info_int rfl .i64 .i64 n (by omega) (by omega) W
  have HN := hide hn
  have HD := hide h
  have HS := hide hs
  have HOK := hide hok
  have HUP := hide hup
  have HLW := hide hlow
  have hl : len ≤ 200 := by omega
  clear hn h hs hok hup hlow hl200
  go_enter Try.func19, Try.ntmps19
  go_wp2_with fail
  refine (checkSystem_any n A len cap bs _ HN.out HD.out).mono ?_
  rintro e w1 ⟨rfl, hb1⟩
  rw [HS.out]
  have HB1 := hide hb1
  have HD1 := hide (HD.out.kept hb1)
  have hs1 := hb1.size
  clear hb1
  go_upto_region 4 with fail
  go_cut [8, 9] (fun s8 s9 wx => ∃ g1 g2 : Nat, s8 = .slice (some ⟨g1, 0, none⟩) n n ∧ s9 = .slice (some ⟨g2, 0, none⟩) n n ∧ Hid (g1 ≠ g2) ∧ Hid (LowInv w w.heap.size w.heap.size g1 g2 n n n ⟨zerosL n, zerosL n, -1⟩ 0 wx))
  case first =>
    go_region
    all_goals go_wp2_with fail
    all_goals go_meet
    · exact ⟨_, _, rfl, rfl, hide (by omega), hide (solve_start w w1 n (by omega) HB1.out).1⟩
    · exact ⟨_, _, rfl, rfl, hide (by omega), hide (solve_start w w1 n (by omega) HB1.out).2⟩
  case rest =>
    obtain ⟨v1, hv1⟩ : ∃ v : World, v = wc := ⟨_, rfl⟩
    subst hv1
    obtain ⟨g1, g2, rfl, rfl, HNE, HI⟩ := hcut
    go_wp2_with fail
    go_loopw [10, 22] (fun lw i wr => ∃ q : Nat, q ≤ r ∧ i = .int .i64 q ∧ Hid (LowInv w w.heap.size w.heap.size g1 g2 n n n ⟨(solveSt bs n q).vs, (solveSt bs n q).ls, -1⟩ (q * 200000000000) wr)) (fun _ i _ => n - (intOf i).toNat)
    case atStart => exact ⟨0, by omega, rfl, hide (HI.out.more (by omega))⟩
    case round =>
      obtain ⟨q, hq, rfl, HR⟩ := hrel
      have hqn : q < n := by omega
      have hsz : w.heap.size ≤ wr.heap.size := HR.out.below.size
      go_wp2_with fail
      refine (lowerOnce_any w.heap.size w.heap.size g1 g2 n n n len cap A bs (solveSt bs n q) (q * 200000000000) w _ HN.out hl HOK.out HD.out HR.out (Nat.le_refl _) HNE.out (by omega) (by omega)).mono ?_
      rintro e w2 ⟨rfl, hI2⟩
      have ES : Hid (lowAll bs (solveSt bs n q).vs (solveSt bs n q).ls = solveSt bs n (q + 1)) := rfl
      rw [ES.out] at hI2 ⊢
      have HI2 := hide (hI2.more (K' := ((q + 1 : Nat) : Int) * 200000000000) (by omega))
      clear hI2 HR
      by_cases hqr : q < r
      · have hpos := HUP.out q hqr
        have HQ := hide (HI2.out.reset (-1))
        go_wp2
        go_roundw
        case rel => exact ⟨q + 1, by omega, by go_num, HQ⟩
        case measure => simp [intOf]; omega
      · obtain rfl : q = r := by omega
        have hneg := HLW.out
        go_wp2
        go_ret3
        exact ⟨g1, rfl, HI2.out.v, HI2.out.below⟩
end Go.Proofs.Ytjomcobhinnikaa
