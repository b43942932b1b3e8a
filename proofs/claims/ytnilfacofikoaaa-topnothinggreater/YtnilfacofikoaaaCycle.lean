/- Contracts of number.Solve where the system is refused, and where each of n passes lowers a value: a circle is returned. -/
import Derived.Test.YtnilfacofikoaaaBehind
namespace Go.Proofs.Ytnilfacofikoaaa
open Go.RowKit
set_option linter.unusedVariables false
set_option linter.unusedSimpArgs false

set_option maxHeartbeats 1000000 in
set_option maxRecDepth 100000 in
theorem solve_bad (n : Int) (A : Option Addr) (len cap : Nat) (bs : List (Int × Int × Int)) (E : Int) (w : World) (hn : bs.length = len) (h : Bnds w w.heap.size A bs) (hE : sysErr n bs = E) (h0 : E ≠ 0) :
    Calls Try.prog 16 #[.int .i64 n, .slice A len cap] w fun e w' => e = .returned (.tuple #[.slice none 0 0, .slice none 0 0, .int .i64 E]) ∧ Below w.heap.size w w' := by
  have HN := hide hn
  have HD := hide h
  have HE := hide hE
  have b1 : (E != 0) = true := by rw [bne_iff_ne]; exact h0
  clear hn h hE h0
  go_enter Try.func16, Try.ntmps16
  go_wp2_with fail
  refine (checkSystem_any n A len cap bs _ HN.out HD.out).mono ?_
  rintro e w1 ⟨rfl, hb1⟩
  rw [HE.out]
  have HB1 := hide hb1
  clear hb1
  go_wp2
  go_ret3
  exact ⟨rfl, HB1.out⟩

/-- What is known where each of n passes lowers a value. -/
structure Cyc (bs : List (Int × Int × Int)) (n : Nat) (v c : Nat) : Prop where
  low : (solveSt bs n n).low = (v : Int)
  steps : ∀ k, k < n → backB bs (solveSt bs n n).ls v k < n ∧ lowB (solveSt bs n n).ls (backB bs (solveSt bs n n).ls v k) < bs.length ∧
    (solveSt bs n n).ls.getD (backB bs (solveSt bs n n).ls v k) 0 = (lowB (solveSt bs n n).ls (backB bs (solveSt bs n n).ls v k) : Int)
  circ : Circ bs n (solveSt bs n n).vs (solveSt bs n n).ls (backB bs (solveSt bs n n).ls v n) c
theorem cyc_of {bs : List (Int × Int × Int)} {n : Nat} (hok : BndsOk n bs) (h : 0 ≤ (solveSt bs n n).low) : ∃ v c, Cyc bs n v c := by
  obtain ⟨T, hT, h2⟩ := Tm.all hok n
  rcases h2 with h2 | ⟨v, hv, h3, h4⟩
  · omega
  · obtain ⟨c, hc⟩ := circ_of hok hT hv h4
    refine ⟨v, c, h3, fun k hk => ?_, hc⟩
    obtain ⟨g1, g2⟩ := back_steps hok hT hv h4 k (by omega)
    have h5 : (k + 1) * bs.length ≤ n * bs.length := Nat.mul_le_mul_right _ hk
    obtain ⟨i, k1, k2, _⟩ := hT.link _ g1 (by omega)
    have e : lowB (solveSt bs n n).ls (backB bs (solveSt bs n n).ls v k) = i := by unfold lowB; rw [k2]; rfl
    rw [e]
    exact ⟨g1, k1, k2⟩
def cirL (bs : List (Int × Int × Int)) (n v c : Nat) : List Int := (cirTo bs (solveSt bs n n).ls (backB bs (solveSt bs n n).ls v n) c).reverse
theorem own_lower {w : World} {base base' n size : Nat} {e : TypeId} {v : Value} {xs : List Value} (h : w.ownsRow base e size v n xs) (hb : base' ≤ base) : w.ownsRow base' e size v n xs := by
  obtain ⟨h1, h2⟩ := h
  refine ⟨h1, ?_⟩
  rcases h2 with h2 | ⟨g, cap, cur, e1, e2, e3⟩
  · exact Or.inl h2
  · exact Or.inr ⟨g, cap, cur, e1, Nat.le_trans hb e2, e3⟩
def SolveCyc (w : World) (bs : List (Int × Int × Int)) (n v c : Nat) (e : Ending) (w' : World) : Prop :=
  ∃ g cap, e = .returned (.tuple #[.slice none 0 0, .slice (some ⟨g, 0, none⟩) c cap, .int .i64 21]) ∧ w'.ownsRow w.heap.size 3 1 (.slice (some ⟨g, 0, none⟩) c cap) c (i64s (cirL bs n v c)) ∧ Below w.heap.size w w'

set_option maxHeartbeats 2000000 in
set_option maxRecDepth 100000 in
theorem solve_cyc (n v c : Nat) (A : Option Addr) (len cap : Nat) (bs : List (Int × Int × Int)) (w : World) (hn : bs.length = len) (h : Bnds w w.heap.size A bs) (hs : sysErr n bs = 0)
    (hup : ∀ q, q < n → 0 ≤ (solveSt bs n (q + 1)).low) (hC : Cyc bs n v c) :
    Calls Try.prog 16 #[.int .i64 n, .slice A len cap] w (SolveCyc w bs n v c) := by
  obtain ⟨hn60, hl200, hok⟩ := sys_ok hs
  have hmk := fun W => run_make_row' (P := Try.prog) 39 3 (.int .i64 0) 8 Try.underlying39 info_int rfl .i64 .i64 n (by omega) (by omega) W
  have HN := hide hn
  have HD := hide h
  have HS := hide hs
  have HOK := hide hok
  have HUP := hide hup
  have HC := hide hC
  have hl : len ≤ 200 := by omega
  clear hn h hs hok hup hl200 hC
  go_enter Try.func16, Try.ntmps16
  go_wp2_with fail
  refine (checkSystem_any n A len cap bs _ HN.out HD.out).mono ?_
  rintro e w1 ⟨rfl, hb1⟩
  rw [HS.out]
  have HB1 := hide hb1
  have HD1 := hide (HD.out.kept hb1)
  have hs1 := hb1.size
  clear hb1
  go_upto_region 4 with fail
  go_cut [8, 9] (fun s8 s9 wx => ∃ g1 g2 : Nat, s8 = .slice (some ⟨g1, 0, none⟩) n n ∧ s9 = .slice (some ⟨g2, 0, none⟩) n n ∧ Hid (g1 ≠ g2) ∧ Hid (LowInv w w.heap.size w.heap.size g1 g2 n n n ⟨zerosL n, zerosL n, -1⟩ 0 wx))
  case first =>
    go_region
    all_goals go_wp2_with fail
    all_goals go_meet
    · exact ⟨_, _, rfl, rfl, hide (by omega), hide (solve_start w w1 n (by omega) HB1.out).1⟩
    · exact ⟨_, _, rfl, rfl, hide (by omega), hide (solve_start w w1 n (by omega) HB1.out).2⟩
  case rest =>
    obtain ⟨v1, hv1⟩ : ∃ v : World, v = wc := ⟨_, rfl⟩
    subst hv1
    obtain ⟨g1, g2, rfl, rfl, HNE, HI⟩ := hcut
    go_wp2_with fail
    go_loopw [10, 22] (fun lw i wr => ∃ q : Nat, q ≤ n ∧ i = .int .i64 q ∧ lw = .int .i64 (solveSt bs n q).low ∧ Hid (LowInv w w.heap.size w.heap.size g1 g2 n n n ⟨(solveSt bs n q).vs, (solveSt bs n q).ls, -1⟩ (q * 200000000000) wr)) (fun _ i _ => n - (intOf i).toNat)
    case atStart => exact ⟨0, by omega, rfl, rfl, hide (HI.out.more (by omega))⟩
    case round =>
      obtain ⟨q, hq, rfl, rfl, HR⟩ := hrel
      have hsz : w.heap.size ≤ wr.heap.size := HR.out.below.size
      by_cases hqn : q < n
      · go_wp2_with fail
        refine (lowerOnce_any w.heap.size w.heap.size g1 g2 n n n len cap A bs (solveSt bs n q) (q * 200000000000) w _ HN.out hl HOK.out HD.out HR.out (Nat.le_refl _) HNE.out (by omega) (by omega)).mono ?_
        rintro e w2 ⟨rfl, hI2⟩
        have ES : Hid (lowAll bs (solveSt bs n q).vs (solveSt bs n q).ls = solveSt bs n (q + 1)) := rfl
        rw [ES.out] at hI2 ⊢
        have HI2 := hide (hI2.more (K' := ((q + 1 : Nat) : Int) * 200000000000) (by omega))
        clear hI2 HR
        have hpos := HUP.out q hqn
        have HQ := hide (HI2.out.reset (-1))
        go_wp2
        go_roundw
        case rel => exact ⟨q + 1, by omega, by go_num, rfl, HQ⟩
        case measure => simp [intOf]; omega
      · obtain rfl : n = q := by omega
        rw [HC.out.low]
        have hlt2 := (HR.out.lt).2
        go_wp2_with fail
        refine (circleBehind_any v n len cap g2 n c A bs (solveSt bs n n).vs (solveSt bs n n).ls _ HN.out (by omega) ?_ hlt2.2 HOK.out (fun j hj => (HR.out.lcell hj).1) HC.out.steps HC.out.circ).mono ?_
        · intro h0
          obtain ⟨b, off, e1, e2, e3⟩ := HD.out h0
          exact ⟨b, off, e1, by omega, fun i hi => by obtain ⟨k1, k2, k3⟩ := e3 i hi; exact ⟨(HR.out.below.cell (by exact e2)).trans k1, (HR.out.below.cell (by exact e2)).trans k2, (HR.out.below.cell (by exact e2)).trans k3⟩⟩
        rintro e w2 ⟨g, cp, rfl, ho2, hb2⟩
        have HO2 := hide ho2
        have HB2 := hide (HR.out.below.trans (hb2.mono hsz))
        clear ho2 hb2
        go_wp2
        go_ret3
        exact ⟨g, cp, rfl, own_lower HO2.out hsz, HB2.out⟩
end Go.Proofs.Ytnilfacofikoaaa
