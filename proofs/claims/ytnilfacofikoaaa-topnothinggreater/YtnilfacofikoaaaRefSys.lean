/- Contracts of agrafferef01.CheckSystem, Solve, CheckCircle. -/
import Derived.Test.YtnilfacofikoaaaCirCheck
import Derived.Test.YtnilfacofikoaaaCycle
import Derived.Test.YtnilfacofikoaaaMod
import Derived.Test.YtnilfacofikoaaaLive
namespace Go.Proofs.Ytnilfacofikoaaa
open Go.RowKit
set_option linter.unusedVariables false
set_option linter.unusedSimpArgs false

theorem known_inR (x n : Int) : inR x 0 (n - 1) = known x n := by unfold inR known; rw [decide_eq_decide]; omega
set_option maxHeartbeats 2000000 in
set_option maxRecDepth 100000 in
theorem refCheckSystem_any (n : Int) (A : Option Addr) (len cap : Nat) (bs : List (Int × Int × Int)) (w : World) (hn : bs.length = len) (h : Bnds w w.heap.size A bs) :
    Calls Try.prog 15 #[.int .i64 n, .slice A len cap] w fun e w' => e = .returned (.int .i64 (sysErr n bs)) ∧ ∃ q, w.drewN q = w' := by
  have HN := hide hn
  have HD := hide h
  clear hn h
  by_cases h1 : 1 ≤ n ∧ n ≤ 60
  · have i1 : inR n 1 60 = true := inR_yes h1
    have hs1 : ¬ (n < 1 ∨ 60 < n) := by omega
    by_cases h200 : 200 < len
    · have HE : Hid (sysErr n bs = 8) := (if_neg hs1).trans (if_pos (by rw [HN.out]; exact h200))
      clear hs1
      go_enter Try.func15, Try.ntmps15
      go_wp2_with fail
      refine Lv.same (within3_any n 1 60 _) ?_
      rw [i1]
      go_wp2
      go_ret
      exact ⟨ret_int HE.out.symm, 0, rfl⟩
    · have HE : Hid (sysErr n bs = bndsTo n bs len) := by
        show sysErr n bs = _
        unfold sysErr
        rw [if_neg hs1, if_neg (by rw [HN.out]; exact h200), HN.out]
      clear hs1
      go_enter Try.func15, Try.ntmps15
      go_wp2_with fail
      refine Lv.same (within3_any n 1 60 _) ?_
      rw [i1]
      go_wp2
      go_loopw [5] (fun i wr => ∃ k q : Nat, k ≤ len ∧ i = .int .i64 k ∧ Hid (bndsTo n bs k = 0) ∧ wr = w.drewN q) (fun i _ => len - (intOf i).toNat)
      case atStart => exact ⟨0, 0, by omega, rfl, rfl, rfl⟩
      case round =>
        obtain ⟨k, q, hk, rfl, H0, rfl⟩ := hrel
        by_cases hlt : k < len
        · obtain ⟨b, off, rfl, hb, hc⟩ := HD.out (by rw [HN.out]; omega)
          obtain ⟨qx, qy, qz⟩ := hc k (by rw [HN.out]; exact hlt)
          have hlt' : (k : Int) < (len : Int) := by omega
          obtain ⟨x, hxe⟩ : ∃ x, x = (bs.getD k (0, 0, 0)).1 := ⟨_, rfl⟩
          obtain ⟨y, hye⟩ : ∃ y, y = (bs.getD k (0, 0, 0)).2.1 := ⟨_, rfl⟩
          obtain ⟨z, hze⟩ : ∃ z, z = (bs.getD k (0, 0, 0)).2.2 := ⟨_, rfl⟩
          rw [← hxe] at qx
          rw [← hye] at qy
          rw [← hze] at qz
          have HXE := hide hxe
          have HYE := hide hye
          have HZE := hide hze
          clear hxe hye hze hc
          have KX := hide (known_inR x n)
          have KY := hide (known_inR y n)
          cases hkx : known x n
          · have HK : Hid (bndsTo n bs len = 6) := by
              refine bndsTo_stop H0.out ?_ (by omega) len hlt
              unfold bndErr
              rw [if_neg (fun h => by rw [← HXE.out, hkx] at h; exact absurd h.1 (by decide))]
            go_wp2_with fail
            refine Lv.same (within3_any x 0 (n - 1) _) ?_
            rw [KX.out, hkx]
            go_wp2
            go_ret
            exact ⟨ret_int (by rw [HE.out, HK.out]), q, rfl⟩
          · cases hky : known y n
            · have HK : Hid (bndsTo n bs len = 6) := by
                refine bndsTo_stop H0.out ?_ (by omega) len hlt
                unfold bndErr
                rw [if_neg (fun h => by rw [← HYE.out, hky] at h; exact absurd h.2 (by decide))]
              go_wp2_with fail
              refine Lv.same (within3_any x 0 (n - 1) _) ?_
              rw [KX.out, hkx]
              go_wp2_with fail
              refine Lv.same (within3_any y 0 (n - 1) _) ?_
              rw [KY.out, hky]
              go_wp2
              go_ret
              exact ⟨ret_int (by rw [HE.out, HK.out]), q, rfl⟩
            · have hc1 : known (bs.getD k (0, 0, 0)).1 n = true ∧ known (bs.getD k (0, 0, 0)).2.1 n = true := by rw [← HXE.out, ← HYE.out]; exact ⟨hkx, hky⟩
              have KZ : Hid (inR z (-1000000000) 1000000000 = inB z 1000000000) := rfl
              cases hkz : inB z 1000000000
              · have HK : Hid (bndsTo n bs len = 2) := by
                  refine bndsTo_stop H0.out ?_ (by omega) len hlt
                  unfold bndErr
                  rw [if_pos hc1, if_neg (fun h => by rw [← HZE.out, hkz] at h; exact absurd h (by decide))]
                clear hc1
                go_wp2_with fail
                refine Lv.same (within3_any x 0 (n - 1) _) ?_
                rw [KX.out, hkx]
                go_wp2_with fail
                refine Lv.same (within3_any y 0 (n - 1) _) ?_
                rw [KY.out, hky]
                go_wp2_with fail
                refine Lv.same (within3_any z (-1000000000) 1000000000 _) ?_
                rw [KZ.out, hkz]
                go_wp2
                go_ret
                exact ⟨ret_int (by rw [HE.out, HK.out]), q, rfl⟩
              · have HK : Hid (bndsTo n bs (k + 1) = 0) := by
                  show bndsTo n bs (k + 1) = 0
                  rw [bndsTo, if_pos H0.out]
                  unfold bndErr
                  rw [if_pos hc1, if_pos (by rw [← HZE.out]; exact hkz)]
                clear hc1
                go_wp2_with fail
                refine Lv.same (within3_any x 0 (n - 1) _) ?_
                rw [KX.out, hkx]
                go_wp2_with fail
                refine Lv.same (within3_any y 0 (n - 1) _) ?_
                rw [KY.out, hky]
                go_wp2_with fail
                refine Lv.same (within3_any z (-1000000000) 1000000000 _) ?_
                rw [KZ.out, hkz]
                go_wp2
                go_roundw
                case rel => exact ⟨k + 1, q, by omega, by go_num, HK, rfl⟩
                case measure => simp [intOf]; omega
        · obtain rfl : len = k := by omega
          go_wp2
          go_ret
          exact ⟨ret_int (by rw [HE.out, H0.out]), q, rfl⟩
  · have i1 : inR n 1 60 = false := inR_no h1
    have HE : Hid (sysErr n bs = 2) := if_pos (by omega)
    clear h1
    go_enter Try.func15, Try.ntmps15
    go_wp2_with fail
    refine Lv.same (within3_any n 1 60 _) ?_
    rw [i1]
    go_wp2
    go_ret
    exact ⟨ret_int HE.out.symm, 0, rfl⟩
end Go.Proofs.Ytnilfacofikoaaa
