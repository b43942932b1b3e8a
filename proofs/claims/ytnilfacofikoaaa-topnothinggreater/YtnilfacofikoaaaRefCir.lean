/- Contracts of agrafferef01.CheckCircle and agrafferef01.Solve. -/
import Derived.Test.YtnilfacofikoaaaRefSys
namespace Go.Proofs.Ytnilfacofikoaaa
open Go.RowKit
set_option linter.unusedVariables false
set_option linter.unusedSimpArgs false

theorem quiet_same3 {P : Program} {f : FuncId} {args : Array Value} {w : World} {n : Nat} {v : Value} (h : Calls P f args (w.drewN n) fun e w' => e = .returned v ∧ w.drewN n = w') :
    Calls P f args (w.drewN n) fun e w'' => e = .returned v ∧ ∃ m, w'' = w.drewN m := h.mono fun _ _ ⟨he, hm⟩ => ⟨he, n, hm.symm⟩
def RefCirDone (w : World) (bs : List (Int × Int × Int)) (cs : List Int) (e : Ending) (w' : World) : Prop := e = .returned (.tuple #[.int .i64 (cirVal bs cs), .int .i64 (cirErr bs cs)]) ∧ ∃ q, w.drewN q = w'
theorem refCirDone_no {w w' : World} {bs : List (Int × Int × Int)} {cs : List Int} {E : Int} (h : cirErr bs cs = E) (h0 : E ≠ 0) (hb : ∃ q, w.drewN q = w') : RefCirDone w bs cs (.returned (.tuple #[.int .i64 0, .int .i64 E])) w' := ⟨by rw [cir_no h h0, h], hb⟩
set_option maxHeartbeats 2000000 in
set_option maxRecDepth 100000 in
theorem refCheckCircle_any (n : Nat) (A C : Option Addr) (len cap m mc : Nat) (bs : List (Int × Int × Int)) (cs : List Int) (w : World) (hn : bs.length = len) (hm : cs.length = m) (h : Bnds w w.heap.size A bs) (hc : RdB w w.heap.size C cs) (hs : sysErr n bs = 0) :
    Calls Try.prog 20 #[.slice A len cap, .slice C m mc] w (RefCirDone w bs cs) := by
  obtain ⟨hn60, hl200, hok⟩ := sys_ok hs
  have HN := hide hn
  have HM := hide hm
  have HD := hide h
  have HC := hide hc
  have HOK := hide hok
  have hl : len ≤ 200 := by omega
  clear hn h hs hok hl200 hm hc
  by_cases hm1 : 1 ≤ (m : Int) ∧ (m : Int) ≤ 60
  · have i1 : inR m 1 60 = true := inR_yes hm1
    have HR : Hid (¬ (cs.length < 1 ∨ 60 < cs.length)) := by show ¬ _; rw [HM.out]; omega
    obtain ⟨bc, oc, rfl, hbc, hcc⟩ := HC.out (by rw [HM.out]; omega)
    have HCC := hide hcc
    clear hcc HC
    go_enter Try.func20, Try.ntmps20
    go_wp2_with fail
    refine Lv.same (within3_any m 1 60 _) ?_
    rw [i1]
    go_wp2
    go_loop [6] (fun i => ∃ k : Nat, k ≤ m ∧ i = .int .i64 k ∧ Hid (∀ j, j < k → 0 ≤ cs.getD j 0 ∧ cs.getD j 0 < bs.length)) (fun i => m - (intOf i).toNat)
    case atStart => exact ⟨0, by omega, rfl, hide (fun j hj => by omega)⟩
    case round =>
      obtain ⟨k, hk, rfl, HK⟩ := hrel
      by_cases hlt : k < m
      · have q0 := HCC.out k (by rw [HM.out]; exact hlt)
        have hlt' : (k : Int) < (m : Int) := by omega
        obtain ⟨x, hx⟩ : ∃ x, x = cs.getD k 0 := ⟨_, rfl⟩
        rw [← hx] at q0
        have HX := hide hx
        clear hx
        by_cases hx0 : 0 ≤ x ∧ x ≤ (len : Int) - 1
        · have HI := hide (inR_yes hx0)
          have HK2 : Hid (∀ j, j < k + 1 → 0 ≤ cs.getD j 0 ∧ cs.getD j 0 < bs.length) := hide (fun j hj => by
              rcases Nat.lt_or_ge j k with h | h
              · exact HK.out j h
              · obtain rfl : k = j := by omega
                rw [← HX.out, HN.out]
                omega)
          clear hx0
          go_wp2_with fail
          refine Lv.same (within3_any x 0 ((len : Int) - 1) _) ?_
          rw [HI.out]
          go_wp2
          go_round
          case rel => exact ⟨k + 1, by omega, by go_num, HK2⟩
          case measure => simp [intOf]; omega
        · have HI := hide (inR_no hx0)
          have HE := hide (cir_miss (bs := bs) HR.out (show k < cs.length by rw [HM.out]; exact hlt) (by rw [← HX.out, HN.out]; omega))
          clear hx0
          go_wp2_with fail
          refine Lv.same (within3_any x 0 ((len : Int) - 1) _) ?_
          rw [HI.out]
          go_wp2
          go_ret2
          exact refCirDone_no HE.out (by omega) ⟨0, rfl⟩
      · obtain rfl : m = k := by omega
        have HI : Hid (cirIn bs cs) := hide (fun j hj => HK.out j (by rw [← HM.out]; exact hj))
        obtain ⟨bl, ol, rfl, hbl, hcl⟩ := HD.out (by have := HI.out 0 (by rw [HM.out]; omega); omega)
        have HCL := hide hcl
        clear hcl HK hlt
        go_wp2
        go_loopw [7, 8] (fun s i wr => ∃ k q : Nat, k ≤ m ∧ i = .int .i64 k ∧ s = .int .i64 (cirSum bs cs k) ∧ Hid (∀ j, j < k → (cAt bs cs j).1 = (cAt bs cs (cPrev cs j)).2.1) ∧ wr = w.drewN q) (fun _ i _ => m - (intOf i).toNat)
        case atStart => exact ⟨0, 0, by omega, rfl, rfl, hide (fun j hj => by omega), rfl⟩
        case round =>
          obtain ⟨k, q, hk, rfl, rfl, HK, rfl⟩ := hrel
          by_cases hlt : k < m
          · have hpv : cPrev cs k < m := by unfold cPrev; rw [HM.out]; split <;> omega
            have hin := HI.out k (by rw [HM.out]; exact hlt)
            have hinp := HI.out (cPrev cs k) (by rw [HM.out]; exact hpv)
            have q0 := HCC.out k (by rw [HM.out]; exact hlt)
            have r0 := HCC.out (cPrev cs k) (by rw [HM.out]; exact hpv)
            obtain ⟨u, hu⟩ := Int.eq_ofNat_of_zero_le hin.1
            obtain ⟨v, hv⟩ := Int.eq_ofNat_of_zero_le hinp.1
            obtain ⟨q1, _, q3⟩ := HCL.out u (by omega)
            obtain ⟨_, r2, _⟩ := HCL.out v (by omega)
            have e1 : cAt bs cs k = bs.getD u (0, 0, 0) := by
              unfold cAt
              rw [hu]
              rfl
            have e2 : cAt bs cs (cPrev cs k) = bs.getD v (0, 0, 0) := by
              unfold cAt
              rw [hv]
              rfl
            rw [hu] at q0
            rw [hv] at r0
            rw [← e1] at q1 q3
            rw [← e2] at r2
            have hul : (u : Int) < (len : Int) := by have := HN.out; omega
            have hvl : (v : Int) < (len : Int) := by have := HN.out; omega
            have hsum := cirSum_in HOK.out HI.out k (by rw [HM.out]; omega)
            have hmo := cir_most HOK.out HI.out (show k < cs.length by rw [HM.out]; exact hlt)
            have HSU : Hid (cirSum bs cs (k + 1) = cirSum bs cs k + (cAt bs cs k).2.2) := rfl
            obtain ⟨x1, hx1⟩ : ∃ v, v = (cAt bs cs k).1 := ⟨_, rfl⟩
            obtain ⟨x3, hx3⟩ : ∃ v, v = (cAt bs cs k).2.2 := ⟨_, rfl⟩
            obtain ⟨y2, hy2⟩ : ∃ v, v = (cAt bs cs (cPrev cs k)).2.1 := ⟨_, rfl⟩
            obtain ⟨sm, hsm⟩ : ∃ v, v = cirSum bs cs k := ⟨_, rfl⟩
            have hmod : ((k : Int) - 1) % (m : Int) = (cPrev cs k : Int) := by
              unfold cPrev
              rw [HM.out]
              by_cases h0 : k = 0
              · rw [if_pos h0, h0]
                refine ((Int.ediv_emod_unique (r := ((m - 1 : Nat) : Int)) (q := -1) (by omega)).2 ⟨by omega, by omega, by omega⟩).2
              · rw [if_neg h0]
                have e : (k : Int) - 1 = ((k - 1 : Nat) : Int) := by omega
                rw [e]
                exact Int.emod_eq_of_lt (by omega) (by omega)
            obtain ⟨pv, hpe⟩ : ∃ v, v = cPrev cs k := ⟨_, rfl⟩
            rw [← hx1] at q1
            rw [← hx3] at q3 hmo HSU
            rw [← hy2] at r2
            rw [← hpe] at r0 hpv hmod
            rw [← hsm] at hsum HSU ⊢
            have HX1 := hide hx1
            have HY2 := hide hy2
            obtain ⟨km, hkm⟩ : ∃ v, v = (k : Int) - 1 := ⟨_, rfl⟩
            have CM := fun W => mod_any km m W (by omega) (by omega) (by omega) (by omega)
            rw [hkm, hmod] at CM
            have HCM := hide CM
            have W1 : IntKind.i64.wrap ((k : Int) - 1) = (k : Int) - 1 := by rw [IntKind.wrap_i64]; omega
            have hpm : (pv : Int) < (m : Int) := by omega
            clear hx1 hx3 hy2 hsm hu hin hv hinp e1 e2 hmod hpe hkm CM
            by_cases hxy : x1 = y2
            · have hne : ((x1 : Int) != (y2 : Int)) = false := by rw [bne_eq_false_iff_eq]; exact hxy
              have HK2 : Hid (∀ j, j < k + 1 → (cAt bs cs j).1 = (cAt bs cs (cPrev cs j)).2.1) := hide (fun j hj => by
                  rcases Nat.lt_or_ge j k with h | h
                  · exact HK.out j h
                  · obtain rfl : k = j := by omega
                    rw [← HX1.out, ← HY2.out]; exact hxy)
              clear hxy
              go_wp2
              go_quiet ((go_at_call 45; first | with_reducible exact still_call (HCM.out _) | with_reducible exact quiet_same3 (HCM.out _)))
              go_wp2
              go_roundw
              case rel => exact ⟨k + 1, _, by omega, by go_num, by rw [HSU.out], HK2, rfl⟩
              case measure => simp [intOf]; omega
            · have hne : ((x1 : Int) != (y2 : Int)) = true := by rw [bne_iff_ne]; exact hxy
              have HE := hide (cir_open HR.out HI.out (show k < cs.length by rw [HM.out]; exact hlt) (by rw [← HX1.out, ← HY2.out]; exact hxy))
              clear hxy
              go_wp2
              go_quiet ((go_at_call 45; first | with_reducible exact still_call (HCM.out _) | with_reducible exact quiet_same3 (HCM.out _)))
              go_wp2
              go_ret2
              exact refCirDone_no HE.out (by omega) (by first | exact ⟨_, rfl⟩ | exact ⟨_, (World.drewN_drewN _ _ _).symm⟩)
          · obtain rfl : m = k := by omega
            have HL : Hid (cirLk bs cs) := hide (fun j hj => HK.out j (by rw [← HM.out]; exact hj))
            have HE := hide (cir_end HR.out HI.out HL.out)
            rw [HM.out] at HE
            obtain ⟨sm, hsm⟩ : ∃ v, v = cirSum bs cs m := ⟨_, rfl⟩
            have HSM := hide hsm
            rw [← hsm] at HE ⊢
            clear hsm
            by_cases hs0 : 0 ≤ sm
            · have HE2 : Hid (cirErr bs cs = 22) := hide (HE.out.trans (if_pos hs0))
              go_wp2
              go_ret2
              exact refCirDone_no HE2.out (by omega) ⟨_, rfl⟩
            · have HE2 : Hid (cirErr bs cs = 0) := hide (HE.out.trans (if_neg hs0))
              have HV2 : Hid (cirVal bs cs = sm) := by show cirVal bs cs = sm; unfold cirVal; rw [if_pos HE2.out, HM.out, HSM.out]
              clear HE
              go_wp2
              go_ret2
              exact ⟨by rw [HE2.out, HV2.out]; rfl, _, rfl⟩
  · have i1 : inR m 1 60 = false := inR_no hm1
    have HE := hide (cir_len (bs := bs) (cs := cs) (by rw [HM.out]; omega))
    clear hm1
    go_enter Try.func20, Try.ntmps20
    go_wp2_with fail
    refine Lv.same (within3_any m 1 60 _) ?_
    rw [i1]
    go_wp2
    go_ret2
    exact refCirDone_no HE.out (by omega) ⟨0, rfl⟩
end Go.Proofs.Ytnilfacofikoaaa
