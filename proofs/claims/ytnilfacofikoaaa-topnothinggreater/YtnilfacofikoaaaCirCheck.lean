/- The contract of number.CheckCircle. -/
import Derived.Test.YtnilfacofikoaaaSystem
import Derived.Test.YtnilfacofikoaaaLower
import Derived.Test.YtnilfacofikoaaaSolve
import Derived.Deep.QuietTactic
import Derived.BigQuiet
namespace Go.Proofs.Ytnilfacofikoaaa
open Go.RowKit
set_option linter.unusedVariables false
set_option linter.unusedSimpArgs false

/-- The slice value at A reads as xs, in a block below B. -/
def RdB (w : World) (B : Nat) (A : Option Addr) (xs : List Int) : Prop :=
  0 < xs.length → ∃ b off, A = some ⟨b, off, none⟩ ∧ b < B ∧ ∀ i, i < xs.length → w.cell? ⟨b, off + i, none⟩ = some (.int .i64 (xs.getD i 0))
theorem RdB.kept {w w' : World} {B : Nat} {A : Option Addr} {xs : List Int} (h : RdB w B A xs) (hb : Below B w w') : RdB w' B A xs := fun h0 => by
  obtain ⟨b, off, e, hB, hc⟩ := h h0
  exact ⟨b, off, e, hB, fun i hi => (hb.cell (by exact hB)).trans (hc i hi)⟩
theorem RdB.mono {w : World} {B B' : Nat} {A : Option Addr} {xs : List Int} (h : RdB w B A xs) (hB : B ≤ B') : RdB w B' A xs := fun h0 => by
  obtain ⟨b, off, e, h1, hc⟩ := h h0
  exact ⟨b, off, e, by omega, hc⟩
theorem Bnds.mono {w : World} {B B' : Nat} {A : Option Addr} {bs : List (Int × Int × Int)} (h : Bnds w B A bs) (hB : B ≤ B') : Bnds w B' A bs := fun h0 => by
  obtain ⟨b, off, e, h1, hc⟩ := h h0
  exact ⟨b, off, e, by omega, hc⟩
def cAt (bs : List (Int × Int × Int)) (cs : List Int) (i : Nat) : Int × Int × Int := bs.getD (cs.getD i 0).toNat (0, 0, 0)
def cPrev (cs : List Int) (i : Nat) : Nat := if i = 0 then cs.length - 1 else i - 1
def cirIn (bs : List (Int × Int × Int)) (cs : List Int) : Prop := ∀ i, i < cs.length → 0 ≤ cs.getD i 0 ∧ cs.getD i 0 < bs.length
def cirLk (bs : List (Int × Int × Int)) (cs : List Int) : Prop := ∀ i, i < cs.length → (cAt bs cs i).1 = (cAt bs cs (cPrev cs i)).2.1
def cirSum (bs : List (Int × Int × Int)) (cs : List Int) : Nat → Int
  | 0 => 0
  | k + 1 => cirSum bs cs k + (cAt bs cs k).2.2
instance (bs : List (Int × Int × Int)) (cs : List Int) : Decidable (cirIn bs cs) := inferInstanceAs (Decidable (∀ i, i < cs.length → _))
instance (bs : List (Int × Int × Int)) (cs : List Int) : Decidable (cirLk bs cs) := inferInstanceAs (Decidable (∀ i, i < cs.length → _))
def cirErr (bs : List (Int × Int × Int)) (cs : List Int) : Int :=
  if cs.length < 1 ∨ 60 < cs.length then 10 else if ¬ cirIn bs cs then 6 else if ¬ cirLk bs cs then 25 else if 0 ≤ cirSum bs cs cs.length then 22 else 0
def cirVal (bs : List (Int × Int × Int)) (cs : List Int) : Int := if cirErr bs cs = 0 then cirSum bs cs cs.length else 0
theorem cir_no {bs : List (Int × Int × Int)} {cs : List Int} {E : Int} (h : cirErr bs cs = E) (h0 : E ≠ 0) : cirVal bs cs = 0 := if_neg (by omega)
theorem cir_len {bs : List (Int × Int × Int)} {cs : List Int} (h : cs.length < 1 ∨ 60 < cs.length) : cirErr bs cs = 10 := if_pos h
theorem cir_miss {bs : List (Int × Int × Int)} {cs : List Int} (h : ¬ (cs.length < 1 ∨ 60 < cs.length)) {i : Nat} (hi : i < cs.length) (hn : ¬ (0 ≤ cs.getD i 0 ∧ cs.getD i 0 < bs.length)) : cirErr bs cs = 6 := by
  unfold cirErr
  rw [if_neg h, if_pos fun hh => hn (hh i hi)]
theorem cir_open {bs : List (Int × Int × Int)} {cs : List Int} (h : ¬ (cs.length < 1 ∨ 60 < cs.length)) (hI : cirIn bs cs) {i : Nat} (hi : i < cs.length) (hn : (cAt bs cs i).1 ≠ (cAt bs cs (cPrev cs i)).2.1) : cirErr bs cs = 25 := by
  unfold cirErr
  rw [if_neg h, if_neg (fun x => x hI), if_pos fun hh => hn (hh i hi)]
theorem cir_end {bs : List (Int × Int × Int)} {cs : List Int} (h : ¬ (cs.length < 1 ∨ 60 < cs.length)) (hI : cirIn bs cs) (hL : cirLk bs cs) : cirErr bs cs = if 0 ≤ cirSum bs cs cs.length then 22 else 0 := by
  unfold cirErr
  rw [if_neg h, if_neg (fun x => x hI), if_neg (fun x => x hL)]
theorem cir_most {n : Nat} {bs : List (Int × Int × Int)} {cs : List Int} (hok : BndsOk n bs) (hI : cirIn bs cs) {i : Nat} (hi : i < cs.length) : -1000000000 ≤ (cAt bs cs i).2.2 ∧ (cAt bs cs i).2.2 ≤ 1000000000 := by
  have h := hI i hi
  exact (hok (cs.getD i 0).toNat (by omega)).2.2
theorem cirSum_in {n : Nat} {bs : List (Int × Int × Int)} {cs : List Int} (hok : BndsOk n bs) (hI : cirIn bs cs) : ∀ k, k ≤ cs.length → -(k * 1000000000 : Int) ≤ cirSum bs cs k ∧ cirSum bs cs k ≤ k * 1000000000
  | 0, _ => by simp [cirSum]
  | k + 1, hk => by
    have h1 := cirSum_in hok hI k (by omega)
    have h2 := cir_most hok hI (show k < cs.length by omega)
    rw [cirSum]
    omega
def CirDone (w : World) (bs : List (Int × Int × Int)) (cs : List Int) (e : Ending) (w' : World) : Prop := e = .returned (.tuple #[.int .i64 (cirVal bs cs), .int .i64 (cirErr bs cs)]) ∧ Below w.heap.size w w'
theorem cirDone_no {w w' : World} {bs : List (Int × Int × Int)} {cs : List Int} {E : Int} (h : cirErr bs cs = E) (h0 : E ≠ 0) (hb : Below w.heap.size w w') : CirDone w bs cs (.returned (.tuple #[.int .i64 0, .int .i64 E])) w' := ⟨by rw [cir_no h h0, h], hb⟩
set_option maxHeartbeats 2000000 in
set_option maxRecDepth 100000 in
theorem checkCircle_bad (n : Int) (A C : Option Addr) (len cap m mc : Nat) (bs : List (Int × Int × Int)) (E : Int) (w : World) (hn : bs.length = len) (h : Bnds w w.heap.size A bs) (hE : sysErr n bs = E) (h0 : E ≠ 0) :
    Calls Try.prog 21 #[.int .i64 n, .slice A len cap, .slice C m mc] w fun e w' => e = .returned (.tuple #[.int .i64 0, .int .i64 E]) ∧ Below w.heap.size w w' := by
  have HN := hide hn
  have HD := hide h
  have HE := hide hE
  have b1 : (E != 0) = true := by rw [bne_iff_ne]; exact h0
  clear hn h hE h0
  go_enter Try.func21, Try.ntmps21
  go_wp2_with fail
  refine (checkSystem_any n A len cap bs _ HN.out HD.out).mono ?_
  rintro e w1 ⟨rfl, hb1⟩
  rw [HE.out]
  have HB1 := hide hb1
  clear hb1
  go_wp2
  go_ret2
  exact ⟨rfl, HB1.out⟩
set_option maxHeartbeats 2000000 in
set_option maxRecDepth 100000 in
theorem checkCircle_any (n : Nat) (A C : Option Addr) (len cap m mc : Nat) (bs : List (Int × Int × Int)) (cs : List Int) (w : World) (hn : bs.length = len) (hm : cs.length = m) (h : Bnds w w.heap.size A bs) (hc : RdB w w.heap.size C cs) (hs : sysErr n bs = 0) :
    Calls Try.prog 21 #[.int .i64 n, .slice A len cap, .slice C m mc] w (CirDone w bs cs) := by
  obtain ⟨hn60, hl200, hok⟩ := sys_ok hs
  have HN := hide hn
  have HM := hide hm
  have HD := hide h
  have HC := hide hc
  have HS := hide hs
  have HOK := hide hok
  have hl : len ≤ 200 := by omega
  clear hn h hs hok hl200 hm hc
  by_cases hm1 : (m : Int) < 1
  · have HE := hide (cir_len (bs := bs) (cs := cs) (Or.inl (by rw [HM.out]; omega)))
    go_enter Try.func21, Try.ntmps21
    go_wp2_with fail
    refine (checkSystem_any n A len cap bs _ HN.out HD.out).mono ?_
    rintro e w1 ⟨rfl, hb1⟩
    rw [HS.out]
    have HB1 := hide hb1
    clear hb1
    go_wp2
    go_ret2
    exact cirDone_no HE.out (by omega) HB1.out
  · by_cases hm60 : (60 : Int) < (m : Int)
    · have HE := hide (cir_len (bs := bs) (cs := cs) (Or.inr (by rw [HM.out]; omega)))
      go_enter Try.func21, Try.ntmps21
      go_wp2_with fail
      refine (checkSystem_any n A len cap bs _ HN.out HD.out).mono ?_
      rintro e w1 ⟨rfl, hb1⟩
      rw [HS.out]
      have HB1 := hide hb1
      clear hb1
      go_wp2
      go_ret2
      exact cirDone_no HE.out (by omega) HB1.out
    · have HR : Hid (¬ (cs.length < 1 ∨ 60 < cs.length)) := by show ¬ _; rw [HM.out]; omega
      obtain ⟨bc, oc, rfl, hbc, hcc⟩ := HC.out (by rw [HM.out]; omega)
      have HCC := hide hcc
      clear hcc HC
      go_enter Try.func21, Try.ntmps21
      go_wp2_with fail
      refine (checkSystem_any n A len cap bs _ HN.out HD.out).mono ?_
      rintro e w1 ⟨rfl, hb1⟩
      rw [HS.out]
      have HB1 := hide hb1
      have hs1 := hb1.size
      clear hb1
      go_wp2
      go_loop [31] (fun i => ∃ k : Nat, k ≤ m ∧ i = .int .i64 k ∧ Hid (∀ j, j < k → 0 ≤ cs.getD j 0 ∧ cs.getD j 0 < bs.length)) (fun i => m - (intOf i).toNat)
      case atStart => exact ⟨0, by omega, rfl, hide (fun j hj => by omega)⟩
      case round =>
        obtain ⟨k, hk, rfl, HK⟩ := hrel
        by_cases hlt : k < m
        · have q0 := (HB1.out.cell (by exact hbc)).trans (HCC.out k (by rw [HM.out]; exact hlt))
          have hlt' : (k : Int) < (m : Int) := by omega
          have hbc1 : bc < w1.heap.size := by omega
          obtain ⟨x, hx⟩ : ∃ x, x = cs.getD k 0 := ⟨_, rfl⟩
          rw [← hx] at q0
          have HX := hide hx
          clear hx
          by_cases hx0 : x < 0
          · have HE := hide (cir_miss (bs := bs) HR.out (show k < cs.length by rw [HM.out]; exact hlt) (by rw [← HX.out]; omega))
            go_wp2
            go_ret2
            exact cirDone_no HE.out (by omega) HB1.out
          · by_cases hxl : x < (len : Int)
            · have HK2 : Hid (∀ j, j < k + 1 → 0 ≤ cs.getD j 0 ∧ cs.getD j 0 < bs.length) := hide (fun j hj => by
                rcases Nat.lt_or_ge j k with h | h
                · exact HK.out j h
                · obtain rfl : k = j := by omega
                  rw [← HX.out, HN.out]
                  omega)
              go_wp2
              go_round
              case rel => exact ⟨k + 1, by omega, by go_num, HK2⟩
              case measure => simp [intOf]; omega
            · have HE := hide (cir_miss (bs := bs) HR.out (show k < cs.length by rw [HM.out]; exact hlt) (by rw [← HX.out, HN.out]; omega))
              go_wp2
              go_ret2
              exact cirDone_no HE.out (by omega) HB1.out
        · obtain rfl : m = k := by omega
          have HI : Hid (cirIn bs cs) := hide (fun j hj => HK.out j (by rw [← HM.out]; exact hj))
          obtain ⟨p, rfl⟩ : ∃ p, m = p + 1 := ⟨m - 1, by omega⟩
          have hlast := HI.out p (by rw [HM.out]; omega)
          have q0 := (HB1.out.cell (by exact hbc)).trans (HCC.out p (by rw [HM.out]; omega))
          obtain ⟨bl, ol, rfl, hbl, hcl⟩ := HD.out (by omega)
          have HCL := hide hcl
          obtain ⟨y, hy⟩ := Int.eq_ofNat_of_zero_le hlast.1
          obtain ⟨z1, z2, z3⟩ := hcl y (by omega)
          have e1 : Hid (cAt bs cs (cPrev cs 0) = bs.getD y (0, 0, 0)) := by
            show cAt bs cs (cPrev cs 0) = _
            unfold cAt cPrev
            rw [if_pos rfl, HM.out, Nat.add_sub_cancel, hy]
            rfl
          rw [hy] at q0
          have q1 := (HB1.out.cell (by exact hbl)).trans z1
          have q2 := (HB1.out.cell (by exact hbl)).trans z2
          have q3 := (HB1.out.cell (by exact hbl)).trans z3
          rw [← e1.out] at q1 q2 q3
          have hyl : (y : Int) < (len : Int) := by have := HN.out; omega
          have hbc1 : bc < w1.heap.size := by omega
          have hbl1 : bl < w1.heap.size := by omega
          have hm60' : (p : Int) + 1 ≤ 60 := by omega
          clear z1 z2 z3 hy hlast hcl e1 HK hlt hm1 hm60
          obtain ⟨v1, hv1⟩ : ∃ v, v = (cAt bs cs (cPrev cs 0)).1 := ⟨_, rfl⟩
          obtain ⟨v2, hv2⟩ : ∃ v, v = (cAt bs cs (cPrev cs 0)).2.1 := ⟨_, rfl⟩
          obtain ⟨v3, hv3⟩ : ∃ v, v = (cAt bs cs (cPrev cs 0)).2.2 := ⟨_, rfl⟩
          rw [← hv1] at q1
          rw [← hv2] at q2
          rw [← hv3] at q3
          have HV : Hid (v1 = (cAt bs cs (cPrev cs 0)).1 ∧ v2 = (cAt bs cs (cPrev cs 0)).2.1 ∧ v3 = (cAt bs cs (cPrev cs 0)).2.2) := hide ⟨hv1, hv2, hv3⟩
          clear hv1 hv2 hv3
          go_wp2
          go_loopw [11, 55] (fun s i wr => ∃ k : Nat, k ≤ p + 1 ∧ i = .int .i64 k ∧ s = .int .i64 (cirSum bs cs k) ∧ Hid (∀ j, j < k → (cAt bs cs j).1 = (cAt bs cs (cPrev cs j)).2.1) ∧
            Hid (Blk wr w1.heap.size 67 #[.int .i64 (cAt bs cs (cPrev cs k)).1, .int .i64 (cAt bs cs (cPrev cs k)).2.1, .int .i64 (cAt bs cs (cPrev cs k)).2.2]) ∧ Hid (Below w.heap.size w wr)) (fun _ i _ => p + 1 - (intOf i).toNat)
          case atStart =>
            refine ⟨0, by omega, rfl, rfl, hide (fun j hj => by omega), ?_, hide (HB1.out.alloc hs1 _)⟩
            rw [← HV.out.1, ← HV.out.2.1, ← HV.out.2.2]
            exact Blk.new _ _ _ _ rfl
          case round =>
            clear q0 q1 q2 q3 HV
            obtain ⟨k, hk, rfl, rfl, HK, HX, HB⟩ := hrel
            by_cases hlt : k < p + 1
            · have hin := HI.out k (by rw [HM.out]; exact hlt)
              have q0 := (HB.out.cell (by exact hbc)).trans (HCC.out k (by rw [HM.out]; exact hlt))
              obtain ⟨u, hu⟩ := Int.eq_ofNat_of_zero_le hin.1
              obtain ⟨z1, z2, z3⟩ := HCL.out u (by omega)
              have e1 : Hid (cAt bs cs k = bs.getD u (0, 0, 0)) := by
                show cAt bs cs k = _
                unfold cAt
                rw [hu]
                rfl
              rw [hu] at q0
              have q1 := (HB.out.cell (by exact hbl)).trans z1
              have q2 := (HB.out.cell (by exact hbl)).trans z2
              have q3 := (HB.out.cell (by exact hbl)).trans z3
              rw [← e1.out] at q1 q2 q3
              have hul : (u : Int) < (len : Int) := by have := HN.out; omega
              have hsz := HB.out.size
              have hbc2 : bc < wr.heap.size := by omega
              have hbl2 : bl < wr.heap.size := by omega
              have hnb : ¬ bl = w1.heap.size := by omega
              have hnb2 : ¬ w1.heap.size = bl := by omega
              have hnc : ¬ bc = w1.heap.size := by omega
              have hnc2 : ¬ w1.heap.size = bc := by omega
              have hsum := cirSum_in HOK.out HI.out k (by rw [HM.out]; omega)
              have hmo := cir_most HOK.out HI.out (show k < cs.length by rw [HM.out]; exact hlt)
              have HSU : Hid (cirSum bs cs (k + 1) = cirSum bs cs k + (cAt bs cs k).2.2) := rfl
              have HPV : Hid (cPrev cs (k + 1) = k) := by show cPrev cs (k + 1) = k; unfold cPrev; rw [if_neg (by omega), Nat.add_sub_cancel]
              obtain ⟨⟨p1, p2, p3⟩, ⟨f1, f2, f3⟩⟩ := HX.out.c3
              have lX := HX.out.lt
              have HLQ : Hid ((cAt bs cs k).1 = (cAt bs cs k).1) := rfl
              obtain ⟨x1, hx1⟩ : ∃ v, v = (cAt bs cs k).1 := ⟨_, rfl⟩
              obtain ⟨x2, hx2⟩ : ∃ v, v = (cAt bs cs k).2.1 := ⟨_, rfl⟩
              obtain ⟨x3, hx3⟩ : ∃ v, v = (cAt bs cs k).2.2 := ⟨_, rfl⟩
              obtain ⟨y1, hy1⟩ : ∃ v, v = (cAt bs cs (cPrev cs k)).1 := ⟨_, rfl⟩
              obtain ⟨y2, hy2⟩ : ∃ v, v = (cAt bs cs (cPrev cs k)).2.1 := ⟨_, rfl⟩
              obtain ⟨y3, hy3⟩ : ∃ v, v = (cAt bs cs (cPrev cs k)).2.2 := ⟨_, rfl⟩
              obtain ⟨sm, hsm⟩ : ∃ v, v = cirSum bs cs k := ⟨_, rfl⟩
              rw [← hx1] at q1
              rw [← hx2] at q2
              rw [← hx3] at q3 hmo HSU
              rw [← hy1] at p1 HX
              rw [← hy2] at p2 HX
              rw [← hy3] at p3 HX
              rw [← hsm] at hsum HSU ⊢
              have HX1 := hide hx1
              have HX2 := hide hx2
              have HX3 := hide hx3
              have HY2 := hide hy2
              clear hx1 hx2 hx3 hy1 hy2 hy3 hsm z1 z2 z3 hu hin e1 HLQ
              by_cases hxy : x1 = y2
              · have hne : ((x1 : Int) != (y2 : Int)) = false := by rw [bne_eq_false_iff_eq]; exact hxy
                have HK2 : Hid (∀ j, j < k + 1 → (cAt bs cs j).1 = (cAt bs cs (cPrev cs j)).2.1) := hide (fun j hj => by
                  rcases Nat.lt_or_ge j k with h | h
                  · exact HK.out j h
                  · obtain rfl : k = j := by omega
                    rw [← HX1.out, ← HY2.out]; exact hxy)
                clear hxy
                go_wp2
                go_quiet (fail)
                go_wp2
                go_roundw
                case rel =>
                  refine ⟨k + 1, by omega, by go_num, by rw [HSU.out], HK2, ?_, ?_⟩
                  · rw [HPV.out, ← HX1.out, ← HX2.out, ← HX3.out]
                    exact hide ((((HX.out.drewN _).set 0 _).set 1 _).set 2 _)
                  · exact hide ((((below_drewN HB.out _).setCell (by exact hs1) _).setCell (by exact hs1) _).setCell (by exact hs1) _)
                case measure => simp [intOf]; omega
              · have hne : ((x1 : Int) != (y2 : Int)) = true := by rw [bne_iff_ne]; exact hxy
                have HE := hide (cir_open HR.out HI.out (show k < cs.length by rw [HM.out]; exact hlt) (by rw [← HX1.out, ← HY2.out]; exact hxy))
                clear hxy
                go_wp2
                go_quiet (fail)
                go_wp2
                go_ret2
                exact cirDone_no HE.out (by omega) (below_drewN HB.out _)
            · obtain rfl : k = p + 1 := by omega
              have HL : Hid (cirLk bs cs) := hide (fun j hj => HK.out j (by rw [← HM.out]; exact hj))
              have HE := hide (cir_end HR.out HI.out HL.out)
              rw [HM.out] at HE
              obtain ⟨sm, hsm⟩ : ∃ v, v = cirSum bs cs (p + 1) := ⟨_, rfl⟩
              have HSM := hide hsm
              rw [← hsm] at HE ⊢
              clear hsm
              by_cases hs0 : 0 ≤ sm
              · have HE2 : Hid (cirErr bs cs = 22) := hide (HE.out.trans (if_pos hs0))
                go_wp2
                go_ret2
                exact cirDone_no HE2.out (by omega) HB.out
              · have HE2 : Hid (cirErr bs cs = 0) := hide (HE.out.trans (if_neg hs0))
                have HV2 : Hid (cirVal bs cs = sm) := by show cirVal bs cs = sm; unfold cirVal; rw [if_pos HE2.out, HM.out, HSM.out]
                clear HE
                go_wp2
                go_ret2
                exact ⟨by rw [HE2.out, HV2.out]; rfl, HB.out⟩
end Go.Proofs.Ytnilfacofikoaaa
