/- The contract of agrafferef01.mul: the product of two naturals (digits to the base 10000), in memory of its own. -/
import Derived.Test.YtfmonpjoadjimabLive
import Derived.Test.YtfmonpjoadjimabTen
import Derived.Test.YtfmonpjoadjimabSolve
namespace Go.Proofs.Ytfmonpjoadjimab
open Go.RowKit
set_option linter.unusedVariables false
set_option linter.unusedSimpArgs false

/-- Digits as cells. -/
def rowV (xs : List Nat) : List Value := xs.map fun (d : Nat) => Value.int .i64 (d : Int)
theorem rowV_get {xs : List Nat} {j : Nat} (h : j < xs.length) : (rowV xs).toArray[j]? = some (.int .i64 ((xs[j] : Nat) : Int)) := by simp [rowV, h]
theorem rowV_set (xs : List Nat) (j d : Nat) : (rowV xs).toArray.setIfInBounds j (.int .i64 (d : Int)) = (rowV (xs.set j d)).toArray := by simp [rowV, List.map_set]
theorem made_rowV (n : Nat) : madeCells #[.int .i64 0] n = (rowV (List.replicate n 0)).toArray := by
  have h := toList_madeCells_one (.int .i64 0) n
  apply Array.ext'
  rw [h]
  simp [rowV]

/-- The value v is a natural that writes N: digits in a block that is there. -/
def Nt (w : World) (A : Option Addr) (n : Nat) (N : Nat) : Prop :=
  ∃ ds : List Nat, DigT ds N ∧ ds.length = n ∧ (ds = [] ∨ ∃ g, A = some ⟨g, 0, none⟩ ∧ g < w.heap.size ∧ ∀ j (hj : j < ds.length), w.cell? ⟨g, j, none⟩ = some (.int .i64 ((ds[j] : Nat) : Int)))
theorem Nt.kept {w w' : World} {A : Option Addr} {n N : Nat} (h : Nt w A n N) (hb : Below w.heap.size w w') : Nt w' A n N := by
  obtain ⟨ds, hd, hl, h⟩ := h
  refine ⟨ds, hd, hl, ?_⟩
  rcases h with h | ⟨g, hA, hg, hc⟩
  · exact Or.inl h
  · exact Or.inr ⟨g, hA, Nat.lt_of_lt_of_le hg hb.size, fun j hj => (hb.cell (p := ⟨g, j, none⟩) hg).trans (hc j hj)⟩
theorem Nt.alloc {w : World} {A : Option Addr} {n N : Nat} (h : Nt w A n N) (o : Obj) : Nt (w.alloc o) A n N := h.kept ((Below.refl _ _).alloc (Nat.le_refl _) o)
theorem Nt.drewN {w : World} {A : Option Addr} {n N : Nat} (h : Nt w A n N) (k : Nat) : Nt (w.drewN k) A n N := h.kept (below_drewN (Below.refl _ _) k)
theorem Nt.one (w : World) (g d : Nat) (hg : w.heap.size = g) (hd : d < BT) (h1 : 1 ≤ d) : Nt (w.alloc (.cells #[.int .i64 (d : Int)] 3)) (some ⟨g, 0, none⟩) 1 d := by
  refine ⟨[d], DigT.one hd h1, rfl, Or.inr ⟨g, rfl, by simp; omega, fun j hj => ?_⟩⟩
  obtain rfl : j = 0 := by simpa using hj
  exact (Blk.new w g _ _ hg).cell 0

def NtDone (w : World) (N : Nat) (e : Ending) (w' : World) : Prop := ∃ A n cap, e = .returned (.slice A n cap) ∧ Nt w' A n N ∧ Below w.heap.size w w'

/-- While the product is made: its digits in block g0. -/
structure MulIn (w0 : World) (g0 : Nat) (xs : List Nat) (W : World) : Prop where
  out : Blk W g0 3 (rowV xs).toArray
  below : Below w0.heap.size w0 W
theorem MulIn.set {w0 W : World} {g0 : Nat} {xs : List Nat} (h : MulIn w0 g0 xs W) (j d : Nat) (hg : w0.heap.size ≤ g0) : MulIn w0 g0 (xs.set j d) (W.setCell ⟨g0, j, none⟩ (.int .i64 (d : Int))) :=
  ⟨by have := h.out.set j (.int .i64 (d : Int)); rw [rowV_set] at this; exact this, h.below.setCell hg _⟩
theorem MulIn.drewN {w0 W : World} {g0 : Nat} {xs : List Nat} (h : MulIn w0 g0 xs W) (n : Nat) : MulIn w0 g0 xs (W.drewN n) := ⟨h.out.drewN n, below_drewN h.below n⟩
theorem MulIn.cell {w0 W : World} {g0 : Nat} {xs : List Nat} (h : MulIn w0 g0 xs W) (j : Nat) (hj : j < xs.length) : W.cell? ⟨g0, j, none⟩ = some (.int .i64 ((xs[j] : Nat) : Int)) ∧ W.frozen? ⟨g0, j, none⟩ = false :=
  ⟨(h.out.cell j).trans (rowV_get hj), h.out.frozen j⟩

set_option maxHeartbeats 2000000 in
set_option maxRecDepth 100000 in
theorem mul_any (A1 A2 : Option Addr) (n1 n2 c1 c2 N M L1 L2 : Nat) (w : World) (h1 : Nt w A1 n1 N) (h2 : Nt w A2 n2 M) (hN : N < BT ^ L1) (hM : M < BT ^ L2) (hL : L1 + L2 ≤ 1000000) :
    Calls Try.prog 62 #[.slice A1 n1 c1, .slice A2 n2 c2] w (NtDone w (N * M)) := by
  obtain ⟨ds, hd, rfl, ha⟩ := h1
  obtain ⟨es, he, rfl, hb⟩ := h2
  have l1 := hd.len hN
  have l2 := he.len hM
  have hmk : ∀ W, (Instr.makeSlice 106 (.int .i64 ((ds.length : Int) + (es.length : Int) + 1)) (.int .i64 ((ds.length : Int) + (es.length : Int) + 1))).run Try.prog W = .ok (.slice (some ⟨W.heap.size, 0, none⟩) (ds.length + es.length + 1) (ds.length + es.length + 1)) (W.alloc (.cells (rowV (List.replicate (ds.length + es.length + 1) 0)).toArray 3)) := fun W => by
    have h := run_make_row' (P := Try.prog) 106 3 (.int .i64 0) 8 Try.underlying106 info_int rfl .i64 .i64 (ds.length + es.length + 1) (by omega) (by omega) W
    rw [made_rowV] at h
    simpa using h
  have HD := hide hd
  have HE := hide he
  have HA := hide ha
  have HB := hide hb
  obtain ⟨la, hla⟩ : ∃ la, ds.length = la := ⟨_, rfl⟩
  obtain ⟨lb, hlb⟩ : ∃ lb, es.length = lb := ⟨_, rfl⟩
  have HLA := hide hla
  have HLB := hide hlb
  rw [hla, hlb] at hmk
  rw [hla] at l1 ⊢
  rw [hlb] at l2 ⊢
  have HMK := hide hmk
  clear hd he ha hb hN hM hla hlb
  go_enter Try.func62, Try.ntmps62
  go_wp2
  clear hmk HMK
  have HM0 : Hid (MulIn w w.heap.size (List.replicate (la + lb + 1) 0) (w.alloc (.cells (rowV (List.replicate (la + lb + 1) 0)).toArray 3))) := ⟨Blk.new _ _ _ _ rfl, (Below.refl _ _).alloc (Nat.le_refl _) _⟩
  go_loopw [6] (fun i wr => ∃ (k : Nat) (xs : List Nat), k ≤ la ∧ i = .int .i64 k ∧ Hid (xs.length = la + lb + 1) ∧ Hid (∀ d ∈ xs, d < BT) ∧ Hid (valT xs = valT (ds.take k) * valT es) ∧ Hid (MulIn w w.heap.size xs wr)) (fun i _ => la - (intOf i).toNat)
  case atStart => exact ⟨0, _, by omega, rfl, hide (by simp), hide (by intro d hd; have := List.eq_of_mem_replicate hd; subst this; exact BT_pos), hide (by rw [valT_zeros]; simp [valT]), HM0⟩
  case round =>
    obtain ⟨i, xs, hi, rfl, HXL, HXT, HXV, HI⟩ := hrel
    obtain ⟨wo, rfl⟩ : ∃ wo : World, wo = wr := ⟨_, rfl⟩
    by_cases hil : i < la
    · have HR0 : Hid (RowT ds es i 0 0 xs) := RowT.start (by rw [HXL.out, HLA.out, HLB.out]) HXT.out HXV.out
      have HIB := HI.out.below.size
      go_wp2
      go_loopw [7, 8] (fun c k wr => ∃ (kk cc : Nat) (ys : List Nat), kk ≤ lb + 1 ∧ cc ≤ 9999 ∧ c = .int .i64 cc ∧ k = .int .i64 kk ∧ Hid (RowT ds es i kk cc ys) ∧ Hid (MulIn w w.heap.size ys wr)) (fun _ k _ => lb + 1 - (intOf k).toNat)
      case atStart => exact ⟨0, 0, xs, by omega, by omega, rfl, rfl, HR0, HI⟩
      case round =>
        obtain ⟨k, c, ys, hk, hc, rfl, rfl, HR, HW⟩ := hrel
        clear HXL HXT HXV HI HR0
        have hys : ys.length = la + lb + 1 := by have := HR.out.len; rw [HLA.out, HLB.out] at this; exact this
        have hid : i < ds.length := by rw [HLA.out]; exact hil
        have hne : ds ≠ [] := by intro e; rw [e] at hid; simp at hid
        obtain ⟨g1, hA1, hg1, hc1⟩ := HA.out.resolve_left hne
        have hsum := HR.out.sum HD.out.lt HE.out.lt
        by_cases hkl : k < lb
        · have hke : k < es.length := by rw [HLB.out]; exact hkl
          have hne2 : es ≠ [] := by intro e; rw [e] at hke; simp at hke
          obtain ⟨g2, hA2, hg2, hc2⟩ := HB.out.resolve_left hne2
          have hik : i + k < ys.length := by rw [hys]; omega
          have q1 := (HW.out.below.cell (p := ⟨g1, i, none⟩) hg1).trans (hc1 i hid)
          have q2 := (HW.out.below.cell (p := ⟨g2, k, none⟩) hg2).trans (hc2 k hke)
          obtain ⟨q3, q4⟩ := HW.out.cell (i + k) hik
          have e1 : ds.getD i 0 = ds[i] := by simp [hid]
          have e2 : es.getD k 0 = es[k] := by simp [hke]
          have e3 : ys.getD (i + k) 0 = ys[i + k] := by simp [hik]
          have hstep := fun s => HR.out.step (s := s) HD.out.lt HE.out.lt hik
          rw [e1, e2, e3] at hsum hstep
          obtain ⟨p, hp⟩ : ∃ p, p = ds[i] := ⟨_, rfl⟩
          obtain ⟨q, hq⟩ : ∃ p, p = es[k] := ⟨_, rfl⟩
          obtain ⟨x, hx⟩ : ∃ p, p = ys[i + k] := ⟨_, rfl⟩
          obtain ⟨pq, hpq⟩ : ∃ v, v = p * q := ⟨_, rfl⟩
          rw [← hp] at q1 hsum hstep
          rw [← hq] at q2 hsum hstep
          rw [← hx] at q3 hsum hstep
          rw [← hpq] at hsum hstep
          have m1 : (p : Int) * (q : Int) = (pq : Int) := by rw [hpq, Int.natCast_mul]
          have W1 : IntKind.i64.wrap (pq : Int) = (pq : Int) := by rw [IntKind.wrap_i64]; omega
          have W2 : IntKind.i64.wrap ((x : Int) + (c : Int) + (pq : Int)) = (x : Int) + (c : Int) + (pq : Int) := by rw [IntKind.wrap_i64]; omega
          have HS := hide (hstep _ rfl)
          have hikz : 0 ≤ (i : Int) + (k : Int) := by omega
          have hik2 : (i : Int) + (k : Int) < (la : Int) + (lb : Int) + 1 := by omega
          clear hp hq hx hpq hstep e1 e2 e3 hc1 hc2 hne hne2 hys hik
          have hdv : ((x : Int) + (c : Int) + (pq : Int)) / 10000 = (((x + c + pq) / BT : Nat) : Int) := by have e : BT = 10000 := rfl; rw [e]; omega
          have hmd : ((x : Int) + (c : Int) + (pq : Int)) % 10000 = (((x + c + pq) % BT : Nat) : Int) := by have e : BT = 10000 := rfl; rw [e]; omega
          have HDV := hide hdv
          have HMD := hide hmd
          have hcl : (x + c + pq) / BT ≤ 9999 := by have e : BT = 10000 := rfl; rw [e]; omega
          clear hdv hmd
          go_wp2
          go_quiet (fail)
          go_wp2
          go_roundw
          case rel =>
            refine ⟨k + 1, (x + c + pq) / BT, ys.set (i + k) ((x + c + pq) % BT), by omega, hcl, by rw [HDV.out], by go_num, HS, hide ?_⟩
            rw [HMD.out]
            exact (HW.out.drewN _).set _ _ (Nat.le_refl _)
          case measure => simp [intOf]; omega
        · rcases Nat.eq_zero_or_pos c with rfl | hc0
          · have HV : Hid (valT ys = valT (ds.take (i + 1)) * valT es) := HR.out.done (by rw [HLB.out]; omega)
            have HYL : Hid (ys.length = la + lb + 1) := hys
            clear hys hsum hc1 hne
            go_wp2
            go_roundw
            case rel => exact ⟨i + 1, ys, by omega, by go_num, HYL, HR.out.lt, HV, HW⟩
            case measure => (simp [intOf]; try omega)
          · obtain rfl : k = lb := by have h9 := HR.out.near HD.out.lt HE.out.lt (by rw [HLB.out]; omega) hid hc0; rw [HLB.out] at h9; exact h9
            have hik : i + k < ys.length := by rw [hys]; omega
            obtain ⟨q3, q4⟩ := HW.out.cell (i + k) hik
            have e2 : es.getD k 0 = 0 := by simp [HLB.out]
            have e3 : ys.getD (i + k) 0 = ys[i + k] := by simp [hik]
            have hstep := fun s => HR.out.step (s := s) HD.out.lt HE.out.lt hik
            rw [e2, e3, Nat.mul_zero, Nat.add_zero] at hsum hstep
            obtain ⟨x, hx⟩ : ∃ p, p = ys[i + k] := ⟨_, rfl⟩
            rw [← hx] at q3 hsum hstep
            have HS := hide (hstep _ rfl)
            have hc0' : (0 : Int) < (c : Int) := by omega
            have hikz : 0 ≤ (i : Int) + (k : Int) := by omega
            have hik2 : (i : Int) + (k : Int) < (la : Int) + (k : Int) + 1 := by omega
            have hdv : ((x : Int) + (c : Int)) / 10000 = (((x + c) / BT : Nat) : Int) := by have e : BT = 10000 := rfl; rw [e]; omega
            have hmd : ((x : Int) + (c : Int)) % 10000 = (((x + c) % BT : Nat) : Int) := by have e : BT = 10000 := rfl; rw [e]; omega
            have HDV := hide hdv
            have HMD := hide hmd
            have hcl : (x + c) / BT ≤ 9999 := by have e : BT = 10000 := rfl; rw [e]; omega
            clear hx hstep e2 e3 hc1 hne hys hik hdv hmd
            go_wp2
            go_roundw
            case rel =>
              refine ⟨k + 1, (x + c) / BT, ys.set (i + k) ((x + c) % BT), by omega, hcl, by rw [HDV.out], by go_num, HS, hide ?_⟩
              rw [HMD.out]
              exact HW.out.set _ _ (Nat.le_refl _)
            case measure => (simp [intOf]; try omega)
    · obtain rfl : i = la := by omega
      have HV : Hid (valT (xs.take (i + lb + 1)) = N * M) := by
        have h1 : xs.take (i + lb + 1) = xs := List.take_of_length_le (by rw [HXL.out]; exact Nat.le_refl _)
        have h2 : ds.take i = ds := List.take_of_length_le (by rw [HLA.out]; exact Nat.le_refl _)
        show _ = _
        rw [h1, HXV.out, h2, HD.out.val, HE.out.val]
      have hsz := HI.out.out.lt
      go_wp2
      go_loopw [5] (fun v wr => ∃ m : Nat, m ≤ i + lb + 1 ∧ v = .slice (some ⟨w.heap.size, 0, none⟩) m (i + lb + 1) ∧ Hid (valT (xs.take m) = N * M) ∧ wr = wo) (fun v _ => match v with | .slice _ m _ => m | _ => 0)
      case atStart => exact ⟨i + lb + 1, Nat.le_refl _, rfl, HV, rfl⟩
      case round =>
        obtain ⟨m, hm, rfl, HT, rfl⟩ := hrel
        match m, hm, HT with
        | 0, hm, HT =>
          have HF : Hid (Nt wr (some ⟨w.heap.size, 0, none⟩) 0 (N * M)) := ⟨xs.take 0, DigT.of_take HXT.out (Nat.zero_le _) HT.out (Or.inl rfl), by simp, Or.inl (by simp)⟩
          go_wp2
          go_ret
          exact ⟨_, _, _, rfl, HF.out, HI.out.below⟩
        | j + 1, hm, HT =>
          have hj : j < xs.length := by rw [HXL.out]; omega
          obtain ⟨q1, _⟩ := HI.out.cell j hj
          obtain ⟨x, hx⟩ : ∃ x, x = xs[j] := ⟨_, rfl⟩
          rw [← hx] at q1
          by_cases hz : x = 0
          · subst hz
            have HC := hide (valT_cut HT.out hj hx.symm)
            clear hx hj
            go_wp2
            go_roundw
            case rel => exact ⟨j, by omega, rfl, HC, trivial⟩
            case measure => (simp; try omega)
          · have hb1 : ((x : Int) == 0) = false := by rw [beq_eq_false_iff_ne]; omega
            have HF : Hid (Nt wr (some ⟨w.heap.size, 0, none⟩) (j + 1) (N * M)) := by
              refine ⟨xs.take (j + 1), DigT.of_take HXT.out (by omega) HT.out (Or.inr ⟨by simpa using hj, ?_⟩), by simp; omega, Or.inr ⟨_, rfl, hsz, fun t ht => ?_⟩⟩
              · simpa [← hx] using hz
              · have ht2 : t < xs.length := by rw [List.length_take] at ht; omega
                have := (HI.out.cell t ht2).1
                simpa using this
            clear hx hj hz
            go_wp2
            go_ret
            exact ⟨_, _, _, rfl, HF.out, HI.out.below⟩
end Go.Proofs.Ytfmonpjoadjimab
