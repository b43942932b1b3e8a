/- The contract of (number.natural).times: the digits of a number that the call's own memory holds are multiplied in place. -/
import Derived.Test.YtjfcjclhbnmgcaaBits
import Derived.Maps.AppendAt
import Derived.Deep.Draws
namespace Go.Proofs.Ytjfcjclhbnmgcaa
open Go.RowKit

theorem info_u64 : (Try.prog.info? 174).map (fun i => (i.zero, i.size, i.bytes)) = some (some (.int .u64 0), 1, 8) := by kernel_rfl

/-- Digits as cells. -/
def u64s (ds : List Nat) : List Value := ds.map fun (d : Nat) => Value.int .u64 (d : Int)
theorem u64s_len (ds : List Nat) : (u64s ds).length = ds.length := by simp [u64s]
theorem u64s_get {ds : List Nat} {j : Nat} (h : j < ds.length) : (u64s ds)[j]? = some (.int .u64 ((ds[j] : Nat) : Int)) := by simp [u64s, h]

/-- The value v owns a row of the call's own memory (from block 'base' on) that writes the number N with at most L digits. -/
def Own (w : World) (base : Nat) (v : Value) (N L : Nat) : Prop :=
  ∃ ds : List Nat, Dig ds N ∧ ds.length ≤ L ∧ w.ownsRow base 174 1 v ds.length (u64s ds)

/-- What a call has left that works on the row of v: v' is that row, or a new one. -/
def Left (w w' : World) (v v' : Value) : Prop := w.grownBy w' v.ownBlock ∧ (v'.ownBlock = v.ownBlock ∨ ∃ g, v'.ownBlock = some g ∧ w.heap.size ≤ g)

/-- The row while it is multiplied: k digits are done. -/
def Half (w wr : World) (base g cap : Nat) (ds : List Nat) (m k : Nat) (rs : List Nat) (c : Nat) : Prop :=
  Part ds m k rs c ∧ wr.ownsRow base 174 1 (.slice (some ⟨g, 0, none⟩) ds.length cap) ds.length (u64s (rs ++ ds.drop k)) ∧ w.grownBy wr (some g)

theorem Half.start {w : World} {base g cap : Nat} {ds : List Nat} (m : Nat) (h : w.ownsRow base 174 1 (.slice (some ⟨g, 0, none⟩) ds.length cap) ds.length (u64s ds)) : Half w w base g cap ds m 0 [] 0 :=
  ⟨Part.zero ds m, by simpa using h, World.grownBy.refl w _⟩
theorem Half.cell {w wr : World} {base g cap : Nat} {ds : List Nat} {m k : Nat} {rs : List Nat} {c : Nat} (h : Half w wr base g cap ds m k rs c) (hk : k < ds.length) :
    wr.cell? ⟨g, k, none⟩ = some (.int .u64 ((ds[k] : Nat) : Int)) ∧ wr.frozen? ⟨g, k, none⟩ = false := by
  obtain ⟨hp, ho, _⟩ := h
  refine ⟨?_, ho.frozenAt k⟩
  rw [ho.cellAt k (by omega)]
  have hl : k < (rs ++ ds.drop k).length := by simp [hp.len]; omega
  rw [u64s_get hl]
  have e : (rs ++ ds.drop k)[k] = ds[k] := by
    rw [List.getElem_append_right (by rw [hp.len]; exact Nat.le_refl _)]
    simp [hp.len]
  rw [e]
theorem Half.step {w wr : World} {base g cap : Nat} {ds : List Nat} {m k : Nat} {rs : List Nat} {c : Nat} (h : Half w wr base g cap ds m k rs c) (hk : k < ds.length) (hds : ∀ d ∈ ds, d < B64) (hm : m < B64) :
    Half w (wr.setCell ⟨g, k, none⟩ (.int .u64 (sum64 (lo64 ds[k] m) c : Int))) base g cap ds m (k + 1) (rs ++ [sum64 (lo64 ds[k] m) c]) (hi64 ds[k] m + car64 (lo64 ds[k] m) c) := by
  obtain ⟨hp, ho, hg⟩ := h
  obtain ⟨h1, h2⟩ := ho.stored k (.int .u64 (sum64 (lo64 ds[k] m) c : Int))
  refine ⟨?_, ?_, hg.trans h2⟩
  · rw [sum_digit, car_digit]; exact hp.step hk hds hm
  · have e : (u64s (rs ++ ds.drop k)).set k (.int .u64 (sum64 (lo64 ds[k] m) c : Int)) = u64s ((rs ++ [sum64 (lo64 ds[k] m) c]) ++ ds.drop (k + 1)) := by
      unfold u64s
      rw [List.drop_eq_getElem_cons hk, List.map_append, List.map_cons, List.set_append_right _ _ (by simp [hp.len]), List.length_map, hp.len, Nat.sub_self, List.set_cons_zero, List.map_append, List.map_append, List.append_assoc]
      rfl
    rw [← e]; exact h1
theorem Half.carry {w wr : World} {base g cap : Nat} {ds : List Nat} {m k : Nat} {rs : List Nat} {c : Nat} (h : Half w wr base g cap ds m k rs c) : c ≤ 18446744073709551615 := by
  have := h.1.carry
  have e : B64 = 18446744073709551616 := rfl
  omega

/-- What times leaves. -/
def TimesDone (w : World) (base : Nat) (v : Value) (N L : Nat) (e : Ending) (w' : World) : Prop :=
  ∃ v', e = .returned v' ∧ Own w' base v' N L ∧ Left w w' v v'

set_option maxHeartbeats 400000 in
theorem times_zero (base g cap L : Nat) (ds : List Nat) (w : World)
    (ho : w.ownsRow base 174 1 (.slice (some ⟨g, 0, none⟩) ds.length cap) ds.length (u64s ds)) :
    Calls Try.prog 137 #[.slice (some ⟨g, 0, none⟩) ds.length cap, .int .u64 0] w (TimesDone w base (.slice (some ⟨g, 0, none⟩) ds.length cap) 0 (L + 1)) := by
  go_enter Try.func137, Try.ntmps137
  go_wp2
  go_ret
  refine ⟨_, rfl, ⟨[], Dig.zero, Nat.zero_le _, ⟨rfl, ?_⟩⟩, World.grownBy.refl w _, .inl rfl⟩
  rcases ho.2 with ⟨h, _⟩ | ⟨g', cap', cur, h, hb, hg, hnc, hcm, hcs, htake⟩
  · cases h
  · obtain ⟨rfl, rfl⟩ : g = g' ∧ cap = cap' := by simpa using h
    exact .inr ⟨g, cap, cur, rfl, hb, hg, Nat.zero_le _, hcm, hcs, by simp [u64s]⟩

theorem TimesDone.of_half {w wr : World} {base g cap L N m : Nat} {ds rs : List Nat} (hd : Dig ds N) (hl : ds.length ≤ L) (hm : 1 ≤ m) (h : Half w wr base g cap ds m ds.length rs 0) :
    TimesDone w base (.slice (some ⟨g, 0, none⟩) ds.length cap) (N * m) (L + 1) (.returned (.slice (some ⟨g, 0, none⟩) ds.length cap)) wr := by
  obtain ⟨hp, ho, hg⟩ := h
  rw [List.drop_length, List.append_nil] at ho
  rw [← hp.len] at ho
  exact ⟨_, rfl, ⟨rs, hp.fits hd hm, by rw [hp.len]; omega, by rw [← hp.len]; exact ho⟩, hg, .inl rfl⟩
theorem TimesDone.of_carry {w wr w1 : World} {base g cap L N m c : Nat} {v' : Value} {ds rs : List Nat} (hd : Dig ds N) (hl : ds.length ≤ L) (hc : 1 ≤ c) (h : Half w wr base g cap ds m ds.length rs c)
    (ho : w1.ownsRow base 174 1 v' (ds.length + 1) (u64s rs ++ [.int .u64 (c : Int)])) (hg1 : wr.grownBy w1 (some g)) (hb : v'.ownBlock = some g ∨ ∃ k, v'.ownBlock = some k ∧ wr.heap.size ≤ k) :
    TimesDone w base (.slice (some ⟨g, 0, none⟩) ds.length cap) (N * m) (L + 1) (.returned v') w1 := by
  obtain ⟨hp, _, hg⟩ := h
  refine ⟨v', rfl, ⟨rs ++ [c], hp.full hd hc, by simp [hp.len]; omega, ?_⟩, hg.trans hg1, ?_⟩
  · have e : u64s rs ++ [.int .u64 (c : Int)] = u64s (rs ++ [c]) := by simp [u64s]
    rw [e] at ho
    simpa [hp.len] using ho
  · rcases hb with hb | ⟨k, hk, hkl⟩
    · exact .inl hb
    · exact .inr ⟨k, hk, Nat.le_trans hg.size hkl⟩

set_option maxHeartbeats 1000000 in
set_option maxRecDepth 100000 in
theorem times_pos (base g cap L N m : Nat) (ds : List Nat) (w : World) (hd : Dig ds N) (hl : ds.length ≤ L) (hL : L ≤ 1000000) (hm1 : 1 ≤ m) (hm : m < B64)
    (ho : w.ownsRow base 174 1 (.slice (some ⟨g, 0, none⟩) ds.length cap) ds.length (u64s ds)) (hbase : base ≤ w.heap.size) :
    Calls Try.prog 137 #[.slice (some ⟨g, 0, none⟩) ds.length cap, .int .u64 m] w (TimesDone w base (.slice (some ⟨g, 0, none⟩) ds.length cap) (N * m) (L + 1)) := by
  obtain ⟨i0, hi, hz0, hz1, hz2⟩ := info_parts info_u64
  have hm0 : ((m : Int) == 0) = false := by rw [beq_eq_false_iff_ne]; omega
  have HD := hide hd
  have HO := hide (Half.start (w := w) m ho)
  clear hd ho
  have HM := hide hm
  clear hm
  go_enter Try.func137, Try.ntmps137
  go_wp2
  go_loopw [5, 18] (fun c i wr => ∃ (k c0 : Nat) (rs : List Nat), k ≤ ds.length ∧ i = .int .i64 k ∧ c = .int .u64 c0 ∧ Hid (Half w wr base g cap ds m k rs c0)) (fun _ i _ => ds.length - (intOf i).toNat)
  case atStart => exact ⟨0, 0, [], Nat.zero_le _, rfl, rfl, HO⟩
  case round =>
    obtain ⟨k, c, rs, hk, rfl, rfl, H⟩ := hrel
    by_cases hlt : k < ds.length
    · obtain ⟨hcell, hfr⟩ := H.out.cell hlt
      have hs := H.out.step hlt HD.out.lt HM.out
      have hsum := hs.carry
      have HS := hide hs
      obtain ⟨d, hde⟩ : ∃ d, d = ds[k] := ⟨_, rfl⟩
      have hdl : d < B64 := by rw [hde]; exact HD.out.lt _ (List.getElem_mem hlt)
      rw [← hde] at hcell HS hsum
      have HDL := hide hdl
      clear hde hs hdl
      have hadd := fun W => add64_run (lo64 d m) c W
      go_wp2_with (go_at_call 136; refine (mul64_any _ _ HDL.out HM.out _).mono ?_; rintro e w' ⟨rfl, rfl⟩)
      go_roundw
      case rel => exact ⟨k + 1, hi64 d m + car64 (lo64 d m) c, rs ++ [sum64 (lo64 d m) c], by omega, by go_num, by go_num, HS⟩
      case measure => simp [intOf]; omega
    · obtain rfl : k = ds.length := by omega
      have hcb := H.out.carry
      by_cases hc0 : c = 0
      · subst hc0
        go_wp2
        go_ret
        exact TimesDone.of_half HD.out hl hm1 H.out
      · have hc1 : (0 : Int) < (c : Int) := by omega
        have hown := H.out.2.1
        have hsz := H.out.2.2.size
        go_wp2_with (at_builtin; refine wpList_append_own_at _ rfl (.tmp 45) (.tmp 47) 170 rfl base 174 i0 (.int .u64 0) 1 8 Try.underlying170 hi hz0 hz1 hz2 rfl (by decide) (.slice (some ⟨g, 0, none⟩) ds.length cap) ds.length (u64s (rs ++ ds.drop ds.length)) rfl (hown.alloc _) ⟨wr.heap.size, 0, none⟩ 1 1 [.int .u64 c] rfl rfl ?c1 ?c2 ?c3 ?c4 ?c5 ?_)
        case c1 => exact cell_one_new _ _ _
        case c2 => intro u hu; simp at hu; subst hu; rfl
        case c3 => unfold maxLen; omega
        case c4 => omega
        case c5 => simp; omega
        · intro v' w1 hown' hgrow _ hat
          have R := TimesDone.of_carry HD.out hl (by omega : 1 ≤ c) H.out hown' ((World.grownBy_alloc wr _ _).trans hgrow) (by rcases hat with h | h; exact .inl h; exact .inr ⟨_, h, by omega⟩)
          clear hown' hgrow hat hown H HO
          have HR := hide R
          clear R
          go_wp2
          go_ret
          exact HR.out
end Go.Proofs.Ytjfcjclhbnmgcaa
