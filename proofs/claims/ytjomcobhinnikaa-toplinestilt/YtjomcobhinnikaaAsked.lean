/- The contract of the function value that number.against returns: it compares the multiple of a power with the goal, and keeps the variables that it has captured. -/
import Derived.Test.YtjomcobhinnikaaNormal
import Derived.Deep.AppendLies
import Derived.Deep.RegionLaw
namespace Go.Proofs.Ytjomcobhinnikaa
open Go.RowKit

/-- What the function value has captured: blocks bp (power), bf (factor), bg (goal), bx (the pitch). -/
structure Asked (w : World) (base bp bf bg bx : Nat) (a b c : Int) (d F G : Nat) : Prop where
  ex : ∃ (A : Option Addr) (n cap : Nat) (vf vg : Value) (ps : List Nat), Blk w bp 92 #[.slice A n cap] ∧ Blk w bf 92 #[vf] ∧ Blk w bg 92 #[vg] ∧
    w.ownsRow base 96 1 (.slice A n cap) n (u64s ps) ∧ Own w base vf F 40000 ∧ Own w base vg G 80000 ∧ (Value.slice A n cap).ownBlock ≠ vf.ownBlock ∧ (Value.slice A n cap).ownBlock ≠ vg.ownBlock
  x : Blk w bx 51 #[.int .i64 a, .int .i64 b, .int .i64 c, .int .i64 d]
  nf : bp ≠ bf
  ng : bp ≠ bg

/-- What is left as it was, of any other type than the rows' and the variables'. -/
def Keeps (w w' : World) : Prop := ∀ g t cs, t ≠ 96 → t ≠ 92 → Blk w g t cs → Blk w' g t cs

theorem own_short {w : World} {base n cap : Nat} {A : Option Addr} {ps : List Nat} (h : w.ownsRow base 96 1 (.slice A n cap) n (u64s ps)) : w.ownsRow base 96 1 (.slice A 0 cap) 0 [] := by
  refine ⟨rfl, ?_⟩
  rcases h.2 with ⟨h1, h2⟩ | ⟨g, cap', cur, e, hb, hg, hnc, hcm, hcs, htake⟩
  · simp only [Value.slice.injEq] at h1
    obtain ⟨rfl, _, rfl⟩ := h1
    exact .inl ⟨rfl, rfl⟩
  · simp only [Value.slice.injEq] at e
    obtain ⟨rfl, _, rfl⟩ := e
    exact .inr ⟨g, cap, cur, rfl, hb, hg, Nat.zero_le _, hcm, hcs, by simp⟩
theorem u64s_one (ds : List Nat) : ∀ u ∈ u64s ds, u.oneCell' = true := by
  intro u hu
  obtain ⟨d, _, rfl⟩ := List.mem_map.1 hu
  rfl
theorem own_blk_ne {w : World} {base n g : Nat} {v : Value} {xs : List Value} {t : TypeId} {cs : Array Value} (h : w.ownsRow base 96 1 v n xs) (hg : Blk w g t cs) (hne : t ≠ 96) : v.ownBlock ≠ some g := by
  rcases h.2 with ⟨rfl, _⟩ | ⟨g', cap, cur, rfl, _, hh, _⟩
  · simp [Value.ownBlock]
  · intro he
    have e : g' = g := by simpa [Value.ownBlock] using he
    subst e
    unfold Blk at hg
    rw [hg] at hh
    injection hh with hh
    injection hh with _ ht
    exact hne ht

theorem grown_drew {w w1 : World} {row : Option Nat} (h : w.drew.grownBy w1 row) : w.grownBy w1 row := ⟨h.os, h.tape, h.output, h.size, h.block⟩
theorem ownBlock_len (A : Option Addr) (n m c c' : Nat) : (Value.slice A n c).ownBlock = (Value.slice A m c').ownBlock := by cases A <;> rfl
/-- While the function value works: v is the row in work; what was captured is as it was. -/
structure Mid (w W : World) (base bp bf bg bx : Nat) (vp vf vg : Value) (xs : Array Value) (F G : Nat) (v : Value) : Prop where
  p : Blk W bp 92 #[vp]
  f : Blk W bf 92 #[vf]
  g : Blk W bg 92 #[vg]
  x : Blk W bx 51 xs
  of : Own W base vf F 40000
  og : Own W base vg G 80000
  row : ∃ n ys, W.ownsRow base 96 1 v n ys
  left : Left w W vp v
  nf : v.ownBlock ≠ vf.ownBlock
  ng : v.ownBlock ≠ vg.ownBlock

theorem apart_new {W W' : World} {base N L : Nat} {v v' u : Value} (hl : Left W W' v v') (hu : Own W base u N L) (hN : 1 ≤ N) (hne : v.ownBlock ≠ u.ownBlock) : v'.ownBlock ≠ u.ownBlock := by
  obtain ⟨k, hk⟩ := hu.block hN
  rcases hl.2 with e | ⟨g, e, hg⟩
  · rw [e]; exact hne
  · rw [e, hk]; intro e2; injection e2 with e2; have := (hu.lt k hk).2; omega

theorem Mid.next {w W W' : World} {base bp bf bg bx F G n : Nat} {vp vf vg v v' : Value} {xs : Array Value} {ys : List Value} (h : Mid w W base bp bf bg bx vp vf vg xs F G v) (hF : 1 ≤ F) (hG : 1 ≤ G)
    (ho : W'.ownsRow base 96 1 v' n ys) (hl : Left W W' v v') : Mid w W' base bp bf bg bx vp vf vg xs F G v' := by
  obtain ⟨m, zs, hrow⟩ := h.row
  refine ⟨h.p.grown hl.1 (Ne.symm (own_blk_ne hrow h.p (by decide))), h.f.grown hl.1 (Ne.symm (own_blk_ne hrow h.f (by decide))), h.g.grown hl.1 (Ne.symm (own_blk_ne hrow h.g (by decide))),
    h.x.grown hl.1 (Ne.symm (own_blk_ne hrow h.x (by decide))), h.of.kept hl.1 (.inr (Ne.symm h.nf)), h.og.kept hl.1 (.inr (Ne.symm h.ng)), ⟨n, ys, ho⟩, h.left.trans hl, apart_new hl h.of hF h.nf, apart_new hl h.og hG h.ng⟩

theorem Mid.done {w W : World} {B base bp bf bg bx d F G N L : Nat} {a b c : Int} {vp vf vg v : Value} (h : Mid w W base bp bf bg bx vp vf vg #[.int .i64 a, .int .i64 b, .int .i64 c, .int .i64 d] F G v)
    (ho : Own W base v N L) (hp : Blk w bp 92 #[vp]) (hB : B ≤ base) (hBp : B ≤ bp) (hbase : base ≤ w.heap.size) (hrow : ∃ n ys, w.ownsRow base 96 1 vp n ys) (hpf : bp ≠ bf) (hpg : bp ≠ bg) (k : Nat) :
    Asked ((W.setCell ⟨bp, 0, none⟩ v).drewN k) base bp bf bg bx a b c d F G ∧ Below B w ((W.setCell ⟨bp, 0, none⟩ v).drewN k) ∧ Keeps w ((W.setCell ⟨bp, 0, none⟩ v).drewN k) := by
  obtain ⟨ds, hd, hl, hown⟩ := ho
  obtain ⟨A, cap, rfl, hn, _⟩ := own_form hown
  obtain ⟨n0, ys0, hr0⟩ := hrow
  have hs : W.grownBy ((W.setCell ⟨bp, 0, none⟩ (.slice A ds.length cap)).drewN k) (some bp) := ⟨rfl, rfl, rfl, by simp [World.setCell], fun i _ hne => Below.heap_setCell _ ⟨bp, 0, none⟩ _ _ (fun e => hne (by rw [e]))⟩
  have e1 : vf.ownBlock ≠ some bp := by obtain ⟨ds, _, _, h1⟩ := h.of; exact own_blk_ne h1 h.p (by decide)
  have e2 : vg.ownBlock ≠ some bp := by obtain ⟨ds, _, _, h1⟩ := h.og; exact own_blk_ne h1 h.p (by decide)
  have e3 : (Value.slice A ds.length cap).ownBlock ≠ some bp := own_blk_ne hown h.p (by decide)
  refine ⟨⟨⟨A, ds.length, cap, vf, vg, ds, h.p.set 0 _, h.f.far (Ne.symm hpf) _, h.g.far (Ne.symm hpg) _, hown.kept hs (.inr e3), h.of.kept hs (.inr e1), h.og.kept hs (.inr e2), h.nf, h.ng⟩, h.x.far (h.x.ne h.p (by decide)) _, hpf, hpg⟩, ?_, ?_⟩
  · refine below_drewN (Below.setCell ?_ (by simpa using hBp) _) k
    exact (Below.refl B w).grown h.left.1 (by omega) fun j hj => Nat.le_trans hB (by have := World.ownsRow.lt hr0 j hj; exact this.1)
  · intro g t cs h1 h2 hg
    exact (hg.grown h.left.1 (Ne.symm (own_blk_ne hr0 hg h1))).far (hg.ne hp h2) _

theorem Mid.owns {w W : World} {base bp bf bg bx F G N L : Nat} {vp vf vg v : Value} {xs : Array Value} (h : Mid w W base bp bf bg bx vp vf vg xs F G v) (ho : Own W base v N L) :
    Own (W.setCell ⟨bp, 0, none⟩ v) base v N L ∧ Own (W.setCell ⟨bp, 0, none⟩ v) base vg G 80000 := by
  have hs : W.grownBy (W.setCell ⟨bp, 0, none⟩ v) (some bp) := ⟨rfl, rfl, rfl, by simp [World.setCell], fun i _ hne => Below.heap_setCell _ ⟨bp, 0, none⟩ _ _ (fun e => hne (by rw [e]))⟩
  have e2 : vg.ownBlock ≠ some bp := by obtain ⟨ds, _, _, h1⟩ := h.og; exact own_blk_ne h1 h.p (by decide)
  have e3 : v.ownBlock ≠ some bp := by obtain ⟨ds, _, _, h1⟩ := ho; exact own_blk_ne h1 h.p (by decide)
  exact ⟨ho.kept hs (.inr e3), h.og.kept hs (.inr e2)⟩
theorem append_done {w w1 : World} {base bp bf bg bx F G m cap g1 cap1 : Nat} {A : Option Addr} {vf vg : Value} {xs : Array Value} {ds : List Nat} (h : Mid w w base bp bf bg bx (.slice A m cap) vf vg xs F G (.slice A m cap)) (hF : 1 ≤ F) (hG : 1 ≤ G)
    (hd : Dig ds F) (hdl : ds.length ≤ 40000) (ho : w1.ownsRow base 96 1 (.slice (some ⟨g1, 0, none⟩) ds.length cap1) ds.length (u64s ds)) (hg : w.grownBy w1 (Value.slice A 0 cap).ownBlock)
    (hat : (Value.slice A 0 cap).ownBlock = some g1 ∨ g1 = w.heap.size) : Mid w w1 base bp bf bg bx (.slice A m cap) vf vg xs F G (.slice (some ⟨g1, 0, none⟩) ds.length cap1) ∧ Own w1 base (.slice (some ⟨g1, 0, none⟩) ds.length cap1) F 40000 := by
  rw [ownBlock_len A 0 m cap cap] at hg hat
  refine ⟨h.next hF hG ho ⟨hg, ?_⟩, ds, hd, hdl, ho⟩
  rcases hat with e | e
  · exact .inl e.symm
  · exact .inr ⟨g1, rfl, by omega⟩
theorem times_done {w w1 w2 : World} {base bp bf bg bx F G N L : Nat} {vp vf vg v v' : Value} {xs : Array Value} (h : Mid w w1 base bp bf bg bx vp vf vg xs F G v) (hF : 1 ≤ F) (hG : 1 ≤ G) (ho : Own w2 base v' N L) (hl : Left w1 w2 v v') :
    Mid w w2 base bp bf bg bx vp vf vg xs F G v' ∧ Own w2 base v' N L := by
  refine ⟨?_, ho⟩
  obtain ⟨ds, _, _, hown⟩ := ho
  exact h.next hF hG hown hl

/-- timesPower's contract with the result's shape. -/
def PowerDone (w : World) (base : Nat) (v : Value) (N L : Nat) (e : Ending) (w' : World) : Prop :=
  ∃ A n c, e = .returned (.slice A n c) ∧ Own w' base (.slice A n c) N L ∧ Left w w' v (.slice A n c)
theorem timesPower_slice (base N L f n : Nat) (v : Value) (w : World) (h : Own w base v N L) (hN : 1 ≤ N) (hL : L + n ≤ 100000) (hf : f < B64) (hbase : base ≤ w.heap.size) :
    Calls Try.prog 50 #[v, .int .u64 f, .int .i64 n] w (PowerDone w base v (N * f ^ n) (L + n + 1)) :=
  (timesPower_any base N L f n v w h hN hL hf hbase).mono fun e w' ⟨v', he, ho, hl⟩ => by
    obtain ⟨ds, hd, hdl, hown⟩ := ho
    obtain ⟨A, c, rfl, _, _⟩ := own_form hown
    exact ⟨A, _, c, he, ⟨ds, hd, hdl, hown⟩, hl⟩

def AskedDone (w : World) (B base bp bf bg bx : Nat) (a b c : Int) (d F G : Nat) (r : Int) (e : Ending) (w' : World) : Prop :=
  e = .returned (.int .i64 r) ∧ Asked w' base bp bf bg bx a b c d F G ∧ Below B w w' ∧ Keeps w w'

set_option maxHeartbeats 600000 in
set_option maxRecDepth 100000 in
theorem asked_any (B base bp bf bg bx : Nat) (a b c : Int) (d F G n : Nat) (w : World) (h : Asked w base bp bf bg bx a b c d F G) (hF : 1 ≤ F) (hG : 1 ≤ G) (hd : d ≤ 12) (hn : n ≤ 1000000000000000)
    (hB : B ≤ base) (hBp : B ≤ bp) (hbase : base ≤ w.heap.size) :
    Calls Try.prog 51 #[.int .i64 n, .pointer (some ⟨bp, 0, none⟩), .pointer (some ⟨bf, 0, none⟩), .pointer (some ⟨bx, 0, none⟩), .pointer (some ⟨bg, 0, none⟩)] w
      (AskedDone w B base bp bf bg bx a b c d F G (cmpI (F * n ^ d) G)) := by
  obtain ⟨⟨A, m, cap, vf, vg, ps, hp, hf, hg, hop, hof, hog, hne1, hne2⟩, hx, hpf, hpg⟩ := h
  obtain ⟨i0, hi0, hz0, hz1, hz2⟩ := info_parts info_u64
  have HM : Hid (Mid w w base bp bf bg bx (.slice A m cap) vf vg #[.int .i64 a, .int .i64 b, .int .i64 c, .int .i64 d] F G (.slice A m cap)) := ⟨hp, hf, hg, hx, hof, hog, ⟨_, _, hop⟩, Left.refl _ _, hne1, hne2⟩
  have HP := hide hp
  have HR : Hid (∃ n ys, w.ownsRow base 96 1 (.slice A m cap) n ys) := ⟨_, _, hop⟩
  obtain ⟨ds, hds, hdl, hod⟩ := hof
  have hpos : 0 < ds.length := by
    rcases Nat.eq_zero_or_pos ds.length with h0 | h0
    · have e := List.eq_nil_of_length_eq_zero h0
      subst e
      have := hds.val
      simp [valN] at this
      omega
    · exact h0
  obtain ⟨gf, cf, rfl, hgf, hgfl⟩ := hod.form hpos
  have hsh := own_short hop
  have q1 := hp.c1.1
  have q2 := hf.c1.1
  have q3 := hx.c4.1.2.2.2
  have pn : (0 : Int) ≤ (cap : Int) := by omega
  have HOD := hide hod
  have HSH := hide hsh
  have HDS := hide hds
  have HPF := hide hpf
  have n1 : ¬ bp = bf := hpf
  have n5 : ¬ bg = bp := Ne.symm hpg
  have n2 : ¬ bf = bp := Ne.symm hpf
  have n3 : ¬ bp = bx := hp.ne hx (by decide)
  have n4 : ¬ bx = bp := Ne.symm n3
  have HPG := hide hpg
  have hnB : n < B64 := by have : B64 = 18446744073709551616 := rfl; omega
  have HNB := hide hnB
  have HW : Hid (IntKind.u64.wrap (n : Int) = (n : Int)) := IntWalk.u64_in _ (by omega)
  clear hp hf hg hx hop hog hod hsh hds hne1 hne2 hpf hpg hnB
  go_enter Try.func51, Try.ntmps51
  go_wp2
  go_region_law (first | (refine step_append_lies _ (by rfl) _ _ _ (by rfl) base 96 i0 _ 1 8 Try.underlying92 hi0 hz0 hz1 hz2 rfl (by omega) (.slice A 0 cap) 0 [] (by rfl) HSH.out ⟨gf, 0, none⟩ ds.length cf (u64s ds) (by rfl) (by simp [u64s_len]) (HOD.out.cells rfl) (u64s_one ds) hpos (by unfold maxLen; omega) (by omega) hbase w.heap.size (by rfl) ?_; intro g1 cap1 w1 hown1 hgrow1 hat1 hlt1; simp only [Nat.zero_add, List.nil_append] at hown1; have HA := hide (append_done HM.out hF hG HDS.out hdl hown1 (grown_drew hgrow1) hat1); clear hown1 hgrow1 hat1; have q1' := HA.out.1.p.c1.1; have q2' := HA.out.1.f.c1.1; have q3' := HA.out.1.x.c4.1.2.2.2) | (go_simp; go_at_call 50; rw [HW.out]; refine (timesPower_slice base F 40000 n d _ _ HA.out.2 hF (by omega) HNB.out (Nat.le_trans hbase HA.out.1.left.size)).mono ?_; rintro e w2 ⟨A2, n2, c2, rfl, hown2, hleft2⟩; have HB2 := hide (times_done HA.out.1 hF hG hown2 hleft2); clear hown2 hleft2; have q1'' := HB2.out.1.p.c1.1; have q2'' := HB2.out.1.f.c1.1; have q3'' := HB2.out.1.x.c4.1.2.2.2; have fz := HB2.out.1.p.c1.2))
  all_goals
    have HQ := hide (HB2.out.1.owns HB2.out.2)
    have gq := HB2.out.1.g.c1.1
    go_wp2_with (go_at_call 52; refine (compare_any base base (F * n ^ d) G (40000 + d + 1) 80000 _ _ _ HQ.out.1 HQ.out.2 (by omega)).mono ?_; rintro e w' ⟨rfl, k, rfl⟩)
    go_ret
    exact ⟨rfl, HB2.out.1.done HB2.out.2 HP.out hB hBp hbase HR.out HPF.out HPG.out k⟩
end Go.Proofs.Ytjomcobhinnikaa
