/- ShaC ShaD. -/
import Derived.Test.YtccidmogamnihaaGG
import Derived.Test.YtccidmogamnihaaGF
/- Package sha: what is left below a whole block. -/
namespace Go.Proofs.Ytccidmogamnihaa.fpn
open Go.RowKit Pl
set_option linter.unusedVariables false
set_option linter.unusedSimpArgs false
set_option maxRecDepth 8000

theorem buildB64n (w : World) : (Instr.build 56 #[]).run Try.prog w = .ok (VB (fun _ => 0) 64) w := run_build w _ _ _ (by kernel_rfl)
def fNo : Nat → Int := fun _ => 0
def By (f : Nat → Int) : Prop := ∀ i, 0 ≤ f i ∧ f i < 256
@[irreducible] def cp (f g : Nat → Int) (n : Nat) : Nat → Int := fun i => if i < n then g i else f i
theorem cp_at (f g : Nat → Int) (n i : Nat) : cp f g n i = if i < n then g i else f i := by unfold cp; rfl
theorem cp_by {f g : Nat → Int} {n : Nat} (hf : By f) (hg : ∀ j, j < n → 0 ≤ g j ∧ g j < 256) : By (cp f g n) := fun i => by
  rw [cp_at]
  split
  · exact hg i (by assumption)
  · exact hf i
theorem su_by {f : Nat → Int} (h : By f) (i : Nat) {v : Int} (hv : 0 ≤ v ∧ v < 256) : By (su f i v) := fun j => by
  by_cases e : j = i
  · subst e; rw [su_at]; exact hv
  · rw [su_ne e]; exact h j
theorem z_by : By fNo := fun _ => by show (0 : Int) ≤ 0 ∧ (0 : Int) < 256; decide
theorem by_of {f : Nat → Int} (h : By f) : ∀ i, i < 64 → 0 ≤ f i ∧ f i < 256 := fun i _ => h i
def lwR (X : Nat → Int) (n : Nat) : Nat → Nat → Int
  | 0 => X
  | m + 1 => su (lwR X n m) (63 - m) ((n * 8 / 2 ^ (8 * m) % 256 : Nat) : Int)
@[irreducible] def lw (X : Nat → Int) (n m : Nat) : Nat → Int := lwR X n m
theorem lw_0 (X : Nat → Int) (n : Nat) : lw X n 0 = X := by unfold lw; rfl
theorem lw_s (X : Nat → Int) (n m : Nat) : lw X n (m + 1) = su (lw X n m) (63 - m) ((n * 8 / 2 ^ (8 * m) % 256 : Nat) : Int) := by unfold lw; rfl
theorem lw_by {X : Nat → Int} (h : By X) (n : Nat) : ∀ m, By (lw X n m)
  | 0 => by rw [lw_0]; exact h
  | m + 1 => by rw [lw_s]; exact su_by (lw_by h n m) _ (by omega)
theorem lw_at (X : Nat → Int) (n : Nat) : ∀ m i, m ≤ 8 → i < 64 → lw X n m i = if 63 - i < m then lnb n i else X i
  | 0, i, _, _ => by rw [lw_0, if_neg (by omega)]
  | m + 1, i, hm, hi => by
    rw [lw_s]
    by_cases e : i = 63 - m
    · subst e; rw [su_at, if_pos (by omega)]; unfold lnb; rw [show 63 - (63 - m) = m by omega]
    · rw [su_ne e, lw_at X n m i (by omega) hi]
      by_cases h : 63 - i < m
      · rw [if_pos h, if_pos (show 63 - i < m + 1 by omega)]
      · rw [if_neg h, if_neg (show ¬ 63 - i < m + 1 by omega)]
theorem cp_b {g : Nat → Int} {n : Nat} (hg : ∀ j, j < n → 0 ≤ g j ∧ g j < 256) : By (cp fNo g n) := cp_by z_by hg
theorem su_b {f : Nat → Int} {i : Nat} {v : Int} (h : By f) (hv : 0 ≤ v ∧ v < 256) : By (su f i v) := su_by h i hv
theorem lw_b {X : Nat → Int} {n m : Nat} (h : By X) : By (lw X n m) := lw_by h n m
theorem splice_cp (f g : Nat → Int) {n N : Nat} (hn : n ≤ N) : Pl.splice (BC f N) 0 (BC g n) = BC (cp f g n) N := by
  unfold Pl.splice
  rw [List.take_zero, List.nil_append, Nat.zero_add, BC_len]
  refine List.ext_getElem? fun i => ?_
  rcases Nat.lt_or_ge i n with h | h
  · rw [List.getElem?_append_left (by rw [BC_len]; exact h), BC_at h, BC_at (by omega), cp_at, if_pos h]
  · rw [List.getElem?_append_right (by rw [BC_len]; exact h), BC_len, List.getElem?_drop, show n + (i - n) = i by omega]
    rcases Nat.lt_or_ge i N with h2 | h2
    · rw [BC_at h2, BC_at h2, cp_at, if_neg (by omega)]
    · rw [List.getElem?_eq_none (by rw [BC_len]; exact h2), List.getElem?_eq_none (by rw [BC_len]; exact h2)]
theorem wp_copyN {Q : Exit → Act → World → Prop} {o : Oper} {a : Act} {w : World} {K : Act → World → Prop} (d s : Operand) (ho : o.op = .call { callee := .builtin .copy, args := #[d, s], argTypes := #[29, 29] }) {b n c1 c2 : Nat} {f g : Nat → Int} {p : Option Addr} (hn : n ≤ 64)
    (hd : a.eval d = .slice (some ⟨b, 0, none⟩) 64 c1) (hs : a.eval s = .slice p n c2) (hbx : Box w b (BC f 64)) (hp : AtK .u8 w p n g)
    (h : ∀ w', Wr b w w' → Box w' b (BC (cp f g n) 64) → K (a.put o.dst (.int .i64 n)) w') : o.wp Try.prog a w K Q := by
  have hmin : Nat.min n 64 = n := Nat.min_eq_left hn
  rcases Nat.eq_zero_or_pos n with h0 | h0
  · subst h0
    have hrun := run_copy_none (P := Try.prog) w 29 29 o.type 5 (some ⟨b, 0, none⟩) p 64 c1 0 c2 Try.underlying29 sizeY rfl
    unfold Oper.wp execOp
    simp only [ho, resolve, invoke, builtin, Sem.run_bind, Sem.run_pure, Result.andThen_ok, List.map_toArray, List.map_cons, List.map_nil, hd, hs, hrun]
    have e : BC (cp f g 0) 64 = BC f 64 := BC_congr fun j hj => by rw [cp_at, if_neg (by omega)]
    exact h _ ⟨rfl, rfl, rfl, rfl, fun _ _ => rfl⟩ (by rw [e]; exact hbx)
  · obtain ⟨pb, off, rfl, hc⟩ := hp h0
    have hl : (BC g n).length = n := BC_len g n
    have hrun := run_copy_cells (P := Try.prog) w 29 29 o.type 5 b 0 64 c1 ⟨pb, off, none⟩ n c2 (BC g n) Try.underlying29 sizeY (by rw [hl, hmin])
      (fun j v hv => by
        have hj : j < n := by have := (List.getElem?_eq_some_iff.1 hv).1; rwa [hl] at this
        rw [BC_at hj] at hv
        obtain rfl : Value.int .u8 (g j) = v := by simpa using hv
        rw [Addr.add_mid]
        exact hc j hj)
      (fun j hj => (hbx.free j (by rw [BC_len]; rw [hl] at hj; omega)).1) (fun j hj => (hbx.free j (by rw [BC_len]; rw [hl] at hj; omega)).2) (BC_one g n)
    unfold Oper.wp execOp
    simp only [ho, resolve, invoke, builtin, Sem.run_bind, Sem.run_pure, Result.andThen_ok, List.map_toArray, List.map_cons, List.map_nil, hd, hs, hrun]
    have e := Box.set hbx (off := 0) (cs := BC g n) (by rw [BC_len, BC_len]; omega)
    rw [splice_cp f g hn] at e
    rw [hl]
    exact h _ (Wr.set b (BC g n) 0 w) e
@[irreducible] def finS (h : Nat → BitVec 32) (g : Nat → Int) (n N : Nat) : Nat → BitVec 32 :=
  if n < 56 then blk h (lw (su (cp fNo g n) n 128) N 8) (hz true 64) else blk (blk h (su (cp fNo g n) n 128) (hz true 64)) (lw fNo N 8) (hz true 64)
theorem fin_1 (h : Nat → BitVec 32) (g : Nat → Int) {n : Nat} (N : Nat) (hn : n < 56) : finS h g n N = blk h (lw (su (cp fNo g n) n 128) N 8) (hz true 64) := by unfold finS; rw [if_pos hn]
theorem fin_2 (h : Nat → BitVec 32) (g : Nat → Int) {n : Nat} (N : Nat) (hn : 56 ≤ n) : finS h g n N = blk (blk h (su (cp fNo g n) n 128) (hz true 64)) (lw fNo N 8) (hz true 64) := by unfold finS; rw [if_neg (by omega)]
theorem dig_fin (g : Nat → Int) (n : Nat) : dig g n = ob (finS (hsx g n (n / 64)) (fun i => g (64 * (n / 64) + i)) (n % 64) n) := by
  rcases Nat.lt_or_ge (n % 64) 56 with h | h
  · rw [fin_1 _ _ _ h]
    refine dig_one g h fun i hi => ?_
    rw [lw_at _ n 8 i (by omega) hi]
    by_cases h1 : i < n % 64
    · rw [if_neg (by omega), if_pos h1, su_ne (by omega), cp_at, if_pos h1]
    · rw [if_neg h1]
      by_cases h2 : i = n % 64
      · rw [if_neg (by omega), if_pos h2, h2, su_at]
      · rw [if_neg h2]
        by_cases h3 : i < 56
        · rw [if_neg (by omega), if_pos h3, su_ne h2, cp_at, if_neg h1]; rfl
        · rw [if_pos (by omega), if_neg h3]
  · rw [fin_2 _ _ _ h]
    refine dig_two g h (fun i hi => ?_) (fun i hi => ?_)
    · by_cases h1 : i < n % 64
      · rw [if_pos h1, su_ne (by omega), cp_at, if_pos h1]
      · rw [if_neg h1]
        by_cases h2 : i = n % 64
        · rw [if_pos h2, h2, su_at]
        · rw [if_neg h2, su_ne h2, cp_at, if_neg h1]; rfl
    · rw [lw_at _ n 8 i (by omega) hi]
      by_cases h3 : i < 56
      · rw [if_neg (by omega), if_pos h3]; rfl
      · rw [if_pos (by omega), if_neg h3]
def fiI1 (h : Nat → BitVec 32) (g : Nat → Int) (n N : Nat) (w : World) (q0 q1 q2 : Nat) : Nat → Act → World → Prop := fun L a' w' => ∃ (m : Nat) (d : Nat → Value),
  a' = { tmps := (D d 0 3 ++ ([.pointer (some ⟨q0, 0, none⟩)] ++ (D d 4 2 ++ ([.pointer (some ⟨q1, 0, none⟩), .pointer (some ⟨q2, 0, none⟩), .int .u64 ((N * 8 : Nat) : Int)] ++ (D d 9 17 ++ ([.int .i64 ((m : Nat) : Int)] ++ D d 27 14))))) : List Value).toArray, defers := [] } ∧ m + L = 8 ∧ Heap w.heap.size w w' [(q0, AW h 8), (q1, AW (fun _ => 0) 8), (q2, BC (lw (su (cp fNo g n) n 128) N m) 64)]

set_option maxHeartbeats 4000000 in
theorem shaFinish1 (h : Nat → BitVec 32) (g : Nat → Int) (p : Option Addr) (n c N : Nat) (w : World) (hn : n < 64) (hr : n < 56) (hN : N ≤ 400) (hp : AtK .u8 w p n g) (hg : ∀ j, j < n → 0 ≤ g j ∧ g j < 256) : Calls Try.prog 25 #[VW h 8, .slice p n c, .int .u64 ((N : Nat) : Int)] w (Ret (VW (finS h g n N) 8) w) := by
  have hp0 := Heap.start w
  go_enter Try.func25, Try.ntmps25
  refine wp_seq_k (fun K1 k1 => ?_)
  refine gs [.alloc (AW h 8), .alloc (AW (fun _ => 0) 8)] [0, 1] [0, 0] (fun L => [VW h 8, .slice p n c, .int .u64 ((N : Nat) : Int), L.p 0, undef, undef, L.p 1] ++ U 34) (fun L => [(L.b 0, AW h 8), (L.b 1, AW (fun _ => 0) 8)]) hp0 ⟨
    oB, oZ rW8,
    trivial⟩ (fun L0 w1 hp1 => ?_)
  refine k1 _ _ ?_
  refine wp_seq_k (fun K2 k2 => ?_)
  refine gs [.alloc (BC (fun _ => 0) 64)] [0] [0] (fun L => [VW h 8, .slice p n c, .int .u64 ((N : Nat) : Int), L0.p 0, undef, undef, L0.p 1, L.p 0] ++ U 33) (fun L => [(L0.b 0, AW h 8), (L0.b 1, AW (fun _ => 0) 8), (L.b 0, BC (fun _ => 0) 64)]) hp1 ⟨
    oZ rB64,
    trivial⟩ (fun L1 w2 hp2 => ?_)
  refine k2 _ _ ?_
  refine wp_seq_k (fun K3 k3 => ?_)
  refine wp_region_list ?_
  refine gsC 2 [.det (.slice (some ⟨(L1.b 0), 0, none⟩) 64 64), .det (.slice p n c)] [0, 1] [0, 1] (fun L _ => [VW h 8, .slice p n c, .int .u64 ((N : Nat) : Int), L0.p 0, undef, undef, L0.p 1, L1.p 0, undef, undef, .slice (some ⟨(L1.b 0), 0, none⟩) 64 64, .slice p n c] ++ U 29) (fun L => [(L0.b 0, AW h 8), (L0.b 1, AW (fun _ => 0) 8), (L1.b 0, BC (fun _ => 0) 64)]) hp2 ⟨
    oSA (sz := 1) Try.underlying56 sizeY (by decide), oM,
    trivial⟩ (fun L2 _ w3 hp3 ha3 => ?_)
  refine oneL rfl rfl (wp_copyN (.tmp 10) (.tmp 11) rfl (b := (L1.b 0)) (n := n) (c1 := 64) (c2 := c) (f := fNo) (g := g) (p := p) (by omega) (by kernel_rfl) (by kernel_rfl) (hp3.bound 2 rfl).2 (AtK.below hp hp3.bel) (fun x8 hw8 hx8 => ?_))
  have hp8 := Heap.turnL (H := [_, _]) hp3 hw8 hx8
  refine wpList_nil ?_
  refine k3 _ _ ?_
  refine wp_seq_k (fun K4 k4 => ?_)
  refine gs [.det (.slice p n c), .det (.int .i64 n), .det (.pointer (some ⟨(L1.b 0), 0 + n * 1, none⟩)), .store (.base 2) (0 + n * 1) ([.int .u8 128]) (BC (su (cp fNo g n) n 128) 64)] [0, 1, 2, 3] [0, 1, 3, 7] (fun L => [VW h 8, .slice p n c, .int .u64 ((N : Nat) : Int), L0.p 0, undef, undef, L0.p 1, L1.p 0, undef, undef, .slice (some ⟨(L1.b 0), 0, none⟩) 64 64, .slice p n c, .int .i64 n, .slice p n c, .int .i64 n, .pointer (some ⟨(L1.b 0), 0 + n * 1, none⟩)] ++ U 25) (fun L => [(L0.b 0, AW h 8), (L0.b 1, AW (fun _ => 0) 8), (L1.b 0, BC (su (cp fNo g n) n 128) 64)]) hp8 ⟨
    oM, fun h => ⟨ob_len (p := p) (n := n) (c := c) (fun _ => rfl) h rfl (fun _ => by kernel_rfl) Try.underlying29⟩, oIA (k := .i64) n aB64 hn, oTY (n := 64) (j := n) hn,
    trivial⟩ (fun L3 w4 hp4 => ?_)
  refine k4 _ _ ?_
  refine wp_seq_k (fun K5 k5 => ?_)
  refine wp_seq_k (fun K6 k6 => ?_)
  refine gs [.det (.slice p n c), .det (.int .i64 n), .det (.int .i64 ((n + 1 : Nat) : Int)), .det (.bool false)] [0, 1, 2, 3] [0, 1, 3, 7] (fun L => [VW h 8, .slice p n c, .int .u64 ((N : Nat) : Int), L0.p 0, undef, undef, L0.p 1, L1.p 0, undef, undef, .slice (some ⟨(L1.b 0), 0, none⟩) 64 64, .slice p n c, .int .i64 n, .slice p n c, .int .i64 n, .pointer (some ⟨(L1.b 0), 0 + n * 1, none⟩), .slice p n c, .int .i64 n, .int .i64 ((n + 1 : Nat) : Int), .bool false] ++ U 21) (fun L => [(L0.b 0, AW h 8), (L0.b 1, AW (fun _ => 0) 8), (L1.b 0, BC (su (cp fNo g n) n 128) 64)]) hp4 ⟨
    oM, fun h => ⟨ob_len (p := p) (n := n) (c := c) (fun _ => rfl) h rfl (fun _ => by kernel_rfl) Try.underlying29⟩, oJ .i64 .i64 n 1 (h := fun w => addII _ n 1 (n + 1) rfl (by omega) w),
    oJ .i64 .i64 ((n + 1 : Nat) : Int) 56 (h := fun w => (gtrI _ _ _ w).trans (by rw [decide_eq_false (by omega)])),
    trivial⟩ (fun L4 w5 hp5 => ?_)
  refine k6 _ _ ?_
  refine wp_cond_false (by kernel_rfl) ?_
  refine skips ?_
  refine k5 _ _ ?_
  refine wp_seq_k (fun K7 k7 => ?_)
  refine gs [.det (.int .u64 ((N : Nat) : Int)), .det (.int .u64 ((N * 8 : Nat) : Int)), .det (.int .u64 ((N * 8 : Nat) : Int))] [0, 1, 2] [0, 1, 3] (fun L => [VW h 8, .slice p n c, .int .u64 ((N : Nat) : Int), L0.p 0, undef, undef, L0.p 1, L1.p 0, .int .u64 ((N * 8 : Nat) : Int), undef, .slice (some ⟨(L1.b 0), 0, none⟩) 64 64, .slice p n c, .int .i64 n, .slice p n c, .int .i64 n, .pointer (some ⟨(L1.b 0), 0 + n * 1, none⟩), .slice p n c, .int .i64 n, .int .i64 ((n + 1 : Nat) : Int), .bool false] ++ (U 4 ++ ([.int .u64 ((N : Nat) : Int), .int .u64 ((N * 8 : Nat) : Int)] ++ U 15))) (fun L => [(L0.b 0, AW h 8), (L0.b 1, AW (fun _ => 0) 8), (L1.b 0, BC (su (cp fNo g n) n 128) 64)]) hp5 ⟨
    oM, oJ .u64 .u64 ((N : Nat) : Int) 8 (h := fun w => mulU _ N 8 (by omega) w), oA,
    trivial⟩ (fun L5 w6 hp6 => ?_)
  refine k7 _ _ ?_
  refine wp_seq_k (fun K8 k8 => ?_)
  refine wp_seq_k (fun K9 k9 => ?_)
  refine gs [.det (.int .i64 0)] [0] [0] (fun L => [VW h 8, .slice p n c, .int .u64 ((N : Nat) : Int), L0.p 0, undef, undef, L0.p 1, L1.p 0, .int .u64 ((N * 8 : Nat) : Int), undef, .slice (some ⟨(L1.b 0), 0, none⟩) 64 64, .slice p n c, .int .i64 n, .slice p n c, .int .i64 n, .pointer (some ⟨(L1.b 0), 0 + n * 1, none⟩), .slice p n c, .int .i64 n, .int .i64 ((n + 1 : Nat) : Int), .bool false] ++ (U 4 ++ ([.int .u64 ((N : Nat) : Int), .int .u64 ((N * 8 : Nat) : Int), .int .i64 0] ++ U 14))) (fun L => [(L0.b 0, AW h 8), (L0.b 1, AW (fun _ => 0) 8), (L1.b 0, BC (su (cp fNo g n) n 128) 64)]) hp6 ⟨
    oM,
    trivial⟩ (fun L6 w7 hp7 => ?_)
  refine k9 _ _ ?_
  refine wp_block_k (fun K10 k10 => ?_)
  refine wp_loop_ghost (fiI1 h g n N w (L0.b 0) (L0.b 1) (L1.b 0)) 8 ⟨0, (fun zz => ([VW h 8, .slice p n c, .int .u64 ((N : Nat) : Int), L0.p 0, undef, undef, L0.p 1, L1.p 0, .int .u64 ((N * 8 : Nat) : Int), undef, .slice (some ⟨(L1.b 0), 0, none⟩) 64 64, .slice p n c, .int .i64 n, .slice p n c, .int .i64 n, .pointer (some ⟨(L1.b 0), 0 + n * 1, none⟩), .slice p n c, .int .i64 n, .int .i64 ((n + 1 : Nat) : Int), .bool false] ++ (U 4 ++ ([.int .u64 ((N : Nat) : Int), .int .u64 ((N * 8 : Nat) : Int), .int .i64 0] ++ U 14)) : List Value).getD zz undef), by kernel_rfl, Nat.zero_add _, by rw [lw_0]; exact hp7⟩ ?_
  rintro L a' W ⟨m, d, rfl, hL, hJ⟩
  by_cases hL0 : L = 0
  rotate_left
  · skip
    have hm : m < 8 := by omega
    refine wp_seq_k (fun K11 k11 => ?_)
    refine gs [.det (.bool true)] [0] [0] (fun L => D d 0 3 ++ ([L0.p 0] ++ (D d 4 2 ++ ([L0.p 1, L1.p 0, .int .u64 ((N * 8 : Nat) : Int)] ++ (D d 9 17 ++ ([.int .i64 ((m : Nat) : Int), .bool true] ++ D d 28 13)))))) (fun L => [(L0.b 0, AW h 8), (L0.b 1, AW (fun _ => 0) 8), (L1.b 0, BC (lw (su (cp fNo g n) n 128) N m) 64)]) hJ ⟨
      oJ .i64 .i64 ((m : Nat) : Int) 8 (h := fun w => (lssI _ _ _ w).trans (by rw [decide_eq_true (by omega)])),
      trivial⟩ (fun L7 w8 hp8 => ?_)
    refine k11 _ _ ?_
    refine wp_seq_k (fun K12 k12 => ?_)
    refine wp_cond_true (by kernel_rfl) ?_
    refine skips ?_
    refine k12 _ _ ?_
    refine wp_seq_k (fun K13 k13 => ?_)
    refine wp_block_k (fun K14 k14 => ?_)
    refine wp_seq_k (fun K15 k15 => ?_)
    refine gs [.det (.int .i64 ((m : Nat) : Int)), .det (.int .i64 ((m : Nat) : Int))] [0, 1] [0, 1] (fun L => D d 0 3 ++ ([L0.p 0] ++ (D d 4 2 ++ ([L0.p 1, L1.p 0, .int .u64 ((N * 8 : Nat) : Int), .int .i64 ((m : Nat) : Int)] ++ (D d 10 16 ++ ([.int .i64 ((m : Nat) : Int), .bool true, .int .i64 ((m : Nat) : Int)] ++ D d 29 12)))))) (fun L => [(L0.b 0, AW h 8), (L0.b 1, AW (fun _ => 0) 8), (L1.b 0, BC (lw (su (cp fNo g n) n 128) N m) 64)]) hp8 ⟨
      oM, oA,
      trivial⟩ (fun L8 w9 hp9 => ?_)
    refine k15 _ _ ?_
    refine gs [.det (.int .i64 ((m : Nat) : Int)), .det (.int .i64 ((63 - m : Nat) : Int)), .det (.int .u64 ((N * 8 : Nat) : Int)), .det (.int .i64 ((m : Nat) : Int)), .det (.int .i64 ((8 * m : Nat) : Int)), .det (.int .u64 ((N * 8 / 2 ^ (8 * m) : Nat) : Int)), .det (.int .u8 ((N * 8 / 2 ^ (8 * m) % 256 : Nat) : Int)), .det (.pointer (some ⟨(L1.b 0), 0 + (63 - m) * 1, none⟩)), .store (.base 2) (0 + (63 - m) * 1) ([.int .u8 ((N * 8 / 2 ^ (8 * m) % 256 : Nat) : Int)]) (BC (su (lw (su (cp fNo g n) n 128) N m) (63 - m) ((N * 8 / 2 ^ (8 * m) % 256 : Nat) : Int)) 64)] [0, 1, 2, 3, 4, 5, 6, 7, 8] [0, 1, 0, 0, 8, 28, 60, 127, 255] (fun L => D d 0 3 ++ ([L0.p 0] ++ (D d 4 2 ++ ([L0.p 1, L1.p 0, .int .u64 ((N * 8 : Nat) : Int), .int .i64 ((m : Nat) : Int)] ++ (D d 10 16 ++ ([.int .i64 ((m : Nat) : Int), .bool true, .int .i64 ((m : Nat) : Int), .int .i64 ((m : Nat) : Int), .int .i64 ((63 - m : Nat) : Int), .int .u64 ((N * 8 : Nat) : Int), .int .i64 ((m : Nat) : Int), .int .i64 ((8 * m : Nat) : Int), .int .u64 ((N * 8 / 2 ^ (8 * m) : Nat) : Int), .int .u8 ((N * 8 / 2 ^ (8 * m) % 256 : Nat) : Int), .pointer (some ⟨(L1.b 0), 0 + (63 - m) * 1, none⟩)] ++ D d 37 4)))))) (fun L => [(L0.b 0, AW h 8), (L0.b 1, AW (fun _ => 0) 8), (L1.b 0, BC (su (lw (su (cp fNo g n) n 128) N m) (63 - m) ((N * 8 / 2 ^ (8 * m) % 256 : Nat) : Int)) 64)]) hp9 ⟨
      oM, oJ .i64 .i64 63 ((m : Nat) : Int) (h := fun w => subN _ 63 m (63 - m) (by omega) (by omega) w), oM, oM, oJ .i64 .i64 8 ((m : Nat) : Int) (h := fun w => mulII _ 8 m (8 * m) rfl (by omega) w),
      oJ .u64 .i64 ((N * 8 : Nat) : Int) ((8 * m : Nat) : Int) (h := fun w => shrUN _ (N * 8) (8 * m) (by omega) w), oCv (fun w => convUB (N * 8 / 2 ^ (8 * m)) w),
      oIA (k := .i64) (63 - m) aB64 (by omega), oTY (n := 64) (j := (63 - m)) (by omega),
      trivial⟩ (fun L9 w10 hp10 => ?_)
    refine k14 _ _ _ ?_
    refine block_normal ?_
    refine k13 _ _ ?_
    refine gs [.det (.int .i64 ((m + 1 : Nat) : Int)), .det (.int .i64 ((m + 1 : Nat) : Int))] [0, 1] [0, 1] (fun L => D d 0 3 ++ ([L0.p 0] ++ (D d 4 2 ++ ([L0.p 1, L1.p 0, .int .u64 ((N * 8 : Nat) : Int), .int .i64 ((m : Nat) : Int)] ++ (D d 10 16 ++ ([.int .i64 ((m + 1 : Nat) : Int), .bool true, .int .i64 ((m : Nat) : Int), .int .i64 ((m : Nat) : Int), .int .i64 ((63 - m : Nat) : Int), .int .u64 ((N * 8 : Nat) : Int), .int .i64 ((m : Nat) : Int), .int .i64 ((8 * m : Nat) : Int), .int .u64 ((N * 8 / 2 ^ (8 * m) : Nat) : Int), .int .u8 ((N * 8 / 2 ^ (8 * m) % 256 : Nat) : Int), .pointer (some ⟨(L1.b 0), 0 + (63 - m) * 1, none⟩), .int .i64 ((m + 1 : Nat) : Int)] ++ D d 38 3)))))) (fun L => [(L0.b 0, AW h 8), (L0.b 1, AW (fun _ => 0) 8), (L1.b 0, BC (su (lw (su (cp fNo g n) n 128) N m) (63 - m) ((N * 8 / 2 ^ (8 * m) % 256 : Nat) : Int)) 64)]) hp10 ⟨
      oJ .i64 .i64 ((m : Nat) : Int) 1 (h := fun w => add1N _ (m) (by omega) w), oM,
      trivial⟩ (fun L10 w11 hp11 => ?_)
    exact ⟨L - 1, by omega, m + 1, (fun zz => (D d 0 3 ++ ([L0.p 0] ++ (D d 4 2 ++ ([L0.p 1, L1.p 0, .int .u64 ((N * 8 : Nat) : Int), .int .i64 ((m : Nat) : Int)] ++ (D d 10 16 ++ ([.int .i64 ((m + 1 : Nat) : Int), .bool true, .int .i64 ((m : Nat) : Int), .int .i64 ((m : Nat) : Int), .int .i64 ((63 - m : Nat) : Int), .int .u64 ((N * 8 : Nat) : Int), .int .i64 ((m : Nat) : Int), .int .i64 ((8 * m : Nat) : Int), .int .u64 ((N * 8 / 2 ^ (8 * m) : Nat) : Int), .int .u8 ((N * 8 / 2 ^ (8 * m) % 256 : Nat) : Int), .pointer (some ⟨(L1.b 0), 0 + (63 - m) * 1, none⟩), .int .i64 ((m + 1 : Nat) : Int)] ++ D d 38 3))))) : List Value).getD zz undef), by kernel_rfl, by omega, by rw [lw_s]; exact hp11⟩
  obtain rfl : m = 8 := by omega
  refine wp_seq_k (fun K16 k16 => ?_)
  refine gs [.det (.bool false)] [0] [0] (fun L => D d 0 3 ++ ([L0.p 0] ++ (D d 4 2 ++ ([L0.p 1, L1.p 0, .int .u64 ((N * 8 : Nat) : Int)] ++ (D d 9 17 ++ ([.int .i64 ((8 : Nat) : Int), .bool false] ++ D d 28 13)))))) (fun L => [(L0.b 0, AW h 8), (L0.b 1, AW (fun _ => 0) 8), (L1.b 0, BC (lw (su (cp fNo g n) n 128) N 8) 64)]) hJ ⟨
    oJ .i64 .i64 ((8 : Nat) : Int) 8 (h := fun w => (lssI _ _ _ w).trans (by rw [decide_eq_false (by omega)])),
    trivial⟩ (fun L11 w12 hp12 => ?_)
  refine k16 _ _ ?_
  refine wp_seq_k (fun K17 k17 => ?_)
  refine wp_cond_false (by kernel_rfl) ?_
  refine wp_exit ?_
  refine then_exit ?_
  refine then_exit ?_
  refine k10 _ _ _ ?_
  refine exit_in ?_
  refine k8 _ _ ?_
  refine wp_seq_k (fun K18 k18 => ?_)
  refine gs [.det (VW h 8), .det (VB (lw (su (cp fNo g n) n 128) N 8) 64), .det (VW (blk h (lw (su (cp fNo g n) n 128) N 8) (hz true 64)) 8), .store (.base 1) 0 (AW (blk h (lw (su (cp fNo g n) n 128) N 8) (hz true 64)) 8) (AW (blk h (lw (su (cp fNo g n) n 128) N 8) (hz true 64)) 8)] [0, 1, 2, 3] [0, 0, 3, 7] (fun L => D d 0 3 ++ ([L0.p 0] ++ (D d 4 2 ++ ([L0.p 1, L1.p 0, .int .u64 ((N * 8 : Nat) : Int)] ++ (D d 9 17 ++ ([.int .i64 ((8 : Nat) : Int), .bool false] ++ (D d 28 10 ++ [VW h 8, VB (lw (su (cp fNo g n) n 128) N 8) 64, VW (blk h (lw (su (cp fNo g n) n 128) N 8) (hz true 64)) 8]))))))) (fun L => [(L0.b 0, AW h 8), (L0.b 1, AW (blk h (lw (su (cp fNo g n) n 128) N 8) (hz true 64)) 8), (L1.b 0, BC (lw (su (cp fNo g n) n 128) N 8) 64)]) hp12 ⟨
    oL 0 0 rW8, oL 2 0 rB64, oR (shaBlock h (lw (su (cp fNo g n) n 128) N 8) (by_of (lw_b (su_b (cp_b hg) (by decide))))), oT rW8,
    trivial⟩ (fun L12 w13 hp13 => ?_)
  refine k18 _ _ ?_
  refine wp_ret ?_
  refine bodyPost_ret (v := VW (blk h (lw (su (cp fNo g n) n 128) N 8) (hz true 64)) 8) ?_ rfl ?_
  · exact rc rW8 rfl (by kernel_rfl) (hp13.bound 1 rfl).2
  · exact ⟨by rw [fin_1 h g N hr], hp13.bel⟩
def fiI2 (h : Nat → BitVec 32) (g : Nat → Int) (n N : Nat) (w : World) (q0 q1 q2 : Nat) : Nat → Act → World → Prop := fun L a' w' => ∃ (m : Nat) (d : Nat → Value),
  a' = { tmps := (D d 0 3 ++ ([.pointer (some ⟨q0, 0, none⟩)] ++ (D d 4 2 ++ ([.pointer (some ⟨q1, 0, none⟩), .pointer (some ⟨q2, 0, none⟩), .int .u64 ((N * 8 : Nat) : Int)] ++ (D d 9 17 ++ ([.int .i64 ((m : Nat) : Int)] ++ D d 27 14))))) : List Value).toArray, defers := [] } ∧ m + L = 8 ∧ Heap w.heap.size w w' [(q0, AW (blk h (su (cp fNo g n) n 128) (hz true 64)) 8), (q1, AW (fun _ => 0) 8), (q2, BC (lw fNo N m) 64)]

set_option maxHeartbeats 4000000 in
theorem shaFinish2 (h : Nat → BitVec 32) (g : Nat → Int) (p : Option Addr) (n c N : Nat) (w : World) (hn : n < 64) (hr : 56 ≤ n) (hN : N ≤ 400) (hp : AtK .u8 w p n g) (hg : ∀ j, j < n → 0 ≤ g j ∧ g j < 256) : Calls Try.prog 25 #[VW h 8, .slice p n c, .int .u64 ((N : Nat) : Int)] w (Ret (VW (finS h g n N) 8) w) := by
  have hp0 := Heap.start w
  go_enter Try.func25, Try.ntmps25
  refine wp_seq_k (fun K1 k1 => ?_)
  refine gs [.alloc (AW h 8), .alloc (AW (fun _ => 0) 8)] [0, 1] [0, 0] (fun L => [VW h 8, .slice p n c, .int .u64 ((N : Nat) : Int), L.p 0, undef, undef, L.p 1] ++ U 34) (fun L => [(L.b 0, AW h 8), (L.b 1, AW (fun _ => 0) 8)]) hp0 ⟨
    oB, oZ rW8,
    trivial⟩ (fun L0 w1 hp1 => ?_)
  refine k1 _ _ ?_
  refine wp_seq_k (fun K2 k2 => ?_)
  refine gs [.alloc (BC (fun _ => 0) 64)] [0] [0] (fun L => [VW h 8, .slice p n c, .int .u64 ((N : Nat) : Int), L0.p 0, undef, undef, L0.p 1, L.p 0] ++ U 33) (fun L => [(L0.b 0, AW h 8), (L0.b 1, AW (fun _ => 0) 8), (L.b 0, BC (fun _ => 0) 64)]) hp1 ⟨
    oZ rB64,
    trivial⟩ (fun L1 w2 hp2 => ?_)
  refine k2 _ _ ?_
  refine wp_seq_k (fun K3 k3 => ?_)
  refine wp_region_list ?_
  refine gsC 2 [.det (.slice (some ⟨(L1.b 0), 0, none⟩) 64 64), .det (.slice p n c)] [0, 1] [0, 1] (fun L _ => [VW h 8, .slice p n c, .int .u64 ((N : Nat) : Int), L0.p 0, undef, undef, L0.p 1, L1.p 0, undef, undef, .slice (some ⟨(L1.b 0), 0, none⟩) 64 64, .slice p n c] ++ U 29) (fun L => [(L0.b 0, AW h 8), (L0.b 1, AW (fun _ => 0) 8), (L1.b 0, BC (fun _ => 0) 64)]) hp2 ⟨
    oSA (sz := 1) Try.underlying56 sizeY (by decide), oM,
    trivial⟩ (fun L2 _ w3 hp3 ha3 => ?_)
  refine oneL rfl rfl (wp_copyN (.tmp 10) (.tmp 11) rfl (b := (L1.b 0)) (n := n) (c1 := 64) (c2 := c) (f := fNo) (g := g) (p := p) (by omega) (by kernel_rfl) (by kernel_rfl) (hp3.bound 2 rfl).2 (AtK.below hp hp3.bel) (fun x8 hw8 hx8 => ?_))
  have hp8 := Heap.turnL (H := [_, _]) hp3 hw8 hx8
  refine wpList_nil ?_
  refine k3 _ _ ?_
  refine wp_seq_k (fun K4 k4 => ?_)
  refine gs [.det (.slice p n c), .det (.int .i64 n), .det (.pointer (some ⟨(L1.b 0), 0 + n * 1, none⟩)), .store (.base 2) (0 + n * 1) ([.int .u8 128]) (BC (su (cp fNo g n) n 128) 64)] [0, 1, 2, 3] [0, 1, 3, 7] (fun L => [VW h 8, .slice p n c, .int .u64 ((N : Nat) : Int), L0.p 0, undef, undef, L0.p 1, L1.p 0, undef, undef, .slice (some ⟨(L1.b 0), 0, none⟩) 64 64, .slice p n c, .int .i64 n, .slice p n c, .int .i64 n, .pointer (some ⟨(L1.b 0), 0 + n * 1, none⟩)] ++ U 25) (fun L => [(L0.b 0, AW h 8), (L0.b 1, AW (fun _ => 0) 8), (L1.b 0, BC (su (cp fNo g n) n 128) 64)]) hp8 ⟨
    oM, fun h => ⟨ob_len (p := p) (n := n) (c := c) (fun _ => rfl) h rfl (fun _ => by kernel_rfl) Try.underlying29⟩, oIA (k := .i64) n aB64 hn, oTY (n := 64) (j := n) hn,
    trivial⟩ (fun L3 w4 hp4 => ?_)
  refine k4 _ _ ?_
  refine wp_seq_k (fun K5 k5 => ?_)
  refine wp_seq_k (fun K6 k6 => ?_)
  refine gs [.det (.slice p n c), .det (.int .i64 n), .det (.int .i64 ((n + 1 : Nat) : Int)), .det (.bool true)] [0, 1, 2, 3] [0, 1, 3, 7] (fun L => [VW h 8, .slice p n c, .int .u64 ((N : Nat) : Int), L0.p 0, undef, undef, L0.p 1, L1.p 0, undef, undef, .slice (some ⟨(L1.b 0), 0, none⟩) 64 64, .slice p n c, .int .i64 n, .slice p n c, .int .i64 n, .pointer (some ⟨(L1.b 0), 0 + n * 1, none⟩), .slice p n c, .int .i64 n, .int .i64 ((n + 1 : Nat) : Int), .bool true] ++ U 21) (fun L => [(L0.b 0, AW h 8), (L0.b 1, AW (fun _ => 0) 8), (L1.b 0, BC (su (cp fNo g n) n 128) 64)]) hp4 ⟨
    oM, fun h => ⟨ob_len (p := p) (n := n) (c := c) (fun _ => rfl) h rfl (fun _ => by kernel_rfl) Try.underlying29⟩, oJ .i64 .i64 n 1 (h := fun w => addII _ n 1 (n + 1) rfl (by omega) w),
    oJ .i64 .i64 ((n + 1 : Nat) : Int) 56 (h := fun w => (gtrI _ _ _ w).trans (by rw [decide_eq_true (by omega)])),
    trivial⟩ (fun L4 w5 hp5 => ?_)
  refine k6 _ _ ?_
  refine wp_cond_true (by kernel_rfl) ?_
  refine wp_seq_k (fun K7 k7 => ?_)
  refine gs [.det (VW h 8), .det (VB (su (cp fNo g n) n 128) 64), .det (VW (blk h (su (cp fNo g n) n 128) (hz true 64)) 8), .store (.base 0) 0 (AW (blk h (su (cp fNo g n) n 128) (hz true 64)) 8) (AW (blk h (su (cp fNo g n) n 128) (hz true 64)) 8)] [0, 1, 2, 3] [0, 0, 3, 7] (fun L => [VW h 8, .slice p n c, .int .u64 ((N : Nat) : Int), L0.p 0, undef, undef, L0.p 1, L1.p 0, undef, undef, .slice (some ⟨(L1.b 0), 0, none⟩) 64 64, .slice p n c, .int .i64 n, .slice p n c, .int .i64 n, .pointer (some ⟨(L1.b 0), 0 + n * 1, none⟩), .slice p n c, .int .i64 n, .int .i64 ((n + 1 : Nat) : Int), .bool true, VW h 8, VB (su (cp fNo g n) n 128) 64, VW (blk h (su (cp fNo g n) n 128) (hz true 64)) 8] ++ U 18) (fun L => [(L0.b 0, AW (blk h (su (cp fNo g n) n 128) (hz true 64)) 8), (L0.b 1, AW (fun _ => 0) 8), (L1.b 0, BC (su (cp fNo g n) n 128) 64)]) hp5 ⟨
    oL 0 0 rW8, oL 2 0 rB64, oR (shaBlock h (su (cp fNo g n) n 128) (by_of (su_b (cp_b hg) (by decide)))), oT rW8,
    trivial⟩ (fun L5 w6 hp6 => ?_)
  refine k7 _ _ ?_
  refine gs [.det (VB (fun _ => 0) 64), .store (.base 2) 0 (BC (fun _ => 0) 64) (BC (fun _ => 0) 64)] [0, 1] [0, 1] (fun L => [VW h 8, .slice p n c, .int .u64 ((N : Nat) : Int), L0.p 0, undef, undef, L0.p 1, L1.p 0, undef, undef, .slice (some ⟨(L1.b 0), 0, none⟩) 64 64, .slice p n c, .int .i64 n, .slice p n c, .int .i64 n, .pointer (some ⟨(L1.b 0), 0 + n * 1, none⟩), .slice p n c, .int .i64 n, .int .i64 ((n + 1 : Nat) : Int), .bool true, VW h 8, VB (su (cp fNo g n) n 128) 64, VW (blk h (su (cp fNo g n) n 128) (hz true 64)) 8, VB (fun _ => 0) 64] ++ U 17) (fun L => [(L0.b 0, AW (blk h (su (cp fNo g n) n 128) (hz true 64)) 8), (L0.b 1, AW (fun _ => 0) 8), (L1.b 0, BC (fun _ => 0) 64)]) hp6 ⟨
    oD buildB64n, oT rB64,
    trivial⟩ (fun L6 w7 hp7 => ?_)
  refine k5 _ _ ?_
  refine wp_seq_k (fun K8 k8 => ?_)
  refine gs [.det (.int .u64 ((N : Nat) : Int)), .det (.int .u64 ((N * 8 : Nat) : Int)), .det (.int .u64 ((N * 8 : Nat) : Int))] [0, 1, 2] [0, 1, 3] (fun L => [VW h 8, .slice p n c, .int .u64 ((N : Nat) : Int), L0.p 0, undef, undef, L0.p 1, L1.p 0, .int .u64 ((N * 8 : Nat) : Int), undef, .slice (some ⟨(L1.b 0), 0, none⟩) 64 64, .slice p n c, .int .i64 n, .slice p n c, .int .i64 n, .pointer (some ⟨(L1.b 0), 0 + n * 1, none⟩), .slice p n c, .int .i64 n, .int .i64 ((n + 1 : Nat) : Int), .bool true, VW h 8, VB (su (cp fNo g n) n 128) 64, VW (blk h (su (cp fNo g n) n 128) (hz true 64)) 8, VB (fun _ => 0) 64, .int .u64 ((N : Nat) : Int), .int .u64 ((N * 8 : Nat) : Int)] ++ U 15) (fun L => [(L0.b 0, AW (blk h (su (cp fNo g n) n 128) (hz true 64)) 8), (L0.b 1, AW (fun _ => 0) 8), (L1.b 0, BC (fun _ => 0) 64)]) hp7 ⟨
    oM, oJ .u64 .u64 ((N : Nat) : Int) 8 (h := fun w => mulU _ N 8 (by omega) w), oA,
    trivial⟩ (fun L7 w8 hp8 => ?_)
  refine k8 _ _ ?_
  refine wp_seq_k (fun K9 k9 => ?_)
  refine wp_seq_k (fun K10 k10 => ?_)
  refine gs [.det (.int .i64 0)] [0] [0] (fun L => [VW h 8, .slice p n c, .int .u64 ((N : Nat) : Int), L0.p 0, undef, undef, L0.p 1, L1.p 0, .int .u64 ((N * 8 : Nat) : Int), undef, .slice (some ⟨(L1.b 0), 0, none⟩) 64 64, .slice p n c, .int .i64 n, .slice p n c, .int .i64 n, .pointer (some ⟨(L1.b 0), 0 + n * 1, none⟩), .slice p n c, .int .i64 n, .int .i64 ((n + 1 : Nat) : Int), .bool true, VW h 8, VB (su (cp fNo g n) n 128) 64, VW (blk h (su (cp fNo g n) n 128) (hz true 64)) 8, VB (fun _ => 0) 64, .int .u64 ((N : Nat) : Int), .int .u64 ((N * 8 : Nat) : Int), .int .i64 0] ++ U 14) (fun L => [(L0.b 0, AW (blk h (su (cp fNo g n) n 128) (hz true 64)) 8), (L0.b 1, AW (fun _ => 0) 8), (L1.b 0, BC (fun _ => 0) 64)]) hp8 ⟨
    oM,
    trivial⟩ (fun L8 w9 hp9 => ?_)
  refine k10 _ _ ?_
  refine wp_block_k (fun K11 k11 => ?_)
  refine wp_loop_ghost (fiI2 h g n N w (L0.b 0) (L0.b 1) (L1.b 0)) 8 ⟨0, (fun zz => ([VW h 8, .slice p n c, .int .u64 ((N : Nat) : Int), L0.p 0, undef, undef, L0.p 1, L1.p 0, .int .u64 ((N * 8 : Nat) : Int), undef, .slice (some ⟨(L1.b 0), 0, none⟩) 64 64, .slice p n c, .int .i64 n, .slice p n c, .int .i64 n, .pointer (some ⟨(L1.b 0), 0 + n * 1, none⟩), .slice p n c, .int .i64 n, .int .i64 ((n + 1 : Nat) : Int), .bool true, VW h 8, VB (su (cp fNo g n) n 128) 64, VW (blk h (su (cp fNo g n) n 128) (hz true 64)) 8, VB (fun _ => 0) 64, .int .u64 ((N : Nat) : Int), .int .u64 ((N * 8 : Nat) : Int), .int .i64 0] ++ U 14 : List Value).getD zz undef), by kernel_rfl, Nat.zero_add _, by rw [lw_0]; exact hp9⟩ ?_
  rintro L a' W ⟨m, d, rfl, hL, hJ⟩
  by_cases hL0 : L = 0
  rotate_left
  · skip
    have hm : m < 8 := by omega
    refine wp_seq_k (fun K12 k12 => ?_)
    refine gs [.det (.bool true)] [0] [0] (fun L => D d 0 3 ++ ([L0.p 0] ++ (D d 4 2 ++ ([L0.p 1, L1.p 0, .int .u64 ((N * 8 : Nat) : Int)] ++ (D d 9 17 ++ ([.int .i64 ((m : Nat) : Int), .bool true] ++ D d 28 13)))))) (fun L => [(L0.b 0, AW (blk h (su (cp fNo g n) n 128) (hz true 64)) 8), (L0.b 1, AW (fun _ => 0) 8), (L1.b 0, BC (lw fNo N m) 64)]) hJ ⟨
      oJ .i64 .i64 ((m : Nat) : Int) 8 (h := fun w => (lssI _ _ _ w).trans (by rw [decide_eq_true (by omega)])),
      trivial⟩ (fun L9 w10 hp10 => ?_)
    refine k12 _ _ ?_
    refine wp_seq_k (fun K13 k13 => ?_)
    refine wp_cond_true (by kernel_rfl) ?_
    refine skips ?_
    refine k13 _ _ ?_
    refine wp_seq_k (fun K14 k14 => ?_)
    refine wp_block_k (fun K15 k15 => ?_)
    refine wp_seq_k (fun K16 k16 => ?_)
    refine gs [.det (.int .i64 ((m : Nat) : Int)), .det (.int .i64 ((m : Nat) : Int))] [0, 1] [0, 1] (fun L => D d 0 3 ++ ([L0.p 0] ++ (D d 4 2 ++ ([L0.p 1, L1.p 0, .int .u64 ((N * 8 : Nat) : Int), .int .i64 ((m : Nat) : Int)] ++ (D d 10 16 ++ ([.int .i64 ((m : Nat) : Int), .bool true, .int .i64 ((m : Nat) : Int)] ++ D d 29 12)))))) (fun L => [(L0.b 0, AW (blk h (su (cp fNo g n) n 128) (hz true 64)) 8), (L0.b 1, AW (fun _ => 0) 8), (L1.b 0, BC (lw fNo N m) 64)]) hp10 ⟨
      oM, oA,
      trivial⟩ (fun L10 w11 hp11 => ?_)
    refine k16 _ _ ?_
    refine gs [.det (.int .i64 ((m : Nat) : Int)), .det (.int .i64 ((63 - m : Nat) : Int)), .det (.int .u64 ((N * 8 : Nat) : Int)), .det (.int .i64 ((m : Nat) : Int)), .det (.int .i64 ((8 * m : Nat) : Int)), .det (.int .u64 ((N * 8 / 2 ^ (8 * m) : Nat) : Int)), .det (.int .u8 ((N * 8 / 2 ^ (8 * m) % 256 : Nat) : Int)), .det (.pointer (some ⟨(L1.b 0), 0 + (63 - m) * 1, none⟩)), .store (.base 2) (0 + (63 - m) * 1) ([.int .u8 ((N * 8 / 2 ^ (8 * m) % 256 : Nat) : Int)]) (BC (su (lw fNo N m) (63 - m) ((N * 8 / 2 ^ (8 * m) % 256 : Nat) : Int)) 64)] [0, 1, 2, 3, 4, 5, 6, 7, 8] [0, 1, 0, 0, 8, 28, 60, 127, 255] (fun L => D d 0 3 ++ ([L0.p 0] ++ (D d 4 2 ++ ([L0.p 1, L1.p 0, .int .u64 ((N * 8 : Nat) : Int), .int .i64 ((m : Nat) : Int)] ++ (D d 10 16 ++ ([.int .i64 ((m : Nat) : Int), .bool true, .int .i64 ((m : Nat) : Int), .int .i64 ((m : Nat) : Int), .int .i64 ((63 - m : Nat) : Int), .int .u64 ((N * 8 : Nat) : Int), .int .i64 ((m : Nat) : Int), .int .i64 ((8 * m : Nat) : Int), .int .u64 ((N * 8 / 2 ^ (8 * m) : Nat) : Int), .int .u8 ((N * 8 / 2 ^ (8 * m) % 256 : Nat) : Int), .pointer (some ⟨(L1.b 0), 0 + (63 - m) * 1, none⟩)] ++ D d 37 4)))))) (fun L => [(L0.b 0, AW (blk h (su (cp fNo g n) n 128) (hz true 64)) 8), (L0.b 1, AW (fun _ => 0) 8), (L1.b 0, BC (su (lw fNo N m) (63 - m) ((N * 8 / 2 ^ (8 * m) % 256 : Nat) : Int)) 64)]) hp11 ⟨
      oM, oJ .i64 .i64 63 ((m : Nat) : Int) (h := fun w => subN _ 63 m (63 - m) (by omega) (by omega) w), oM, oM, oJ .i64 .i64 8 ((m : Nat) : Int) (h := fun w => mulII _ 8 m (8 * m) rfl (by omega) w),
      oJ .u64 .i64 ((N * 8 : Nat) : Int) ((8 * m : Nat) : Int) (h := fun w => shrUN _ (N * 8) (8 * m) (by omega) w), oCv (fun w => convUB (N * 8 / 2 ^ (8 * m)) w),
      oIA (k := .i64) (63 - m) aB64 (by omega), oTY (n := 64) (j := (63 - m)) (by omega),
      trivial⟩ (fun L11 w12 hp12 => ?_)
    refine k15 _ _ _ ?_
    refine block_normal ?_
    refine k14 _ _ ?_
    refine gs [.det (.int .i64 ((m + 1 : Nat) : Int)), .det (.int .i64 ((m + 1 : Nat) : Int))] [0, 1] [0, 1] (fun L => D d 0 3 ++ ([L0.p 0] ++ (D d 4 2 ++ ([L0.p 1, L1.p 0, .int .u64 ((N * 8 : Nat) : Int), .int .i64 ((m : Nat) : Int)] ++ (D d 10 16 ++ ([.int .i64 ((m + 1 : Nat) : Int), .bool true, .int .i64 ((m : Nat) : Int), .int .i64 ((m : Nat) : Int), .int .i64 ((63 - m : Nat) : Int), .int .u64 ((N * 8 : Nat) : Int), .int .i64 ((m : Nat) : Int), .int .i64 ((8 * m : Nat) : Int), .int .u64 ((N * 8 / 2 ^ (8 * m) : Nat) : Int), .int .u8 ((N * 8 / 2 ^ (8 * m) % 256 : Nat) : Int), .pointer (some ⟨(L1.b 0), 0 + (63 - m) * 1, none⟩), .int .i64 ((m + 1 : Nat) : Int)] ++ D d 38 3)))))) (fun L => [(L0.b 0, AW (blk h (su (cp fNo g n) n 128) (hz true 64)) 8), (L0.b 1, AW (fun _ => 0) 8), (L1.b 0, BC (su (lw fNo N m) (63 - m) ((N * 8 / 2 ^ (8 * m) % 256 : Nat) : Int)) 64)]) hp12 ⟨
      oJ .i64 .i64 ((m : Nat) : Int) 1 (h := fun w => add1N _ (m) (by omega) w), oM,
      trivial⟩ (fun L12 w13 hp13 => ?_)
    exact ⟨L - 1, by omega, m + 1, (fun zz => (D d 0 3 ++ ([L0.p 0] ++ (D d 4 2 ++ ([L0.p 1, L1.p 0, .int .u64 ((N * 8 : Nat) : Int), .int .i64 ((m : Nat) : Int)] ++ (D d 10 16 ++ ([.int .i64 ((m + 1 : Nat) : Int), .bool true, .int .i64 ((m : Nat) : Int), .int .i64 ((m : Nat) : Int), .int .i64 ((63 - m : Nat) : Int), .int .u64 ((N * 8 : Nat) : Int), .int .i64 ((m : Nat) : Int), .int .i64 ((8 * m : Nat) : Int), .int .u64 ((N * 8 / 2 ^ (8 * m) : Nat) : Int), .int .u8 ((N * 8 / 2 ^ (8 * m) % 256 : Nat) : Int), .pointer (some ⟨(L1.b 0), 0 + (63 - m) * 1, none⟩), .int .i64 ((m + 1 : Nat) : Int)] ++ D d 38 3))))) : List Value).getD zz undef), by kernel_rfl, by omega, by rw [lw_s]; exact hp13⟩
  obtain rfl : m = 8 := by omega
  refine wp_seq_k (fun K17 k17 => ?_)
  refine gs [.det (.bool false)] [0] [0] (fun L => D d 0 3 ++ ([L0.p 0] ++ (D d 4 2 ++ ([L0.p 1, L1.p 0, .int .u64 ((N * 8 : Nat) : Int)] ++ (D d 9 17 ++ ([.int .i64 ((8 : Nat) : Int), .bool false] ++ D d 28 13)))))) (fun L => [(L0.b 0, AW (blk h (su (cp fNo g n) n 128) (hz true 64)) 8), (L0.b 1, AW (fun _ => 0) 8), (L1.b 0, BC (lw fNo N 8) 64)]) hJ ⟨
    oJ .i64 .i64 ((8 : Nat) : Int) 8 (h := fun w => (lssI _ _ _ w).trans (by rw [decide_eq_false (by omega)])),
    trivial⟩ (fun L13 w14 hp14 => ?_)
  refine k17 _ _ ?_
  refine wp_seq_k (fun K18 k18 => ?_)
  refine wp_cond_false (by kernel_rfl) ?_
  refine wp_exit ?_
  refine then_exit ?_
  refine then_exit ?_
  refine k11 _ _ _ ?_
  refine exit_in ?_
  refine k9 _ _ ?_
  refine wp_seq_k (fun K19 k19 => ?_)
  refine gs [.det (VW (blk h (su (cp fNo g n) n 128) (hz true 64)) 8), .det (VB (lw fNo N 8) 64), .det (VW (blk (blk h (su (cp fNo g n) n 128) (hz true 64)) (lw fNo N 8) (hz true 64)) 8), .store (.base 1) 0 (AW (blk (blk h (su (cp fNo g n) n 128) (hz true 64)) (lw fNo N 8) (hz true 64)) 8) (AW (blk (blk h (su (cp fNo g n) n 128) (hz true 64)) (lw fNo N 8) (hz true 64)) 8)] [0, 1, 2, 3] [0, 0, 3, 7] (fun L => D d 0 3 ++ ([L0.p 0] ++ (D d 4 2 ++ ([L0.p 1, L1.p 0, .int .u64 ((N * 8 : Nat) : Int)] ++ (D d 9 17 ++ ([.int .i64 ((8 : Nat) : Int), .bool false] ++ (D d 28 10 ++ [VW (blk h (su (cp fNo g n) n 128) (hz true 64)) 8, VB (lw fNo N 8) 64, VW (blk (blk h (su (cp fNo g n) n 128) (hz true 64)) (lw fNo N 8) (hz true 64)) 8]))))))) (fun L => [(L0.b 0, AW (blk h (su (cp fNo g n) n 128) (hz true 64)) 8), (L0.b 1, AW (blk (blk h (su (cp fNo g n) n 128) (hz true 64)) (lw fNo N 8) (hz true 64)) 8), (L1.b 0, BC (lw fNo N 8) 64)]) hp14 ⟨
    oL 0 0 rW8, oL 2 0 rB64, oR (shaBlock (blk h (su (cp fNo g n) n 128) (hz true 64)) (lw fNo N 8) (by_of (lw_b z_by))), oT rW8,
    trivial⟩ (fun L14 w15 hp15 => ?_)
  refine k19 _ _ ?_
  refine wp_ret ?_
  refine bodyPost_ret (v := VW (blk (blk h (su (cp fNo g n) n 128) (hz true 64)) (lw fNo N 8) (hz true 64)) 8) ?_ rfl ?_
  · exact rc rW8 rfl (by kernel_rfl) (hp15.bound 1 rfl).2
  · exact ⟨by rw [fin_2 h g N hr], hp15.bel⟩
theorem shaFinish (h : Nat → BitVec 32) (g : Nat → Int) (p : Option Addr) (n c N : Nat) (w : World) (hn : n < 64) (hN : N ≤ 400) (hp : AtK .u8 w p n g) (hg : ∀ j, j < n → 0 ≤ g j ∧ g j < 256) : Calls Try.prog 25 #[VW h 8, .slice p n c, .int .u64 ((N : Nat) : Int)] w (Ret (VW (finS h g n N) 8) w) := by
  rcases Nat.lt_or_ge n 56 with hr | hr
  · exact shaFinish1 h g p n c N w hn hr hN hp hg
  · exact shaFinish2 h g p n c N w hn hr hN hp hg
end Go.Proofs.Ytccidmogamnihaa.fpn

/- Package sha: a digest. -/
namespace Go.Proofs.Ytccidmogamnihaa.fpn
open Go.RowKit Pl
set_option linter.unusedVariables false
set_option linter.unusedSimpArgs false
set_option maxRecDepth 8000

section
variable {ops : Array Oper} {ks : List Kind} {T : List Nat} {a0 : Act} {B : Nat} {w0 W0 : World} {H : List (Nat × List Value)} {i : Nat} {o : Oper}
theorem oSR {x l : Operand} {b off len c n : Nat} {p : Option Addr} (hn : n ≤ len) (hlc : len ≤ c) (hp : p = if c = n then some ⟨b, off, none⟩ else some ⟨b, off + n, none⟩) (hw : ∀ L, wantedR ks L o = true := by intro _; kernel_rfl) (ho : o.op = .slice 29 x (some l) none none := by exact rfl)
    (hx : ∀ L, rd ops ks T a0 L i x = .slice (some ⟨b, off, none⟩) len c := by intro _; kernel_rfl) (hl : ∀ L, rd ops ks T a0 L i l = .int .i64 (n : Int) := by intro _; kernel_rfl) (hk : kd ks i = .det (.slice p (len - n) (c - n))) : Obl Try.prog ops ks T a0 B w0 H i o := ⟨ob_pure hw hk fun L w => by
    have hsz : (sizeOf 5).run Try.prog w = .ok 1 w := size_of sizeY w
    subst hp
    unfold execOp
    by_cases h2 : c = n
    · have h2' : c - n = 0 := by omega
      simp [ho, hx L, hl L, Instr.sliceAt, Instr.slice, Instr.sliceBounds, Instr.sliceBound, asIntOf, Sem.run_bind, run_underlying Try.underlying29, hsz, hn, hlc, h2, Addr.add_mid]
      try omega
    · simp [ho, hx L, hl L, Instr.sliceAt, Instr.slice, Instr.sliceBounds, Instr.sliceBound, asIntOf, Sem.run_bind, run_underlying Try.underlying29, hsz, hn, hlc, h2, Addr.add_mid]⟩
theorem oAS {t e : TypeId} {x : Operand} {n len c : Nat} {a : Addr} (hn : n ≤ len) (hu : Try.prog.underlying t = some (.array n e)) (hw : ∀ L, wantedR ks L o = true := by intro _; kernel_rfl) (ho : o.op = .sliceToArrayPointer t x := by exact rfl)
    (hx : ∀ L, rd ops ks T a0 L i x = .slice (some a) len c := by intro _; kernel_rfl) (hk : kd ks i = .det (.pointer (some a))) : Obl Try.prog ops ks T a0 B w0 H i o := ⟨ob_pure hw hk fun L w => by
    have h : ¬ len < n := by omega
    unfold execOp
    simp [ho, hx L, Instr.arrayAt, Sem.run_bind, run_underlying hu, h]⟩
end
theorem range64 {w x : World} {b off r : Nat} {f : Nat → Int} (hc : ∀ j, j < r → w.cell? ⟨b, off + j, none⟩ = some (.int .u8 (f j))) (h : 64 ≤ r) (hb : Below w.heap.size w x) : x.rangeAt b off (BC f 64) := fun j v hv => by
  have hj : j < 64 := by have := (List.getElem?_eq_some_iff.1 hv).1; rwa [BC_len] at this
  rw [BC_at hj] at hv
  obtain rfl : Value.int .u8 (f j) = v := by simpa using hv
  have hh := hc j (by omega)
  exact (hb.cell (p := ⟨b, off + j, none⟩) (cell_lt hh)).trans hh
theorem rest64 {w : World} {b off r c m : Nat} {g : Nat → Int} {p : Option Addr} (hc : ∀ j, j < r → w.cell? ⟨b, off + j, none⟩ = some (.int .u8 (g (64 * m + j)))) (h : r ≤ c) (hp : p = if c = 64 then some ⟨b, off, none⟩ else some ⟨b, off + 64, none⟩) : AtK .u8 w p (r - 64) (fun i => g (64 * (m + 1) + i)) := fun h0 => by
  rw [if_neg (by omega)] at hp
  refine ⟨b, off + 64, hp, fun j hj => ?_⟩
  have := hc (64 + j) (by omega)
  rw [show off + 64 + j = off + (64 + j) by omega, this]
  show some (Value.int .u8 (g (64 * m + (64 + j)))) = some (Value.int .u8 (g (64 * (m + 1) + j)))
  rw [show 64 * m + (64 + j) = 64 * (m + 1) + j by omega]
theorem hs0 (g : Nat → Int) (n : Nat) : AW (mk8 (1779033703#32) (3144134277#32) (1013904242#32) (2773480762#32) (1359893119#32) (2600822924#32) (528734635#32) (1541459225#32)) 8 = AW (hsx g n 0) 8 := by
  rw [hsx_0]
  refine (List.map_congr_left fun j hj => congrArg W32 ?_).symm
  have h := List.mem_range.1 hj
  rw [first_at h]
  exact (by decide +kernel : ∀ i, i < 8 → hT.getD i 0 = (mk8 (1779033703#32) (3144134277#32) (1013904242#32) (2773480762#32) (1359893119#32) (2600822924#32) (528734635#32) (1541459225#32)) i) j h
def smI1 (g : Nat → Int) (p : Option Addr) (n c : Nat) (w : World) (q0 q1 : Nat) : Nat → Act → World → Prop := fun L a' w' => ∃ (m r : Nat) (q : Option Addr) (c1 : Nat) (d : Nat → Value),
  a' = { tmps := ([.slice p n c, d 1, .pointer (some ⟨q0, 0, none⟩), .pointer (some ⟨q1, 0, none⟩), .slice q r c1] ++ D d 5 19 : List Value).toArray, defers := [] } ∧ m + L = n / 64 ∧ 64 * m + r = n ∧ r ≤ c1 ∧ AtK .u8 w q r (fun i => g (64 * m + i)) ∧ Heap w.heap.size w w' [(q0, BC (fun _ => 0) 32), (q1, AW (hsx g n m) 8)]
theorem at0 {g : Nat → Int} {p : Option Addr} {n : Nat} {w : World} (h : AtK .u8 w p n g) : AtK .u8 w p n (fun i => g (64 * 0 + i)) := fun h0 => by
  obtain ⟨b, off, e, hc⟩ := h h0
  exact ⟨b, off, e, fun j hj => by rw [hc j hj]; show _ = some (Value.int .u8 (g (64 * 0 + j))); rw [Nat.mul_zero, Nat.zero_add]⟩

set_option maxHeartbeats 4000000 in
theorem shaSum (g : Nat → Int) (p : Option Addr) (n c : Nat) (w : World) (hn : n ≤ 400) (hpc : n ≤ c) (hp : AtK .u8 w p n g) (hg : ∀ j, j < n → 0 ≤ g j ∧ g j < 256) : Calls Try.prog 15 #[.slice p n c] w (Ret (VB (dig g n) 32) w) := by
  have hp0 := Heap.start w
  go_enter Try.func15, Try.ntmps15
  refine wp_seq_k (fun K1 k1 => ?_)
  refine gs [.alloc (BC (fun _ => 0) 32)] [0] [0] (fun L => [.slice p n c, undef, L.p 0] ++ U 21) (fun L => [(L.b 0, BC (fun _ => 0) 32)]) hp0 ⟨
    oZ rB32,
    trivial⟩ (fun L0 w1 hp1 => ?_)
  refine k1 _ _ ?_
  refine wp_seq_k (fun K2 k2 => ?_)
  refine gs [.det (VW (mk8 (1779033703#32) (3144134277#32) (1013904242#32) (2773480762#32) (1359893119#32) (2600822924#32) (528734635#32) (1541459225#32)) 8), .alloc (AW (fun _ => 0) 8), .store (.new 1) 0 (AW (mk8 (1779033703#32) (3144134277#32) (1013904242#32) (2773480762#32) (1359893119#32) (2600822924#32) (528734635#32) (1541459225#32)) 8) (AW (mk8 (1779033703#32) (3144134277#32) (1013904242#32) (2773480762#32) (1359893119#32) (2600822924#32) (528734635#32) (1541459225#32)) 8)] [0, 1, 2] [0, 0, 3] (fun L => [.slice p n c, undef, L0.p 0, L.p 1, undef, VW (mk8 (1779033703#32) (3144134277#32) (1013904242#32) (2773480762#32) (1359893119#32) (2600822924#32) (528734635#32) (1541459225#32)) 8] ++ U 18) (fun L => [(L0.b 0, BC (fun _ => 0) 32), (L.b 1, AW (mk8 (1779033703#32) (3144134277#32) (1013904242#32) (2773480762#32) (1359893119#32) (2600822924#32) (528734635#32) (1541459225#32)) 8)]) hp1 ⟨
    oD (build8 (1779033703#32) (3144134277#32) (1013904242#32) (2773480762#32) (1359893119#32) (2600822924#32) (528734635#32) (1541459225#32)), oZ rW8, oT rW8,
    trivial⟩ (fun L1 w2 hp2 => ?_)
  refine k2 _ _ ?_
  refine wp_seq_k (fun K3 k3 => ?_)
  refine gs [.det (.slice p n c), .det (.slice p n c)] [0, 1] [0, 1] (fun L => [.slice p n c, undef, L0.p 0, L1.p 1, .slice p n c, VW (mk8 (1779033703#32) (3144134277#32) (1013904242#32) (2773480762#32) (1359893119#32) (2600822924#32) (528734635#32) (1541459225#32)) 8, .slice p n c] ++ U 17) (fun L => [(L0.b 0, BC (fun _ => 0) 32), (L1.b 1, AW (mk8 (1779033703#32) (3144134277#32) (1013904242#32) (2773480762#32) (1359893119#32) (2600822924#32) (528734635#32) (1541459225#32)) 8)]) hp2 ⟨
    oM, oA,
    trivial⟩ (fun L2 w3 hp3 => ?_)
  refine k3 _ _ ?_
  refine wp_seq_k (fun K4 k4 => ?_)
  refine wp_block_k (fun K5 k5 => ?_)
  rw [hs0 g n] at hp3
  refine wp_loop_ghost (smI1 g p n c w (L0.b 0) (L1.b 1)) (n / 64) ⟨0, n, p, c, (fun zz => ([.slice p n c, undef, L0.p 0, L1.p 1, .slice p n c, VW (mk8 (1779033703#32) (3144134277#32) (1013904242#32) (2773480762#32) (1359893119#32) (2600822924#32) (528734635#32) (1541459225#32)) 8, .slice p n c] ++ U 17 : List Value).getD zz undef), by kernel_rfl, Nat.zero_add _, by omega, hpc, at0 hp, hp3⟩ ?_
  rintro L a' W ⟨m, r, q, c1, d, rfl, hL, hn64, hrc, hA, hJ⟩
  by_cases hL0 : L = 0
  rotate_left
  · skip
    have hr64 : 64 ≤ r := by omega
    obtain ⟨b1, off1, rfl, hcc⟩ := hA (by omega)
    have hby : ∀ i, i < 64 → 0 ≤ (fun i => g (64 * m + i)) i ∧ (fun i => g (64 * m + i)) i < 256 := fun i hi => hg _ (by omega)
    obtain ⟨p2, hp2⟩ : ∃ x1, x1 = if c1 = 64 then some (⟨b1, off1, none⟩ : Addr) else some ⟨b1, off1 + 64, none⟩ := ⟨_, rfl⟩
    refine wp_seq_k (fun K6 k6 => ?_)
    refine wp_seq_k (fun K7 k7 => ?_)
    refine gs [.det (.slice (some ⟨b1, off1, none⟩) r c1), .det (.int .i64 r), .det (.bool true)] [0, 1, 2] [0, 1, 3] (fun L => [.slice p n c, d 1, L0.p 0, L1.p 1, .slice (some ⟨b1, off1, none⟩) r c1] ++ (D d 5 2 ++ ([.slice (some ⟨b1, off1, none⟩) r c1, .int .i64 r, .bool true] ++ D d 10 14))) (fun L => [(L0.b 0, BC (fun _ => 0) 32), (L1.b 1, AW (hsx g n m) 8)]) hJ ⟨
      oM, fun h => ⟨ob_len (p := (some ⟨b1, off1, none⟩)) (n := r) (c := c1) (fun _ => rfl) h rfl (fun _ => by kernel_rfl) Try.underlying29⟩, oJ .i64 .i64 r 64 (h := fun w => (geqI _ _ _ w).trans (by rw [decide_eq_true (by omega)])),
      trivial⟩ (fun L3 w4 hp4 => ?_)
    refine k7 _ _ ?_
    refine wp_cond_true (by kernel_rfl) ?_
    refine skips ?_
    refine k6 _ _ ?_
    refine wp_block_k (fun K8 k8 => ?_)
    refine wp_seq_k (fun K9 k9 => ?_)
    refine dr [.det (VW (hsx g n m) 8), .det (.slice (some ⟨b1, off1, none⟩) r c1), .det (.pointer (some ⟨b1, off1, none⟩)), .det (VB (fun i => g (64 * m + i)) 64), .det (VW (blk (hsx g n m) (fun i => g (64 * m + i)) (hz true 64)) 8), .store (.base 1) 0 (AW (blk (hsx g n m) (fun i => g (64 * m + i)) (hz true 64)) 8) (AW (blk (hsx g n m) (fun i => g (64 * m + i)) (hz true 64)) 8)] [0, 1, 2, 3, 4, 5] [0, 0, 2, 6, 15, 31] (fun L => [.slice p n c, d 1, L0.p 0, L1.p 1, .slice (some ⟨b1, off1, none⟩) r c1] ++ (D d 5 2 ++ ([.slice (some ⟨b1, off1, none⟩) r c1, .int .i64 r, .bool true, VW (hsx g n m) 8, .slice (some ⟨b1, off1, none⟩) r c1, .pointer (some ⟨b1, off1, none⟩), VB (fun i => g (64 * m + i)) 64, VW (blk (hsx g n m) (fun i => g (64 * m + i)) (hz true 64)) 8] ++ D d 15 9))) (fun L => [(L0.b 0, BC (fun _ => 0) 32), (L1.b 1, AW (blk (hsx g n m) (fun i => g (64 * m + i)) (hz true 64)) 8)]) hp4 ⟨
      oL 1 0 rW8, oM, oAS (n := 64) (len := r) (c := c1) hr64 Try.underlying56, oLW rB64 (fun L w hs => ⟨b1, off1, by kernel_rfl, range64 hcc hr64 hs.bel⟩),
      oR (shaBlock (hsx g n m) (fun i => g (64 * m + i)) hby), oT rW8,
      trivial⟩ (fun L4 w5 hp5 => ?_)
    refine k9 _ _ ?_
    refine gs [.det (.slice (some ⟨b1, off1, none⟩) r c1), .det (.slice p2 (r - 64) (c1 - 64)), .det (.slice p2 (r - 64) (c1 - 64))] [0, 1, 2] [0, 1, 3] (fun L => [.slice p n c, d 1, L0.p 0, L1.p 1, .slice p2 (r - 64) (c1 - 64)] ++ (D d 5 2 ++ ([.slice (some ⟨b1, off1, none⟩) r c1, .int .i64 r, .bool true, VW (hsx g n m) 8, .slice (some ⟨b1, off1, none⟩) r c1, .pointer (some ⟨b1, off1, none⟩), VB (fun i => g (64 * m + i)) 64, VW (blk (hsx g n m) (fun i => g (64 * m + i)) (hz true 64)) 8, .slice (some ⟨b1, off1, none⟩) r c1, .slice p2 (r - 64) (c1 - 64)] ++ D d 17 7))) (fun L => [(L0.b 0, BC (fun _ => 0) 32), (L1.b 1, AW (blk (hsx g n m) (fun i => g (64 * m + i)) (hz true 64)) 8)]) hp5 ⟨
      oM, oSR (b := b1) (off := off1) (len := r) (c := c1) (n := 64) hr64 hrc hp2, oA,
      trivial⟩ (fun L5 w6 hp6 => ?_)
    refine k8 _ _ _ ?_
    refine block_normal ?_
    exact ⟨L - 1, by omega, m + 1, r - 64, p2, c1 - 64, (fun zz => ([.slice p n c, d 1, L0.p 0, L1.p 1, .slice p2 (r - 64) (c1 - 64)] ++ (D d 5 2 ++ ([.slice (some ⟨b1, off1, none⟩) r c1, .int .i64 r, .bool true, VW (hsx g n m) 8, .slice (some ⟨b1, off1, none⟩) r c1, .pointer (some ⟨b1, off1, none⟩), VB (fun i => g (64 * m + i)) 64, VW (blk (hsx g n m) (fun i => g (64 * m + i)) (hz true 64)) 8, .slice (some ⟨b1, off1, none⟩) r c1, .slice p2 (r - 64) (c1 - 64)] ++ D d 17 7)) : List Value).getD zz undef), by kernel_rfl, by omega, by omega, by omega, rest64 hcc hrc hp2, by rw [hsx_whole g (show m < n / 64 by omega)]; exact hp6⟩
  have hq : m = n / 64 := by omega
  have hrr : r = n % 64 := by omega
  have hr6 : r < 64 := by omega
  have hby : ∀ i, i < r → 0 ≤ (fun i => g (64 * m + i)) i ∧ (fun i => g (64 * m + i)) i < 256 := fun i hi => hg _ (by omega)
  refine wp_seq_k (fun K10 k10 => ?_)
  refine wp_seq_k (fun K11 k11 => ?_)
  refine gs [.det (.slice q r c1), .det (.int .i64 r), .det (.bool false)] [0, 1, 2] [0, 1, 3] (fun L => [.slice p n c, d 1, L0.p 0, L1.p 1, .slice q r c1] ++ (D d 5 2 ++ ([.slice q r c1, .int .i64 r, .bool false] ++ D d 10 14))) (fun L => [(L0.b 0, BC (fun _ => 0) 32), (L1.b 1, AW (hsx g n m) 8)]) hJ ⟨
    oM, fun h => ⟨ob_len (p := q) (n := r) (c := c1) (fun _ => rfl) h rfl (fun _ => by kernel_rfl) Try.underlying29⟩, oJ .i64 .i64 r 64 (h := fun w => (geqI _ _ _ w).trans (by rw [decide_eq_false (by omega)])),
    trivial⟩ (fun L6 w7 hp7 => ?_)
  refine k11 _ _ ?_
  refine wp_cond_false (by kernel_rfl) ?_
  refine wp_exit ?_
  refine then_exit ?_
  refine then_exit ?_
  refine k5 _ _ _ ?_
  refine exit_in ?_
  refine k4 _ _ ?_
  refine wp_seq_k (fun K12 k12 => ?_)
  refine gs [.det (VW (hsx g n m) 8), .det (.slice q r c1), .det (.slice p n c), .det (.int .i64 n), .det (.int .u64 ((n : Nat) : Int)), .det (VW (finS (hsx g n m) (fun i => g (64 * m + i)) r n) 8), .det (VB (ob (finS (hsx g n m) (fun i => g (64 * m + i)) r n)) 32), .store (.base 0) 0 (BC (ob (finS (hsx g n m) (fun i => g (64 * m + i)) r n)) 32) (BC (ob (finS (hsx g n m) (fun i => g (64 * m + i)) r n)) 32)] [0, 1, 2, 3, 4, 5, 6, 7] [0, 0, 0, 4, 12, 31, 63, 127] (fun L => [.slice p n c, d 1, L0.p 0, L1.p 1, .slice q r c1] ++ (D d 5 2 ++ ([.slice q r c1, .int .i64 r, .bool false] ++ (D d 10 7 ++ [VW (hsx g n m) 8, .slice q r c1, .slice p n c, .int .i64 n, .int .u64 ((n : Nat) : Int), VW (finS (hsx g n m) (fun i => g (64 * m + i)) r n) 8, VB (ob (finS (hsx g n m) (fun i => g (64 * m + i)) r n)) 32])))) (fun L => [(L0.b 0, BC (ob (finS (hsx g n m) (fun i => g (64 * m + i)) r n)) 32), (L1.b 1, AW (hsx g n m) 8)]) hp7 ⟨
    oL 1 0 rW8, oM, oM, fun h => ⟨ob_len (p := p) (n := n) (c := c) (fun _ => rfl) h rfl (fun _ => by kernel_rfl) Try.underlying29⟩, oCv (fun w => convIU n (by omega) w),
    oH (v := VW (finS (hsx g n m) (fun i => g (64 * m + i)) r n) 8) (vs := #[VW (hsx g n m) 8, .slice q r c1, .int .u64 ((n : Nat) : Int)]) (fun w hb _ => shaFinish (hsx g n m) (fun i => g (64 * m + i)) q r c1 n w hr6 hn (AtK.below hA hb) hby),
    oR (shaDigest (finS (hsx g n m) (fun i => g (64 * m + i)) r n)), oT rB32,
    trivial⟩ (fun L7 w8 hp8 => ?_)
  refine k12 _ _ ?_
  refine wp_ret ?_
  refine bodyPost_ret (v := VB (ob (finS (hsx g n m) (fun i => g (64 * m + i)) r n)) 32) ?_ rfl ?_
  · exact rc rB32 rfl (by kernel_rfl) (hp8.bound 0 rfl).2
  · exact ⟨by rw [dig_fin, ← hq, ← hrr], hp8.bel⟩
end Go.Proofs.Ytccidmogamnihaa.fpn
namespace Go.Proofs.Ytccidmogamnihaa
theorem shaK : fpn.ShaK := ⟨fpn.shaSum, fun h c w hc => fpn.shaBlock h c hc w⟩
end Go.Proofs.Ytccidmogamnihaa
