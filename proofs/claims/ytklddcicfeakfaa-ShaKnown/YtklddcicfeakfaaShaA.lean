/- Package sha: words turned, chosen; a block's words; a digest's bytes. -/
import Derived.Test.YtklddcicfeakfaaDR
import Derived.Test.YtklddcicfeakfaaDS
namespace Go.Proofs.Ytklddcicfeakfaa.fpn
open Go.RowKit Pl
set_option linter.unusedVariables false
set_option linter.unusedSimpArgs false
set_option maxRecDepth 4000

theorem convIUc (a r : Int) (h : IntKind.u64.wrap a = r) (w : World) : (convert 3 34 (.int .i64 a)).run Try.prog w = .ok (.int .u64 r) w := by
  simp [convert, run_underlying Try.underlying3, run_underlying Try.underlying34, Conv.intToInt, h, Sem.run_bind]
theorem andUc (t : TypeId) (a b r : Int) (h : bits .and .u64 a b = r) (w : World) : (binOp .and t (.int .u64 a) (.int .u64 b)).run Try.prog w = .ok (.int .u64 r) w := by
  simp [binOp, Sem.run_bind, Op.intBits]
  exact h
section
variable {ops : Array Oper} {ks : List Kind} {T : List Nat} {a0 : Act} {B : Nat} {w0 W0 : World} {H : List (Nat × List Value)} {i : Nat} {o : Oper}
/-- The opposite of a whole number. -/
theorem oNG {x : Operand} {t : TypeId} {n r : Int} (h : ∀ w, (Op.unary .neg (.int .i64 n)).run Try.prog w = .ok (.int .i64 r) w := by intro _; rfl) (hw : ∀ L, wantedR ks L o = true := by intro _; kernel_rfl) (ho : o.op = .unOp .neg t x := by exact rfl) (hx : ∀ L, rd ops ks T a0 L i x = .int .i64 n := by intro _; kernel_rfl) (hk : kd ks i = .det (.int .i64 r)) : Obl Try.prog ops ks T a0 B w0 H i o := ⟨ob_pure hw hk fun L w => by
    unfold execOp
    simp only [ho, hx L, Sem.run_bind, h w]
    rfl⟩
/-- A byte of an array, by a number. -/
theorem oVA {t : TypeId} {x ix : Operand} {n : Nat} {f : Nat → Int} (k : Nat) (hkn : k < n) (hu : Try.prog.underlying t = some (.array n 5)) (hw : ∀ L, wantedR ks L o = true := by intro _; kernel_rfl) (ho : o.op = .index t x ix := by exact rfl)
    (hx : ∀ L, rd ops ks T a0 L i x = VB f n := by intro _; kernel_rfl) (hi : ∀ L, rd ops ks T a0 L i ix = .int .i64 (k : Int) := by intro _; kernel_rfl) (hk : kd ks i = .det (.int .u8 (f k))) : Obl Try.prog ops ks T a0 B w0 H i o := ⟨ob_pure hw hk fun L w => by
    have hkn' : (0 : Int) ≤ (k : Int) ∧ (k : Int) < (n : Int) := ⟨by omega, by omega⟩
    have ha := oneY.agg w
    have hs : (sizeOf 5).run Try.prog w = .ok 1 w := size_of sizeY w
    have hc : (BC f n)[k]? = some (.int .u8 (f k)) := BC_at hkn
    have e : (Instr.index t (VB f n) (.int .i64 (k : Int))).run Try.prog w = .ok (.int .u8 (f k)) w := by
      unfold VB
      simp [Instr.index, asIntOf, Sem.run_bind, run_underlying hu, hkn', part, ha, hs, hkn, hc]
    unfold execOp
    simp only [ho, hx L, hi L, Sem.run_bind, e]
    rfl⟩
end
theorem wst_or (c : Nat → Int) (hc : ∀ i, i < 64 → 0 ≤ c i ∧ c i < 256) (m : Nat) (hm : m < 64) : wst c (m + 1) = wup (wst c m) (m / 4) (wst c m (m / 4) <<< 8 ||| zx (c m)) := by
  rw [wst_s, shl_or8 _ _ (zx_lt _ (hc m hm).1 (hc m hm).2)]
set_option maxHeartbeats 4000000 in
theorem shaRl2 (x : BitVec 32) (w : World) : Calls Try.prog 29 #[W32 x, .int .i64 (-2)] w (Ret (W32 (rot x 2)) w) := by
  have hp0 := Heap.start w
  go_enter Try.func29, Try.ntmps29
  refine wp_seq_k (fun K1 k1 => ?_)
  refine gsD [.det (.int .u32 0)] [0] [0] (fun L d => [W32 x, .int .i64 (-2)] ++ D d 2 15) (fun L => []) hp0 ⟨
    oA,
    trivial⟩ (fun L0 _ w1 hp1 => ?_)
  refine k1 _ _ ?_
  refine wp_seq_k (fun K2 k2 => ?_)
  refine gsD [.det (.int .i64 (-2)), .det (.int .u64 18446744073709551614), .det (.int .u64 30), .det (.int .u64 30)] [0, 1, 2, 3] [0, 1, 3, 7] (fun L d => [W32 x] ++ (D d 1 4 ++ ([.int .u64 30] ++ D d 6 11))) (fun L => []) hp1 ⟨
    oM, oCv (fun w => convIUc (-2) 18446744073709551614 (by decide) w), oJ .u64 .u64 18446744073709551614 31 (h := fun w => andUc _ 18446744073709551614 31 30 (by decide) w),
    oA,
    trivial⟩ (fun L1 _ w2 hp2 => ?_)
  refine k2 _ _ ?_
  refine wp_seq_k (fun K3 k3 => ?_)
  refine gsD [.det (W32 x), .det (.int .u64 30), .det (W32 (x <<< 30)), .det (W32 x), .det (.int .u64 30), .det (.int .u64 2), .det (W32 (x >>> 2)), .det (W32 ((x <<< 30) ||| (x >>> 2))), .det (W32 ((x <<< 30) ||| (x >>> 2)))] [0, 1, 2, 3, 4, 5, 6, 7, 8] [0, 0, 3, 0, 0, 16, 56, 127, 255] (fun L d => D d 0 4 ++ ([W32 ((x <<< 30) ||| (x >>> 2))] ++ D d 5 12)) (fun L => []) hp2 ⟨
    oM, oM, oJ .u32 .u64 (x.toNat : Int) 30 (h := fun w => shlW _ x .u64 30 (by decide) w), oM, oM, oJ .u64 .u64 32 30, oJ .u32 .u64 (x.toNat : Int) 2 (h := fun w => shrW _ x .u64 2 (by decide) w),
    oJ .u32 .u32 ((x <<< 30).toNat : Int) ((x >>> 2).toNat : Int) (h := fun w => orW _ (x <<< 30) (x >>> 2) w), oA,
    trivial⟩ (fun L2 _ w3 hp3 => ?_)
  refine k3 _ _ ?_
  refine wp_ret ?_
  refine bodyPost_ret (v := W32 ((x <<< 30) ||| (x >>> 2))) ?_ rfl ?_
  · exact res_t rfl (by kernel_rfl) _
  · exact ⟨congrArg (fun z => Ending.returned (W32 z)) (rot_left x 2), hp3.bel⟩
set_option maxHeartbeats 4000000 in
theorem shaRl6 (x : BitVec 32) (w : World) : Calls Try.prog 29 #[W32 x, .int .i64 (-6)] w (Ret (W32 (rot x 6)) w) := by
  have hp0 := Heap.start w
  go_enter Try.func29, Try.ntmps29
  refine wp_seq_k (fun K1 k1 => ?_)
  refine gsD [.det (.int .u32 0)] [0] [0] (fun L d => [W32 x, .int .i64 (-6)] ++ D d 2 15) (fun L => []) hp0 ⟨
    oA,
    trivial⟩ (fun L0 _ w1 hp1 => ?_)
  refine k1 _ _ ?_
  refine wp_seq_k (fun K2 k2 => ?_)
  refine gsD [.det (.int .i64 (-6)), .det (.int .u64 18446744073709551610), .det (.int .u64 26), .det (.int .u64 26)] [0, 1, 2, 3] [0, 1, 3, 7] (fun L d => [W32 x] ++ (D d 1 4 ++ ([.int .u64 26] ++ D d 6 11))) (fun L => []) hp1 ⟨
    oM, oCv (fun w => convIUc (-6) 18446744073709551610 (by decide) w), oJ .u64 .u64 18446744073709551610 31 (h := fun w => andUc _ 18446744073709551610 31 26 (by decide) w),
    oA,
    trivial⟩ (fun L1 _ w2 hp2 => ?_)
  refine k2 _ _ ?_
  refine wp_seq_k (fun K3 k3 => ?_)
  refine gsD [.det (W32 x), .det (.int .u64 26), .det (W32 (x <<< 26)), .det (W32 x), .det (.int .u64 26), .det (.int .u64 6), .det (W32 (x >>> 6)), .det (W32 ((x <<< 26) ||| (x >>> 6))), .det (W32 ((x <<< 26) ||| (x >>> 6)))] [0, 1, 2, 3, 4, 5, 6, 7, 8] [0, 0, 3, 0, 0, 16, 56, 127, 255] (fun L d => D d 0 4 ++ ([W32 ((x <<< 26) ||| (x >>> 6))] ++ D d 5 12)) (fun L => []) hp2 ⟨
    oM, oM, oJ .u32 .u64 (x.toNat : Int) 26 (h := fun w => shlW _ x .u64 26 (by decide) w), oM, oM, oJ .u64 .u64 32 26, oJ .u32 .u64 (x.toNat : Int) 6 (h := fun w => shrW _ x .u64 6 (by decide) w),
    oJ .u32 .u32 ((x <<< 26).toNat : Int) ((x >>> 6).toNat : Int) (h := fun w => orW _ (x <<< 26) (x >>> 6) w), oA,
    trivial⟩ (fun L2 _ w3 hp3 => ?_)
  refine k3 _ _ ?_
  refine wp_ret ?_
  refine bodyPost_ret (v := W32 ((x <<< 26) ||| (x >>> 6))) ?_ rfl ?_
  · exact res_t rfl (by kernel_rfl) _
  · exact ⟨congrArg (fun z => Ending.returned (W32 z)) (rot_left x 6), hp3.bel⟩
set_option maxHeartbeats 4000000 in
theorem shaRl7 (x : BitVec 32) (w : World) : Calls Try.prog 29 #[W32 x, .int .i64 (-7)] w (Ret (W32 (rot x 7)) w) := by
  have hp0 := Heap.start w
  go_enter Try.func29, Try.ntmps29
  refine wp_seq_k (fun K1 k1 => ?_)
  refine gsD [.det (.int .u32 0)] [0] [0] (fun L d => [W32 x, .int .i64 (-7)] ++ D d 2 15) (fun L => []) hp0 ⟨
    oA,
    trivial⟩ (fun L0 _ w1 hp1 => ?_)
  refine k1 _ _ ?_
  refine wp_seq_k (fun K2 k2 => ?_)
  refine gsD [.det (.int .i64 (-7)), .det (.int .u64 18446744073709551609), .det (.int .u64 25), .det (.int .u64 25)] [0, 1, 2, 3] [0, 1, 3, 7] (fun L d => [W32 x] ++ (D d 1 4 ++ ([.int .u64 25] ++ D d 6 11))) (fun L => []) hp1 ⟨
    oM, oCv (fun w => convIUc (-7) 18446744073709551609 (by decide) w), oJ .u64 .u64 18446744073709551609 31 (h := fun w => andUc _ 18446744073709551609 31 25 (by decide) w),
    oA,
    trivial⟩ (fun L1 _ w2 hp2 => ?_)
  refine k2 _ _ ?_
  refine wp_seq_k (fun K3 k3 => ?_)
  refine gsD [.det (W32 x), .det (.int .u64 25), .det (W32 (x <<< 25)), .det (W32 x), .det (.int .u64 25), .det (.int .u64 7), .det (W32 (x >>> 7)), .det (W32 ((x <<< 25) ||| (x >>> 7))), .det (W32 ((x <<< 25) ||| (x >>> 7)))] [0, 1, 2, 3, 4, 5, 6, 7, 8] [0, 0, 3, 0, 0, 16, 56, 127, 255] (fun L d => D d 0 4 ++ ([W32 ((x <<< 25) ||| (x >>> 7))] ++ D d 5 12)) (fun L => []) hp2 ⟨
    oM, oM, oJ .u32 .u64 (x.toNat : Int) 25 (h := fun w => shlW _ x .u64 25 (by decide) w), oM, oM, oJ .u64 .u64 32 25, oJ .u32 .u64 (x.toNat : Int) 7 (h := fun w => shrW _ x .u64 7 (by decide) w),
    oJ .u32 .u32 ((x <<< 25).toNat : Int) ((x >>> 7).toNat : Int) (h := fun w => orW _ (x <<< 25) (x >>> 7) w), oA,
    trivial⟩ (fun L2 _ w3 hp3 => ?_)
  refine k3 _ _ ?_
  refine wp_ret ?_
  refine bodyPost_ret (v := W32 ((x <<< 25) ||| (x >>> 7))) ?_ rfl ?_
  · exact res_t rfl (by kernel_rfl) _
  · exact ⟨congrArg (fun z => Ending.returned (W32 z)) (rot_left x 7), hp3.bel⟩
set_option maxHeartbeats 4000000 in
theorem shaRl11 (x : BitVec 32) (w : World) : Calls Try.prog 29 #[W32 x, .int .i64 (-11)] w (Ret (W32 (rot x 11)) w) := by
  have hp0 := Heap.start w
  go_enter Try.func29, Try.ntmps29
  refine wp_seq_k (fun K1 k1 => ?_)
  refine gsD [.det (.int .u32 0)] [0] [0] (fun L d => [W32 x, .int .i64 (-11)] ++ D d 2 15) (fun L => []) hp0 ⟨
    oA,
    trivial⟩ (fun L0 _ w1 hp1 => ?_)
  refine k1 _ _ ?_
  refine wp_seq_k (fun K2 k2 => ?_)
  refine gsD [.det (.int .i64 (-11)), .det (.int .u64 18446744073709551605), .det (.int .u64 21), .det (.int .u64 21)] [0, 1, 2, 3] [0, 1, 3, 7] (fun L d => [W32 x] ++ (D d 1 4 ++ ([.int .u64 21] ++ D d 6 11))) (fun L => []) hp1 ⟨
    oM, oCv (fun w => convIUc (-11) 18446744073709551605 (by decide) w), oJ .u64 .u64 18446744073709551605 31 (h := fun w => andUc _ 18446744073709551605 31 21 (by decide) w),
    oA,
    trivial⟩ (fun L1 _ w2 hp2 => ?_)
  refine k2 _ _ ?_
  refine wp_seq_k (fun K3 k3 => ?_)
  refine gsD [.det (W32 x), .det (.int .u64 21), .det (W32 (x <<< 21)), .det (W32 x), .det (.int .u64 21), .det (.int .u64 11), .det (W32 (x >>> 11)), .det (W32 ((x <<< 21) ||| (x >>> 11))), .det (W32 ((x <<< 21) ||| (x >>> 11)))] [0, 1, 2, 3, 4, 5, 6, 7, 8] [0, 0, 3, 0, 0, 16, 56, 127, 255] (fun L d => D d 0 4 ++ ([W32 ((x <<< 21) ||| (x >>> 11))] ++ D d 5 12)) (fun L => []) hp2 ⟨
    oM, oM, oJ .u32 .u64 (x.toNat : Int) 21 (h := fun w => shlW _ x .u64 21 (by decide) w), oM, oM, oJ .u64 .u64 32 21, oJ .u32 .u64 (x.toNat : Int) 11 (h := fun w => shrW _ x .u64 11 (by decide) w),
    oJ .u32 .u32 ((x <<< 21).toNat : Int) ((x >>> 11).toNat : Int) (h := fun w => orW _ (x <<< 21) (x >>> 11) w), oA,
    trivial⟩ (fun L2 _ w3 hp3 => ?_)
  refine k3 _ _ ?_
  refine wp_ret ?_
  refine bodyPost_ret (v := W32 ((x <<< 21) ||| (x >>> 11))) ?_ rfl ?_
  · exact res_t rfl (by kernel_rfl) _
  · exact ⟨congrArg (fun z => Ending.returned (W32 z)) (rot_left x 11), hp3.bel⟩
set_option maxHeartbeats 4000000 in
theorem shaRl13 (x : BitVec 32) (w : World) : Calls Try.prog 29 #[W32 x, .int .i64 (-13)] w (Ret (W32 (rot x 13)) w) := by
  have hp0 := Heap.start w
  go_enter Try.func29, Try.ntmps29
  refine wp_seq_k (fun K1 k1 => ?_)
  refine gsD [.det (.int .u32 0)] [0] [0] (fun L d => [W32 x, .int .i64 (-13)] ++ D d 2 15) (fun L => []) hp0 ⟨
    oA,
    trivial⟩ (fun L0 _ w1 hp1 => ?_)
  refine k1 _ _ ?_
  refine wp_seq_k (fun K2 k2 => ?_)
  refine gsD [.det (.int .i64 (-13)), .det (.int .u64 18446744073709551603), .det (.int .u64 19), .det (.int .u64 19)] [0, 1, 2, 3] [0, 1, 3, 7] (fun L d => [W32 x] ++ (D d 1 4 ++ ([.int .u64 19] ++ D d 6 11))) (fun L => []) hp1 ⟨
    oM, oCv (fun w => convIUc (-13) 18446744073709551603 (by decide) w), oJ .u64 .u64 18446744073709551603 31 (h := fun w => andUc _ 18446744073709551603 31 19 (by decide) w),
    oA,
    trivial⟩ (fun L1 _ w2 hp2 => ?_)
  refine k2 _ _ ?_
  refine wp_seq_k (fun K3 k3 => ?_)
  refine gsD [.det (W32 x), .det (.int .u64 19), .det (W32 (x <<< 19)), .det (W32 x), .det (.int .u64 19), .det (.int .u64 13), .det (W32 (x >>> 13)), .det (W32 ((x <<< 19) ||| (x >>> 13))), .det (W32 ((x <<< 19) ||| (x >>> 13)))] [0, 1, 2, 3, 4, 5, 6, 7, 8] [0, 0, 3, 0, 0, 16, 56, 127, 255] (fun L d => D d 0 4 ++ ([W32 ((x <<< 19) ||| (x >>> 13))] ++ D d 5 12)) (fun L => []) hp2 ⟨
    oM, oM, oJ .u32 .u64 (x.toNat : Int) 19 (h := fun w => shlW _ x .u64 19 (by decide) w), oM, oM, oJ .u64 .u64 32 19, oJ .u32 .u64 (x.toNat : Int) 13 (h := fun w => shrW _ x .u64 13 (by decide) w),
    oJ .u32 .u32 ((x <<< 19).toNat : Int) ((x >>> 13).toNat : Int) (h := fun w => orW _ (x <<< 19) (x >>> 13) w), oA,
    trivial⟩ (fun L2 _ w3 hp3 => ?_)
  refine k3 _ _ ?_
  refine wp_ret ?_
  refine bodyPost_ret (v := W32 ((x <<< 19) ||| (x >>> 13))) ?_ rfl ?_
  · exact res_t rfl (by kernel_rfl) _
  · exact ⟨congrArg (fun z => Ending.returned (W32 z)) (rot_left x 13), hp3.bel⟩
set_option maxHeartbeats 4000000 in
theorem shaRl17 (x : BitVec 32) (w : World) : Calls Try.prog 29 #[W32 x, .int .i64 (-17)] w (Ret (W32 (rot x 17)) w) := by
  have hp0 := Heap.start w
  go_enter Try.func29, Try.ntmps29
  refine wp_seq_k (fun K1 k1 => ?_)
  refine gsD [.det (.int .u32 0)] [0] [0] (fun L d => [W32 x, .int .i64 (-17)] ++ D d 2 15) (fun L => []) hp0 ⟨
    oA,
    trivial⟩ (fun L0 _ w1 hp1 => ?_)
  refine k1 _ _ ?_
  refine wp_seq_k (fun K2 k2 => ?_)
  refine gsD [.det (.int .i64 (-17)), .det (.int .u64 18446744073709551599), .det (.int .u64 15), .det (.int .u64 15)] [0, 1, 2, 3] [0, 1, 3, 7] (fun L d => [W32 x] ++ (D d 1 4 ++ ([.int .u64 15] ++ D d 6 11))) (fun L => []) hp1 ⟨
    oM, oCv (fun w => convIUc (-17) 18446744073709551599 (by decide) w), oJ .u64 .u64 18446744073709551599 31 (h := fun w => andUc _ 18446744073709551599 31 15 (by decide) w),
    oA,
    trivial⟩ (fun L1 _ w2 hp2 => ?_)
  refine k2 _ _ ?_
  refine wp_seq_k (fun K3 k3 => ?_)
  refine gsD [.det (W32 x), .det (.int .u64 15), .det (W32 (x <<< 15)), .det (W32 x), .det (.int .u64 15), .det (.int .u64 17), .det (W32 (x >>> 17)), .det (W32 ((x <<< 15) ||| (x >>> 17))), .det (W32 ((x <<< 15) ||| (x >>> 17)))] [0, 1, 2, 3, 4, 5, 6, 7, 8] [0, 0, 3, 0, 0, 16, 56, 127, 255] (fun L d => D d 0 4 ++ ([W32 ((x <<< 15) ||| (x >>> 17))] ++ D d 5 12)) (fun L => []) hp2 ⟨
    oM, oM, oJ .u32 .u64 (x.toNat : Int) 15 (h := fun w => shlW _ x .u64 15 (by decide) w), oM, oM, oJ .u64 .u64 32 15, oJ .u32 .u64 (x.toNat : Int) 17 (h := fun w => shrW _ x .u64 17 (by decide) w),
    oJ .u32 .u32 ((x <<< 15).toNat : Int) ((x >>> 17).toNat : Int) (h := fun w => orW _ (x <<< 15) (x >>> 17) w), oA,
    trivial⟩ (fun L2 _ w3 hp3 => ?_)
  refine k3 _ _ ?_
  refine wp_ret ?_
  refine bodyPost_ret (v := W32 ((x <<< 15) ||| (x >>> 17))) ?_ rfl ?_
  · exact res_t rfl (by kernel_rfl) _
  · exact ⟨congrArg (fun z => Ending.returned (W32 z)) (rot_left x 17), hp3.bel⟩
set_option maxHeartbeats 4000000 in
theorem shaRl18 (x : BitVec 32) (w : World) : Calls Try.prog 29 #[W32 x, .int .i64 (-18)] w (Ret (W32 (rot x 18)) w) := by
  have hp0 := Heap.start w
  go_enter Try.func29, Try.ntmps29
  refine wp_seq_k (fun K1 k1 => ?_)
  refine gsD [.det (.int .u32 0)] [0] [0] (fun L d => [W32 x, .int .i64 (-18)] ++ D d 2 15) (fun L => []) hp0 ⟨
    oA,
    trivial⟩ (fun L0 _ w1 hp1 => ?_)
  refine k1 _ _ ?_
  refine wp_seq_k (fun K2 k2 => ?_)
  refine gsD [.det (.int .i64 (-18)), .det (.int .u64 18446744073709551598), .det (.int .u64 14), .det (.int .u64 14)] [0, 1, 2, 3] [0, 1, 3, 7] (fun L d => [W32 x] ++ (D d 1 4 ++ ([.int .u64 14] ++ D d 6 11))) (fun L => []) hp1 ⟨
    oM, oCv (fun w => convIUc (-18) 18446744073709551598 (by decide) w), oJ .u64 .u64 18446744073709551598 31 (h := fun w => andUc _ 18446744073709551598 31 14 (by decide) w),
    oA,
    trivial⟩ (fun L1 _ w2 hp2 => ?_)
  refine k2 _ _ ?_
  refine wp_seq_k (fun K3 k3 => ?_)
  refine gsD [.det (W32 x), .det (.int .u64 14), .det (W32 (x <<< 14)), .det (W32 x), .det (.int .u64 14), .det (.int .u64 18), .det (W32 (x >>> 18)), .det (W32 ((x <<< 14) ||| (x >>> 18))), .det (W32 ((x <<< 14) ||| (x >>> 18)))] [0, 1, 2, 3, 4, 5, 6, 7, 8] [0, 0, 3, 0, 0, 16, 56, 127, 255] (fun L d => D d 0 4 ++ ([W32 ((x <<< 14) ||| (x >>> 18))] ++ D d 5 12)) (fun L => []) hp2 ⟨
    oM, oM, oJ .u32 .u64 (x.toNat : Int) 14 (h := fun w => shlW _ x .u64 14 (by decide) w), oM, oM, oJ .u64 .u64 32 14, oJ .u32 .u64 (x.toNat : Int) 18 (h := fun w => shrW _ x .u64 18 (by decide) w),
    oJ .u32 .u32 ((x <<< 14).toNat : Int) ((x >>> 18).toNat : Int) (h := fun w => orW _ (x <<< 14) (x >>> 18) w), oA,
    trivial⟩ (fun L2 _ w3 hp3 => ?_)
  refine k3 _ _ ?_
  refine wp_ret ?_
  refine bodyPost_ret (v := W32 ((x <<< 14) ||| (x >>> 18))) ?_ rfl ?_
  · exact res_t rfl (by kernel_rfl) _
  · exact ⟨congrArg (fun z => Ending.returned (W32 z)) (rot_left x 18), hp3.bel⟩
set_option maxHeartbeats 4000000 in
theorem shaRl19 (x : BitVec 32) (w : World) : Calls Try.prog 29 #[W32 x, .int .i64 (-19)] w (Ret (W32 (rot x 19)) w) := by
  have hp0 := Heap.start w
  go_enter Try.func29, Try.ntmps29
  refine wp_seq_k (fun K1 k1 => ?_)
  refine gsD [.det (.int .u32 0)] [0] [0] (fun L d => [W32 x, .int .i64 (-19)] ++ D d 2 15) (fun L => []) hp0 ⟨
    oA,
    trivial⟩ (fun L0 _ w1 hp1 => ?_)
  refine k1 _ _ ?_
  refine wp_seq_k (fun K2 k2 => ?_)
  refine gsD [.det (.int .i64 (-19)), .det (.int .u64 18446744073709551597), .det (.int .u64 13), .det (.int .u64 13)] [0, 1, 2, 3] [0, 1, 3, 7] (fun L d => [W32 x] ++ (D d 1 4 ++ ([.int .u64 13] ++ D d 6 11))) (fun L => []) hp1 ⟨
    oM, oCv (fun w => convIUc (-19) 18446744073709551597 (by decide) w), oJ .u64 .u64 18446744073709551597 31 (h := fun w => andUc _ 18446744073709551597 31 13 (by decide) w),
    oA,
    trivial⟩ (fun L1 _ w2 hp2 => ?_)
  refine k2 _ _ ?_
  refine wp_seq_k (fun K3 k3 => ?_)
  refine gsD [.det (W32 x), .det (.int .u64 13), .det (W32 (x <<< 13)), .det (W32 x), .det (.int .u64 13), .det (.int .u64 19), .det (W32 (x >>> 19)), .det (W32 ((x <<< 13) ||| (x >>> 19))), .det (W32 ((x <<< 13) ||| (x >>> 19)))] [0, 1, 2, 3, 4, 5, 6, 7, 8] [0, 0, 3, 0, 0, 16, 56, 127, 255] (fun L d => D d 0 4 ++ ([W32 ((x <<< 13) ||| (x >>> 19))] ++ D d 5 12)) (fun L => []) hp2 ⟨
    oM, oM, oJ .u32 .u64 (x.toNat : Int) 13 (h := fun w => shlW _ x .u64 13 (by decide) w), oM, oM, oJ .u64 .u64 32 13, oJ .u32 .u64 (x.toNat : Int) 19 (h := fun w => shrW _ x .u64 19 (by decide) w),
    oJ .u32 .u32 ((x <<< 13).toNat : Int) ((x >>> 19).toNat : Int) (h := fun w => orW _ (x <<< 13) (x >>> 19) w), oA,
    trivial⟩ (fun L2 _ w3 hp3 => ?_)
  refine k3 _ _ ?_
  refine wp_ret ?_
  refine bodyPost_ret (v := W32 ((x <<< 13) ||| (x >>> 19))) ?_ rfl ?_
  · exact res_t rfl (by kernel_rfl) _
  · exact ⟨congrArg (fun z => Ending.returned (W32 z)) (rot_left x 19), hp3.bel⟩
set_option maxHeartbeats 4000000 in
theorem shaRl22 (x : BitVec 32) (w : World) : Calls Try.prog 29 #[W32 x, .int .i64 (-22)] w (Ret (W32 (rot x 22)) w) := by
  have hp0 := Heap.start w
  go_enter Try.func29, Try.ntmps29
  refine wp_seq_k (fun K1 k1 => ?_)
  refine gsD [.det (.int .u32 0)] [0] [0] (fun L d => [W32 x, .int .i64 (-22)] ++ D d 2 15) (fun L => []) hp0 ⟨
    oA,
    trivial⟩ (fun L0 _ w1 hp1 => ?_)
  refine k1 _ _ ?_
  refine wp_seq_k (fun K2 k2 => ?_)
  refine gsD [.det (.int .i64 (-22)), .det (.int .u64 18446744073709551594), .det (.int .u64 10), .det (.int .u64 10)] [0, 1, 2, 3] [0, 1, 3, 7] (fun L d => [W32 x] ++ (D d 1 4 ++ ([.int .u64 10] ++ D d 6 11))) (fun L => []) hp1 ⟨
    oM, oCv (fun w => convIUc (-22) 18446744073709551594 (by decide) w), oJ .u64 .u64 18446744073709551594 31 (h := fun w => andUc _ 18446744073709551594 31 10 (by decide) w),
    oA,
    trivial⟩ (fun L1 _ w2 hp2 => ?_)
  refine k2 _ _ ?_
  refine wp_seq_k (fun K3 k3 => ?_)
  refine gsD [.det (W32 x), .det (.int .u64 10), .det (W32 (x <<< 10)), .det (W32 x), .det (.int .u64 10), .det (.int .u64 22), .det (W32 (x >>> 22)), .det (W32 ((x <<< 10) ||| (x >>> 22))), .det (W32 ((x <<< 10) ||| (x >>> 22)))] [0, 1, 2, 3, 4, 5, 6, 7, 8] [0, 0, 3, 0, 0, 16, 56, 127, 255] (fun L d => D d 0 4 ++ ([W32 ((x <<< 10) ||| (x >>> 22))] ++ D d 5 12)) (fun L => []) hp2 ⟨
    oM, oM, oJ .u32 .u64 (x.toNat : Int) 10 (h := fun w => shlW _ x .u64 10 (by decide) w), oM, oM, oJ .u64 .u64 32 10, oJ .u32 .u64 (x.toNat : Int) 22 (h := fun w => shrW _ x .u64 22 (by decide) w),
    oJ .u32 .u32 ((x <<< 10).toNat : Int) ((x >>> 22).toNat : Int) (h := fun w => orW _ (x <<< 10) (x >>> 22) w), oA,
    trivial⟩ (fun L2 _ w3 hp3 => ?_)
  refine k3 _ _ ?_
  refine wp_ret ?_
  refine bodyPost_ret (v := W32 ((x <<< 10) ||| (x >>> 22))) ?_ rfl ?_
  · exact res_t rfl (by kernel_rfl) _
  · exact ⟨congrArg (fun z => Ending.returned (W32 z)) (rot_left x 22), hp3.bel⟩
set_option maxHeartbeats 4000000 in
theorem shaRl25 (x : BitVec 32) (w : World) : Calls Try.prog 29 #[W32 x, .int .i64 (-25)] w (Ret (W32 (rot x 25)) w) := by
  have hp0 := Heap.start w
  go_enter Try.func29, Try.ntmps29
  refine wp_seq_k (fun K1 k1 => ?_)
  refine gsD [.det (.int .u32 0)] [0] [0] (fun L d => [W32 x, .int .i64 (-25)] ++ D d 2 15) (fun L => []) hp0 ⟨
    oA,
    trivial⟩ (fun L0 _ w1 hp1 => ?_)
  refine k1 _ _ ?_
  refine wp_seq_k (fun K2 k2 => ?_)
  refine gsD [.det (.int .i64 (-25)), .det (.int .u64 18446744073709551591), .det (.int .u64 7), .det (.int .u64 7)] [0, 1, 2, 3] [0, 1, 3, 7] (fun L d => [W32 x] ++ (D d 1 4 ++ ([.int .u64 7] ++ D d 6 11))) (fun L => []) hp1 ⟨
    oM, oCv (fun w => convIUc (-25) 18446744073709551591 (by decide) w), oJ .u64 .u64 18446744073709551591 31 (h := fun w => andUc _ 18446744073709551591 31 7 (by decide) w),
    oA,
    trivial⟩ (fun L1 _ w2 hp2 => ?_)
  refine k2 _ _ ?_
  refine wp_seq_k (fun K3 k3 => ?_)
  refine gsD [.det (W32 x), .det (.int .u64 7), .det (W32 (x <<< 7)), .det (W32 x), .det (.int .u64 7), .det (.int .u64 25), .det (W32 (x >>> 25)), .det (W32 ((x <<< 7) ||| (x >>> 25))), .det (W32 ((x <<< 7) ||| (x >>> 25)))] [0, 1, 2, 3, 4, 5, 6, 7, 8] [0, 0, 3, 0, 0, 16, 56, 127, 255] (fun L d => D d 0 4 ++ ([W32 ((x <<< 7) ||| (x >>> 25))] ++ D d 5 12)) (fun L => []) hp2 ⟨
    oM, oM, oJ .u32 .u64 (x.toNat : Int) 7 (h := fun w => shlW _ x .u64 7 (by decide) w), oM, oM, oJ .u64 .u64 32 7, oJ .u32 .u64 (x.toNat : Int) 25 (h := fun w => shrW _ x .u64 25 (by decide) w),
    oJ .u32 .u32 ((x <<< 7).toNat : Int) ((x >>> 25).toNat : Int) (h := fun w => orW _ (x <<< 7) (x >>> 25) w), oA,
    trivial⟩ (fun L2 _ w3 hp3 => ?_)
  refine k3 _ _ ?_
  refine wp_ret ?_
  refine bodyPost_ret (v := W32 ((x <<< 7) ||| (x >>> 25))) ?_ rfl ?_
  · exact res_t rfl (by kernel_rfl) _
  · exact ⟨congrArg (fun z => Ending.returned (W32 z)) (rot_left x 25), hp3.bel⟩
set_option maxHeartbeats 4000000 in
theorem shaTurned6 (x : BitVec 32) (w : World) : Calls Try.prog 24 #[W32 x, .int .i64 6, .int .i64 11, .int .i64 25] w (Ret (W32 (rot x 6 ^^^ rot x 11 ^^^ rot x 25)) w) := by
  have hp0 := Heap.start w
  go_enter Try.func24, Try.ntmps24
  refine wp_seq_k (fun K1 k1 => ?_)
  refine gsD [.det (.int .u32 0)] [0] [0] (fun L d => [W32 x, .int .i64 6, .int .i64 11, .int .i64 25] ++ D d 4 19) (fun L => []) hp0 ⟨
    oA,
    trivial⟩ (fun L0 _ w1 hp1 => ?_)
  refine k1 _ _ ?_
  refine wp_seq_k (fun K2 k2 => ?_)
  refine gsD [.det (W32 x), .det (.int .i64 6), .det (.int .i64 (-6)), .det (W32 (rot x 6)), .det (W32 x), .det (.int .i64 11), .det (.int .i64 (-11)), .det (W32 (rot x 11)), .det (W32 ((rot x 6) ^^^ (rot x 11))), .det (W32 x), .det (.int .i64 25), .det (.int .i64 (-25)), .det (W32 (rot x 25)), .det (W32 (((rot x 6) ^^^ (rot x 11)) ^^^ (rot x 25))), .det (W32 (((rot x 6) ^^^ (rot x 11)) ^^^ (rot x 25)))] [0, 1, 2, 3, 4, 5, 6, 7, 8, 9, 10, 11, 12, 13, 14] [0, 0, 2, 7, 0, 0, 32, 127, 255, 0, 0, 1024, 3839, 8191, 16383] (fun L d => D d 0 8 ++ ([W32 (((rot x 6) ^^^ (rot x 11)) ^^^ (rot x 25))] ++ D d 9 14)) (fun L => []) hp1 ⟨
    oM, oM, oNG (n := 6) (r := (-6)), oR (shaRl6 x), oM, oM, oNG (n := 11) (r := (-11)), oR (shaRl11 x), oJ .u32 .u32 ((rot x 6).toNat : Int) ((rot x 11).toNat : Int) (h := fun w => xorW _ (rot x 6) (rot x 11) w),
    oM, oM, oNG (n := 25) (r := (-25)), oR (shaRl25 x), oJ .u32 .u32 (((rot x 6) ^^^ (rot x 11)).toNat : Int) ((rot x 25).toNat : Int) (h := fun w => xorW _ ((rot x 6) ^^^ (rot x 11)) (rot x 25) w),
    oA,
    trivial⟩ (fun L1 _ w2 hp2 => ?_)
  refine k2 _ _ ?_
  refine wp_ret ?_
  refine bodyPost_ret (v := W32 (((rot x 6) ^^^ (rot x 11)) ^^^ (rot x 25))) ?_ rfl ?_
  · exact res_t rfl (by kernel_rfl) _
  · exact ⟨rfl, hp2.bel⟩
set_option maxHeartbeats 4000000 in
theorem shaTurned2 (x : BitVec 32) (w : World) : Calls Try.prog 24 #[W32 x, .int .i64 2, .int .i64 13, .int .i64 22] w (Ret (W32 (rot x 2 ^^^ rot x 13 ^^^ rot x 22)) w) := by
  have hp0 := Heap.start w
  go_enter Try.func24, Try.ntmps24
  refine wp_seq_k (fun K1 k1 => ?_)
  refine gsD [.det (.int .u32 0)] [0] [0] (fun L d => [W32 x, .int .i64 2, .int .i64 13, .int .i64 22] ++ D d 4 19) (fun L => []) hp0 ⟨
    oA,
    trivial⟩ (fun L0 _ w1 hp1 => ?_)
  refine k1 _ _ ?_
  refine wp_seq_k (fun K2 k2 => ?_)
  refine gsD [.det (W32 x), .det (.int .i64 2), .det (.int .i64 (-2)), .det (W32 (rot x 2)), .det (W32 x), .det (.int .i64 13), .det (.int .i64 (-13)), .det (W32 (rot x 13)), .det (W32 ((rot x 2) ^^^ (rot x 13))), .det (W32 x), .det (.int .i64 22), .det (.int .i64 (-22)), .det (W32 (rot x 22)), .det (W32 (((rot x 2) ^^^ (rot x 13)) ^^^ (rot x 22))), .det (W32 (((rot x 2) ^^^ (rot x 13)) ^^^ (rot x 22)))] [0, 1, 2, 3, 4, 5, 6, 7, 8, 9, 10, 11, 12, 13, 14] [0, 0, 2, 7, 0, 0, 32, 127, 255, 0, 0, 1024, 3839, 8191, 16383] (fun L d => D d 0 8 ++ ([W32 (((rot x 2) ^^^ (rot x 13)) ^^^ (rot x 22))] ++ D d 9 14)) (fun L => []) hp1 ⟨
    oM, oM, oNG (n := 2) (r := (-2)), oR (shaRl2 x), oM, oM, oNG (n := 13) (r := (-13)), oR (shaRl13 x), oJ .u32 .u32 ((rot x 2).toNat : Int) ((rot x 13).toNat : Int) (h := fun w => xorW _ (rot x 2) (rot x 13) w),
    oM, oM, oNG (n := 22) (r := (-22)), oR (shaRl22 x), oJ .u32 .u32 (((rot x 2) ^^^ (rot x 13)).toNat : Int) ((rot x 22).toNat : Int) (h := fun w => xorW _ ((rot x 2) ^^^ (rot x 13)) (rot x 22) w),
    oA,
    trivial⟩ (fun L1 _ w2 hp2 => ?_)
  refine k2 _ _ ?_
  refine wp_ret ?_
  refine bodyPost_ret (v := W32 (((rot x 2) ^^^ (rot x 13)) ^^^ (rot x 22))) ?_ rfl ?_
  · exact res_t rfl (by kernel_rfl) _
  · exact ⟨rfl, hp2.bel⟩
set_option maxHeartbeats 4000000 in
theorem shaShifted7 (x : BitVec 32) (w : World) : Calls Try.prog 27 #[W32 x, .int .i64 7, .int .i64 18, .int .i64 3] w (Ret (W32 (rot x 7 ^^^ rot x 18 ^^^ x >>> 3)) w) := by
  have hp0 := Heap.start w
  go_enter Try.func27, Try.ntmps27
  refine wp_seq_k (fun K1 k1 => ?_)
  refine gsD [.det (.int .u32 0)] [0] [0] (fun L d => [W32 x, .int .i64 7, .int .i64 18, .int .i64 3] ++ D d 4 18) (fun L => []) hp0 ⟨
    oA,
    trivial⟩ (fun L0 _ w1 hp1 => ?_)
  refine k1 _ _ ?_
  refine wp_seq_k (fun K2 k2 => ?_)
  refine drD [.det (W32 x), .det (.int .i64 7), .det (.int .i64 (-7)), .det (W32 (rot x 7)), .det (W32 x), .det (.int .i64 18), .det (.int .i64 (-18)), .det (W32 (rot x 18)), .det (W32 ((rot x 7) ^^^ (rot x 18))), .det (W32 x), .det (.int .i64 3), .det (W32 (x >>> 3)), .det (W32 (((rot x 7) ^^^ (rot x 18)) ^^^ (x >>> 3))), .det (W32 (((rot x 7) ^^^ (rot x 18)) ^^^ (x >>> 3)))] [0, 1, 2, 3, 4, 5, 6, 7, 8, 9, 10, 11, 12, 13] [0, 0, 2, 7, 0, 0, 32, 127, 255, 0, 0, 1536, 4095, 8191] (fun L d => D d 0 8 ++ ([W32 (((rot x 7) ^^^ (rot x 18)) ^^^ (x >>> 3))] ++ D d 9 13)) (fun L => []) hp1 ⟨
    oM, oM, oNG (n := 7) (r := (-7)), oR (shaRl7 x), oM, oM, oNG (n := 18) (r := (-18)), oR (shaRl18 x), oJ .u32 .u32 ((rot x 7).toNat : Int) ((rot x 18).toNat : Int) (h := fun w => xorW _ (rot x 7) (rot x 18) w),
    oM, oM, oJ .u32 .i64 (x.toNat : Int) 3 (h := fun w => shrW _ x .i64 3 (by decide) w), oJ .u32 .u32 (((rot x 7) ^^^ (rot x 18)).toNat : Int) ((x >>> 3).toNat : Int) (h := fun w => xorW _ ((rot x 7) ^^^ (rot x 18)) (x >>> 3) w),
    oA,
    trivial⟩ (fun L1 _ w2 hp2 => ?_)
  refine k2 _ _ ?_
  refine wp_ret ?_
  refine bodyPost_ret (v := W32 (((rot x 7) ^^^ (rot x 18)) ^^^ (x >>> 3))) ?_ rfl ?_
  · exact res_t rfl (by kernel_rfl) _
  · exact ⟨rfl, hp2.bel⟩
set_option maxHeartbeats 4000000 in
theorem shaShifted17 (x : BitVec 32) (w : World) : Calls Try.prog 27 #[W32 x, .int .i64 17, .int .i64 19, .int .i64 10] w (Ret (W32 (rot x 17 ^^^ rot x 19 ^^^ x >>> 10)) w) := by
  have hp0 := Heap.start w
  go_enter Try.func27, Try.ntmps27
  refine wp_seq_k (fun K1 k1 => ?_)
  refine gsD [.det (.int .u32 0)] [0] [0] (fun L d => [W32 x, .int .i64 17, .int .i64 19, .int .i64 10] ++ D d 4 18) (fun L => []) hp0 ⟨
    oA,
    trivial⟩ (fun L0 _ w1 hp1 => ?_)
  refine k1 _ _ ?_
  refine wp_seq_k (fun K2 k2 => ?_)
  refine drD [.det (W32 x), .det (.int .i64 17), .det (.int .i64 (-17)), .det (W32 (rot x 17)), .det (W32 x), .det (.int .i64 19), .det (.int .i64 (-19)), .det (W32 (rot x 19)), .det (W32 ((rot x 17) ^^^ (rot x 19))), .det (W32 x), .det (.int .i64 10), .det (W32 (x >>> 10)), .det (W32 (((rot x 17) ^^^ (rot x 19)) ^^^ (x >>> 10))), .det (W32 (((rot x 17) ^^^ (rot x 19)) ^^^ (x >>> 10)))] [0, 1, 2, 3, 4, 5, 6, 7, 8, 9, 10, 11, 12, 13] [0, 0, 2, 7, 0, 0, 32, 127, 255, 0, 0, 1536, 4095, 8191] (fun L d => D d 0 8 ++ ([W32 (((rot x 17) ^^^ (rot x 19)) ^^^ (x >>> 10))] ++ D d 9 13)) (fun L => []) hp1 ⟨
    oM, oM, oNG (n := 17) (r := (-17)), oR (shaRl17 x), oM, oM, oNG (n := 19) (r := (-19)), oR (shaRl19 x), oJ .u32 .u32 ((rot x 17).toNat : Int) ((rot x 19).toNat : Int) (h := fun w => xorW _ (rot x 17) (rot x 19) w),
    oM, oM, oJ .u32 .i64 (x.toNat : Int) 10 (h := fun w => shrW _ x .i64 10 (by decide) w), oJ .u32 .u32 (((rot x 17) ^^^ (rot x 19)).toNat : Int) ((x >>> 10).toNat : Int) (h := fun w => xorW _ ((rot x 17) ^^^ (rot x 19)) (x >>> 10) w),
    oA,
    trivial⟩ (fun L1 _ w2 hp2 => ?_)
  refine k2 _ _ ?_
  refine wp_ret ?_
  refine bodyPost_ret (v := W32 (((rot x 17) ^^^ (rot x 19)) ^^^ (x >>> 10))) ?_ rfl ?_
  · exact res_t rfl (by kernel_rfl) _
  · exact ⟨rfl, hp2.bel⟩
set_option maxHeartbeats 4000000 in
theorem shaChoose (x y z : BitVec 32) (w : World) : Calls Try.prog 25 #[W32 x, W32 y, W32 z] w (Ret (W32 (x &&& y ^^^ ~~~x &&& z)) w) := by
  have hp0 := Heap.start w
  go_enter Try.func25, Try.ntmps25
  refine wp_seq_k (fun K1 k1 => ?_)
  refine gsD [.det (.int .u32 0)] [0] [0] (fun L d => [W32 x, W32 y, W32 z] ++ D d 3 12) (fun L => []) hp0 ⟨
    oA,
    trivial⟩ (fun L0 _ w1 hp1 => ?_)
  refine k1 _ _ ?_
  refine wp_seq_k (fun K2 k2 => ?_)
  refine gsD [.det (W32 x), .det (W32 y), .det (W32 (x &&& y)), .det (W32 x), .det (W32 (~~~x)), .det (W32 z), .det (W32 ((~~~x) &&& z)), .det (W32 ((x &&& y) ^^^ ((~~~x) &&& z))), .det (W32 ((x &&& y) ^^^ ((~~~x) &&& z)))] [0, 1, 2, 3, 4, 5, 6, 7, 8] [0, 0, 3, 0, 8, 0, 56, 127, 255] (fun L d => D d 0 6 ++ ([W32 ((x &&& y) ^^^ ((~~~x) &&& z))] ++ D d 7 8)) (fun L => []) hp1 ⟨
    oM, oM, oJ .u32 .u32 (x.toNat : Int) (y.toNat : Int) (h := fun w => andW _ x y w), oM, oWN, oM, oJ .u32 .u32 ((~~~x).toNat : Int) (z.toNat : Int) (h := fun w => andW _ (~~~x) z w),
    oJ .u32 .u32 ((x &&& y).toNat : Int) (((~~~x) &&& z).toNat : Int) (h := fun w => xorW _ (x &&& y) ((~~~x) &&& z) w), oA,
    trivial⟩ (fun L1 _ w2 hp2 => ?_)
  refine k2 _ _ ?_
  refine wp_ret ?_
  refine bodyPost_ret (v := W32 ((x &&& y) ^^^ ((~~~x) &&& z))) ?_ rfl ?_
  · exact res_t rfl (by kernel_rfl) _
  · exact ⟨rfl, hp2.bel⟩
set_option maxHeartbeats 4000000 in
theorem shaMost (x y z : BitVec 32) (w : World) : Calls Try.prog 26 #[W32 x, W32 y, W32 z] w (Ret (W32 (x &&& y ^^^ x &&& z ^^^ y &&& z)) w) := by
  have hp0 := Heap.start w
  go_enter Try.func26, Try.ntmps26
  refine wp_seq_k (fun K1 k1 => ?_)
  refine gsD [.det (.int .u32 0)] [0] [0] (fun L d => [W32 x, W32 y, W32 z] ++ D d 3 15) (fun L => []) hp0 ⟨
    oA,
    trivial⟩ (fun L0 _ w1 hp1 => ?_)
  refine k1 _ _ ?_
  refine wp_seq_k (fun K2 k2 => ?_)
  refine gsD [.det (W32 x), .det (W32 y), .det (W32 (x &&& y)), .det (W32 x), .det (W32 z), .det (W32 (x &&& z)), .det (W32 ((x &&& y) ^^^ (x &&& z))), .det (W32 y), .det (W32 z), .det (W32 (y &&& z)), .det (W32 (((x &&& y) ^^^ (x &&& z)) ^^^ (y &&& z))), .det (W32 (((x &&& y) ^^^ (x &&& z)) ^^^ (y &&& z)))] [0, 1, 2, 3, 4, 5, 6, 7, 8, 9, 10, 11] [0, 0, 3, 0, 0, 24, 63, 0, 0, 384, 1023, 2047] (fun L d => D d 0 6 ++ ([W32 (((x &&& y) ^^^ (x &&& z)) ^^^ (y &&& z))] ++ D d 7 11)) (fun L => []) hp1 ⟨
    oM, oM, oJ .u32 .u32 (x.toNat : Int) (y.toNat : Int) (h := fun w => andW _ x y w), oM, oM, oJ .u32 .u32 (x.toNat : Int) (z.toNat : Int) (h := fun w => andW _ x z w),
    oJ .u32 .u32 ((x &&& y).toNat : Int) ((x &&& z).toNat : Int) (h := fun w => xorW _ (x &&& y) (x &&& z) w), oM, oM, oJ .u32 .u32 (y.toNat : Int) (z.toNat : Int) (h := fun w => andW _ y z w),
    oJ .u32 .u32 (((x &&& y) ^^^ (x &&& z)).toNat : Int) ((y &&& z).toNat : Int) (h := fun w => xorW _ ((x &&& y) ^^^ (x &&& z)) (y &&& z) w), oA,
    trivial⟩ (fun L1 _ w2 hp2 => ?_)
  refine k2 _ _ ?_
  refine wp_ret ?_
  refine bodyPost_ret (v := W32 (((x &&& y) ^^^ (x &&& z)) ^^^ (y &&& z))) ?_ rfl ?_
  · exact res_t rfl (by kernel_rfl) _
  · exact ⟨rfl, hp2.bel⟩
/-- What the rounds keep. -/
def spI1 (c : Nat → Int) (w : World) (q0 q1 : Nat) : Nat → Act → World → Prop := fun L a' w' => ∃ (m : Nat) (d : Nat → Value),
  a' = { tmps := ([d 0, .pointer (some ⟨q0, 0, none⟩), .pointer (some ⟨q1, 0, none⟩)] ++ (D d 3 3 ++ ([VB c 64, .int .i64 ((m : Nat) : Int)] ++ D d 8 43)) : List Value).toArray, defers := [] } ∧ m + L = 64 ∧ Heap w.heap.size w w' [(q0, BC c 64), (q1, AW (wst c m) 64)]

/-- What the rounds keep. -/
def spI2 (c : Nat → Int) (w1 : Nat → BitVec 32) (w : World) (q0 q1 : Nat) : Nat → Act → World → Prop := fun L a' w' => ∃ (m : Nat) (d : Nat → Value),
  a' = { tmps := ([d 0, .pointer (some ⟨q0, 0, none⟩), .pointer (some ⟨q1, 0, none⟩)] ++ (D d 3 2 ++ ([.int .i64 ((m + 16 : Nat) : Int)] ++ D d 6 45)) : List Value).toArray, defers := [] } ∧ m + L = 48 ∧ Heap w.heap.size w w' [(q0, BC c 64), (q1, AW (wex w1 m) 64)]

set_option maxHeartbeats 4000000 in
theorem shaSpread (c : Nat → Int) (hc : ∀ i, i < 64 → 0 ≤ c i ∧ c i < 256) (w : World) : Calls Try.prog 20 #[VB c 64] w (Ret (VW (wex (wst c 64) 48) 64) w) := by
  have hp0 := Heap.start w
  go_enter Try.func20, Try.ntmps20
  refine wp_seq_k (fun K1 k1 => ?_)
  refine gs [.alloc (BC c 64), .alloc (AW (fun _ => 0) 64)] [0, 1] [0, 0] (fun L => [VB c 64, L.p 0, L.p 1] ++ U 48) (fun L => [(L.b 0, BC c 64), (L.b 1, AW (fun _ => 0) 64)]) hp0 ⟨
    oB, oZ rW64,
    trivial⟩ (fun L0 w1 hp1 => ?_)
  refine k1 _ _ ?_
  refine wp_seq_k (fun K2 k2 => ?_)
  refine wp_seq_k (fun K3 k3 => ?_)
  refine gs [.det (VB c 64), .det (.int .i64 0)] [0, 1] [0, 0] (fun L => [VB c 64, L0.p 0, L0.p 1, undef, undef, undef, VB c 64, .int .i64 0] ++ U 43) (fun L => [(L0.b 0, BC c 64), (L0.b 1, AW (fun _ => 0) 64)]) hp1 ⟨
    oL 0 0 rB64, oM,
    trivial⟩ (fun L1 w2 hp2 => ?_)
  refine k3 _ _ ?_
  refine wp_block_k (fun K4 k4 => ?_)
  refine wp_loop_ghost (spI1 c w (L0.b 0) (L0.b 1)) 64 ⟨0, (fun zz => ([VB c 64, L0.p 0, L0.p 1, undef, undef, undef, VB c 64, .int .i64 0] ++ U 43 : List Value).getD zz undef), by kernel_rfl, Nat.zero_add _, by rw [wst_0]; exact hp2⟩ ?_
  rintro L a' W ⟨m, d, rfl, hL, hJ⟩
  by_cases hL0 : L = 0
  rotate_left
  · skip
    have hm : m < 64 := by omega
    refine wp_seq_k (fun K5 k5 => ?_)
    refine gs [.det (.bool true)] [0] [0] (fun L => [d 0, L0.p 0, L0.p 1] ++ (D d 3 3 ++ ([VB c 64, .int .i64 ((m : Nat) : Int), .bool true] ++ D d 9 42))) (fun L => [(L0.b 0, BC c 64), (L0.b 1, AW (wst c m) 64)]) hJ ⟨
      oJ .i64 .i64 ((m : Nat) : Int) 64 (h := fun w => (lssI _ _ _ w).trans (by rw [decide_eq_true (by omega)])),
      trivial⟩ (fun L2 w3 hp3 => ?_)
    refine k5 _ _ ?_
    refine wp_seq_k (fun K6 k6 => ?_)
    refine wp_cond_true (by kernel_rfl) ?_
    refine skips ?_
    refine k6 _ _ ?_
    refine wp_seq_k (fun K7 k7 => ?_)
    refine wp_block_k (fun K8 k8 => ?_)
    refine wp_seq_k (fun K9 k9 => ?_)
    refine gs [.det (.int .i64 ((m : Nat) : Int)), .det (.int .u8 (c m)), .det (.int .i64 ((m : Nat) : Int)), .det (.int .u8 (c m))] [0, 1, 2, 3] [0, 0, 3, 7] (fun L => [d 0, L0.p 0, L0.p 1, .int .i64 ((m : Nat) : Int), .int .u8 (c m), d 5, VB c 64, .int .i64 ((m : Nat) : Int), .bool true, .int .i64 ((m : Nat) : Int), .int .u8 (c m)] ++ D d 11 40) (fun L => [(L0.b 0, BC c 64), (L0.b 1, AW (wst c m) 64)]) hp3 ⟨
      oM, oVA (n := 64) (f := c) m (by omega) Try.underlying25, oA, oA,
      trivial⟩ (fun L3 w4 hp4 => ?_)
    refine k9 _ _ ?_
    refine gs [.det (.int .i64 ((m : Nat) : Int)), .det (.int .i64 ((m / 4 : Nat) : Int)), .det (.int .i64 ((m : Nat) : Int)), .det (.int .i64 ((m / 4 : Nat) : Int)), .det (.pointer (some ⟨(L0.b 1), 0 + (m / 4) * 1, none⟩)), .det (W32 ((wst c m) (m / 4))), .det (W32 (((wst c m) (m / 4)) <<< 8)), .det (.int .u8 (c m)), .det (W32 (zx (c m))), .det (W32 ((((wst c m) (m / 4)) <<< 8) ||| (zx (c m)))), .det (.pointer (some ⟨(L0.b 1), 0 + (m / 4) * 1, none⟩)), .store (.base 1) (0 + (m / 4) * 1) ([W32 ((((wst c m) (m / 4)) <<< 8) ||| (zx (c m)))]) (AW (wup (wst c m) (m / 4) ((((wst c m) (m / 4)) <<< 8) ||| (zx (c m)))) 64)] [0, 1, 2, 3, 4, 5, 6, 7, 8, 9, 10, 11] [0, 1, 0, 4, 12, 28, 60, 0, 128, 508, 1023, 2047] (fun L => [d 0, L0.p 0, L0.p 1, .int .i64 ((m : Nat) : Int), .int .u8 (c m), d 5, VB c 64, .int .i64 ((m : Nat) : Int), .bool true, .int .i64 ((m : Nat) : Int), .int .u8 (c m), .int .i64 ((m : Nat) : Int), .int .i64 ((m / 4 : Nat) : Int), .int .i64 ((m : Nat) : Int), .int .i64 ((m / 4 : Nat) : Int), .pointer (some ⟨(L0.b 1), 0 + (m / 4) * 1, none⟩), W32 ((wst c m) (m / 4)), W32 (((wst c m) (m / 4)) <<< 8), .int .u8 (c m), W32 (zx (c m)), W32 ((((wst c m) (m / 4)) <<< 8) ||| (zx (c m))), .pointer (some ⟨(L0.b 1), 0 + (m / 4) * 1, none⟩)] ++ D d 22 29) (fun L => [(L0.b 0, BC c 64), (L0.b 1, AW (wup (wst c m) (m / 4) ((((wst c m) (m / 4)) <<< 8) ||| (zx (c m)))) 64)]) hp4 ⟨
      oM, oJ .i64 .i64 ((m : Nat) : Int) 4 (h := fun w => quoN _ m 4 (m / 4) (by omega) (by decide) rfl w), oM, oJ .i64 .i64 ((m : Nat) : Int) 4 (h := fun w => quoN _ m 4 (m / 4) (by omega) (by decide) rfl w),
      oIA (k := .i64) (m / 4) aW64 (by omega), oLA (n := 64) (j := (m / 4)) 1 (by omega), oJ .u32 .u64 (((wst c m) (m / 4)).toNat : Int) 8 (h := fun w => shlW _ ((wst c m) (m / 4)) .u64 8 (by decide) w),
      oM, oCv (fun w => convZ (c m) (hc m (by omega)).1 (hc m (by omega)).2 w), oJ .u32 .u32 ((((wst c m) (m / 4)) <<< 8).toNat : Int) ((zx (c m)).toNat : Int) (h := fun w => orW _ (((wst c m) (m / 4)) <<< 8) (zx (c m)) w),
      oIA (k := .i64) (m / 4) aW64 (by omega), oTA (n := 64) (j := (m / 4)) (by omega),
      trivial⟩ (fun L4 w5 hp5 => ?_)
    refine k8 _ _ _ ?_
    refine block_normal ?_
    refine k7 _ _ ?_
    refine gs [.det (.int .i64 ((m + 1 : Nat) : Int)), .det (.int .i64 ((m + 1 : Nat) : Int))] [0, 1] [0, 1] (fun L => [d 0, L0.p 0, L0.p 1, .int .i64 ((m : Nat) : Int), .int .u8 (c m), d 5, VB c 64, .int .i64 ((m + 1 : Nat) : Int), .bool true, .int .i64 ((m : Nat) : Int), .int .u8 (c m), .int .i64 ((m : Nat) : Int), .int .i64 ((m / 4 : Nat) : Int), .int .i64 ((m : Nat) : Int), .int .i64 ((m / 4 : Nat) : Int), .pointer (some ⟨(L0.b 1), 0 + (m / 4) * 1, none⟩), W32 ((wst c m) (m / 4)), W32 (((wst c m) (m / 4)) <<< 8), .int .u8 (c m), W32 (zx (c m)), W32 ((((wst c m) (m / 4)) <<< 8) ||| (zx (c m))), .pointer (some ⟨(L0.b 1), 0 + (m / 4) * 1, none⟩), .int .i64 ((m + 1 : Nat) : Int)] ++ D d 23 28) (fun L => [(L0.b 0, BC c 64), (L0.b 1, AW (wup (wst c m) (m / 4) ((((wst c m) (m / 4)) <<< 8) ||| (zx (c m)))) 64)]) hp5 ⟨
      oJ .i64 .i64 ((m : Nat) : Int) 1 (h := fun w => add1N _ (m) (by omega) w), oM,
      trivial⟩ (fun L5 w6 hp6 => ?_)
    exact ⟨L - 1, by omega, m + 1, (fun zz => ([d 0, L0.p 0, L0.p 1, .int .i64 ((m : Nat) : Int), .int .u8 (c m), d 5, VB c 64, .int .i64 ((m + 1 : Nat) : Int), .bool true, .int .i64 ((m : Nat) : Int), .int .u8 (c m), .int .i64 ((m : Nat) : Int), .int .i64 ((m / 4 : Nat) : Int), .int .i64 ((m : Nat) : Int), .int .i64 ((m / 4 : Nat) : Int), .pointer (some ⟨(L0.b 1), 0 + (m / 4) * 1, none⟩), W32 ((wst c m) (m / 4)), W32 (((wst c m) (m / 4)) <<< 8), .int .u8 (c m), W32 (zx (c m)), W32 ((((wst c m) (m / 4)) <<< 8) ||| (zx (c m))), .pointer (some ⟨(L0.b 1), 0 + (m / 4) * 1, none⟩), .int .i64 ((m + 1 : Nat) : Int)] ++ D d 23 28 : List Value).getD zz undef), by kernel_rfl, by omega, by rw [wst_or c hc m hm]; exact hp6⟩
  obtain rfl : m = 64 := by omega
  obtain ⟨w1, ew1⟩ : ∃ x, x = wst c 64 := ⟨_, rfl⟩
  rw [← ew1] at hJ
  refine wp_seq_k (fun K10 k10 => ?_)
  refine gs [.det (.bool false)] [0] [0] (fun L => [d 0, L0.p 0, L0.p 1] ++ (D d 3 3 ++ ([VB c 64, .int .i64 ((64 : Nat) : Int), .bool false] ++ D d 9 42))) (fun L => [(L0.b 0, BC c 64), (L0.b 1, AW w1 64)]) hJ ⟨
    oJ .i64 .i64 ((64 : Nat) : Int) 64 (h := fun w => (lssI _ _ _ w).trans (by rw [decide_eq_false (by omega)])),
    trivial⟩ (fun L6 w7 hp7 => ?_)
  refine k10 _ _ ?_
  refine wp_seq_k (fun K11 k11 => ?_)
  refine wp_cond_false (by kernel_rfl) ?_
  refine wp_exit ?_
  refine then_exit ?_
  refine then_exit ?_
  refine k4 _ _ _ ?_
  refine exit_in ?_
  refine k2 _ _ ?_
  refine wp_seq_k (fun K12 k12 => ?_)
  refine wp_seq_k (fun K13 k13 => ?_)
  refine gs [.det (.int .i64 16)] [0] [0] (fun L => [d 0, L0.p 0, L0.p 1] ++ (D d 3 2 ++ ([.int .i64 16, VB c 64, .int .i64 ((64 : Nat) : Int), .bool false] ++ D d 9 42))) (fun L => [(L0.b 0, BC c 64), (L0.b 1, AW w1 64)]) hp7 ⟨
    oA,
    trivial⟩ (fun L7 w8 hp8 => ?_)
  refine k13 _ _ ?_
  refine wp_block_k (fun K14 k14 => ?_)
  refine wp_loop_ghost (spI2 c w1 w (L0.b 0) (L0.b 1)) 48 ⟨0, (fun zz => ([d 0, L0.p 0, L0.p 1] ++ (D d 3 2 ++ ([.int .i64 16, VB c 64, .int .i64 ((64 : Nat) : Int), .bool false] ++ D d 9 42)) : List Value).getD zz undef), by kernel_rfl, Nat.zero_add _, by rw [wex_0]; exact hp8⟩ ?_
  rintro L a' W ⟨m, d, rfl, hL, hJ⟩
  by_cases hL0 : L = 0
  rotate_left
  · skip
    have hm : m < 48 := by omega
    refine wp_seq_k (fun K15 k15 => ?_)
    refine wp_seq_k (fun K16 k16 => ?_)
    refine gs [.det (.int .i64 ((m + 16 : Nat) : Int)), .det (.bool true)] [0, 1] [0, 1] (fun L => [d 0, L0.p 0, L0.p 1] ++ (D d 3 2 ++ ([.int .i64 ((m + 16 : Nat) : Int)] ++ (D d 6 17 ++ ([.int .i64 ((m + 16 : Nat) : Int), .bool true] ++ D d 25 26))))) (fun L => [(L0.b 0, BC c 64), (L0.b 1, AW (wex w1 m) 64)]) hJ ⟨
      oM, oJ .i64 .i64 ((m + 16 : Nat) : Int) 64 (h := fun w => (lssI _ _ _ w).trans (by rw [decide_eq_true (by omega)])),
      trivial⟩ (fun L8 w9 hp9 => ?_)
    refine k16 _ _ ?_
    refine wp_cond_true (by kernel_rfl) ?_
    refine skips ?_
    refine k15 _ _ ?_
    refine wp_seq_k (fun K17 k17 => ?_)
    refine wp_block_k (fun K18 k18 => ?_)
    refine dr [.det (.int .i64 ((m + 16 : Nat) : Int)), .det (.int .i64 ((m + 16 : Nat) : Int)), .det (.int .i64 ((m : Nat) : Int)), .det (.pointer (some ⟨(L0.b 1), 0 + m * 1, none⟩)), .det (W32 ((wex w1 m) m)), .det (.int .i64 ((m + 16 : Nat) : Int)), .det (.int .i64 ((m + 1 : Nat) : Int)), .det (.pointer (some ⟨(L0.b 1), 0 + (m + 1) * 1, none⟩)), .det (W32 ((wex w1 m) (m + 1))), .det (W32 (rot ((wex w1 m) (m + 1)) 7 ^^^ rot ((wex w1 m) (m + 1)) 18 ^^^ ((wex w1 m) (m + 1)) >>> 3)), .det (W32 (((wex w1 m) m) + (rot ((wex w1 m) (m + 1)) 7 ^^^ rot ((wex w1 m) (m + 1)) 18 ^^^ ((wex w1 m) (m + 1)) >>> 3))), .det (.int .i64 ((m + 16 : Nat) : Int)), .det (.int .i64 ((m + 9 : Nat) : Int)), .det (.pointer (some ⟨(L0.b 1), 0 + (m + 9) * 1, none⟩)), .det (W32 ((wex w1 m) (m + 9))), .det (W32 ((((wex w1 m) m) + (rot ((wex w1 m) (m + 1)) 7 ^^^ rot ((wex w1 m) (m + 1)) 18 ^^^ ((wex w1 m) (m + 1)) >>> 3)) + ((wex w1 m) (m + 9)))), .det (.int .i64 ((m + 16 : Nat) : Int)), .det (.int .i64 ((m + 14 : Nat) : Int)), .det (.pointer (some ⟨(L0.b 1), 0 + (m + 14) * 1, none⟩)), .det (W32 ((wex w1 m) (m + 14))), .det (W32 (rot ((wex w1 m) (m + 14)) 17 ^^^ rot ((wex w1 m) (m + 14)) 19 ^^^ ((wex w1 m) (m + 14)) >>> 10)), .det (W32 (((((wex w1 m) m) + (rot ((wex w1 m) (m + 1)) 7 ^^^ rot ((wex w1 m) (m + 1)) 18 ^^^ ((wex w1 m) (m + 1)) >>> 3)) + ((wex w1 m) (m + 9))) + (rot ((wex w1 m) (m + 14)) 17 ^^^ rot ((wex w1 m) (m + 14)) 19 ^^^ ((wex w1 m) (m + 14)) >>> 10))), .det (.pointer (some ⟨(L0.b 1), 0 + (m + 16) * 1, none⟩)), .store (.base 1) (0 + (m + 16) * 1) ([W32 (((((wex w1 m) m) + (rot ((wex w1 m) (m + 1)) 7 ^^^ rot ((wex w1 m) (m + 1)) 18 ^^^ ((wex w1 m) (m + 1)) >>> 3)) + ((wex w1 m) (m + 9))) + (rot ((wex w1 m) (m + 14)) 17 ^^^ rot ((wex w1 m) (m + 14)) 19 ^^^ ((wex w1 m) (m + 14)) >>> 10))]) (AW (wup (wex w1 m) (m + 16) (((((wex w1 m) m) + (rot ((wex w1 m) (m + 1)) 7 ^^^ rot ((wex w1 m) (m + 1)) 18 ^^^ ((wex w1 m) (m + 1)) >>> 3)) + ((wex w1 m) (m + 9))) + (rot ((wex w1 m) (m + 14)) 17 ^^^ rot ((wex w1 m) (m + 14)) 19 ^^^ ((wex w1 m) (m + 14)) >>> 10))) 64)] [0, 1, 2, 3, 4, 5, 6, 7, 8, 9, 10, 11, 12, 13, 14, 15, 16, 17, 18, 19, 20, 21, 22, 23] [0, 0, 2, 6, 14, 0, 32, 96, 224, 480, 1022, 0, 2048, 6144, 14336, 32766, 0, 65536, 196608, 458752, 984032, 2097150, 4194303, 8388607] (fun L => [d 0, L0.p 0, L0.p 1] ++ (D d 3 2 ++ ([.int .i64 ((m + 16 : Nat) : Int)] ++ (D d 6 17 ++ ([.int .i64 ((m + 16 : Nat) : Int), .bool true] ++ (D d 25 2 ++ [.int .i64 ((m + 16 : Nat) : Int), .int .i64 ((m + 16 : Nat) : Int), .int .i64 ((m : Nat) : Int), .pointer (some ⟨(L0.b 1), 0 + m * 1, none⟩), W32 ((wex w1 m) m), .int .i64 ((m + 16 : Nat) : Int), .int .i64 ((m + 1 : Nat) : Int), .pointer (some ⟨(L0.b 1), 0 + (m + 1) * 1, none⟩), W32 ((wex w1 m) (m + 1)), W32 (rot ((wex w1 m) (m + 1)) 7 ^^^ rot ((wex w1 m) (m + 1)) 18 ^^^ ((wex w1 m) (m + 1)) >>> 3), W32 (((wex w1 m) m) + (rot ((wex w1 m) (m + 1)) 7 ^^^ rot ((wex w1 m) (m + 1)) 18 ^^^ ((wex w1 m) (m + 1)) >>> 3)), .int .i64 ((m + 16 : Nat) : Int), .int .i64 ((m + 9 : Nat) : Int), .pointer (some ⟨(L0.b 1), 0 + (m + 9) * 1, none⟩), W32 ((wex w1 m) (m + 9)), W32 ((((wex w1 m) m) + (rot ((wex w1 m) (m + 1)) 7 ^^^ rot ((wex w1 m) (m + 1)) 18 ^^^ ((wex w1 m) (m + 1)) >>> 3)) + ((wex w1 m) (m + 9))), .int .i64 ((m + 16 : Nat) : Int), .int .i64 ((m + 14 : Nat) : Int), .pointer (some ⟨(L0.b 1), 0 + (m + 14) * 1, none⟩), W32 ((wex w1 m) (m + 14)), W32 (rot ((wex w1 m) (m + 14)) 17 ^^^ rot ((wex w1 m) (m + 14)) 19 ^^^ ((wex w1 m) (m + 14)) >>> 10), W32 (((((wex w1 m) m) + (rot ((wex w1 m) (m + 1)) 7 ^^^ rot ((wex w1 m) (m + 1)) 18 ^^^ ((wex w1 m) (m + 1)) >>> 3)) + ((wex w1 m) (m + 9))) + (rot ((wex w1 m) (m + 14)) 17 ^^^ rot ((wex w1 m) (m + 14)) 19 ^^^ ((wex w1 m) (m + 14)) >>> 10)), .pointer (some ⟨(L0.b 1), 0 + (m + 16) * 1, none⟩), d 50])))))) (fun L => [(L0.b 0, BC c 64), (L0.b 1, AW (wup (wex w1 m) (m + 16) (((((wex w1 m) m) + (rot ((wex w1 m) (m + 1)) 7 ^^^ rot ((wex w1 m) (m + 1)) 18 ^^^ ((wex w1 m) (m + 1)) >>> 3)) + ((wex w1 m) (m + 9))) + (rot ((wex w1 m) (m + 14)) 17 ^^^ rot ((wex w1 m) (m + 14)) 19 ^^^ ((wex w1 m) (m + 14)) >>> 10))) 64)]) hp9 ⟨
      oM, oM, oJ .i64 .i64 ((m + 16 : Nat) : Int) 16 (h := fun w => subN _ (m + 16) 16 (m + 0) (by omega) (by omega) w), oIA (k := .i64) m aW64 (by omega), oLA (n := 64) (j := m) 1 (by omega),
      oM, oJ .i64 .i64 ((m + 16 : Nat) : Int) 15 (h := fun w => subN _ (m + 16) 15 (m + 1) (by omega) (by omega) w), oIA (k := .i64) (m + 1) aW64 (by omega), oLA (n := 64) (j := (m + 1)) 1 (by omega),
      oR (shaShifted7 ((wex w1 m) (m + 1))), oJ .u32 .u32 (((wex w1 m) m).toNat : Int) ((rot ((wex w1 m) (m + 1)) 7 ^^^ rot ((wex w1 m) (m + 1)) 18 ^^^ ((wex w1 m) (m + 1)) >>> 3).toNat : Int) (h := fun w => addW _ ((wex w1 m) m) (rot ((wex w1 m) (m + 1)) 7 ^^^ rot ((wex w1 m) (m + 1)) 18 ^^^ ((wex w1 m) (m + 1)) >>> 3) w),
      oM, oJ .i64 .i64 ((m + 16 : Nat) : Int) 7 (h := fun w => subN _ (m + 16) 7 (m + 9) (by omega) (by omega) w), oIA (k := .i64) (m + 9) aW64 (by omega), oLA (n := 64) (j := (m + 9)) 1 (by omega),
      oJ .u32 .u32 ((((wex w1 m) m) + (rot ((wex w1 m) (m + 1)) 7 ^^^ rot ((wex w1 m) (m + 1)) 18 ^^^ ((wex w1 m) (m + 1)) >>> 3)).toNat : Int) (((wex w1 m) (m + 9)).toNat : Int) (h := fun w => addW _ (((wex w1 m) m) + (rot ((wex w1 m) (m + 1)) 7 ^^^ rot ((wex w1 m) (m + 1)) 18 ^^^ ((wex w1 m) (m + 1)) >>> 3)) ((wex w1 m) (m + 9)) w),
      oM, oJ .i64 .i64 ((m + 16 : Nat) : Int) 2 (h := fun w => subN _ (m + 16) 2 (m + 14) (by omega) (by omega) w), oIA (k := .i64) (m + 14) aW64 (by omega), oLA (n := 64) (j := (m + 14)) 1 (by omega),
      oR (shaShifted17 ((wex w1 m) (m + 14))), oJ .u32 .u32 (((((wex w1 m) m) + (rot ((wex w1 m) (m + 1)) 7 ^^^ rot ((wex w1 m) (m + 1)) 18 ^^^ ((wex w1 m) (m + 1)) >>> 3)) + ((wex w1 m) (m + 9))).toNat : Int) ((rot ((wex w1 m) (m + 14)) 17 ^^^ rot ((wex w1 m) (m + 14)) 19 ^^^ ((wex w1 m) (m + 14)) >>> 10).toNat : Int) (h := fun w => addW _ ((((wex w1 m) m) + (rot ((wex w1 m) (m + 1)) 7 ^^^ rot ((wex w1 m) (m + 1)) 18 ^^^ ((wex w1 m) (m + 1)) >>> 3)) + ((wex w1 m) (m + 9))) (rot ((wex w1 m) (m + 14)) 17 ^^^ rot ((wex w1 m) (m + 14)) 19 ^^^ ((wex w1 m) (m + 14)) >>> 10) w),
      oIA (k := .i64) (m + 16) aW64 (by omega), oTA (n := 64) (j := (m + 16)) (by omega),
      trivial⟩ (fun L9 w10 hp10 => ?_)
    refine k18 _ _ _ ?_
    refine block_normal ?_
    refine k17 _ _ ?_
    refine gs [.det (.int .i64 ((m + 16 : Nat) : Int)), .det (.int .i64 ((m + 16 + 1 : Nat) : Int)), .det (.int .i64 ((m + 16 + 1 : Nat) : Int))] [0, 1, 2] [0, 1, 3] (fun L => [d 0, L0.p 0, L0.p 1] ++ (D d 3 2 ++ ([.int .i64 ((m + 16 + 1 : Nat) : Int)] ++ (D d 6 17 ++ [.int .i64 ((m + 16 : Nat) : Int), .bool true, .int .i64 ((m + 16 : Nat) : Int), .int .i64 ((m + 16 + 1 : Nat) : Int), .int .i64 ((m + 16 : Nat) : Int), .int .i64 ((m + 16 : Nat) : Int), .int .i64 ((m : Nat) : Int), .pointer (some ⟨(L0.b 1), 0 + m * 1, none⟩), W32 ((wex w1 m) m), .int .i64 ((m + 16 : Nat) : Int), .int .i64 ((m + 1 : Nat) : Int), .pointer (some ⟨(L0.b 1), 0 + (m + 1) * 1, none⟩), W32 ((wex w1 m) (m + 1)), W32 (rot ((wex w1 m) (m + 1)) 7 ^^^ rot ((wex w1 m) (m + 1)) 18 ^^^ ((wex w1 m) (m + 1)) >>> 3), W32 (((wex w1 m) m) + (rot ((wex w1 m) (m + 1)) 7 ^^^ rot ((wex w1 m) (m + 1)) 18 ^^^ ((wex w1 m) (m + 1)) >>> 3)), .int .i64 ((m + 16 : Nat) : Int), .int .i64 ((m + 9 : Nat) : Int), .pointer (some ⟨(L0.b 1), 0 + (m + 9) * 1, none⟩), W32 ((wex w1 m) (m + 9)), W32 ((((wex w1 m) m) + (rot ((wex w1 m) (m + 1)) 7 ^^^ rot ((wex w1 m) (m + 1)) 18 ^^^ ((wex w1 m) (m + 1)) >>> 3)) + ((wex w1 m) (m + 9))), .int .i64 ((m + 16 : Nat) : Int), .int .i64 ((m + 14 : Nat) : Int), .pointer (some ⟨(L0.b 1), 0 + (m + 14) * 1, none⟩), W32 ((wex w1 m) (m + 14)), W32 (rot ((wex w1 m) (m + 14)) 17 ^^^ rot ((wex w1 m) (m + 14)) 19 ^^^ ((wex w1 m) (m + 14)) >>> 10), W32 (((((wex w1 m) m) + (rot ((wex w1 m) (m + 1)) 7 ^^^ rot ((wex w1 m) (m + 1)) 18 ^^^ ((wex w1 m) (m + 1)) >>> 3)) + ((wex w1 m) (m + 9))) + (rot ((wex w1 m) (m + 14)) 17 ^^^ rot ((wex w1 m) (m + 14)) 19 ^^^ ((wex w1 m) (m + 14)) >>> 10)), .pointer (some ⟨(L0.b 1), 0 + (m + 16) * 1, none⟩), d 50])))) (fun L => [(L0.b 0, BC c 64), (L0.b 1, AW (wup (wex w1 m) (m + 16) (((((wex w1 m) m) + (rot ((wex w1 m) (m + 1)) 7 ^^^ rot ((wex w1 m) (m + 1)) 18 ^^^ ((wex w1 m) (m + 1)) >>> 3)) + ((wex w1 m) (m + 9))) + (rot ((wex w1 m) (m + 14)) 17 ^^^ rot ((wex w1 m) (m + 14)) 19 ^^^ ((wex w1 m) (m + 14)) >>> 10))) 64)]) hp10 ⟨
      oM, oJ .i64 .i64 ((m + 16 : Nat) : Int) 1 (h := fun w => add1N _ (m + 16) (by omega) w), oA,
      trivial⟩ (fun L10 w11 hp11 => ?_)
    exact ⟨L - 1, by omega, m + 1, (fun zz => ([d 0, L0.p 0, L0.p 1] ++ (D d 3 2 ++ ([.int .i64 ((m + 16 + 1 : Nat) : Int)] ++ (D d 6 17 ++ [.int .i64 ((m + 16 : Nat) : Int), .bool true, .int .i64 ((m + 16 : Nat) : Int), .int .i64 ((m + 16 + 1 : Nat) : Int), .int .i64 ((m + 16 : Nat) : Int), .int .i64 ((m + 16 : Nat) : Int), .int .i64 ((m : Nat) : Int), .pointer (some ⟨(L0.b 1), 0 + m * 1, none⟩), W32 ((wex w1 m) m), .int .i64 ((m + 16 : Nat) : Int), .int .i64 ((m + 1 : Nat) : Int), .pointer (some ⟨(L0.b 1), 0 + (m + 1) * 1, none⟩), W32 ((wex w1 m) (m + 1)), W32 (rot ((wex w1 m) (m + 1)) 7 ^^^ rot ((wex w1 m) (m + 1)) 18 ^^^ ((wex w1 m) (m + 1)) >>> 3), W32 (((wex w1 m) m) + (rot ((wex w1 m) (m + 1)) 7 ^^^ rot ((wex w1 m) (m + 1)) 18 ^^^ ((wex w1 m) (m + 1)) >>> 3)), .int .i64 ((m + 16 : Nat) : Int), .int .i64 ((m + 9 : Nat) : Int), .pointer (some ⟨(L0.b 1), 0 + (m + 9) * 1, none⟩), W32 ((wex w1 m) (m + 9)), W32 ((((wex w1 m) m) + (rot ((wex w1 m) (m + 1)) 7 ^^^ rot ((wex w1 m) (m + 1)) 18 ^^^ ((wex w1 m) (m + 1)) >>> 3)) + ((wex w1 m) (m + 9))), .int .i64 ((m + 16 : Nat) : Int), .int .i64 ((m + 14 : Nat) : Int), .pointer (some ⟨(L0.b 1), 0 + (m + 14) * 1, none⟩), W32 ((wex w1 m) (m + 14)), W32 (rot ((wex w1 m) (m + 14)) 17 ^^^ rot ((wex w1 m) (m + 14)) 19 ^^^ ((wex w1 m) (m + 14)) >>> 10), W32 (((((wex w1 m) m) + (rot ((wex w1 m) (m + 1)) 7 ^^^ rot ((wex w1 m) (m + 1)) 18 ^^^ ((wex w1 m) (m + 1)) >>> 3)) + ((wex w1 m) (m + 9))) + (rot ((wex w1 m) (m + 14)) 17 ^^^ rot ((wex w1 m) (m + 14)) 19 ^^^ ((wex w1 m) (m + 14)) >>> 10)), .pointer (some ⟨(L0.b 1), 0 + (m + 16) * 1, none⟩), d 50]))) : List Value).getD zz undef), by kernel_rfl, by omega, by rw [wex_s, wnx]; exact hp11⟩
  obtain rfl : m = 48 := by omega
  obtain ⟨w2, ew2⟩ : ∃ x, x = wex w1 48 := ⟨_, rfl⟩
  rw [← ew2] at hJ
  refine wp_seq_k (fun K19 k19 => ?_)
  refine wp_seq_k (fun K20 k20 => ?_)
  refine gs [.det (.int .i64 ((48 + 16 : Nat) : Int)), .det (.bool false)] [0, 1] [0, 1] (fun L => [d 0, L0.p 0, L0.p 1] ++ (D d 3 2 ++ ([.int .i64 ((48 + 16 : Nat) : Int)] ++ (D d 6 17 ++ ([.int .i64 ((48 + 16 : Nat) : Int), .bool false] ++ D d 25 26))))) (fun L => [(L0.b 0, BC c 64), (L0.b 1, AW w2 64)]) hJ ⟨
    oM, oJ .i64 .i64 ((48 + 16 : Nat) : Int) 64 (h := fun w => (lssI _ _ _ w).trans (by rw [decide_eq_false (by omega)])),
    trivial⟩ (fun L11 w12 hp12 => ?_)
  refine k20 _ _ ?_
  refine wp_cond_false (by kernel_rfl) ?_
  refine wp_exit ?_
  refine then_exit ?_
  refine then_exit ?_
  refine k14 _ _ _ ?_
  refine exit_in ?_
  refine k12 _ _ ?_
  refine wp_seq_k (fun K21 k21 => ?_)
  refine gs [.det (VW w2 64), .store (.base 1) 0 (AW w2 64) (AW w2 64)] [0, 1] [0, 1] (fun L => [d 0, L0.p 0, L0.p 1] ++ (D d 3 2 ++ ([.int .i64 ((48 + 16 : Nat) : Int)] ++ (D d 6 17 ++ ([.int .i64 ((48 + 16 : Nat) : Int), .bool false] ++ (D d 25 25 ++ [VW w2 64])))))) (fun L => [(L0.b 0, BC c 64), (L0.b 1, AW w2 64)]) hp12 ⟨
    oL 1 0 rW64, oT rW64,
    trivial⟩ (fun L12 w13 hp13 => ?_)
  refine k21 _ _ ?_
  refine wp_ret ?_
  refine bodyPost_ret (v := VW w2 64) ?_ rfl ?_
  · exact rc rW64 rfl (by kernel_rfl) (hp13.bound 1 rfl).2
  · exact ⟨by subst ew2 ew1; rfl, hp13.bel⟩
/-- What the rounds keep. -/
def dsI1 (h : Nat → BitVec 32) (w : World) (q0 q1 : Nat) : Nat → Act → World → Prop := fun L a' w' => ∃ (m : Nat) (d : Nat → Value),
  a' = { tmps := ([d 0, .pointer (some ⟨q0, 0, none⟩), .pointer (some ⟨q1, 0, none⟩), d 3, .int .i64 ((m : Nat) : Int)] ++ D d 5 16 : List Value).toArray, defers := [] } ∧ m + L = 32 ∧ Heap w.heap.size w w' [(q0, AW h 8), (q1, BC (obx h m) 32)]

set_option maxHeartbeats 4000000 in
theorem shaDigest (h : Nat → BitVec 32) (w : World) : Calls Try.prog 15 #[VW h 8] w (Ret (VB (ob h) 32) w) := by
  have hp0 := Heap.start w
  go_enter Try.func15, Try.ntmps15
  refine wp_seq_k (fun K1 k1 => ?_)
  refine gs [.alloc (AW h 8), .alloc (BC (fun _ => 0) 32)] [0, 1] [0, 0] (fun L => [VW h 8, L.p 0, L.p 1] ++ U 18) (fun L => [(L.b 0, AW h 8), (L.b 1, BC (fun _ => 0) 32)]) hp0 ⟨
    oB, oZ rB32,
    trivial⟩ (fun L0 w1 hp1 => ?_)
  refine k1 _ _ ?_
  refine wp_seq_k (fun K2 k2 => ?_)
  refine wp_seq_k (fun K3 k3 => ?_)
  refine gs [.det (.int .i64 0)] [0] [0] (fun L => [VW h 8, L0.p 0, L0.p 1, undef, .int .i64 0] ++ U 16) (fun L => [(L0.b 0, AW h 8), (L0.b 1, BC (fun _ => 0) 32)]) hp1 ⟨
    oM,
    trivial⟩ (fun L1 w2 hp2 => ?_)
  refine k3 _ _ ?_
  refine wp_block_k (fun K4 k4 => ?_)
  refine wp_loop_ghost (dsI1 h w (L0.b 0) (L0.b 1)) 32 ⟨0, (fun zz => ([VW h 8, L0.p 0, L0.p 1, undef, .int .i64 0] ++ U 16 : List Value).getD zz undef), by kernel_rfl, Nat.zero_add _, by rw [obx_0]; exact hp2⟩ ?_
  rintro L a' W ⟨m, d, rfl, hL, hJ⟩
  by_cases hL0 : L = 0
  rotate_left
  · skip
    have hm : m < 32 := by omega
    refine wp_seq_k (fun K5 k5 => ?_)
    refine gs [.det (.bool true)] [0] [0] (fun L => [d 0, L0.p 0, L0.p 1, d 3, .int .i64 ((m : Nat) : Int), .bool true] ++ D d 6 15) (fun L => [(L0.b 0, AW h 8), (L0.b 1, BC (obx h m) 32)]) hJ ⟨
      oJ .i64 .i64 ((m : Nat) : Int) 32 (h := fun w => (lssI _ _ _ w).trans (by rw [decide_eq_true (by omega)])),
      trivial⟩ (fun L2 w3 hp3 => ?_)
    refine k5 _ _ ?_
    refine wp_seq_k (fun K6 k6 => ?_)
    refine wp_cond_true (by kernel_rfl) ?_
    refine skips ?_
    refine k6 _ _ ?_
    refine wp_seq_k (fun K7 k7 => ?_)
    refine wp_block_k (fun K8 k8 => ?_)
    refine wp_seq_k (fun K9 k9 => ?_)
    refine gs [.det (.int .i64 ((m : Nat) : Int)), .det (.int .i64 ((m : Nat) : Int))] [0, 1] [0, 1] (fun L => [d 0, L0.p 0, L0.p 1, .int .i64 ((m : Nat) : Int), .int .i64 ((m : Nat) : Int), .bool true, .int .i64 ((m : Nat) : Int)] ++ D d 7 14) (fun L => [(L0.b 0, AW h 8), (L0.b 1, BC (obx h m) 32)]) hp3 ⟨
      oM, oA,
      trivial⟩ (fun L3 w4 hp4 => ?_)
    refine k9 _ _ ?_
    refine gs [.det (.int .i64 ((m : Nat) : Int)), .det (.int .i64 ((m : Nat) : Int)), .det (.int .i64 ((m / 4 : Nat) : Int)), .det (.pointer (some ⟨(L0.b 0), 0 + (m / 4) * 1, none⟩)), .det (W32 (h (m / 4))), .det (.int .i64 ((m : Nat) : Int)), .det (.int .i64 ((m % 4 : Nat) : Int)), .det (.int .i64 ((3 - m % 4 : Nat) : Int)), .det (.int .i64 ((24 - 8 * (m % 4) : Nat) : Int)), .det (W32 ((h (m / 4)) >>> (24 - 8 * (m % 4)))), .det (.int .u8 ((((h (m / 4)) >>> (24 - 8 * (m % 4))).toNat : Int) % 256)), .det (.pointer (some ⟨(L0.b 1), 0 + m * 1, none⟩)), .store (.base 1) (0 + m * 1) ([.int .u8 ((((h (m / 4)) >>> (24 - 8 * (m % 4))).toNat : Int) % 256)]) (BC (su (obx h m) m ((((h (m / 4)) >>> (24 - 8 * (m % 4))).toNat : Int) % 256)) 32)] [0, 1, 2, 3, 4, 5, 6, 7, 8, 9, 10, 11, 12] [0, 0, 2, 6, 14, 0, 32, 96, 224, 510, 1022, 2047, 4095] (fun L => [d 0, L0.p 0, L0.p 1, .int .i64 ((m : Nat) : Int), .int .i64 ((m : Nat) : Int), .bool true, .int .i64 ((m : Nat) : Int), .int .i64 ((m : Nat) : Int), .int .i64 ((m : Nat) : Int), .int .i64 ((m / 4 : Nat) : Int), .pointer (some ⟨(L0.b 0), 0 + (m / 4) * 1, none⟩), W32 (h (m / 4)), .int .i64 ((m : Nat) : Int), .int .i64 ((m % 4 : Nat) : Int), .int .i64 ((3 - m % 4 : Nat) : Int), .int .i64 ((24 - 8 * (m % 4) : Nat) : Int), W32 ((h (m / 4)) >>> (24 - 8 * (m % 4))), .int .u8 ((((h (m / 4)) >>> (24 - 8 * (m % 4))).toNat : Int) % 256), .pointer (some ⟨(L0.b 1), 0 + m * 1, none⟩)] ++ D d 19 2) (fun L => [(L0.b 0, AW h 8), (L0.b 1, BC (su (obx h m) m ((((h (m / 4)) >>> (24 - 8 * (m % 4))).toNat : Int) % 256)) 32)]) hp4 ⟨
      oM, oM, oJ .i64 .i64 ((m : Nat) : Int) 4 (h := fun w => quoN _ m 4 (m / 4) (by omega) (by decide) rfl w), oIA (k := .i64) (m / 4) aW8 (by omega), oLA (n := 8) (j := (m / 4)) 0 (by omega),
      oM, oJ .i64 .i64 ((m : Nat) : Int) 4 (h := fun w => remN _ m 4 (m % 4) (by decide) (by omega) rfl w), oJ .i64 .i64 3 ((m % 4 : Nat) : Int) (h := fun w => subN _ 3 (m % 4) (3 - m % 4) (by omega) (by omega) w),
      oJ .i64 .i64 8 ((3 - m % 4 : Nat) : Int) (h := fun w => mulII _ 8 (3 - m % 4) (24 - 8 * (m % 4)) (by omega) (by omega) w), oJ .u32 .i64 ((h (m / 4)).toNat : Int) ((24 - 8 * (m % 4) : Nat) : Int) (h := fun w => shrW _ (h (m / 4)) .i64 (24 - 8 * (m % 4)) (by omega) w),
      oCv (fun w => convWB ((h (m / 4)) >>> (24 - 8 * (m % 4))) w), oIA (k := .i64) m aB32 (by omega), oTY (n := 32) (j := m) (by omega),
      trivial⟩ (fun L4 w5 hp5 => ?_)
    refine k8 _ _ _ ?_
    refine block_normal ?_
    refine k7 _ _ ?_
    refine gs [.det (.int .i64 ((m + 1 : Nat) : Int)), .det (.int .i64 ((m + 1 : Nat) : Int))] [0, 1] [0, 1] (fun L => [d 0, L0.p 0, L0.p 1, .int .i64 ((m : Nat) : Int), .int .i64 ((m + 1 : Nat) : Int), .bool true, .int .i64 ((m : Nat) : Int), .int .i64 ((m : Nat) : Int), .int .i64 ((m : Nat) : Int), .int .i64 ((m / 4 : Nat) : Int), .pointer (some ⟨(L0.b 0), 0 + (m / 4) * 1, none⟩), W32 (h (m / 4)), .int .i64 ((m : Nat) : Int), .int .i64 ((m % 4 : Nat) : Int), .int .i64 ((3 - m % 4 : Nat) : Int), .int .i64 ((24 - 8 * (m % 4) : Nat) : Int), W32 ((h (m / 4)) >>> (24 - 8 * (m % 4))), .int .u8 ((((h (m / 4)) >>> (24 - 8 * (m % 4))).toNat : Int) % 256), .pointer (some ⟨(L0.b 1), 0 + m * 1, none⟩), .int .i64 ((m + 1 : Nat) : Int), d 20]) (fun L => [(L0.b 0, AW h 8), (L0.b 1, BC (su (obx h m) m ((((h (m / 4)) >>> (24 - 8 * (m % 4))).toNat : Int) % 256)) 32)]) hp5 ⟨
      oJ .i64 .i64 ((m : Nat) : Int) 1 (h := fun w => add1N _ (m) (by omega) w), oM,
      trivial⟩ (fun L5 w6 hp6 => ?_)
    exact ⟨L - 1, by omega, m + 1, (fun zz => ([d 0, L0.p 0, L0.p 1, .int .i64 ((m : Nat) : Int), .int .i64 ((m + 1 : Nat) : Int), .bool true, .int .i64 ((m : Nat) : Int), .int .i64 ((m : Nat) : Int), .int .i64 ((m : Nat) : Int), .int .i64 ((m / 4 : Nat) : Int), .pointer (some ⟨(L0.b 0), 0 + (m / 4) * 1, none⟩), W32 (h (m / 4)), .int .i64 ((m : Nat) : Int), .int .i64 ((m % 4 : Nat) : Int), .int .i64 ((3 - m % 4 : Nat) : Int), .int .i64 ((24 - 8 * (m % 4) : Nat) : Int), W32 ((h (m / 4)) >>> (24 - 8 * (m % 4))), .int .u8 ((((h (m / 4)) >>> (24 - 8 * (m % 4))).toNat : Int) % 256), .pointer (some ⟨(L0.b 1), 0 + m * 1, none⟩), .int .i64 ((m + 1 : Nat) : Int), d 20] : List Value).getD zz undef), by kernel_rfl, by omega, by rw [obx_s]; exact hp6⟩
  obtain rfl : m = 32 := by omega
  refine wp_seq_k (fun K10 k10 => ?_)
  refine gs [.det (.bool false)] [0] [0] (fun L => [d 0, L0.p 0, L0.p 1, d 3, .int .i64 ((32 : Nat) : Int), .bool false] ++ D d 6 15) (fun L => [(L0.b 0, AW h 8), (L0.b 1, BC (obx h 32) 32)]) hJ ⟨
    oJ .i64 .i64 ((32 : Nat) : Int) 32 (h := fun w => (lssI _ _ _ w).trans (by rw [decide_eq_false (by omega)])),
    trivial⟩ (fun L6 w7 hp7 => ?_)
  refine k10 _ _ ?_
  refine wp_seq_k (fun K11 k11 => ?_)
  refine wp_cond_false (by kernel_rfl) ?_
  refine wp_exit ?_
  refine then_exit ?_
  refine then_exit ?_
  refine k4 _ _ _ ?_
  refine exit_in ?_
  refine k2 _ _ ?_
  refine wp_seq_k (fun K12 k12 => ?_)
  refine gs [.det (VB (obx h 32) 32), .store (.base 1) 0 (BC (obx h 32) 32) (BC (obx h 32) 32)] [0, 1] [0, 1] (fun L => [d 0, L0.p 0, L0.p 1, d 3, .int .i64 ((32 : Nat) : Int), .bool false] ++ (D d 6 14 ++ [VB (obx h 32) 32])) (fun L => [(L0.b 0, AW h 8), (L0.b 1, BC (obx h 32) 32)]) hp7 ⟨
    oL 1 0 rB32, oT rB32,
    trivial⟩ (fun L7 w8 hp8 => ?_)
  refine k12 _ _ ?_
  refine wp_ret ?_
  refine bodyPost_ret (v := VB (obx h 32) 32) ?_ rfl ?_
  · exact rc rB32 rfl (by kernel_rfl) (hp8.bound 1 rfl).2
  · exact ⟨congrArg (fun z => Ending.returned (.agg (List.toArray z))) (BC_congr fun j hj => obx_at _ 32 j hj), hp8.bel⟩
end Go.Proofs.Ytklddcicfeakfaa.fpn
