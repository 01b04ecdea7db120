/- UI UN UJ UK. -/
import Derived.Test.YthnfgmhehfombaaGreatDoorNC
import Derived.Test.YthnfgmhehfombaaGreatDoorGF
import Derived.Test.YthnfgmhehfombaaGreatDoorGC
import Derived.Test.YthnfgmhehfombaaGreatDoorGG
import Derived.Test.YthnfgmhehfombaaGreatDoorGK
import Derived.Test.YthnfgmhehfombaaGreatDoorGQ
import Derived.Deep.LoopGhost
import Derived.Test.YthnfgmhehfombaaGreatDoorGO
/- Places of the curve over sixes as Go has them. -/
namespace Go.Proofs.YthnfgmhehfombaaGreatDoor.fpn
open Go.RowKit Pl EC
set_option linter.unusedVariables false
set_option linter.unusedSimpArgs false
set_option maxRecDepth 4000

instance : DecidableEq Plc := fun a b => if h : a.x = b.x ∧ a.y = b.y then .isTrue (by cases a; cases b; simp_all) else .isFalse (fun e => h (by rw [e]; exact ⟨rfl, rfl⟩))
def PLC (a : Plc) : List Value := C12 a.x ++ C12 a.y
def PLV (a : Plc) : Value := .agg (PLC a).toArray
theorem rPL : RowT Tryz.prog 99 144 (PLC ⟨0, 0⟩) := ⟨⟨_, Tryz.underlying99, rfl⟩, by kernel_rfl, by kernel_rfl⟩
theorem fPL0 : FldT Tryz.prog 99 0 0 71 := ⟨_, _, Tryz.underlying99, rfl, rfl, by kernel_rfl⟩
theorem fPL1 : FldT Tryz.prog 99 1 72 71 := ⟨_, _, Tryz.underlying99, rfl, rfl, by kernel_rfl⟩
theorem buildPL01 (a b : F12) (w : World) : (Instr.build 99 #[(0, V12 a), (1, V12 b)]).run Tryz.prog w = .ok (PLV ⟨a, b⟩) w := run_build w _ _ _ (by kernel_rfl)
theorem buildE (c : F2) (w : World) : (Instr.build 49 #[(0, V6 ⟨c, 0, 0⟩)]).run Tryz.prog w = .ok (V12 (F12.emb c)) w := build120 ⟨c, 0, 0⟩ w
theorem build12mt (t : F2) (w : World) : (Instr.build 49 #[(0, V6 0), (1, V6 ⟨t, 0, 0⟩)]).run Tryz.prog w = .ok (V12 (F12.mt t)) w := build1201 0 ⟨t, 0, 0⟩ w
theorem notHeldPL : Tryz.prog.stoodInHeld 99 = false := by kernel_rfl
theorem PLC_cut0 (a : Plc) : List.take 72 (PLC a) = C12 a.x := rfl
theorem PLC_cut1 (a : Plc) : List.take 72 (List.drop 72 (PLC a)) = C12 a.y := rfl
theorem PLV_eq (d : Nat) (a b : Plc) (w : World) : (Op.equalIn (d + 6) 99 (PLV a) (PLV b)).run Tryz.prog w = .ok (decide (a = b)) w := by
  have hE : ∀ (a b : F12) (w : World), (Op.equalIn (d + 5) 49 (V12 a) (V12 b)).run Tryz.prog w = .ok (decide (a = b)) w := fun a b w => C12_eq d a b w
  have hp0 : ∀ (a : Plc) (w : World), (part 49 (PLC a).toArray 0).run Tryz.prog w = .ok (V12 a.x) w := fun x w => by
    simp [part, Sem.run_bind, Tryz.isAgg49, Tryz.sizeOf49, PLC_cut0, V12]
  have hp1 : ∀ (a : Plc) (w : World), (part 49 (PLC a).toArray 72).run Tryz.prog w = .ok (V12 a.y) w := fun x w => by
    simp [part, Sem.run_bind, Tryz.isAgg49, Tryz.sizeOf49, PLC_cut1, V12]
  unfold PLV
  rw [show d + 6 = (d + 5) + 1 from rfl, Op.equalIn.eq_def]
  simp only [Sem.run_bind, run_underlying Tryz.underlying99, Result.andThen_ok, run_program, notHeldPL, Bool.false_eq_true, if_false]
  simp only [List.forIn_toArray, List.forIn_cons, List.forIn_nil]
  by_cases h0 : a.x = b.x
  · by_cases h1 : a.y = b.y
    · have : a = b := by cases a; cases b; simp_all
      subst this
      simp [Sem.run_bind, hp0, hp1, hE]
    · have : a ≠ b := fun e => h1 (by rw [e])
      simp [Sem.run_bind, h0, h1, this, hp0, hp1, hE]
  · have : a ≠ b := fun e => h0 (by rw [e])
    simp [Sem.run_bind, h0, this, hp0, hp1, hE]
theorem guardPL (op : BinOp) (x y : Operand) (cs ds : Array Value) (w : World) : (eqGuard op 99 x y (.agg cs) (.agg ds)).run Tryz.prog w = .ok () w := by
  have h : Tryz.prog.eqGuardType Tryz.prog.depth 99 = false := by kernel_rfl
  unfold eqGuard
  cases op <;> simp [Sem.run_bind, h]
theorem eqlPL (a b : Plc) (w : World) : (binOp .eql 99 (PLV a) (PLV b)).run Tryz.prog w = .ok (.bool (decide (a = b))) w := by
  have := PLV_eq 9994 a b w
  unfold PLV at *
  simp [binOp, Sem.run_bind, Op.equal, Op.maxDepth, this]
theorem neqPL (a b : Plc) (w : World) : (binOp .neq 99 (PLV a) (PLV b)).run Tryz.prog w = .ok (.bool (!decide (a = b))) w := by
  have := PLV_eq 9994 a b w
  unfold PLV at *
  simp [binOp, Sem.run_bind, Op.equal, Op.maxDepth, this]
theorem qPL : EqT Tryz.prog 99 PLV := ⟨fun _ _ _ _ _ w => guardPL _ _ _ _ _ w, eqlPL, neqPL⟩
end Go.Proofs.YthnfgmhehfombaaGreatDoor.fpn

/- Package pairing: lines, places. -/
namespace Go.Proofs.YthnfgmhehfombaaGreatDoor.fpn
open Go.RowKit Pl EC
set_option linter.unusedVariables false
set_option linter.unusedSimpArgs false
set_option maxRecDepth 4000

set_option maxHeartbeats 4000000 in
theorem pairSlopeT {G : World → Prop} (K : FpK G) (a : Plc) (w : World) (hg : G w) (h : a.y + a.y ≠ 0) : Calls Tryz.prog 102 #[PLV a, PLV a] w (Ret (V12 (F12.sT a)) w) := by
  have hp0 := Heap.start w
  go_enter Tryz.func102, Tryz.ntmps102
  refine wp_seq_k (fun K1 k1 => ?_)
  refine gs [.alloc (PLC a), .alloc (PLC a), .alloc (C12 0)] [0, 1, 2] [0, 0, 0] (fun L => [PLV a, PLV a, L.p 0, L.p 1, L.p 2] ++ U 41) (fun L => [(L.b 0, PLC a), (L.b 1, PLC a), (L.b 2, C12 0)]) hp0 ⟨
    oB, oB, oZ r12,
    trivial⟩ (fun L0 w1 hp1 => ?_)
  refine k1 _ _ ?_
  refine wp_seq_k (fun K2 k2 => ?_)
  refine drD [.det (pt (L0.b 1) 72), .det (V12 a.y), .det (pt (L0.b 0) 72), .det (V12 a.y), .det (V12 (a.y - a.y)), .det (L0.p 1), .det (V12 a.x), .det (L0.p 0), .det (V12 a.x), .det (V12 (a.x - a.x)), .alloc (C12 0), .alloc (C12 0), .store (.new 10) 0 (C12 (a.y - a.y)) (C12 (a.y - a.y)), .store (.new 11) 0 (C12 (a.x - a.x)) (C12 (a.x - a.x))] [0, 1, 2, 3, 4, 5, 6, 7, 8, 9, 10, 11, 12, 13] [0, 1, 0, 4, 15, 0, 32, 0, 128, 511, 0, 0, 4095, 8191] (fun L d => D d 0 2 ++ ([L0.p 0, L0.p 1, L0.p 2, L.p 10, L.p 11] ++ D d 7 39)) (fun L => [(L0.b 0, PLC a), (L0.b 1, PLC a), (L0.b 2, C12 0), (L.b 10, C12 (a.y - a.y)), (L.b 11, C12 (a.x - a.x))]) hp1 ⟨
    oF fPL1, oL 1 72 r12, oF fPL1, oL 0 72 r12, oC K.stay hg (fp12Sub K a.y a.y), oF fPL0, oL 1 0 r12, oF fPL0, oL 0 0 r12, oC K.stay hg (fp12Sub K a.x a.x), oZ r12,
    oZ r12, oT r12, oT r12,
    trivial⟩ (fun L1 _ w2 hp2 => ?_)
  refine k2 _ _ ?_
  refine wp_seq_k (fun K3 k3 => ?_)
  refine wp_seq_k (fun K4 k4 => ?_)
  refine gsD [.det (PLV a), .det (PLV a), .det (.bool true)] [0, 1, 2] [0, 0, 3] (fun L d => D d 0 2 ++ ([L0.p 0, d 3, L0.p 2, L1.p 10, L1.p 11] ++ (D d 7 15 ++ ([.bool true] ++ D d 23 23)))) (fun L => [(L0.b 0, PLC a), (L0.b 1, PLC a), (L0.b 2, C12 0), (L1.b 10, C12 (a.y - a.y)), (L1.b 11, C12 (a.x - a.x))]) hp2 ⟨
    oL 0 0 rPL, oL 1 0 rPL, oE (a := a) (b := a) qPL (yes rfl),
    trivial⟩ (fun L2 _ w3 hp3 => ?_)
  refine k4 _ _ ?_
  refine wp_cond_true (by kernel_rfl) ?_
  refine wp_seq_k (fun K5 k5 => ?_)
  refine gsD [.det (L0.p 0), .det (V12 a.x), .det (L0.p 0), .det (V12 a.x), .det (V12 (a.x * a.x)), .alloc (C12 0), .store (.new 5) 0 (C12 (a.x * a.x)) (C12 (a.x * a.x))] [0, 1, 2, 3, 4, 5, 6] [0, 1, 0, 4, 15, 0, 63] (fun L d => D d 0 2 ++ ([L0.p 0, d 3, L0.p 2, L1.p 10, L1.p 11, L.p 5] ++ D d 8 38)) (fun L => [(L0.b 0, PLC a), (L0.b 1, PLC a), (L0.b 2, C12 0), (L1.b 10, C12 (a.y - a.y)), (L1.b 11, C12 (a.x - a.x)), (L.b 5, C12 (a.x * a.x))]) hp3 ⟨
    oF fPL0, oL 0 0 r12, oF fPL0, oL 0 0 r12, oC K.stay hg (fp12Mul K a.x a.x), oZ r12, oT r12,
    trivial⟩ (fun L3 _ w4 hp4 => ?_)
  refine k5 _ _ ?_
  refine drD [.det (V12 (a.x * a.x)), .det (V12 (a.x * a.x)), .det (V12 ((a.x * a.x) + (a.x * a.x))), .det (V12 (a.x * a.x)), .det (V12 (((a.x * a.x) + (a.x * a.x)) + (a.x * a.x))), .det (pt (L0.b 0) 72), .det (V12 a.y), .det (pt (L0.b 0) 72), .det (V12 a.y), .det (V12 (a.y + a.y)), .store (.base 3) 0 (C12 (((a.x * a.x) + (a.x * a.x)) + (a.x * a.x))) (C12 (((a.x * a.x) + (a.x * a.x)) + (a.x * a.x))), .store (.base 4) 0 (C12 (a.y + a.y)) (C12 (a.y + a.y))] [0, 1, 2, 3, 4, 5, 6, 7, 8, 9, 10, 11] [0, 0, 3, 0, 15, 0, 32, 0, 128, 511, 1023, 2047] (fun L d => D d 0 4 ++ ([L0.p 2, L1.p 10, L1.p 11] ++ D d 7 39)) (fun L => [(L0.b 0, PLC a), (L0.b 1, PLC a), (L0.b 2, C12 0), (L1.b 10, C12 (((a.x * a.x) + (a.x * a.x)) + (a.x * a.x))), (L1.b 11, C12 (a.y + a.y)), (L3.b 5, C12 (a.x * a.x))]) hp4 ⟨
    oL 5 0 r12, oL 5 0 r12, oC K.stay hg (fp12Add K (a.x * a.x) (a.x * a.x)), oL 5 0 r12, oC K.stay hg (fp12Add K ((a.x * a.x) + (a.x * a.x)) (a.x * a.x)), oF fPL1,
    oL 0 72 r12, oF fPL1, oL 0 72 r12, oC K.stay hg (fp12Add K a.y a.y), oT r12, oT r12,
    trivial⟩ (fun L4 _ w5 hp5 => ?_)
  refine k3 _ _ ?_
  refine wp_seq_k (fun K6 k6 => ?_)
  refine gsD [.det (V12 (a.y + a.y)), .det (.tuple #[V12 (F12.inv (a.y + a.y)), .int .i64 0]), .det (.tuple #[V12 (F12.inv (a.y + a.y)), .int .i64 0]), .det (V12 (F12.inv (a.y + a.y))), .det (.int .i64 0), .alloc (C12 0), .store (.new 5) 0 (C12 (F12.inv (a.y + a.y))) (C12 (F12.inv (a.y + a.y))), .det (.int .i64 0)] [0, 1, 2, 3, 4, 5, 6, 7] [0, 1, 3, 7, 7, 0, 47, 127] (fun L d => D d 0 4 ++ ([L0.p 2, L1.p 10] ++ (D d 6 2 ++ ([L.p 5] ++ D d 9 37)))) (fun L => [(L0.b 0, PLC a), (L0.b 1, PLC a), (L0.b 2, C12 0), (L1.b 10, C12 (((a.x * a.x) + (a.x * a.x)) + (a.x * a.x))), (L1.b 11, C12 (a.y + a.y)), (L3.b 5, C12 (a.x * a.x)), (L.b 5, C12 (F12.inv (a.y + a.y)))]) hp5 ⟨
    oL 4 0 r12, oH (v := .tuple #[V12 (F12.inv (a.y + a.y)), .int .i64 0]) (vs := #[V12 (a.y + a.y)]) (fun w hb _ => fp12Inv K _ w (K.stay hg hb) (F12.ne_norm h)),
    oM, oX, oX, oZ r12, oT r12, oA,
    trivial⟩ (fun L5 _ w6 hp6 => ?_)
  refine k6 _ _ ?_
  refine wp_seq_k (fun K7 k7 => ?_)
  refine gsD [.det (V12 (((a.x * a.x) + (a.x * a.x)) + (a.x * a.x))), .det (V12 (F12.inv (a.y + a.y))), .det (V12 ((((a.x * a.x) + (a.x * a.x)) + (a.x * a.x)) * (F12.inv (a.y + a.y)))), .store (.base 2) 0 (C12 ((((a.x * a.x) + (a.x * a.x)) + (a.x * a.x)) * (F12.inv (a.y + a.y)))) (C12 ((((a.x * a.x) + (a.x * a.x)) + (a.x * a.x)) * (F12.inv (a.y + a.y))))] [0, 1, 2, 3] [0, 0, 3, 7] (fun L d => D d 0 4 ++ ([L0.p 2] ++ D d 5 41)) (fun L => [(L0.b 0, PLC a), (L0.b 1, PLC a), (L0.b 2, C12 ((((a.x * a.x) + (a.x * a.x)) + (a.x * a.x)) * (F12.inv (a.y + a.y)))), (L1.b 10, C12 (((a.x * a.x) + (a.x * a.x)) + (a.x * a.x))), (L1.b 11, C12 (a.y + a.y)), (L3.b 5, C12 (a.x * a.x)), (L5.b 5, C12 (F12.inv (a.y + a.y)))]) hp6 ⟨
    oL 3 0 r12, oL 6 0 r12, oC K.stay hg (fp12Mul K (((a.x * a.x) + (a.x * a.x)) + (a.x * a.x)) (F12.inv (a.y + a.y))), oT r12,
    trivial⟩ (fun L6 _ w7 hp7 => ?_)
  refine k7 _ _ ?_
  refine wp_ret ?_
  refine bodyPost_ret (v := V12 ((((a.x * a.x) + (a.x * a.x)) + (a.x * a.x)) * (F12.inv (a.y + a.y)))) ?_ rfl ?_
  · exact rc r12 rfl (by kernel_rfl) (hp7.bound 2 rfl).2
  · exact ⟨rfl, hp7.bel⟩
set_option maxHeartbeats 4000000 in
theorem pairSlopeN {G : World → Prop} (K : FpK G) (a b : Plc) (w : World) (hg : G w) (h : a.x ≠ b.x) : Calls Tryz.prog 102 #[PLV a, PLV b] w (Ret (V12 (F12.sN a b)) w) := by
  have hp0 := Heap.start w
  go_enter Tryz.func102, Tryz.ntmps102
  refine wp_seq_k (fun K1 k1 => ?_)
  refine gs [.alloc (PLC a), .alloc (PLC b), .alloc (C12 0)] [0, 1, 2] [0, 0, 0] (fun L => [PLV a, PLV b, L.p 0, L.p 1, L.p 2] ++ U 41) (fun L => [(L.b 0, PLC a), (L.b 1, PLC b), (L.b 2, C12 0)]) hp0 ⟨
    oB, oB, oZ r12,
    trivial⟩ (fun L0 w1 hp1 => ?_)
  refine k1 _ _ ?_
  refine wp_seq_k (fun K2 k2 => ?_)
  refine drD [.det (pt (L0.b 1) 72), .det (V12 b.y), .det (pt (L0.b 0) 72), .det (V12 a.y), .det (V12 (b.y - a.y)), .det (L0.p 1), .det (V12 b.x), .det (L0.p 0), .det (V12 a.x), .det (V12 (b.x - a.x)), .alloc (C12 0), .alloc (C12 0), .store (.new 10) 0 (C12 (b.y - a.y)) (C12 (b.y - a.y)), .store (.new 11) 0 (C12 (b.x - a.x)) (C12 (b.x - a.x))] [0, 1, 2, 3, 4, 5, 6, 7, 8, 9, 10, 11, 12, 13] [0, 1, 0, 4, 15, 0, 32, 0, 128, 511, 0, 0, 4095, 8191] (fun L d => D d 0 2 ++ ([L0.p 0, L0.p 1, L0.p 2, L.p 10, L.p 11] ++ D d 7 39)) (fun L => [(L0.b 0, PLC a), (L0.b 1, PLC b), (L0.b 2, C12 0), (L.b 10, C12 (b.y - a.y)), (L.b 11, C12 (b.x - a.x))]) hp1 ⟨
    oF fPL1, oL 1 72 r12, oF fPL1, oL 0 72 r12, oC K.stay hg (fp12Sub K b.y a.y), oF fPL0, oL 1 0 r12, oF fPL0, oL 0 0 r12, oC K.stay hg (fp12Sub K b.x a.x), oZ r12,
    oZ r12, oT r12, oT r12,
    trivial⟩ (fun L1 _ w2 hp2 => ?_)
  refine k2 _ _ ?_
  refine wp_seq_k (fun K3 k3 => ?_)
  refine wp_seq_k (fun K4 k4 => ?_)
  refine gsD [.det (PLV a), .det (PLV b), .det (.bool false)] [0, 1, 2] [0, 0, 3] (fun L d => D d 0 4 ++ ([L0.p 2, L1.p 10, L1.p 11] ++ (D d 7 15 ++ ([.bool false] ++ D d 23 23)))) (fun L => [(L0.b 0, PLC a), (L0.b 1, PLC b), (L0.b 2, C12 0), (L1.b 10, C12 (b.y - a.y)), (L1.b 11, C12 (b.x - a.x))]) hp2 ⟨
    oL 0 0 rPL, oL 1 0 rPL, oE (a := a) (b := b) qPL (nay (fun e => h (congrArg Plc.x e))),
    trivial⟩ (fun L2 _ w3 hp3 => ?_)
  refine k4 _ _ ?_
  refine wp_cond_false (by kernel_rfl) ?_
  refine skips ?_
  refine k3 _ _ ?_
  refine wp_seq_k (fun K5 k5 => ?_)
  refine gsD [.det (V12 (b.x - a.x)), .det (.tuple #[V12 (F12.inv (b.x - a.x)), .int .i64 0]), .det (.tuple #[V12 (F12.inv (b.x - a.x)), .int .i64 0]), .det (V12 (F12.inv (b.x - a.x))), .det (.int .i64 0), .alloc (C12 0), .store (.new 5) 0 (C12 (F12.inv (b.x - a.x))) (C12 (F12.inv (b.x - a.x))), .det (.int .i64 0)] [0, 1, 2, 3, 4, 5, 6, 7] [0, 1, 3, 7, 7, 0, 47, 127] (fun L d => D d 0 4 ++ ([L0.p 2, L1.p 10] ++ (D d 6 2 ++ ([L.p 5] ++ D d 9 37)))) (fun L => [(L0.b 0, PLC a), (L0.b 1, PLC b), (L0.b 2, C12 0), (L1.b 10, C12 (b.y - a.y)), (L1.b 11, C12 (b.x - a.x)), (L.b 5, C12 (F12.inv (b.x - a.x)))]) hp3 ⟨
    oL 4 0 r12, oH (v := .tuple #[V12 (F12.inv (b.x - a.x)), .int .i64 0]) (vs := #[V12 (b.x - a.x)]) (fun w hb _ => fp12Inv K _ w (K.stay hg hb) (F12.ne_norm (fun e => h (EC.dz e).symm))),
    oM, oX, oX, oZ r12, oT r12, oA,
    trivial⟩ (fun L3 _ w4 hp4 => ?_)
  refine k5 _ _ ?_
  refine wp_seq_k (fun K6 k6 => ?_)
  refine gsD [.det (V12 (b.y - a.y)), .det (V12 (F12.inv (b.x - a.x))), .det (V12 ((b.y - a.y) * (F12.inv (b.x - a.x)))), .store (.base 2) 0 (C12 ((b.y - a.y) * (F12.inv (b.x - a.x)))) (C12 ((b.y - a.y) * (F12.inv (b.x - a.x))))] [0, 1, 2, 3] [0, 0, 3, 7] (fun L d => D d 0 4 ++ ([L0.p 2] ++ D d 5 41)) (fun L => [(L0.b 0, PLC a), (L0.b 1, PLC b), (L0.b 2, C12 ((b.y - a.y) * (F12.inv (b.x - a.x)))), (L1.b 10, C12 (b.y - a.y)), (L1.b 11, C12 (b.x - a.x)), (L3.b 5, C12 (F12.inv (b.x - a.x)))]) hp4 ⟨
    oL 3 0 r12, oL 5 0 r12, oC K.stay hg (fp12Mul K (b.y - a.y) (F12.inv (b.x - a.x))), oT r12,
    trivial⟩ (fun L4 _ w5 hp5 => ?_)
  refine k6 _ _ ?_
  refine wp_ret ?_
  refine bodyPost_ret (v := V12 ((b.y - a.y) * (F12.inv (b.x - a.x)))) ?_ rfl ?_
  · exact rc r12 rfl (by kernel_rfl) (hp5.bound 2 rfl).2
  · exact ⟨rfl, hp5.bel⟩
set_option maxHeartbeats 4000000 in
theorem pairLine {G : World → Prop} (K : FpK G) (a : Plc) (s : F12) (p : Plc) (w : World) (hg : G w) : Calls Tryz.prog 103 #[PLV a, V12 s, PLV p] w (Ret (V12 (F12.ln a s p)) w) := by
  have hp0 := Heap.start w
  go_enter Tryz.func103, Tryz.ntmps103
  refine wp_seq_k (fun K1 k1 => ?_)
  refine gsD [.alloc (PLC a), .alloc (C12 s), .alloc (PLC p), .alloc (C12 0)] [0, 1, 2, 3] [0, 0, 0, 0] (fun L d => D d 0 3 ++ ([L.p 0, L.p 1, L.p 2, L.p 3] ++ U 13)) (fun L => [(L.b 0, PLC a), (L.b 1, C12 s), (L.b 2, PLC p), (L.b 3, C12 0)]) hp0 ⟨
    oB, oB, oB, oZ r12,
    trivial⟩ (fun L0 _ w1 hp1 => ?_)
  refine k1 _ _ ?_
  refine wp_seq_k (fun K2 k2 => ?_)
  refine drD [.det (pt (L0.b 2) 72), .det (V12 p.y), .det (pt (L0.b 0) 72), .det (V12 a.y), .det (V12 (p.y - a.y)), .det (V12 s), .det (L0.p 2), .det (V12 p.x), .det (L0.p 0), .det (V12 a.x), .det (V12 (p.x - a.x)), .det (V12 (s * (p.x - a.x))), .det (V12 ((p.y - a.y) - (s * (p.x - a.x)))), .store (.base 3) 0 (C12 ((p.y - a.y) - (s * (p.x - a.x)))) (C12 ((p.y - a.y) - (s * (p.x - a.x))))] [0, 1, 2, 3, 4, 5, 6, 7, 8, 9, 10, 11, 12, 13] [0, 1, 0, 4, 15, 0, 0, 64, 0, 256, 991, 2047, 4095, 8191] (fun L d => D d 0 6 ++ ([L0.p 3] ++ D d 7 13)) (fun L => [(L0.b 0, PLC a), (L0.b 1, C12 s), (L0.b 2, PLC p), (L0.b 3, C12 ((p.y - a.y) - (s * (p.x - a.x))))]) hp1 ⟨
    oF fPL1, oL 2 72 r12, oF fPL1, oL 0 72 r12, oC K.stay hg (fp12Sub K p.y a.y), oL 1 0 r12, oF fPL0, oL 2 0 r12, oF fPL0, oL 0 0 r12, oC K.stay hg (fp12Sub K p.x a.x),
    oC K.stay hg (fp12Mul K s (p.x - a.x)), oC K.stay hg (fp12Sub K (p.y - a.y) (s * (p.x - a.x))), oT r12,
    trivial⟩ (fun L1 _ w2 hp2 => ?_)
  refine k2 _ _ ?_
  refine wp_ret ?_
  refine bodyPost_ret (v := V12 ((p.y - a.y) - (s * (p.x - a.x)))) ?_ rfl ?_
  · exact rc r12 rfl (by kernel_rfl) (hp2.bound 3 rfl).2
  · exact ⟨rfl, hp2.bel⟩
set_option maxHeartbeats 4000000 in
theorem pairSum {G : World → Prop} (K : FpK G) (a b : Plc) (s : F12) (w : World) (hg : G w) : Calls Tryz.prog 104 #[PLV a, PLV b, V12 s] w (Ret (PLV (F12.sm a b s)) w) := by
  have hp0 := Heap.start w
  go_enter Tryz.func104, Tryz.ntmps104
  refine wp_seq_k (fun K1 k1 => ?_)
  refine gsD [.alloc (PLC a), .alloc (PLC b), .alloc (C12 s), .alloc (PLC ⟨0, 0⟩)] [0, 1, 2, 3] [0, 0, 0, 0] (fun L d => D d 0 3 ++ ([L.p 0, L.p 1, L.p 2, L.p 3] ++ U 21)) (fun L => [(L.b 0, PLC a), (L.b 1, PLC b), (L.b 2, C12 s), (L.b 3, PLC ⟨0, 0⟩)]) hp0 ⟨
    oB, oB, oB, oZ rPL,
    trivial⟩ (fun L0 _ w1 hp1 => ?_)
  refine k1 _ _ ?_
  refine wp_seq_k (fun K2 k2 => ?_)
  refine drD [.det (V12 s), .det (V12 s), .det (V12 (s * s)), .det (L0.p 0), .det (V12 a.x), .det (V12 ((s * s) - a.x)), .det (L0.p 1), .det (V12 b.x), .det (V12 (((s * s) - a.x) - b.x)), .alloc (C12 0), .store (.new 9) 0 (C12 (((s * s) - a.x) - b.x)) (C12 (((s * s) - a.x) - b.x))] [0, 1, 2, 3, 4, 5, 6, 7, 8, 9, 10] [0, 0, 3, 0, 8, 31, 0, 64, 255, 0, 1023] (fun L d => D d 0 3 ++ ([L0.p 0, d 4, L0.p 2, L0.p 3, L.p 9] ++ D d 8 20)) (fun L => [(L0.b 0, PLC a), (L0.b 1, PLC b), (L0.b 2, C12 s), (L0.b 3, PLC ⟨0, 0⟩), (L.b 9, C12 (((s * s) - a.x) - b.x))]) hp1 ⟨
    oL 2 0 r12, oL 2 0 r12, oC K.stay hg (fp12Mul K s s), oF fPL0, oL 0 0 r12, oC K.stay hg (fp12Sub K (s * s) a.x), oF fPL0, oL 1 0 r12, oC K.stay hg (fp12Sub K ((s * s) - a.x) b.x),
    oZ r12, oT r12,
    trivial⟩ (fun L1 _ w2 hp2 => ?_)
  refine k2 _ _ ?_
  refine wp_seq_k (fun K3 k3 => ?_)
  refine drD [.det (V12 (((s * s) - a.x) - b.x)), .det (V12 s), .det (L0.p 0), .det (V12 a.x), .det (V12 (((s * s) - a.x) - b.x)), .det (V12 (a.x - (((s * s) - a.x) - b.x))), .det (V12 (s * (a.x - (((s * s) - a.x) - b.x)))), .det (pt (L0.b 0) 72), .det (V12 a.y), .det (V12 ((s * (a.x - (((s * s) - a.x) - b.x))) - a.y)), .det (PLV ⟨(((s * s) - a.x) - b.x), ((s * (a.x - (((s * s) - a.x) - b.x))) - a.y)⟩), .store (.base 3) 0 (PLC ⟨(((s * s) - a.x) - b.x), ((s * (a.x - (((s * s) - a.x) - b.x))) - a.y)⟩) (PLC ⟨(((s * s) - a.x) - b.x), ((s * (a.x - (((s * s) - a.x) - b.x))) - a.y)⟩)] [0, 1, 2, 3, 4, 5, 6, 7, 8, 9, 10, 11] [0, 0, 0, 4, 0, 28, 62, 0, 128, 510, 1023, 2047] (fun L d => D d 0 6 ++ ([L0.p 3] ++ D d 7 21)) (fun L => [(L0.b 0, PLC a), (L0.b 1, PLC b), (L0.b 2, C12 s), (L0.b 3, PLC ⟨(((s * s) - a.x) - b.x), ((s * (a.x - (((s * s) - a.x) - b.x))) - a.y)⟩), (L1.b 9, C12 (((s * s) - a.x) - b.x))]) hp2 ⟨
    oL 4 0 r12, oL 2 0 r12, oF fPL0, oL 0 0 r12, oL 4 0 r12, oC K.stay hg (fp12Sub K a.x (((s * s) - a.x) - b.x)), oC K.stay hg (fp12Mul K s (a.x - (((s * s) - a.x) - b.x))),
    oF fPL1, oL 0 72 r12, oC K.stay hg (fp12Sub K (s * (a.x - (((s * s) - a.x) - b.x))) a.y), oD (buildPL01 (((s * s) - a.x) - b.x) ((s * (a.x - (((s * s) - a.x) - b.x))) - a.y)),
    oT rPL,
    trivial⟩ (fun L2 _ w3 hp3 => ?_)
  refine k3 _ _ ?_
  refine wp_ret ?_
  refine bodyPost_ret (v := PLV ⟨(((s * s) - a.x) - b.x), ((s * (a.x - (((s * s) - a.x) - b.x))) - a.y)⟩) ?_ rfl ?_
  · exact rc rPL rfl (by kernel_rfl) (hp3.bound 3 rfl).2
  · exact ⟨rfl, hp3.bel⟩
set_option maxHeartbeats 4000000 in
theorem pairPlace1 {G : World → Prop} (K : FpK G) (x y : F) (w : World) (hg : G w) : Calls Tryz.prog 68 #[GV ⟨x, y, false⟩] w (Ret (PLV ⟨F12.e1 x, F12.e1 y⟩) w) := by
  have hp0 := Heap.start w
  go_enter Tryz.func68, Tryz.ntmps68
  refine wp_seq_k (fun K1 k1 => ?_)
  refine gsD [.alloc (GC ⟨x, y, false⟩), .alloc (PLC ⟨0, 0⟩)] [0, 1] [0, 0] (fun L d => [d 0, L.p 0, L.p 1] ++ U 11) (fun L => [(L.b 0, GC ⟨x, y, false⟩), (L.b 1, PLC ⟨0, 0⟩)]) hp0 ⟨
    oB, oZ rPL,
    trivial⟩ (fun L0 _ w1 hp1 => ?_)
  refine k1 _ _ ?_
  refine wp_seq_k (fun K2 k2 => ?_)
  refine gsD [.det (L0.p 0), .det (FV x), .det (PV ⟨x, 0⟩), .det (V6 ⟨⟨x, 0⟩, 0, 0⟩), .det (V12 (F12.emb ⟨x, 0⟩)), .det (pt (L0.b 0) 6), .det (FV y), .det (PV ⟨y, 0⟩), .det (V6 ⟨⟨y, 0⟩, 0, 0⟩), .det (V12 (F12.emb ⟨y, 0⟩)), .det (PLV ⟨(F12.emb ⟨x, 0⟩), (F12.emb ⟨y, 0⟩)⟩), .store (.base 1) 0 (PLC ⟨(F12.emb ⟨x, 0⟩), (F12.emb ⟨y, 0⟩)⟩) (PLC ⟨(F12.emb ⟨x, 0⟩), (F12.emb ⟨y, 0⟩)⟩)] [0, 1, 2, 3, 4, 5, 6, 7, 8, 9, 10, 11] [0, 1, 3, 7, 15, 0, 32, 96, 224, 480, 1023, 2047] (fun L d => D d 0 2 ++ ([L0.p 1] ++ D d 3 11)) (fun L => [(L0.b 0, GC ⟨x, y, false⟩), (L0.b 1, PLC ⟨(F12.emb ⟨x, 0⟩), (F12.emb ⟨y, 0⟩)⟩)]) hp1 ⟨
    oF fG0, oL 0 0 rF, oD (buildPa x), oD (build60 ⟨x, 0⟩), oD (buildE ⟨x, 0⟩), oF fG1, oL 0 6 rF, oD (buildPa y), oD (build60 ⟨y, 0⟩), oD (buildE ⟨y, 0⟩), oD (buildPL01 (F12.emb ⟨x, 0⟩) (F12.emb ⟨y, 0⟩)),
    oT rPL,
    trivial⟩ (fun L1 _ w2 hp2 => ?_)
  refine k2 _ _ ?_
  refine wp_ret ?_
  refine bodyPost_ret (v := PLV ⟨(F12.emb ⟨x, 0⟩), (F12.emb ⟨y, 0⟩)⟩) ?_ rfl ?_
  · exact rc rPL rfl (by kernel_rfl) (hp2.bound 1 rfl).2
  · exact ⟨rfl, hp2.bel⟩
theorem F12.w_ne0 : F12.mw 1 ≠ 0 := fun h => absurd (congrArg (fun x : F12 => x.c1.c0.c0.val) h) (by decide +kernel)
theorem F12.mw_1 : F12.mw 1 = ⟨0, ⟨⟨1, 0⟩, 0, 0⟩⟩ := by kernel_rfl
theorem F12.w_ml : F12.mw 1 * F12.ml 1 = 1 := by
  have e : F12.xin * xi = 1 := by rw [Rn.CR.mul_comm]; exact F12.xi_xin
  refine F12.ex6 ?_ ?_ ?_ ?_ ?_ ?_ <;> simp only [F12.mw, F12.ml, F12.k12_mul0, F12.k12_mul1, F12.k6_mul0, F12.k6_mul1, F12.k6_mul2, F12.k6_add0, F12.k6_add1, F12.k6_add2, F12.k6_up0, F12.k6_up1, F12.k6_up2, F12.k6_z0, F12.k6_z1, F12.k6_z2, Rn.zero_mul, Rn.mul_zero, Rn.CR.zero_add, Rn.add_zero, Rn.CR.one_mul, Rn.mul_one]
  all_goals first | exact e | rfl
theorem F12.inv_w : F12.inv (F12.mw 1) = F12.ml 1 := by
  have e := F12.fd12.back (x := F12.ml 1) F12.w_ne0
  rw [Rn.CR.mul_comm (F12.ml 1), F12.w_ml, Rn.CR.one_mul] at e
  exact e
theorem F12.up2x (x : F2) : F12.emb x * (F12.ml 1 * F12.ml 1) = F12.mx x := by rw [F12.ml_ml, Rn.mul_one, F12.emb_mx, Rn.mul_one]
theorem F12.up2y (y : F2) : F12.emb y * (F12.ml 1 * F12.ml 1 * F12.ml 1) = F12.my y := by rw [F12.ml_ml, Rn.CR.mul_comm (F12.mx _), F12.ml_mx, Rn.mul_one, Rn.mul_one, F12.emb_my, Rn.mul_one]
set_option maxHeartbeats 4000000 in
theorem pairPlace2v {G : World → Prop} (K : FpK G) (x y : F2) (v : F12) (w : World) (hg : G w) (hI : ∀ w, G w → Calls Tryz.prog 105 #[V12 ⟨0, ⟨⟨1, 0⟩, 0, 0⟩⟩] w (Ret (.tuple #[V12 v, .int .i64 0]) w)) : Calls Tryz.prog 69 #[T2.GV ⟨x, y, false⟩] w (Ret (PLV ⟨F12.emb x * (v * v), F12.emb y * (v * v * v)⟩) w) := by
  have hp0 := Heap.start w
  go_enter Tryz.func69, Tryz.ntmps69
  refine wp_seq_k (fun K1 k1 => ?_)
  refine gsD [.alloc (T2.GC ⟨x, y, false⟩), .alloc (PLC ⟨0, 0⟩)] [0, 1] [0, 0] (fun L d => [d 0, L.p 0, L.p 1] ++ U 30) (fun L => [(L.b 0, T2.GC ⟨x, y, false⟩), (L.b 1, PLC ⟨0, 0⟩)]) hp0 ⟨
    oB, oZ rPL,
    trivial⟩ (fun L0 _ w1 hp1 => ?_)
  refine k1 _ _ ?_
  refine wp_seq_k (fun K2 k2 => ?_)
  refine gsD [.det (V6 0), .det (FV 1), .det (PV ⟨1, 0⟩), .det (V6 ⟨⟨1, 0⟩, 0, 0⟩), .det (V12 ⟨0, ⟨⟨1, 0⟩, 0, 0⟩⟩), .det (.tuple #[V12 v, .int .i64 0]), .det (.tuple #[V12 v, .int .i64 0]), .det (V12 v), .det (.int .i64 0), .alloc (C12 0), .store (.new 9) 0 (C12 v) (C12 v), .det (.int .i64 0)] [0, 1, 2, 3, 4, 5, 6, 7, 8, 9, 10, 11] [0, 0, 2, 6, 15, 31, 63, 127, 127, 0, 767, 2047] (fun L d => [d 0, L0.p 0, L0.p 1, L.p 9] ++ D d 4 29) (fun L => [(L0.b 0, T2.GC ⟨x, y, false⟩), (L0.b 1, PLC ⟨0, 0⟩), (L.b 9, C12 v)]) hp1 ⟨
    oD build6n, oD buildF1, oD (buildPa 1), oD (build60 ⟨1, 0⟩), oD (build1201 0 ⟨⟨1, 0⟩, 0, 0⟩), oC K.stay hg hI, oM, oX, oX, oZ r12, oT r12, oA,
    trivial⟩ (fun L1 _ w2 hp2 => ?_)
  refine k2 _ _ ?_
  refine wp_seq_k (fun K3 k3 => ?_)
  refine gsD [.det (V12 v), .det (V12 v), .det (V12 (v * v)), .alloc (C12 0), .store (.new 3) 0 (C12 (v * v)) (C12 (v * v))] [0, 1, 2, 3, 4] [0, 0, 3, 0, 15] (fun L d => [d 0, L0.p 0, L0.p 1, L1.p 9, d 4, L.p 3] ++ D d 6 27) (fun L => [(L0.b 0, T2.GC ⟨x, y, false⟩), (L0.b 1, PLC ⟨0, 0⟩), (L1.b 9, C12 v), (L.b 3, C12 (v * v))]) hp2 ⟨
    oL 2 0 r12, oL 2 0 r12, oC K.stay hg (fp12Mul K v v), oZ r12, oT r12,
    trivial⟩ (fun L2 _ w3 hp3 => ?_)
  refine k3 _ _ ?_
  refine wp_seq_k (fun K4 k4 => ?_)
  refine drD [.det (L0.p 0), .det (PV x), .det (V6 ⟨x, 0, 0⟩), .det (V12 (F12.emb x)), .det (V12 (v * v)), .det (V12 ((F12.emb x) * (v * v))), .det (pt (L0.b 0) 12), .det (PV y), .det (V6 ⟨y, 0, 0⟩), .det (V12 (F12.emb y)), .det (V12 (v * v)), .det (V12 v), .det (V12 ((v * v) * v)), .det (V12 ((F12.emb y) * ((v * v) * v))), .det (PLV ⟨((F12.emb x) * (v * v)), ((F12.emb y) * ((v * v) * v))⟩), .store (.base 1) 0 (PLC ⟨((F12.emb x) * (v * v)), ((F12.emb y) * ((v * v) * v))⟩) (PLC ⟨((F12.emb x) * (v * v)), ((F12.emb y) * ((v * v) * v))⟩)] [0, 1, 2, 3, 4, 5, 6, 7, 8, 9, 10, 11, 12, 13, 14, 15] [0, 1, 3, 7, 0, 31, 0, 64, 192, 448, 0, 0, 3135, 8191, 16383, 32767] (fun L d => D d 0 2 ++ ([L0.p 1] ++ D d 3 30)) (fun L => [(L0.b 0, T2.GC ⟨x, y, false⟩), (L0.b 1, PLC ⟨((F12.emb x) * (v * v)), ((F12.emb y) * ((v * v) * v))⟩), (L1.b 9, C12 v), (L2.b 3, C12 (v * v))]) hp3 ⟨
    oF T2.fG0, oL 0 0 rP, oD (build60 x), oD (buildE x), oL 3 0 r12, oC K.stay hg (fp12Mul K (F12.emb x) (v * v)), oF T2.fG1, oL 0 12 rP, oD (build60 y), oD (buildE y),
    oL 3 0 r12, oL 2 0 r12, oC K.stay hg (fp12Mul K (v * v) v), oC K.stay hg (fp12Mul K (F12.emb y) ((v * v) * v)), oD (buildPL01 ((F12.emb x) * (v * v)) ((F12.emb y) * ((v * v) * v))),
    oT rPL,
    trivial⟩ (fun L3 _ w4 hp4 => ?_)
  refine k4 _ _ ?_
  refine wp_ret ?_
  refine bodyPost_ret (v := PLV ⟨((F12.emb x) * (v * v)), ((F12.emb y) * ((v * v) * v))⟩) ?_ rfl ?_
  · exact rc rPL rfl (by kernel_rfl) (hp4.bound 1 rfl).2
  · exact ⟨rfl, hp4.bel⟩
theorem pairPlace2 {G : World → Prop} (K : FpK G) (x y : F2) (w : World) (hg : G w) : Calls Tryz.prog 69 #[T2.GV ⟨x, y, false⟩] w (Ret (PLV ⟨F12.mx x, F12.my y⟩) w) := by
  have h := pairPlace2v K x y (F12.ml 1) w hg (fun w hg => by have h := fp12Inv K (F12.mw 1) w hg (F12.ne_norm F12.w_ne0); rw [F12.inv_w, F12.mw_1] at h; exact h)
  rw [F12.up2x, F12.up2y] at h
  exact h
end Go.Proofs.YthnfgmhehfombaaGreatDoor.fpn

/- Package pairing: powers, lines, places. -/
namespace Go.Proofs.YthnfgmhehfombaaGreatDoor.fpn
open Go.RowKit Pl EC
set_option linter.unusedVariables false
set_option linter.unusedSimpArgs false
set_option maxRecDepth 4000

set_option maxHeartbeats 4000000 in
theorem pairPairToP {G : World → Prop} (K : FpK G) (a : F2) (w : World) (hg : G w) : Calls Tryz.prog 133 #[PV a] w (Ret (V12 (F12.emb a.conj)) w) := by
  have hp0 := Heap.start w
  go_enter Tryz.func133, Tryz.ntmps133
  refine wp_seq_k (fun K1 k1 => ?_)
  refine gs [.alloc (PC a), .alloc (C12 0)] [0, 1] [0, 0] (fun L => [PV a, L.p 0, L.p 1] ++ U 12) (fun L => [(L.b 0, PC a), (L.b 1, C12 0)]) hp0 ⟨
    oB, oZ r12,
    trivial⟩ (fun L0 w1 hp1 => ?_)
  refine k1 _ _ ?_
  refine wp_seq_k (fun K2 k2 => ?_)
  refine gsD [.det (L0.p 0), .det (FV a.c0), .det (PV ⟨a.c0, 0⟩), .det (V6 ⟨⟨a.c0, 0⟩, 0, 0⟩), .det (V12 (F12.emb ⟨a.c0, 0⟩)), .det (FV 0), .det (pt (L0.b 0) 6), .det (FV a.c1), .det (PV ⟨0, a.c1⟩), .det (V6 ⟨⟨0, a.c1⟩, 0, 0⟩), .det (V12 (F12.emb ⟨0, a.c1⟩)), .det (V12 ((F12.emb ⟨a.c0, 0⟩) - (F12.emb ⟨0, a.c1⟩))), .store (.base 1) 0 (C12 ((F12.emb ⟨a.c0, 0⟩) - (F12.emb ⟨0, a.c1⟩))) (C12 ((F12.emb ⟨a.c0, 0⟩) - (F12.emb ⟨0, a.c1⟩)))] [0, 1, 2, 3, 4, 5, 6, 7, 8, 9, 10, 11, 12] [0, 1, 3, 7, 15, 0, 0, 64, 224, 480, 992, 2047, 4095] (fun L d => D d 0 2 ++ ([L0.p 1] ++ D d 3 12)) (fun L => [(L0.b 0, PC a), (L0.b 1, C12 ((F12.emb ⟨a.c0, 0⟩) - (F12.emb ⟨0, a.c1⟩)))]) hp1 ⟨
    oI aP, oL 0 0 rF, oD (buildPa a.c0), oD (build60 ⟨a.c0, 0⟩), oD (buildE ⟨a.c0, 0⟩), oD buildF0, oI aP, oL 0 6 rF, oD (buildP 0 a.c1), oD (build60 ⟨0, a.c1⟩),
    oD (buildE ⟨0, a.c1⟩), oC K.stay hg (fp12Sub K (F12.emb ⟨a.c0, 0⟩) (F12.emb ⟨0, a.c1⟩)), oT r12,
    trivial⟩ (fun L1 _ w2 hp2 => ?_)
  refine k2 _ _ ?_
  refine wp_ret ?_
  refine bodyPost_ret (v := V12 ((F12.emb ⟨a.c0, 0⟩) - (F12.emb ⟨0, a.c1⟩))) ?_ rfl ?_
  · exact rc r12 rfl (by kernel_rfl) (hp2.bound 1 rfl).2
  · exact ⟨congrArg (fun z => Ending.returned (V12 z)) (F12.emb_part a), hp2.bel⟩
def toPI (t : F2) (a : F12) (w : World) (b1 b2 b3 : Nat) : Nat → Act → World → Prop := fun L a' w' => ∃ (y : F12) (u5 u6 u7 u8 u9 u10 u11 u12 u13 u14 u15 u16 u17 u18 u19 u20 u21 u22 u23 u24 u25 : Value),
  a' = { tmps := #[V12 a, .pointer (some ⟨b1, 0, none⟩), .pointer (some ⟨b2, 0, none⟩), .pointer (some ⟨b3, 0, none⟩), .int .i64 ((L : Int) - 1), u5, u6, u7, u8, u9, u10, u11, u12, u13, u14, u15, u16, u17, u18, u19, u20, u21, u22, u23, u24, u25], defers := [] } ∧ L ≤ 6 ∧ F12.fhs t a L y = F12.fr a ∧ Heap w.heap.size w w' [(b1, C12 a), (b2, C12 0), (b3, C12 y)]

set_option maxHeartbeats 4000000 in
theorem pairToPt {G : World → Prop} (K : FpK G) (t : F2) (a : F12) (w : World) (hg : G w) (ht : t = F12.tw) (hT : ∀ w, G w → w.rangeAt 0 0 (PC t)) : Calls Tryz.prog 107 #[V12 a] w (Ret (V12 (F12.fr a)) w) := by
  have hp0 := Heap.start w
  go_enter Tryz.func107, Tryz.ntmps107
  refine wp_seq_k (fun K1 k1 => ?_)
  refine gs [.alloc (C12 a), .alloc (C12 0)] [0, 1] [0, 0] (fun L => [V12 a, L.p 0, L.p 1] ++ U 23) (fun L => [(L.b 0, C12 a), (L.b 1, C12 0)]) hp0 ⟨
    oB, oZ r12,
    trivial⟩ (fun L0 w1 hp1 => ?_)
  refine k1 _ _ ?_
  refine wp_seq_k (fun K2 k2 => ?_)
  refine gs [.det (V12 0), .alloc (C12 0), .store (.new 1) 0 (C12 0) (C12 0)] [0, 1, 2] [0, 0, 3] (fun L => [V12 a, L0.p 0, L0.p 1, L.p 1, undef, V12 0] ++ U 20) (fun L => [(L0.b 0, C12 a), (L0.b 1, C12 0), (L.b 1, C12 0)]) hp1 ⟨
    oD build12n, oZ r12, oT r12,
    trivial⟩ (fun L1 w2 hp2 => ?_)
  refine k2 _ _ ?_
  refine wp_seq_k (fun K3 k3 => ?_)
  refine wp_seq_k (fun K4 k4 => ?_)
  refine gs [.det (.int .i64 5)] [0] [0] (fun L => [V12 a, L0.p 0, L0.p 1, L1.p 1, .int .i64 5, V12 0] ++ U 20) (fun L => [(L0.b 0, C12 a), (L0.b 1, C12 0), (L1.b 1, C12 0)]) hp2 ⟨
    oA,
    trivial⟩ (fun L2 w3 hp3 => ?_)
  refine k4 _ _ ?_
  refine wp_block_k (fun K5 k5 => ?_)
  refine wp_loop_ghost (toPI t a w (L0.b 0) (L0.b 1) (L1.b 1)) 6 ⟨0, V12 0, undef, undef, undef, undef, undef, undef, undef, undef, undef, undef, undef, undef, undef, undef, undef, undef, undef, undef, undef, undef, rfl, Nat.le_refl _, F12.fhs_all ht a, hp3⟩ ?_
  rintro L a' W ⟨y, u5, u6, u7, u8, u9, u10, u11, u12, u13, u14, u15, u16, u17, u18, u19, u20, u21, u22, u23, u24, u25, rfl, hL, hy, hJ⟩
  rcases (show L = 1 ∨ L = 2 ∨ L = 3 ∨ L = 4 ∨ L = 5 ∨ L = 6 ∨ L = 0 by omega) with rfl | rfl | rfl | rfl | rfl | rfl | rfl
  · skip
    refine wp_seq_k (fun K6 k6 => ?_)
    refine wp_seq_k (fun K7 k7 => ?_)
    refine gs [.det (.int .i64 0), .det (.bool true)] [0, 1] [0, 1] (fun L => [V12 a, L0.p 0, L0.p 1, L1.p 1, .int .i64 0, u5, .int .i64 0, .bool true, u8, u9, u10, u11, u12, u13, u14, u15, u16, u17, u18, u19, u20, u21, u22, u23, u24, u25]) (fun L => [(L0.b 0, C12 a), (L0.b 1, C12 0), (L1.b 1, C12 y)]) hJ ⟨
      oM, oJ .i64 .i64 0 0,
      trivial⟩ (fun L3 w4 hp4 => ?_)
    refine k7 _ _ ?_
    refine wp_cond_true (by kernel_rfl) ?_
    refine skips ?_
    refine k6 _ _ ?_
    refine wp_seq_k (fun K8 k8 => ?_)
    refine wp_block_k (fun K9 k9 => ?_)
    refine dr [.det (V12 y), .det (V6 0), .det (PV t), .det (V6 ⟨t, 0, 0⟩), .det (V12 (F12.mt t)), .det (V12 (y * (F12.mt t))), .det (.int .i64 0), .det (.int .i64 0), .det (.int .i64 0), .det (.int .i64 0), .det (L0.p 0), .det (L0.p 0), .det (PV a.c0.c0), .det (V12 (F12.emb a.c0.c0.conj)), .det (V12 ((y * (F12.mt t)) + (F12.emb a.c0.c0.conj))), .store (.base 2) 0 (C12 ((y * (F12.mt t)) + (F12.emb a.c0.c0.conj))) (C12 ((y * (F12.mt t)) + (F12.emb a.c0.c0.conj)))] [0, 1, 2, 3, 4, 5, 6, 7, 8, 9, 10, 11, 12, 13, 14, 15] [0, 0, 0, 4, 14, 31, 0, 64, 0, 256, 192, 1984, 4032, 8191, 16383, 32767] (fun L => [V12 a, L0.p 0, L0.p 1, L1.p 1, .int .i64 0, u5, .int .i64 0, .bool true, u8, u9, V12 y, V6 0, PV t, V6 ⟨t, 0, 0⟩, V12 (F12.mt t), V12 (y * (F12.mt t)), .int .i64 0, .int .i64 0, .int .i64 0, .int .i64 0, L0.p 0, L0.p 0, PV a.c0.c0, V12 (F12.emb a.c0.c0.conj), V12 ((y * (F12.mt t)) + (F12.emb a.c0.c0.conj)), u25]) (fun L => [(L0.b 0, C12 a), (L0.b 1, C12 0), (L1.b 1, C12 ((y * (F12.mt t)) + (F12.emb a.c0.c0.conj)))]) hp4 ⟨
      oL 2 0 r12, oD build6n, oG rP (fun _ w hs => hT w (K.stay hg hs.bel)), oD (build60 t), oD (build12mt t), oC K.stay hg (fp12Mul K y (F12.mt t)), oM, oJ .i64 .i64 0 2,
      oM, oJ .i64 .i64 0 2, oI a12, oI a6, oL 0 0 rP, oC K.stay hg (pairPairToP K a.c0.c0), oC K.stay hg (fp12Add K (y * (F12.mt t)) (F12.emb a.c0.c0.conj)), oT r12,
      trivial⟩ (fun L4 w5 hp5 => ?_)
    refine k9 _ _ _ ?_
    refine block_normal ?_
    refine k8 _ _ ?_
    refine gs [.det (.int .i64 0), .det (.int .i64 (-1)), .det (.int .i64 (-1))] [0, 1, 2] [0, 1, 3] (fun L => [V12 a, L0.p 0, L0.p 1, L1.p 1, .int .i64 (-1), u5, .int .i64 0, .bool true, .int .i64 0, .int .i64 (-1), V12 y, V6 0, PV t, V6 ⟨t, 0, 0⟩, V12 (F12.mt t), V12 (y * (F12.mt t)), .int .i64 0, .int .i64 0, .int .i64 0, .int .i64 0, L0.p 0, L0.p 0, PV a.c0.c0, V12 (F12.emb a.c0.c0.conj), V12 ((y * (F12.mt t)) + (F12.emb a.c0.c0.conj)), u25]) (fun L => [(L0.b 0, C12 a), (L0.b 1, C12 0), (L1.b 1, C12 ((y * (F12.mt t)) + (F12.emb a.c0.c0.conj)))]) hp5 ⟨
      oM, oJ .i64 .i64 0 1, oA,
      trivial⟩ (fun L5 w6 hp6 => ?_)
    exact ⟨0, by omega, ((y * (F12.mt t)) + (F12.emb a.c0.c0.conj)), u5, .int .i64 0, .bool true, .int .i64 0, .int .i64 (-1), V12 y, V6 0, PV t, V6 ⟨t, 0, 0⟩, V12 (F12.mt t), V12 (y * (F12.mt t)), .int .i64 0, .int .i64 0, .int .i64 0, .int .i64 0, L0.p 0, L0.p 0, PV a.c0.c0, V12 (F12.emb a.c0.c0.conj), V12 ((y * (F12.mt t)) + (F12.emb a.c0.c0.conj)), u25, rfl, by omega, by have h := hy; rw [F12.fhs_s t a 0, F12.cf_0] at h; exact h, hp6⟩
  · skip
    refine wp_seq_k (fun K10 k10 => ?_)
    refine wp_seq_k (fun K11 k11 => ?_)
    refine gs [.det (.int .i64 1), .det (.bool true)] [0, 1] [0, 1] (fun L => [V12 a, L0.p 0, L0.p 1, L1.p 1, .int .i64 1, u5, .int .i64 1, .bool true, u8, u9, u10, u11, u12, u13, u14, u15, u16, u17, u18, u19, u20, u21, u22, u23, u24, u25]) (fun L => [(L0.b 0, C12 a), (L0.b 1, C12 0), (L1.b 1, C12 y)]) hJ ⟨
      oM, oJ .i64 .i64 1 0,
      trivial⟩ (fun L6 w7 hp7 => ?_)
    refine k11 _ _ ?_
    refine wp_cond_true (by kernel_rfl) ?_
    refine skips ?_
    refine k10 _ _ ?_
    refine wp_seq_k (fun K12 k12 => ?_)
    refine wp_block_k (fun K13 k13 => ?_)
    refine dr [.det (V12 y), .det (V6 0), .det (PV t), .det (V6 ⟨t, 0, 0⟩), .det (V12 (F12.mt t)), .det (V12 (y * (F12.mt t))), .det (.int .i64 1), .det (.int .i64 1), .det (.int .i64 1), .det (.int .i64 0), .det (pt (L0.b 0) 36), .det (pt (L0.b 0) 36), .det (PV a.c1.c0), .det (V12 (F12.emb a.c1.c0.conj)), .det (V12 ((y * (F12.mt t)) + (F12.emb a.c1.c0.conj))), .store (.base 2) 0 (C12 ((y * (F12.mt t)) + (F12.emb a.c1.c0.conj))) (C12 ((y * (F12.mt t)) + (F12.emb a.c1.c0.conj)))] [0, 1, 2, 3, 4, 5, 6, 7, 8, 9, 10, 11, 12, 13, 14, 15] [0, 0, 0, 4, 14, 31, 0, 64, 0, 256, 192, 1984, 4032, 8191, 16383, 32767] (fun L => [V12 a, L0.p 0, L0.p 1, L1.p 1, .int .i64 1, u5, .int .i64 1, .bool true, u8, u9, V12 y, V6 0, PV t, V6 ⟨t, 0, 0⟩, V12 (F12.mt t), V12 (y * (F12.mt t)), .int .i64 1, .int .i64 1, .int .i64 1, .int .i64 0, pt (L0.b 0) 36, pt (L0.b 0) 36, PV a.c1.c0, V12 (F12.emb a.c1.c0.conj), V12 ((y * (F12.mt t)) + (F12.emb a.c1.c0.conj)), u25]) (fun L => [(L0.b 0, C12 a), (L0.b 1, C12 0), (L1.b 1, C12 ((y * (F12.mt t)) + (F12.emb a.c1.c0.conj)))]) hp7 ⟨
      oL 2 0 r12, oD build6n, oG rP (fun _ w hs => hT w (K.stay hg hs.bel)), oD (build60 t), oD (build12mt t), oC K.stay hg (fp12Mul K y (F12.mt t)), oM, oJ .i64 .i64 1 2,
      oM, oJ .i64 .i64 1 2, oI a12, oI a6, oL 0 36 rP, oC K.stay hg (pairPairToP K a.c1.c0), oC K.stay hg (fp12Add K (y * (F12.mt t)) (F12.emb a.c1.c0.conj)), oT r12,
      trivial⟩ (fun L7 w8 hp8 => ?_)
    refine k13 _ _ _ ?_
    refine block_normal ?_
    refine k12 _ _ ?_
    refine gs [.det (.int .i64 1), .det (.int .i64 0), .det (.int .i64 0)] [0, 1, 2] [0, 1, 3] (fun L => [V12 a, L0.p 0, L0.p 1, L1.p 1, .int .i64 0, u5, .int .i64 1, .bool true, .int .i64 1, .int .i64 0, V12 y, V6 0, PV t, V6 ⟨t, 0, 0⟩, V12 (F12.mt t), V12 (y * (F12.mt t)), .int .i64 1, .int .i64 1, .int .i64 1, .int .i64 0, pt (L0.b 0) 36, pt (L0.b 0) 36, PV a.c1.c0, V12 (F12.emb a.c1.c0.conj), V12 ((y * (F12.mt t)) + (F12.emb a.c1.c0.conj)), u25]) (fun L => [(L0.b 0, C12 a), (L0.b 1, C12 0), (L1.b 1, C12 ((y * (F12.mt t)) + (F12.emb a.c1.c0.conj)))]) hp8 ⟨
      oM, oJ .i64 .i64 1 1, oA,
      trivial⟩ (fun L8 w9 hp9 => ?_)
    exact ⟨1, by omega, ((y * (F12.mt t)) + (F12.emb a.c1.c0.conj)), u5, .int .i64 1, .bool true, .int .i64 1, .int .i64 0, V12 y, V6 0, PV t, V6 ⟨t, 0, 0⟩, V12 (F12.mt t), V12 (y * (F12.mt t)), .int .i64 1, .int .i64 1, .int .i64 1, .int .i64 0, pt (L0.b 0) 36, pt (L0.b 0) 36, PV a.c1.c0, V12 (F12.emb a.c1.c0.conj), V12 ((y * (F12.mt t)) + (F12.emb a.c1.c0.conj)), u25, rfl, by omega, by have h := hy; rw [F12.fhs_s t a 1, F12.cf_1] at h; exact h, hp9⟩
  · skip
    refine wp_seq_k (fun K14 k14 => ?_)
    refine wp_seq_k (fun K15 k15 => ?_)
    refine gs [.det (.int .i64 2), .det (.bool true)] [0, 1] [0, 1] (fun L => [V12 a, L0.p 0, L0.p 1, L1.p 1, .int .i64 2, u5, .int .i64 2, .bool true, u8, u9, u10, u11, u12, u13, u14, u15, u16, u17, u18, u19, u20, u21, u22, u23, u24, u25]) (fun L => [(L0.b 0, C12 a), (L0.b 1, C12 0), (L1.b 1, C12 y)]) hJ ⟨
      oM, oJ .i64 .i64 2 0,
      trivial⟩ (fun L9 w10 hp10 => ?_)
    refine k15 _ _ ?_
    refine wp_cond_true (by kernel_rfl) ?_
    refine skips ?_
    refine k14 _ _ ?_
    refine wp_seq_k (fun K16 k16 => ?_)
    refine wp_block_k (fun K17 k17 => ?_)
    refine dr [.det (V12 y), .det (V6 0), .det (PV t), .det (V6 ⟨t, 0, 0⟩), .det (V12 (F12.mt t)), .det (V12 (y * (F12.mt t))), .det (.int .i64 2), .det (.int .i64 0), .det (.int .i64 2), .det (.int .i64 1), .det (L0.p 0), .det (pt (L0.b 0) 12), .det (PV a.c0.c1), .det (V12 (F12.emb a.c0.c1.conj)), .det (V12 ((y * (F12.mt t)) + (F12.emb a.c0.c1.conj))), .store (.base 2) 0 (C12 ((y * (F12.mt t)) + (F12.emb a.c0.c1.conj))) (C12 ((y * (F12.mt t)) + (F12.emb a.c0.c1.conj)))] [0, 1, 2, 3, 4, 5, 6, 7, 8, 9, 10, 11, 12, 13, 14, 15] [0, 0, 0, 4, 14, 31, 0, 64, 0, 256, 192, 1984, 4032, 8191, 16383, 32767] (fun L => [V12 a, L0.p 0, L0.p 1, L1.p 1, .int .i64 2, u5, .int .i64 2, .bool true, u8, u9, V12 y, V6 0, PV t, V6 ⟨t, 0, 0⟩, V12 (F12.mt t), V12 (y * (F12.mt t)), .int .i64 2, .int .i64 0, .int .i64 2, .int .i64 1, L0.p 0, pt (L0.b 0) 12, PV a.c0.c1, V12 (F12.emb a.c0.c1.conj), V12 ((y * (F12.mt t)) + (F12.emb a.c0.c1.conj)), u25]) (fun L => [(L0.b 0, C12 a), (L0.b 1, C12 0), (L1.b 1, C12 ((y * (F12.mt t)) + (F12.emb a.c0.c1.conj)))]) hp10 ⟨
      oL 2 0 r12, oD build6n, oG rP (fun _ w hs => hT w (K.stay hg hs.bel)), oD (build60 t), oD (build12mt t), oC K.stay hg (fp12Mul K y (F12.mt t)), oM, oJ .i64 .i64 2 2,
      oM, oJ .i64 .i64 2 2, oI a12, oI a6, oL 0 12 rP, oC K.stay hg (pairPairToP K a.c0.c1), oC K.stay hg (fp12Add K (y * (F12.mt t)) (F12.emb a.c0.c1.conj)), oT r12,
      trivial⟩ (fun L10 w11 hp11 => ?_)
    refine k17 _ _ _ ?_
    refine block_normal ?_
    refine k16 _ _ ?_
    refine gs [.det (.int .i64 2), .det (.int .i64 1), .det (.int .i64 1)] [0, 1, 2] [0, 1, 3] (fun L => [V12 a, L0.p 0, L0.p 1, L1.p 1, .int .i64 1, u5, .int .i64 2, .bool true, .int .i64 2, .int .i64 1, V12 y, V6 0, PV t, V6 ⟨t, 0, 0⟩, V12 (F12.mt t), V12 (y * (F12.mt t)), .int .i64 2, .int .i64 0, .int .i64 2, .int .i64 1, L0.p 0, pt (L0.b 0) 12, PV a.c0.c1, V12 (F12.emb a.c0.c1.conj), V12 ((y * (F12.mt t)) + (F12.emb a.c0.c1.conj)), u25]) (fun L => [(L0.b 0, C12 a), (L0.b 1, C12 0), (L1.b 1, C12 ((y * (F12.mt t)) + (F12.emb a.c0.c1.conj)))]) hp11 ⟨
      oM, oJ .i64 .i64 2 1, oA,
      trivial⟩ (fun L11 w12 hp12 => ?_)
    exact ⟨2, by omega, ((y * (F12.mt t)) + (F12.emb a.c0.c1.conj)), u5, .int .i64 2, .bool true, .int .i64 2, .int .i64 1, V12 y, V6 0, PV t, V6 ⟨t, 0, 0⟩, V12 (F12.mt t), V12 (y * (F12.mt t)), .int .i64 2, .int .i64 0, .int .i64 2, .int .i64 1, L0.p 0, pt (L0.b 0) 12, PV a.c0.c1, V12 (F12.emb a.c0.c1.conj), V12 ((y * (F12.mt t)) + (F12.emb a.c0.c1.conj)), u25, rfl, by omega, by have h := hy; rw [F12.fhs_s t a 2, F12.cf_2] at h; exact h, hp12⟩
  · skip
    refine wp_seq_k (fun K18 k18 => ?_)
    refine wp_seq_k (fun K19 k19 => ?_)
    refine gs [.det (.int .i64 3), .det (.bool true)] [0, 1] [0, 1] (fun L => [V12 a, L0.p 0, L0.p 1, L1.p 1, .int .i64 3, u5, .int .i64 3, .bool true, u8, u9, u10, u11, u12, u13, u14, u15, u16, u17, u18, u19, u20, u21, u22, u23, u24, u25]) (fun L => [(L0.b 0, C12 a), (L0.b 1, C12 0), (L1.b 1, C12 y)]) hJ ⟨
      oM, oJ .i64 .i64 3 0,
      trivial⟩ (fun L12 w13 hp13 => ?_)
    refine k19 _ _ ?_
    refine wp_cond_true (by kernel_rfl) ?_
    refine skips ?_
    refine k18 _ _ ?_
    refine wp_seq_k (fun K20 k20 => ?_)
    refine wp_block_k (fun K21 k21 => ?_)
    refine dr [.det (V12 y), .det (V6 0), .det (PV t), .det (V6 ⟨t, 0, 0⟩), .det (V12 (F12.mt t)), .det (V12 (y * (F12.mt t))), .det (.int .i64 3), .det (.int .i64 1), .det (.int .i64 3), .det (.int .i64 1), .det (pt (L0.b 0) 36), .det (pt (L0.b 0) 48), .det (PV a.c1.c1), .det (V12 (F12.emb a.c1.c1.conj)), .det (V12 ((y * (F12.mt t)) + (F12.emb a.c1.c1.conj))), .store (.base 2) 0 (C12 ((y * (F12.mt t)) + (F12.emb a.c1.c1.conj))) (C12 ((y * (F12.mt t)) + (F12.emb a.c1.c1.conj)))] [0, 1, 2, 3, 4, 5, 6, 7, 8, 9, 10, 11, 12, 13, 14, 15] [0, 0, 0, 4, 14, 31, 0, 64, 0, 256, 192, 1984, 4032, 8191, 16383, 32767] (fun L => [V12 a, L0.p 0, L0.p 1, L1.p 1, .int .i64 3, u5, .int .i64 3, .bool true, u8, u9, V12 y, V6 0, PV t, V6 ⟨t, 0, 0⟩, V12 (F12.mt t), V12 (y * (F12.mt t)), .int .i64 3, .int .i64 1, .int .i64 3, .int .i64 1, pt (L0.b 0) 36, pt (L0.b 0) 48, PV a.c1.c1, V12 (F12.emb a.c1.c1.conj), V12 ((y * (F12.mt t)) + (F12.emb a.c1.c1.conj)), u25]) (fun L => [(L0.b 0, C12 a), (L0.b 1, C12 0), (L1.b 1, C12 ((y * (F12.mt t)) + (F12.emb a.c1.c1.conj)))]) hp13 ⟨
      oL 2 0 r12, oD build6n, oG rP (fun _ w hs => hT w (K.stay hg hs.bel)), oD (build60 t), oD (build12mt t), oC K.stay hg (fp12Mul K y (F12.mt t)), oM, oJ .i64 .i64 3 2,
      oM, oJ .i64 .i64 3 2, oI a12, oI a6, oL 0 48 rP, oC K.stay hg (pairPairToP K a.c1.c1), oC K.stay hg (fp12Add K (y * (F12.mt t)) (F12.emb a.c1.c1.conj)), oT r12,
      trivial⟩ (fun L13 w14 hp14 => ?_)
    refine k21 _ _ _ ?_
    refine block_normal ?_
    refine k20 _ _ ?_
    refine gs [.det (.int .i64 3), .det (.int .i64 2), .det (.int .i64 2)] [0, 1, 2] [0, 1, 3] (fun L => [V12 a, L0.p 0, L0.p 1, L1.p 1, .int .i64 2, u5, .int .i64 3, .bool true, .int .i64 3, .int .i64 2, V12 y, V6 0, PV t, V6 ⟨t, 0, 0⟩, V12 (F12.mt t), V12 (y * (F12.mt t)), .int .i64 3, .int .i64 1, .int .i64 3, .int .i64 1, pt (L0.b 0) 36, pt (L0.b 0) 48, PV a.c1.c1, V12 (F12.emb a.c1.c1.conj), V12 ((y * (F12.mt t)) + (F12.emb a.c1.c1.conj)), u25]) (fun L => [(L0.b 0, C12 a), (L0.b 1, C12 0), (L1.b 1, C12 ((y * (F12.mt t)) + (F12.emb a.c1.c1.conj)))]) hp14 ⟨
      oM, oJ .i64 .i64 3 1, oA,
      trivial⟩ (fun L14 w15 hp15 => ?_)
    exact ⟨3, by omega, ((y * (F12.mt t)) + (F12.emb a.c1.c1.conj)), u5, .int .i64 3, .bool true, .int .i64 3, .int .i64 2, V12 y, V6 0, PV t, V6 ⟨t, 0, 0⟩, V12 (F12.mt t), V12 (y * (F12.mt t)), .int .i64 3, .int .i64 1, .int .i64 3, .int .i64 1, pt (L0.b 0) 36, pt (L0.b 0) 48, PV a.c1.c1, V12 (F12.emb a.c1.c1.conj), V12 ((y * (F12.mt t)) + (F12.emb a.c1.c1.conj)), u25, rfl, by omega, by have h := hy; rw [F12.fhs_s t a 3, F12.cf_3] at h; exact h, hp15⟩
  · skip
    refine wp_seq_k (fun K22 k22 => ?_)
    refine wp_seq_k (fun K23 k23 => ?_)
    refine gs [.det (.int .i64 4), .det (.bool true)] [0, 1] [0, 1] (fun L => [V12 a, L0.p 0, L0.p 1, L1.p 1, .int .i64 4, u5, .int .i64 4, .bool true, u8, u9, u10, u11, u12, u13, u14, u15, u16, u17, u18, u19, u20, u21, u22, u23, u24, u25]) (fun L => [(L0.b 0, C12 a), (L0.b 1, C12 0), (L1.b 1, C12 y)]) hJ ⟨
      oM, oJ .i64 .i64 4 0,
      trivial⟩ (fun L15 w16 hp16 => ?_)
    refine k23 _ _ ?_
    refine wp_cond_true (by kernel_rfl) ?_
    refine skips ?_
    refine k22 _ _ ?_
    refine wp_seq_k (fun K24 k24 => ?_)
    refine wp_block_k (fun K25 k25 => ?_)
    refine dr [.det (V12 y), .det (V6 0), .det (PV t), .det (V6 ⟨t, 0, 0⟩), .det (V12 (F12.mt t)), .det (V12 (y * (F12.mt t))), .det (.int .i64 4), .det (.int .i64 0), .det (.int .i64 4), .det (.int .i64 2), .det (L0.p 0), .det (pt (L0.b 0) 24), .det (PV a.c0.c2), .det (V12 (F12.emb a.c0.c2.conj)), .det (V12 ((y * (F12.mt t)) + (F12.emb a.c0.c2.conj))), .store (.base 2) 0 (C12 ((y * (F12.mt t)) + (F12.emb a.c0.c2.conj))) (C12 ((y * (F12.mt t)) + (F12.emb a.c0.c2.conj)))] [0, 1, 2, 3, 4, 5, 6, 7, 8, 9, 10, 11, 12, 13, 14, 15] [0, 0, 0, 4, 14, 31, 0, 64, 0, 256, 192, 1984, 4032, 8191, 16383, 32767] (fun L => [V12 a, L0.p 0, L0.p 1, L1.p 1, .int .i64 4, u5, .int .i64 4, .bool true, u8, u9, V12 y, V6 0, PV t, V6 ⟨t, 0, 0⟩, V12 (F12.mt t), V12 (y * (F12.mt t)), .int .i64 4, .int .i64 0, .int .i64 4, .int .i64 2, L0.p 0, pt (L0.b 0) 24, PV a.c0.c2, V12 (F12.emb a.c0.c2.conj), V12 ((y * (F12.mt t)) + (F12.emb a.c0.c2.conj)), u25]) (fun L => [(L0.b 0, C12 a), (L0.b 1, C12 0), (L1.b 1, C12 ((y * (F12.mt t)) + (F12.emb a.c0.c2.conj)))]) hp16 ⟨
      oL 2 0 r12, oD build6n, oG rP (fun _ w hs => hT w (K.stay hg hs.bel)), oD (build60 t), oD (build12mt t), oC K.stay hg (fp12Mul K y (F12.mt t)), oM, oJ .i64 .i64 4 2,
      oM, oJ .i64 .i64 4 2, oI a12, oI a6, oL 0 24 rP, oC K.stay hg (pairPairToP K a.c0.c2), oC K.stay hg (fp12Add K (y * (F12.mt t)) (F12.emb a.c0.c2.conj)), oT r12,
      trivial⟩ (fun L16 w17 hp17 => ?_)
    refine k25 _ _ _ ?_
    refine block_normal ?_
    refine k24 _ _ ?_
    refine gs [.det (.int .i64 4), .det (.int .i64 3), .det (.int .i64 3)] [0, 1, 2] [0, 1, 3] (fun L => [V12 a, L0.p 0, L0.p 1, L1.p 1, .int .i64 3, u5, .int .i64 4, .bool true, .int .i64 4, .int .i64 3, V12 y, V6 0, PV t, V6 ⟨t, 0, 0⟩, V12 (F12.mt t), V12 (y * (F12.mt t)), .int .i64 4, .int .i64 0, .int .i64 4, .int .i64 2, L0.p 0, pt (L0.b 0) 24, PV a.c0.c2, V12 (F12.emb a.c0.c2.conj), V12 ((y * (F12.mt t)) + (F12.emb a.c0.c2.conj)), u25]) (fun L => [(L0.b 0, C12 a), (L0.b 1, C12 0), (L1.b 1, C12 ((y * (F12.mt t)) + (F12.emb a.c0.c2.conj)))]) hp17 ⟨
      oM, oJ .i64 .i64 4 1, oA,
      trivial⟩ (fun L17 w18 hp18 => ?_)
    exact ⟨4, by omega, ((y * (F12.mt t)) + (F12.emb a.c0.c2.conj)), u5, .int .i64 4, .bool true, .int .i64 4, .int .i64 3, V12 y, V6 0, PV t, V6 ⟨t, 0, 0⟩, V12 (F12.mt t), V12 (y * (F12.mt t)), .int .i64 4, .int .i64 0, .int .i64 4, .int .i64 2, L0.p 0, pt (L0.b 0) 24, PV a.c0.c2, V12 (F12.emb a.c0.c2.conj), V12 ((y * (F12.mt t)) + (F12.emb a.c0.c2.conj)), u25, rfl, by omega, by have h := hy; rw [F12.fhs_s t a 4, F12.cf_4] at h; exact h, hp18⟩
  · skip
    refine wp_seq_k (fun K26 k26 => ?_)
    refine wp_seq_k (fun K27 k27 => ?_)
    refine gs [.det (.int .i64 5), .det (.bool true)] [0, 1] [0, 1] (fun L => [V12 a, L0.p 0, L0.p 1, L1.p 1, .int .i64 5, u5, .int .i64 5, .bool true, u8, u9, u10, u11, u12, u13, u14, u15, u16, u17, u18, u19, u20, u21, u22, u23, u24, u25]) (fun L => [(L0.b 0, C12 a), (L0.b 1, C12 0), (L1.b 1, C12 y)]) hJ ⟨
      oM, oJ .i64 .i64 5 0,
      trivial⟩ (fun L18 w19 hp19 => ?_)
    refine k27 _ _ ?_
    refine wp_cond_true (by kernel_rfl) ?_
    refine skips ?_
    refine k26 _ _ ?_
    refine wp_seq_k (fun K28 k28 => ?_)
    refine wp_block_k (fun K29 k29 => ?_)
    refine dr [.det (V12 y), .det (V6 0), .det (PV t), .det (V6 ⟨t, 0, 0⟩), .det (V12 (F12.mt t)), .det (V12 (y * (F12.mt t))), .det (.int .i64 5), .det (.int .i64 1), .det (.int .i64 5), .det (.int .i64 2), .det (pt (L0.b 0) 36), .det (pt (L0.b 0) 60), .det (PV a.c1.c2), .det (V12 (F12.emb a.c1.c2.conj)), .det (V12 ((y * (F12.mt t)) + (F12.emb a.c1.c2.conj))), .store (.base 2) 0 (C12 ((y * (F12.mt t)) + (F12.emb a.c1.c2.conj))) (C12 ((y * (F12.mt t)) + (F12.emb a.c1.c2.conj)))] [0, 1, 2, 3, 4, 5, 6, 7, 8, 9, 10, 11, 12, 13, 14, 15] [0, 0, 0, 4, 14, 31, 0, 64, 0, 256, 192, 1984, 4032, 8191, 16383, 32767] (fun L => [V12 a, L0.p 0, L0.p 1, L1.p 1, .int .i64 5, u5, .int .i64 5, .bool true, u8, u9, V12 y, V6 0, PV t, V6 ⟨t, 0, 0⟩, V12 (F12.mt t), V12 (y * (F12.mt t)), .int .i64 5, .int .i64 1, .int .i64 5, .int .i64 2, pt (L0.b 0) 36, pt (L0.b 0) 60, PV a.c1.c2, V12 (F12.emb a.c1.c2.conj), V12 ((y * (F12.mt t)) + (F12.emb a.c1.c2.conj)), u25]) (fun L => [(L0.b 0, C12 a), (L0.b 1, C12 0), (L1.b 1, C12 ((y * (F12.mt t)) + (F12.emb a.c1.c2.conj)))]) hp19 ⟨
      oL 2 0 r12, oD build6n, oG rP (fun _ w hs => hT w (K.stay hg hs.bel)), oD (build60 t), oD (build12mt t), oC K.stay hg (fp12Mul K y (F12.mt t)), oM, oJ .i64 .i64 5 2,
      oM, oJ .i64 .i64 5 2, oI a12, oI a6, oL 0 60 rP, oC K.stay hg (pairPairToP K a.c1.c2), oC K.stay hg (fp12Add K (y * (F12.mt t)) (F12.emb a.c1.c2.conj)), oT r12,
      trivial⟩ (fun L19 w20 hp20 => ?_)
    refine k29 _ _ _ ?_
    refine block_normal ?_
    refine k28 _ _ ?_
    refine gs [.det (.int .i64 5), .det (.int .i64 4), .det (.int .i64 4)] [0, 1, 2] [0, 1, 3] (fun L => [V12 a, L0.p 0, L0.p 1, L1.p 1, .int .i64 4, u5, .int .i64 5, .bool true, .int .i64 5, .int .i64 4, V12 y, V6 0, PV t, V6 ⟨t, 0, 0⟩, V12 (F12.mt t), V12 (y * (F12.mt t)), .int .i64 5, .int .i64 1, .int .i64 5, .int .i64 2, pt (L0.b 0) 36, pt (L0.b 0) 60, PV a.c1.c2, V12 (F12.emb a.c1.c2.conj), V12 ((y * (F12.mt t)) + (F12.emb a.c1.c2.conj)), u25]) (fun L => [(L0.b 0, C12 a), (L0.b 1, C12 0), (L1.b 1, C12 ((y * (F12.mt t)) + (F12.emb a.c1.c2.conj)))]) hp20 ⟨
      oM, oJ .i64 .i64 5 1, oA,
      trivial⟩ (fun L20 w21 hp21 => ?_)
    exact ⟨5, by omega, ((y * (F12.mt t)) + (F12.emb a.c1.c2.conj)), u5, .int .i64 5, .bool true, .int .i64 5, .int .i64 4, V12 y, V6 0, PV t, V6 ⟨t, 0, 0⟩, V12 (F12.mt t), V12 (y * (F12.mt t)), .int .i64 5, .int .i64 1, .int .i64 5, .int .i64 2, pt (L0.b 0) 36, pt (L0.b 0) 60, PV a.c1.c2, V12 (F12.emb a.c1.c2.conj), V12 ((y * (F12.mt t)) + (F12.emb a.c1.c2.conj)), u25, rfl, by omega, by have h := hy; rw [F12.fhs_s t a 5, F12.cf_5] at h; exact h, hp21⟩
  refine wp_seq_k (fun K30 k30 => ?_)
  refine wp_seq_k (fun K31 k31 => ?_)
  refine gs [.det (.int .i64 (-1)), .det (.bool false)] [0, 1] [0, 1] (fun L => [V12 a, L0.p 0, L0.p 1, L1.p 1, .int .i64 (-1), u5, .int .i64 (-1), .bool false, u8, u9, u10, u11, u12, u13, u14, u15, u16, u17, u18, u19, u20, u21, u22, u23, u24, u25]) (fun L => [(L0.b 0, C12 a), (L0.b 1, C12 0), (L1.b 1, C12 y)]) hJ ⟨
    oM, oJ .i64 .i64 (-1) 0,
    trivial⟩ (fun L21 w22 hp22 => ?_)
  refine k31 _ _ ?_
  refine wp_cond_false (by kernel_rfl) ?_
  refine wp_exit ?_
  refine then_exit ?_
  refine then_exit ?_
  refine k5 _ _ _ ?_
  refine exit_in ?_
  refine k3 _ _ ?_
  refine wp_seq_k (fun K32 k32 => ?_)
  refine gs [.det (V12 y), .store (.base 1) 0 (C12 y) (C12 y)] [0, 1] [0, 1] (fun L => [V12 a, L0.p 0, L0.p 1, L1.p 1, .int .i64 (-1), u5, .int .i64 (-1), .bool false, u8, u9, u10, u11, u12, u13, u14, u15, u16, u17, u18, u19, u20, u21, u22, u23, u24, V12 y]) (fun L => [(L0.b 0, C12 a), (L0.b 1, C12 y), (L1.b 1, C12 y)]) hp22 ⟨
    oL 2 0 r12, oT r12,
    trivial⟩ (fun L22 w23 hp23 => ?_)
  refine k32 _ _ ?_
  refine wp_ret ?_
  refine bodyPost_ret (v := V12 y) ?_ rfl ?_
  · exact rc r12 rfl (by kernel_rfl) (hp23.bound 1 rfl).2
  · exact ⟨congrArg (fun z => Ending.returned (V12 z)) hy, hp23.bel⟩
theorem pairToP {G : World → Prop} (K : FpK G) (a : F12) (w : World) (hg : G w) (hT : ∀ w, G w → w.rangeAt 0 0 (PC F12.tw)) : Calls Tryz.prog 107 #[V12 a] w (Ret (V12 (F12.fr a)) w) := pairToPt K F12.tw a w hg rfl hT
set_option maxHeartbeats 4000000 in
theorem pairTo {G : World → Prop} (K : FpK G) (a : F12) (E : Nat) (w : World) (hg : G w) (hE : E < 2 ^ 64) : Calls Tryz.prog 106 #[V12 a, .int .u64 ((E : Nat) : Int)] w (Ret (V12 (npw a E)) w) := by
  have hp0 := Heap.start w
  go_enter Tryz.func106, Tryz.ntmps106
  refine wp_seq_k (fun K1 k1 => ?_)
  refine gs [.alloc (C12 a), .alloc (C12 0)] [0, 1] [0, 0] (fun L => [V12 a, .int .u64 ((E : Nat) : Int), L.p 0, undef, L.p 1] ++ U 4) (fun L => [(L.b 0, C12 a), (L.b 1, C12 0)]) hp0 ⟨
    oB, oZ r12,
    trivial⟩ (fun L0 w1 hp1 => ?_)
  refine k1 _ _ ?_
  refine wp_seq_k (fun K2 k2 => ?_)
  refine gsD [.det (V12 a), .det (.int .u64 ((E : Nat) : Int)), .any (isOne ((E : Nat) : Int)), .det (V12 (npw a E)), .store (.base 1) 0 (C12 (npw a E)) (C12 (npw a E))] [0, 1, 2, 3, 4] [0, 0, 2, 7, 15] (fun L d => D d 0 4 ++ ([L0.p 1] ++ D d 5 4)) (fun L => [(L0.b 0, C12 a), (L0.b 1, C12 (npw a E))]) hp1 ⟨
    oL 0 0 r12, oM, oS1 Tryz.underlying54 (by kernel_rfl) (by kernel_rfl), oCS (fun L => #[V12 a, L.v 2]) (fun L w hs => powOne K a E _ w (K.stay hg hs.bel) hE (hs.any 2 _ rfl rfl)),
    oT r12,
    trivial⟩ (fun L1 _ w2 hp2 => ?_)
  refine k2 _ _ ?_
  refine wp_ret ?_
  refine bodyPost_ret (v := V12 (npw a E)) ?_ rfl ?_
  · exact rc r12 rfl (by kernel_rfl) (hp2.bound 1 rfl).2
  · exact ⟨rfl, hp2.bel⟩
set_option maxHeartbeats 4000000 in
theorem pairEasy {G : World → Prop} (K : FpK G) (a : F12) (w : World) (hg : G w) (hz : a ≠ 0) (hT : ∀ w, G w → w.rangeAt 0 0 (PC F12.tw)) : Calls Tryz.prog 71 #[V12 a] w (Ret (V12 (F12.pE a)) w) := by
  have hp0 := Heap.start w
  go_enter Tryz.func71, Tryz.ntmps71
  refine wp_seq_k (fun K1 k1 => ?_)
  refine gs [.alloc (C12 a), .alloc (C12 0)] [0, 1] [0, 0] (fun L => [V12 a, L.p 0, L.p 1] ++ U 16) (fun L => [(L.b 0, C12 a), (L.b 1, C12 0)]) hp0 ⟨
    oB, oZ r12,
    trivial⟩ (fun L0 w1 hp1 => ?_)
  refine k1 _ _ ?_
  refine wp_seq_k (fun K2 k2 => ?_)
  refine gsD [.det (V12 a), .det (.tuple #[V12 a.inv, .int .i64 0]), .det (.tuple #[V12 a.inv, .int .i64 0]), .det (V12 a.inv), .det (.int .i64 0), .alloc (C12 0), .store (.new 5) 0 (C12 a.inv) (C12 a.inv), .det (.int .i64 0)] [0, 1, 2, 3, 4, 5, 6, 7] [0, 1, 3, 7, 7, 0, 47, 127] (fun L d => [d 0, L0.p 0, L0.p 1, L.p 5] ++ D d 4 15) (fun L => [(L0.b 0, C12 a), (L0.b 1, C12 0), (L.b 5, C12 a.inv)]) hp1 ⟨
    oL 0 0 r12, oH (v := .tuple #[V12 a.inv, .int .i64 0]) (vs := #[V12 a]) (fun w hb _ => fp12Inv K a w (K.stay hg hb) (F12.ne_norm hz)), oM, oX, oX, oZ r12, oT r12,
    oA,
    trivial⟩ (fun L1 _ w2 hp2 => ?_)
  refine k2 _ _ ?_
  refine wp_seq_k (fun K3 k3 => ?_)
  refine drD [.det (V12 a), .det (V12 a.conj), .det (V12 a.inv), .det (V12 (a.conj * a.inv)), .store (.base 0) 0 (C12 (a.conj * a.inv)) (C12 (a.conj * a.inv))] [0, 1, 2, 3, 4] [0, 1, 0, 7, 15] (fun L d => [d 0, L0.p 0, L0.p 1] ++ D d 3 16) (fun L => [(L0.b 0, C12 (a.conj * a.inv)), (L0.b 1, C12 0), (L1.b 5, C12 a.inv)]) hp2 ⟨
    oL 0 0 r12, oC K.stay hg (fp12Conj K a), oL 2 0 r12, oC K.stay hg (fp12Mul K a.conj a.inv), oT r12,
    trivial⟩ (fun L2 _ w3 hp3 => ?_)
  refine k3 _ _ ?_
  refine wp_seq_k (fun K4 k4 => ?_)
  refine drD [.det (V12 (a.conj * a.inv)), .det (V12 (F12.fr (a.conj * a.inv))), .det (V12 (F12.fr (F12.fr (a.conj * a.inv)))), .det (V12 (a.conj * a.inv)), .det (V12 ((F12.fr (F12.fr (a.conj * a.inv))) * (a.conj * a.inv))), .store (.base 1) 0 (C12 ((F12.fr (F12.fr (a.conj * a.inv))) * (a.conj * a.inv))) (C12 ((F12.fr (F12.fr (a.conj * a.inv))) * (a.conj * a.inv)))] [0, 1, 2, 3, 4, 5] [0, 1, 3, 0, 15, 31] (fun L d => D d 0 2 ++ ([L0.p 1] ++ D d 3 16)) (fun L => [(L0.b 0, C12 (a.conj * a.inv)), (L0.b 1, C12 ((F12.fr (F12.fr (a.conj * a.inv))) * (a.conj * a.inv))), (L1.b 5, C12 a.inv)]) hp3 ⟨
    oL 0 0 r12, oH (v := V12 (F12.fr (a.conj * a.inv))) (vs := #[V12 (a.conj * a.inv)]) (fun w hb _ => pairToP K (a.conj * a.inv) w (K.stay hg hb) hT), oH (v := V12 (F12.fr (F12.fr (a.conj * a.inv)))) (vs := #[V12 (F12.fr (a.conj * a.inv))]) (fun w hb _ => pairToP K (F12.fr (a.conj * a.inv)) w (K.stay hg hb) hT),
    oL 0 0 r12, oC K.stay hg (fp12Mul K (F12.fr (F12.fr (a.conj * a.inv))) (a.conj * a.inv)), oT r12,
    trivial⟩ (fun L3 _ w4 hp4 => ?_)
  refine k4 _ _ ?_
  refine wp_ret ?_
  refine bodyPost_ret (v := V12 ((F12.fr (F12.fr (a.conj * a.inv))) * (a.conj * a.inv))) ?_ rfl ?_
  · exact rc r12 rfl (by kernel_rfl) (hp4.bound 1 rfl).2
  · exact ⟨congrArg (fun z => Ending.returned (V12 z)) (by simp only [F12.pE]), hp4.bel⟩
theorem pairToN {G : World → Prop} (K : FpK G) (a : F12) (E : Nat) (l : Int) (w : World) (hg : G w) (hE : E < 2 ^ 64) (hl : (E : Int) = l) : Calls Tryz.prog 106 #[V12 a, .int .u64 l] w (Ret (V12 (npw a E)) w) := by
  subst hl; exact pairTo K a E w hg hE
set_option maxHeartbeats 4000000 in
theorem pairHard {G : World → Prop} (K : FpK G) (a : F12) (n m : Nat) (w : World) (hg : G w) (hn6 : n < 2 ^ 64) (hm6 : m < 2 ^ 64) (hk6 : n + 1 < 2 ^ 64) (hn : (n : Int) = 15132376222941642752) (hm : (m : Int) = 5044125407647214251) (hk : ((n + 1 : Nat) : Int) = 15132376222941642753) (hT : ∀ w, G w → w.rangeAt 0 0 (PC F12.tw)) : Calls Tryz.prog 70 #[V12 a] w (Ret (V12 (F12.pH n m a)) w) := by
  have hp0 := Heap.start w
  go_enter Tryz.func70, Tryz.ntmps70
  refine wp_seq_k (fun K1 k1 => ?_)
  refine gs [.alloc (C12 a), .alloc (C12 0)] [0, 1] [0, 0] (fun L => [V12 a, L.p 0, L.p 1] ++ U 25) (fun L => [(L.b 0, C12 a), (L.b 1, C12 0)]) hp0 ⟨
    oB, oZ r12,
    trivial⟩ (fun L0 w1 hp1 => ?_)
  refine k1 _ _ ?_
  refine wp_seq_k (fun K2 k2 => ?_)
  refine gsD [.det (V12 a), .det (V12 (npw a m)), .det (V12 (npw (npw a m) (n + 1))), .alloc (C12 0), .store (.new 3) 0 (C12 (npw (npw a m) (n + 1))) (C12 (npw (npw a m) (n + 1)))] [0, 1, 2, 3, 4] [0, 1, 3, 0, 15] (fun L d => [d 0, L0.p 0, L0.p 1, L.p 3] ++ D d 4 24) (fun L => [(L0.b 0, C12 a), (L0.b 1, C12 0), (L.b 3, C12 (npw (npw a m) (n + 1)))]) hp1 ⟨
    oL 0 0 r12, oH (v := V12 (npw a m)) (vs := #[V12 a, .int .u64 5044125407647214251]) (fun w hb _ => pairToN K a m 5044125407647214251 w (K.stay hg hb) hm6 hm),
    oH (v := V12 (npw (npw a m) (n + 1))) (vs := #[V12 (npw a m), .int .u64 15132376222941642753]) (fun w hb _ => pairToN K (npw a m) (n + 1) 15132376222941642753 w (K.stay hg hb) hk6 hk),
    oZ r12, oT r12,
    trivial⟩ (fun L1 _ w2 hp2 => ?_)
  refine k2 _ _ ?_
  refine wp_seq_k (fun K3 k3 => ?_)
  refine drD [.det (V12 (npw (npw a m) (n + 1))), .det (V12 (F12.fr (npw (npw a m) (n + 1)))), .det (V12 (npw (npw a m) (n + 1))), .det (V12 (npw (npw (npw a m) (n + 1)) n)), .det (V12 ((npw (npw (npw a m) (n + 1)) n).conj)), .det (V12 ((F12.fr (npw (npw a m) (n + 1))) * ((npw (npw (npw a m) (n + 1)) n).conj))), .alloc (C12 0), .store (.new 6) 0 (C12 ((F12.fr (npw (npw a m) (n + 1))) * ((npw (npw (npw a m) (n + 1)) n).conj))) (C12 ((F12.fr (npw (npw a m) (n + 1))) * ((npw (npw (npw a m) (n + 1)) n).conj)))] [0, 1, 2, 3, 4, 5, 6, 7] [0, 1, 0, 7, 15, 31, 0, 127] (fun L d => [d 0, L0.p 0, L0.p 1, d 3, L.p 6] ++ D d 5 23) (fun L => [(L0.b 0, C12 a), (L0.b 1, C12 0), (L1.b 3, C12 (npw (npw a m) (n + 1))), (L.b 6, C12 ((F12.fr (npw (npw a m) (n + 1))) * ((npw (npw (npw a m) (n + 1)) n).conj)))]) hp2 ⟨
    oL 2 0 r12, oH (v := V12 (F12.fr (npw (npw a m) (n + 1)))) (vs := #[V12 (npw (npw a m) (n + 1))]) (fun w hb _ => pairToP K (npw (npw a m) (n + 1)) w (K.stay hg hb) hT),
    oL 2 0 r12, oH (v := V12 (npw (npw (npw a m) (n + 1)) n)) (vs := #[V12 (npw (npw a m) (n + 1)), .int .u64 15132376222941642752]) (fun w hb _ => pairToN K (npw (npw a m) (n + 1)) n 15132376222941642752 w (K.stay hg hb) hn6 hn),
    oC K.stay hg (fp12Conj K (npw (npw (npw a m) (n + 1)) n)), oC K.stay hg (fp12Mul K (F12.fr (npw (npw a m) (n + 1))) ((npw (npw (npw a m) (n + 1)) n).conj)),
    oZ r12, oT r12,
    trivial⟩ (fun L2 _ w3 hp3 => ?_)
  refine k3 _ _ ?_
  refine wp_seq_k (fun K4 k4 => ?_)
  refine drD [.det (V12 ((F12.fr (npw (npw a m) (n + 1))) * ((npw (npw (npw a m) (n + 1)) n).conj))), .det (V12 (npw ((F12.fr (npw (npw a m) (n + 1))) * ((npw (npw (npw a m) (n + 1)) n).conj)) n)), .det (V12 (npw (npw ((F12.fr (npw (npw a m) (n + 1))) * ((npw (npw (npw a m) (n + 1)) n).conj)) n) n)), .det (V12 ((F12.fr (npw (npw a m) (n + 1))) * ((npw (npw (npw a m) (n + 1)) n).conj))), .det (V12 (F12.fr ((F12.fr (npw (npw a m) (n + 1))) * ((npw (npw (npw a m) (n + 1)) n).conj)))), .det (V12 (F12.fr (F12.fr ((F12.fr (npw (npw a m) (n + 1))) * ((npw (npw (npw a m) (n + 1)) n).conj))))), .det (V12 ((F12.fr (npw (npw a m) (n + 1))) * ((npw (npw (npw a m) (n + 1)) n).conj))), .det (V12 (((F12.fr (npw (npw a m) (n + 1))) * ((npw (npw (npw a m) (n + 1)) n).conj)).conj)), .det (V12 ((F12.fr (F12.fr ((F12.fr (npw (npw a m) (n + 1))) * ((npw (npw (npw a m) (n + 1)) n).conj)))) * (((F12.fr (npw (npw a m) (n + 1))) * ((npw (npw (npw a m) (n + 1)) n).conj)).conj))), .det (V12 ((npw (npw ((F12.fr (npw (npw a m) (n + 1))) * ((npw (npw (npw a m) (n + 1)) n).conj)) n) n) * ((F12.fr (F12.fr ((F12.fr (npw (npw a m) (n + 1))) * ((npw (npw (npw a m) (n + 1)) n).conj)))) * (((F12.fr (npw (npw a m) (n + 1))) * ((npw (npw (npw a m) (n + 1)) n).conj)).conj)))), .alloc (C12 0), .store (.new 10) 0 (C12 ((npw (npw ((F12.fr (npw (npw a m) (n + 1))) * ((npw (npw (npw a m) (n + 1)) n).conj)) n) n) * ((F12.fr (F12.fr ((F12.fr (npw (npw a m) (n + 1))) * ((npw (npw (npw a m) (n + 1)) n).conj)))) * (((F12.fr (npw (npw a m) (n + 1))) * ((npw (npw (npw a m) (n + 1)) n).conj)).conj)))) (C12 ((npw (npw ((F12.fr (npw (npw a m) (n + 1))) * ((npw (npw (npw a m) (n + 1)) n).conj)) n) n) * ((F12.fr (F12.fr ((F12.fr (npw (npw a m) (n + 1))) * ((npw (npw (npw a m) (n + 1)) n).conj)))) * (((F12.fr (npw (npw a m) (n + 1))) * ((npw (npw (npw a m) (n + 1)) n).conj)).conj))))] [0, 1, 2, 3, 4, 5, 6, 7, 8, 9, 10, 11] [0, 1, 3, 0, 15, 31, 0, 127, 255, 511, 0, 2047] (fun L d => [d 0, L0.p 0, L0.p 1] ++ (D d 3 2 ++ ([L.p 10] ++ D d 6 22))) (fun L => [(L0.b 0, C12 a), (L0.b 1, C12 0), (L1.b 3, C12 (npw (npw a m) (n + 1))), (L2.b 6, C12 ((F12.fr (npw (npw a m) (n + 1))) * ((npw (npw (npw a m) (n + 1)) n).conj))), (L.b 10, C12 ((npw (npw ((F12.fr (npw (npw a m) (n + 1))) * ((npw (npw (npw a m) (n + 1)) n).conj)) n) n) * ((F12.fr (F12.fr ((F12.fr (npw (npw a m) (n + 1))) * ((npw (npw (npw a m) (n + 1)) n).conj)))) * (((F12.fr (npw (npw a m) (n + 1))) * ((npw (npw (npw a m) (n + 1)) n).conj)).conj))))]) hp3 ⟨
    oL 3 0 r12, oH (v := V12 (npw ((F12.fr (npw (npw a m) (n + 1))) * ((npw (npw (npw a m) (n + 1)) n).conj)) n)) (vs := #[V12 ((F12.fr (npw (npw a m) (n + 1))) * ((npw (npw (npw a m) (n + 1)) n).conj)), .int .u64 15132376222941642752]) (fun w hb _ => pairToN K ((F12.fr (npw (npw a m) (n + 1))) * ((npw (npw (npw a m) (n + 1)) n).conj)) n 15132376222941642752 w (K.stay hg hb) hn6 hn),
    oH (v := V12 (npw (npw ((F12.fr (npw (npw a m) (n + 1))) * ((npw (npw (npw a m) (n + 1)) n).conj)) n) n)) (vs := #[V12 (npw ((F12.fr (npw (npw a m) (n + 1))) * ((npw (npw (npw a m) (n + 1)) n).conj)) n), .int .u64 15132376222941642752]) (fun w hb _ => pairToN K (npw ((F12.fr (npw (npw a m) (n + 1))) * ((npw (npw (npw a m) (n + 1)) n).conj)) n) n 15132376222941642752 w (K.stay hg hb) hn6 hn),
    oL 3 0 r12, oH (v := V12 (F12.fr ((F12.fr (npw (npw a m) (n + 1))) * ((npw (npw (npw a m) (n + 1)) n).conj)))) (vs := #[V12 ((F12.fr (npw (npw a m) (n + 1))) * ((npw (npw (npw a m) (n + 1)) n).conj))]) (fun w hb _ => pairToP K ((F12.fr (npw (npw a m) (n + 1))) * ((npw (npw (npw a m) (n + 1)) n).conj)) w (K.stay hg hb) hT),
    oH (v := V12 (F12.fr (F12.fr ((F12.fr (npw (npw a m) (n + 1))) * ((npw (npw (npw a m) (n + 1)) n).conj))))) (vs := #[V12 (F12.fr ((F12.fr (npw (npw a m) (n + 1))) * ((npw (npw (npw a m) (n + 1)) n).conj)))]) (fun w hb _ => pairToP K (F12.fr ((F12.fr (npw (npw a m) (n + 1))) * ((npw (npw (npw a m) (n + 1)) n).conj))) w (K.stay hg hb) hT),
    oL 3 0 r12, oC K.stay hg (fp12Conj K ((F12.fr (npw (npw a m) (n + 1))) * ((npw (npw (npw a m) (n + 1)) n).conj))), oC K.stay hg (fp12Mul K (F12.fr (F12.fr ((F12.fr (npw (npw a m) (n + 1))) * ((npw (npw (npw a m) (n + 1)) n).conj)))) (((F12.fr (npw (npw a m) (n + 1))) * ((npw (npw (npw a m) (n + 1)) n).conj)).conj)),
    oC K.stay hg (fp12Mul K (npw (npw ((F12.fr (npw (npw a m) (n + 1))) * ((npw (npw (npw a m) (n + 1)) n).conj)) n) n) ((F12.fr (F12.fr ((F12.fr (npw (npw a m) (n + 1))) * ((npw (npw (npw a m) (n + 1)) n).conj)))) * (((F12.fr (npw (npw a m) (n + 1))) * ((npw (npw (npw a m) (n + 1)) n).conj)).conj))),
    oZ r12, oT r12,
    trivial⟩ (fun L3 _ w4 hp4 => ?_)
  refine k4 _ _ ?_
  refine wp_seq_k (fun K5 k5 => ?_)
  refine gsD [.det (V12 ((npw (npw ((F12.fr (npw (npw a m) (n + 1))) * ((npw (npw (npw a m) (n + 1)) n).conj)) n) n) * ((F12.fr (F12.fr ((F12.fr (npw (npw a m) (n + 1))) * ((npw (npw (npw a m) (n + 1)) n).conj)))) * (((F12.fr (npw (npw a m) (n + 1))) * ((npw (npw (npw a m) (n + 1)) n).conj)).conj)))), .det (V12 a), .det (V12 (((npw (npw ((F12.fr (npw (npw a m) (n + 1))) * ((npw (npw (npw a m) (n + 1)) n).conj)) n) n) * ((F12.fr (F12.fr ((F12.fr (npw (npw a m) (n + 1))) * ((npw (npw (npw a m) (n + 1)) n).conj)))) * (((F12.fr (npw (npw a m) (n + 1))) * ((npw (npw (npw a m) (n + 1)) n).conj)).conj))) * a)), .store (.base 1) 0 (C12 (((npw (npw ((F12.fr (npw (npw a m) (n + 1))) * ((npw (npw (npw a m) (n + 1)) n).conj)) n) n) * ((F12.fr (F12.fr ((F12.fr (npw (npw a m) (n + 1))) * ((npw (npw (npw a m) (n + 1)) n).conj)))) * (((F12.fr (npw (npw a m) (n + 1))) * ((npw (npw (npw a m) (n + 1)) n).conj)).conj))) * a)) (C12 (((npw (npw ((F12.fr (npw (npw a m) (n + 1))) * ((npw (npw (npw a m) (n + 1)) n).conj)) n) n) * ((F12.fr (F12.fr ((F12.fr (npw (npw a m) (n + 1))) * ((npw (npw (npw a m) (n + 1)) n).conj)))) * (((F12.fr (npw (npw a m) (n + 1))) * ((npw (npw (npw a m) (n + 1)) n).conj)).conj))) * a))] [0, 1, 2, 3] [0, 0, 3, 7] (fun L d => D d 0 2 ++ ([L0.p 1] ++ D d 3 25)) (fun L => [(L0.b 0, C12 a), (L0.b 1, C12 (((npw (npw ((F12.fr (npw (npw a m) (n + 1))) * ((npw (npw (npw a m) (n + 1)) n).conj)) n) n) * ((F12.fr (F12.fr ((F12.fr (npw (npw a m) (n + 1))) * ((npw (npw (npw a m) (n + 1)) n).conj)))) * (((F12.fr (npw (npw a m) (n + 1))) * ((npw (npw (npw a m) (n + 1)) n).conj)).conj))) * a)), (L1.b 3, C12 (npw (npw a m) (n + 1))), (L2.b 6, C12 ((F12.fr (npw (npw a m) (n + 1))) * ((npw (npw (npw a m) (n + 1)) n).conj))), (L3.b 10, C12 ((npw (npw ((F12.fr (npw (npw a m) (n + 1))) * ((npw (npw (npw a m) (n + 1)) n).conj)) n) n) * ((F12.fr (F12.fr ((F12.fr (npw (npw a m) (n + 1))) * ((npw (npw (npw a m) (n + 1)) n).conj)))) * (((F12.fr (npw (npw a m) (n + 1))) * ((npw (npw (npw a m) (n + 1)) n).conj)).conj))))]) hp4 ⟨
    oL 4 0 r12, oL 0 0 r12, oC K.stay hg (fp12Mul K ((npw (npw ((F12.fr (npw (npw a m) (n + 1))) * ((npw (npw (npw a m) (n + 1)) n).conj)) n) n) * ((F12.fr (F12.fr ((F12.fr (npw (npw a m) (n + 1))) * ((npw (npw (npw a m) (n + 1)) n).conj)))) * (((F12.fr (npw (npw a m) (n + 1))) * ((npw (npw (npw a m) (n + 1)) n).conj)).conj))) a),
    oT r12,
    trivial⟩ (fun L4 _ w5 hp5 => ?_)
  refine k5 _ _ ?_
  refine wp_ret ?_
  refine bodyPost_ret (v := V12 (((npw (npw ((F12.fr (npw (npw a m) (n + 1))) * ((npw (npw (npw a m) (n + 1)) n).conj)) n) n) * ((F12.fr (F12.fr ((F12.fr (npw (npw a m) (n + 1))) * ((npw (npw (npw a m) (n + 1)) n).conj)))) * (((F12.fr (npw (npw a m) (n + 1))) * ((npw (npw (npw a m) (n + 1)) n).conj)).conj))) * a)) ?_ rfl ?_
  · exact rc r12 rfl (by kernel_rfl) (hp5.bound 1 rfl).2
  · exact ⟨congrArg (fun z => Ending.returned (V12 z)) (by simp only [F12.pH, F12.pd, F12.pc, F12.pb]), hp5.bel⟩
theorem pairHardN {G : World → Prop} (K : FpK G) (a : F12) (w : World) (hg : G w) (hz : a ≠ 0) (hT : ∀ w, G w → w.rangeAt 0 0 (PC F12.tw)) : Calls Tryz.prog 70 #[V12 (F12.pE a)] w (Ret (V12 (F12.ex a)) w) := by
  have h := pairHard K (F12.pE a) F12.mN 5044125407647214251 w hg (by decide +kernel) (by decide) (by decide +kernel) (by decide +kernel) (by decide) (by decide +kernel) hT
  rw [F12.pow_ex hz] at h
  exact h
set_option maxHeartbeats 4000000 in
theorem pairPower {G : World → Prop} (K : FpK G) (a : F12) (w : World) (hg : G w) (hz : a ≠ 0) (hT : ∀ w, G w → w.rangeAt 0 0 (PC F12.tw)) : Calls Tryz.prog 39 #[V12 a] w (Ret (V12 (F12.ex a)) w) := by
  have hp0 := Heap.start w
  go_enter Tryz.func39, Tryz.ntmps39
  refine wp_seq_k (fun K1 k1 => ?_)
  refine gsD [.alloc (C12 a), .alloc (C12 0)] [0, 1] [0, 0] (fun L d => [d 0, L.p 0, L.p 1] ++ D d 3 3) (fun L => [(L.b 0, C12 a), (L.b 1, C12 0)]) hp0 ⟨
    oB, oZ r12,
    trivial⟩ (fun L0 _ w1 hp1 => ?_)
  refine k1 _ _ ?_
  refine wp_seq_k (fun K2 k2 => ?_)
  refine gsD [.det (V12 a), .det (V12 (F12.pE a)), .det (V12 (F12.ex a)), .store (.base 1) 0 (C12 (F12.ex a)) (C12 (F12.ex a))] [0, 1, 2, 3] [0, 1, 3, 7] (fun L d => D d 0 2 ++ ([L0.p 1] ++ D d 3 3)) (fun L => [(L0.b 0, C12 a), (L0.b 1, C12 (F12.ex a))]) hp1 ⟨
    oL 0 0 r12, oH (v := V12 (F12.pE a)) (vs := #[V12 a]) (fun w hb _ => pairEasy K a w (K.stay hg hb) hz hT), oH (v := V12 (F12.ex a)) (vs := #[V12 (F12.pE a)]) (fun w hb _ => pairHardN K a w (K.stay hg hb) hz hT),
    oT r12,
    trivial⟩ (fun L1 _ w2 hp2 => ?_)
  refine k2 _ _ ?_
  refine wp_ret ?_
  refine bodyPost_ret (v := V12 (F12.ex a)) ?_ rfl ?_
  · exact rc r12 rfl (by kernel_rfl) (hp2.bound 1 rfl).2
  · exact ⟨rfl, hp2.bel⟩
end Go.Proofs.YthnfgmhehfombaaGreatDoor.fpn

/- Package pairing: Miller's loop. -/
namespace Go.Proofs.YthnfgmhehfombaaGreatDoor.fpn
open Go.RowKit Pl EC
set_option linter.unusedVariables false
set_option linter.unusedSimpArgs false
set_option maxRecDepth 4000

theorem nat_bit (N m : Nat) : (N : Int) / 2 ^ m % 2 = ((N / 2 ^ m % 2 : Nat) : Int) := by norm_cast
theorem mN_eqn : F12.mN = 15132376222941642752 := by decide +kernel
theorem F12.mN_bit (m : Nat) (hm : m < 64) : bits .and .u64 ((15132376222941642752 : Int) / 2 ^ m) 1 = ((F12.mN / 2 ^ m % 2 : Nat) : Int) := by
  have h0 : (0 : Int) ≤ 15132376222941642752 / 2 ^ m := Int.ediv_nonneg (by decide) (Int.le_of_lt (Int.pow_pos (by decide)))
  have h1 : (15132376222941642752 : Int) / 2 ^ m < 18446744073709551616 := Int.lt_of_le_of_lt (Int.ediv_le_self _ (by decide)) (by decide)
  rw [and_one _ h0 h1, mN_eqn]
  exact nat_bit 15132376222941642752 m
def milI (P : Pt F) (Q : Pt F2) (p q : Plc) (w : World) (b2 b3 b4 : Nat) : Act → World → Prop := fun a' w' => ∃ (L b5 b6 : Nat) (g : F12) (a : Plc) (u8 u9 u10 u11 u12 u13 u14 u15 u16 u17 u18 u19 u20 u21 u22 u23 u24 u25 u26 u27 u28 u29 u30 u31 u32 u33 u34 u35 u36 u37 u38 u39 u40 u41 u42 u43 u44 u45 u46 u47 : Value),
  a' = { tmps := #[PLV p, PLV q, .pointer (some ⟨b2, 0, none⟩), .pointer (some ⟨b3, 0, none⟩), .pointer (some ⟨b4, 0, none⟩), .pointer (some ⟨b5, 0, none⟩), .pointer (some ⟨b6, 0, none⟩), .int .i64 ((L : Nat) : Int), u8, u9, u10, u11, u12, u13, u14, u15, u16, u17, u18, u19, u20, u21, u22, u23, u24, u25, u26, u27, u28, u29, u30, u31, u32, u33, u34, u35, u36, u37, u38, u39, u40, u41, u42, u43, u44, u45, u46, u47], defers := [] } ∧ L ≤ 63 ∧ F12.MI P Q L g a ∧ Heap w.heap.size w w' [(b2, PLC p), (b3, PLC q), (b4, C12 0), (b5, C12 g), (b6, PLC a)]

set_option maxHeartbeats 4000000 in
theorem pairMiller {G : World → Prop} (K : FpK G) (P : Pt F) (Q : Pt F2) (p q : Plc) (w : World) (hg : G w) (M : F12.MQ P Q p q) : Calls Tryz.prog 67 #[PLV p, PLV q] w (Ret (V12 (F12.sv P Q)) w) := by
  have hp0 := Heap.start w
  go_enter Tryz.func67, Tryz.ntmps67
  refine wp_seq_k (fun K0 k0 => ?_)
  refine gs [.alloc (PLC p), .alloc (PLC q), .alloc (C12 0)] [0, 1, 2] [0, 0, 0] (fun L => [PLV p, PLV q, L.p 0, L.p 1, L.p 2] ++ U 43) (fun L => [(L.b 0, PLC p), (L.b 1, PLC q), (L.b 2, C12 0)]) hp0 ⟨
    oB, oB, oZ r12,
    trivial⟩ (fun L0 w1 hp1 => ?_)
  refine k0 _ _ ?_
  refine wp_scope_goto 0 (milI P Q p q w (L0.b 0) (L0.b 1) (L0.b 2)) (fun a' _ => slot 7 a') rfl ?_ ?_
  · skip
    rintro a' W ⟨L, b5, b6, g, a, u8, u9, u10, u11, u12, u13, u14, u15, u16, u17, u18, u19, u20, u21, u22, u23, u24, u25, u26, u27, u28, u29, u30, u31, u32, u33, u34, u35, u36, u37, u38, u39, u40, u41, u42, u43, u44, u45, u46, u47, rfl, hL, hI, hJ⟩
    by_cases hL0 : L = 0
    · skip
      subst hL0
      refine wp_seq_k (fun K1 k1 => ?_)
      refine wp_seq_k (fun K2 k2 => ?_)
      refine gs [.det (.int .i64 ((0 : Nat) : Int)), .det (.bool false)] [0, 1] [0, 1] (fun L => [PLV p, PLV q, L0.p 0, L0.p 1, L0.p 2, pt b5 0, pt b6 0, .int .i64 ((0 : Nat) : Int), u8, u9, u10, .int .i64 ((0 : Nat) : Int), .bool false, u13, u14, u15, u16, u17, u18, u19, u20, u21, u22, u23, u24, u25, u26, u27, u28, u29, u30, u31, u32, u33, u34, u35, u36, u37, u38, u39, u40, u41, u42, u43, u44, u45, u46, u47]) (fun L => [(L0.b 0, PLC p), (L0.b 1, PLC q), (L0.b 2, C12 0), (b5, C12 g), (b6, PLC a)]) hJ ⟨
        oM, oJ .i64 .i64 ((0 : Nat) : Int) 0 (h := fun w => (gtrI _ _ _ w).trans (by rw [decide_eq_false (by omega)])),
        trivial⟩ (fun L1 w2 hp2 => ?_)
      refine k2 _ _ ?_
      refine wp_cond_false (by kernel_rfl) ?_
      refine skips ?_
      refine k1 _ _ ?_
      refine wp_seq_k (fun K3 k3 => ?_)
      refine gs [.det (V12 g), .store (.base 2) 0 (C12 g) (C12 g)] [0, 1] [0, 1] (fun L => [PLV p, PLV q, L0.p 0, L0.p 1, L0.p 2, pt b5 0, pt b6 0, .int .i64 ((0 : Nat) : Int), u8, u9, u10, .int .i64 ((0 : Nat) : Int), .bool false, u13, u14, u15, u16, u17, u18, u19, u20, u21, u22, u23, u24, u25, u26, u27, u28, u29, u30, u31, u32, u33, u34, u35, u36, u37, u38, u39, u40, u41, u42, u43, u44, u45, u46, V12 g]) (fun L => [(L0.b 0, PLC p), (L0.b 1, PLC q), (L0.b 2, C12 g), (b5, C12 g), (b6, PLC a)]) hp2 ⟨
        oL 3 0 r12, oT r12,
        trivial⟩ (fun L2 w3 hp3 => ?_)
      refine k3 _ _ ?_
      refine wp_ret ?_
      refine bodyPost_ret (v := V12 g) ?_ rfl ?_
      · exact rc r12 rfl (by kernel_rfl) (hp3.bound 2 rfl).2
      · exact ⟨congrArg (fun z => Ending.returned (V12 z)) hI.last, hp3.bel⟩
    · skip
      obtain ⟨m, rfl⟩ : ∃ m, L = m + 1 := ⟨L - 1, by omega⟩
      rcases (show F12.mN / 2 ^ m % 2 = 0 ∨ F12.mN / 2 ^ m % 2 = 1 by omega) with hb0 | hb1
      · skip
        refine wp_seq_k (fun K4 k4 => ?_)
        refine wp_seq_k (fun K5 k5 => ?_)
        refine gs [.det (.int .i64 ((m + 1 : Nat) : Int)), .det (.bool true)] [0, 1] [0, 1] (fun L => [PLV p, PLV q, L0.p 0, L0.p 1, L0.p 2, pt b5 0, pt b6 0, .int .i64 ((m + 1 : Nat) : Int), u8, u9, u10, .int .i64 ((m + 1 : Nat) : Int), .bool true, u13, u14, u15, u16, u17, u18, u19, u20, u21, u22, u23, u24, u25, u26, u27, u28, u29, u30, u31, u32, u33, u34, u35, u36, u37, u38, u39, u40, u41, u42, u43, u44, u45, u46, u47]) (fun L => [(L0.b 0, PLC p), (L0.b 1, PLC q), (L0.b 2, C12 0), (b5, C12 g), (b6, PLC a)]) hJ ⟨
          oM, oJ .i64 .i64 ((m + 1 : Nat) : Int) 0 (h := fun w => (gtrI _ _ _ w).trans (by rw [decide_eq_true (by omega)])),
          trivial⟩ (fun L3 w4 hp4 => ?_)
        refine k5 _ _ ?_
        refine wp_cond_true (by kernel_rfl) ?_
        refine wp_seq_k (fun K6 k6 => ?_)
        refine gs [.det (.int .i64 ((m + 1 : Nat) : Int)), .det (.int .i64 ((m : Nat) : Int)), .det (.int .i64 ((m : Nat) : Int))] [0, 1, 2] [0, 1, 3] (fun L => [PLV p, PLV q, L0.p 0, L0.p 1, L0.p 2, pt b5 0, pt b6 0, .int .i64 ((m : Nat) : Int), u8, u9, u10, .int .i64 ((m + 1 : Nat) : Int), .bool true, .int .i64 ((m + 1 : Nat) : Int), .int .i64 ((m : Nat) : Int), u15, u16, u17, u18, u19, u20, u21, u22, u23, u24, u25, u26, u27, u28, u29, u30, u31, u32, u33, u34, u35, u36, u37, u38, u39, u40, u41, u42, u43, u44, u45, u46, u47]) (fun L => [(L0.b 0, PLC p), (L0.b 1, PLC q), (L0.b 2, C12 0), (b5, C12 g), (b6, PLC a)]) hp4 ⟨
          oM, oJ .i64 .i64 ((m + 1 : Nat) : Int) 1 (h := fun w => sub1 _ m (by omega) w), oA,
          trivial⟩ (fun L4 w5 hp5 => ?_)
        refine k6 _ _ ?_
        refine wp_seq_k (fun K7 k7 => ?_)
        refine gs [.det (PLV a), .det (PLV a), .det (V12 (F12.sT a)), .alloc (C12 0), .store (.new 3) 0 (C12 (F12.sT a)) (C12 (F12.sT a))] [0, 1, 2, 3, 4] [0, 0, 3, 0, 15] (fun L => [PLV p, PLV q, L0.p 0, L0.p 1, L0.p 2, pt b5 0, pt b6 0, .int .i64 ((m : Nat) : Int), L.p 3, u9, u10, .int .i64 ((m + 1 : Nat) : Int), .bool true, .int .i64 ((m + 1 : Nat) : Int), .int .i64 ((m : Nat) : Int), PLV a, PLV a, V12 (F12.sT a), u18, u19, u20, u21, u22, u23, u24, u25, u26, u27, u28, u29, u30, u31, u32, u33, u34, u35, u36, u37, u38, u39, u40, u41, u42, u43, u44, u45, u46, u47]) (fun L => [(L0.b 0, PLC p), (L0.b 1, PLC q), (L0.b 2, C12 0), (b5, C12 g), (b6, PLC a), (L.b 3, C12 (F12.sT a))]) hp5 ⟨
          oL 4 0 rPL, oL 4 0 rPL, oH (v := V12 (F12.sT a)) (vs := #[PLV a, PLV a]) (fun w hb _ => pairSlopeT K a w (K.stay hg hb) (hI.odd M)), oZ r12, oT r12,
          trivial⟩ (fun L5 w6 hp6 => ?_)
        refine k7 _ _ ?_
        refine wp_seq_k (fun K8 k8 => ?_)
        refine dr [.det (V12 g), .det (V12 g), .det (V12 (g * g)), .det (PLV a), .det (V12 (F12.sT a)), .det (PLV p), .det (V12 (F12.ln a (F12.sT a) p)), .det (V12 ((g * g) * (F12.ln a (F12.sT a) p))), .store (.base 3) 0 (C12 ((g * g) * (F12.ln a (F12.sT a) p))) (C12 ((g * g) * (F12.ln a (F12.sT a) p)))] [0, 1, 2, 3, 4, 5, 6, 7, 8] [0, 0, 3, 0, 0, 0, 63, 127, 255] (fun L => [PLV p, PLV q, L0.p 0, L0.p 1, L0.p 2, pt b5 0, pt b6 0, .int .i64 ((m : Nat) : Int), L5.p 3, u9, u10, .int .i64 ((m + 1 : Nat) : Int), .bool true, .int .i64 ((m + 1 : Nat) : Int), .int .i64 ((m : Nat) : Int), PLV a, PLV a, V12 (F12.sT a), V12 g, V12 g, V12 (g * g), PLV a, V12 (F12.sT a), PLV p, V12 (F12.ln a (F12.sT a) p), V12 ((g * g) * (F12.ln a (F12.sT a) p)), u26, u27, u28, u29, u30, u31, u32, u33, u34, u35, u36, u37, u38, u39, u40, u41, u42, u43, u44, u45, u46, u47]) (fun L => [(L0.b 0, PLC p), (L0.b 1, PLC q), (L0.b 2, C12 0), (b5, C12 ((g * g) * (F12.ln a (F12.sT a) p))), (b6, PLC a), (L5.b 3, C12 (F12.sT a))]) hp6 ⟨
          oL 3 0 r12, oL 3 0 r12, oC K.stay hg (fp12Mul K g g), oL 4 0 rPL, oL 5 0 r12, oL 0 0 rPL, oC K.stay hg (pairLine K a (F12.sT a) p), oC K.stay hg (fp12Mul K (g * g) (F12.ln a (F12.sT a) p)),
          oT r12,
          trivial⟩ (fun L6 w7 hp7 => ?_)
        refine k8 _ _ ?_
        refine wp_seq_k (fun K9 k9 => ?_)
        refine gs [.det (PLV a), .det (PLV a), .det (V12 (F12.sT a)), .det (PLV (F12.sm a a (F12.sT a))), .store (.base 4) 0 (PLC (F12.sm a a (F12.sT a))) (PLC (F12.sm a a (F12.sT a)))] [0, 1, 2, 3, 4] [0, 0, 0, 7, 15] (fun L => [PLV p, PLV q, L0.p 0, L0.p 1, L0.p 2, pt b5 0, pt b6 0, .int .i64 ((m : Nat) : Int), L5.p 3, u9, u10, .int .i64 ((m + 1 : Nat) : Int), .bool true, .int .i64 ((m + 1 : Nat) : Int), .int .i64 ((m : Nat) : Int), PLV a, PLV a, V12 (F12.sT a), V12 g, V12 g, V12 (g * g), PLV a, V12 (F12.sT a), PLV p, V12 (F12.ln a (F12.sT a) p), V12 ((g * g) * (F12.ln a (F12.sT a) p)), PLV a, PLV a, V12 (F12.sT a), PLV (F12.sm a a (F12.sT a)), u30, u31, u32, u33, u34, u35, u36, u37, u38, u39, u40, u41, u42, u43, u44, u45, u46, u47]) (fun L => [(L0.b 0, PLC p), (L0.b 1, PLC q), (L0.b 2, C12 0), (b5, C12 ((g * g) * (F12.ln a (F12.sT a) p))), (b6, PLC (F12.sm a a (F12.sT a))), (L5.b 3, C12 (F12.sT a))]) hp7 ⟨
          oL 4 0 rPL, oL 4 0 rPL, oL 5 0 r12, oC K.stay hg (pairSum K a a (F12.sT a)), oT rPL,
          trivial⟩ (fun L7 w8 hp8 => ?_)
        refine k9 _ _ ?_
        refine wp_seq_k (fun K10 k10 => ?_)
        refine wp_seq_k (fun K11 k11 => ?_)
        refine gs [.det (.int .i64 ((m : Nat) : Int)), .det (.int .u64 (15132376222941642752 / 2 ^ m)), .det (.int .u64 0), .det (.bool false)] [0, 1, 2, 3] [0, 1, 3, 7] (fun L => [PLV p, PLV q, L0.p 0, L0.p 1, L0.p 2, pt b5 0, pt b6 0, .int .i64 ((m : Nat) : Int), L5.p 3, u9, u10, .int .i64 ((m + 1 : Nat) : Int), .bool true, .int .i64 ((m + 1 : Nat) : Int), .int .i64 ((m : Nat) : Int), PLV a, PLV a, V12 (F12.sT a), V12 g, V12 g, V12 (g * g), PLV a, V12 (F12.sT a), PLV p, V12 (F12.ln a (F12.sT a) p), V12 ((g * g) * (F12.ln a (F12.sT a) p)), PLV a, PLV a, V12 (F12.sT a), PLV (F12.sm a a (F12.sT a)), .int .i64 ((m : Nat) : Int), .int .u64 (15132376222941642752 / 2 ^ m), .int .u64 0, .bool false, u34, u35, u36, u37, u38, u39, u40, u41, u42, u43, u44, u45, u46, u47]) (fun L => [(L0.b 0, PLC p), (L0.b 1, PLC q), (L0.b 2, C12 0), (b5, C12 ((g * g) * (F12.ln a (F12.sT a) p))), (b6, PLC (F12.sm a a (F12.sT a))), (L5.b 3, C12 (F12.sT a))]) hp8 ⟨
          oM, oJ .u64 .i64 15132376222941642752 ((m : Nat) : Int) (h := fun w => shrN _ _ m (by omega) w), oJ .u64 .u64 (15132376222941642752 / 2 ^ m) 1 (h := fun w => and1 _ _ 0 (by rw [F12.mN_bit m (by omega), hb0]; rfl) w),
          oJ .u64 .u64 0 1 (h := fun w => (eqlI _ _ _ _ w).trans rfl),
          trivial⟩ (fun L8 w9 hp9 => ?_)
        refine k11 _ _ ?_
        refine wp_cond_false (by kernel_rfl) ?_
        refine skips ?_
        refine k10 _ _ ?_
        refine wp_goto ?_
        exact ⟨rfl, ⟨m, b5, b6, ((g * g) * (F12.ln a (F12.sT a) p)), (F12.sm a a (F12.sT a)), L5.p 3, u9, u10, .int .i64 ((m + 1 : Nat) : Int), .bool true, .int .i64 ((m + 1 : Nat) : Int), .int .i64 ((m : Nat) : Int), PLV a, PLV a, V12 (F12.sT a), V12 g, V12 g, V12 (g * g), PLV a, V12 (F12.sT a), PLV p, V12 (F12.ln a (F12.sT a) p), V12 ((g * g) * (F12.ln a (F12.sT a) p)), PLV a, PLV a, V12 (F12.sT a), PLV (F12.sm a a (F12.sT a)), .int .i64 ((m : Nat) : Int), .int .u64 (15132376222941642752 / 2 ^ m), .int .u64 0, .bool false, u34, u35, u36, u37, u38, u39, u40, u41, u42, u43, u44, u45, u46, u47, rfl, by omega, hI.even M (by omega) hb0, Heap.sub hp9 (List.sublist_append_left [_, _, _, _, _] [_])⟩, by simp [slot, intOf]⟩
      · skip
        refine wp_seq_k (fun K12 k12 => ?_)
        refine wp_seq_k (fun K13 k13 => ?_)
        refine gs [.det (.int .i64 ((m + 1 : Nat) : Int)), .det (.bool true)] [0, 1] [0, 1] (fun L => [PLV p, PLV q, L0.p 0, L0.p 1, L0.p 2, pt b5 0, pt b6 0, .int .i64 ((m + 1 : Nat) : Int), u8, u9, u10, .int .i64 ((m + 1 : Nat) : Int), .bool true, u13, u14, u15, u16, u17, u18, u19, u20, u21, u22, u23, u24, u25, u26, u27, u28, u29, u30, u31, u32, u33, u34, u35, u36, u37, u38, u39, u40, u41, u42, u43, u44, u45, u46, u47]) (fun L => [(L0.b 0, PLC p), (L0.b 1, PLC q), (L0.b 2, C12 0), (b5, C12 g), (b6, PLC a)]) hJ ⟨
          oM, oJ .i64 .i64 ((m + 1 : Nat) : Int) 0 (h := fun w => (gtrI _ _ _ w).trans (by rw [decide_eq_true (by omega)])),
          trivial⟩ (fun L9 w10 hp10 => ?_)
        refine k13 _ _ ?_
        refine wp_cond_true (by kernel_rfl) ?_
        refine wp_seq_k (fun K14 k14 => ?_)
        refine gs [.det (.int .i64 ((m + 1 : Nat) : Int)), .det (.int .i64 ((m : Nat) : Int)), .det (.int .i64 ((m : Nat) : Int))] [0, 1, 2] [0, 1, 3] (fun L => [PLV p, PLV q, L0.p 0, L0.p 1, L0.p 2, pt b5 0, pt b6 0, .int .i64 ((m : Nat) : Int), u8, u9, u10, .int .i64 ((m + 1 : Nat) : Int), .bool true, .int .i64 ((m + 1 : Nat) : Int), .int .i64 ((m : Nat) : Int), u15, u16, u17, u18, u19, u20, u21, u22, u23, u24, u25, u26, u27, u28, u29, u30, u31, u32, u33, u34, u35, u36, u37, u38, u39, u40, u41, u42, u43, u44, u45, u46, u47]) (fun L => [(L0.b 0, PLC p), (L0.b 1, PLC q), (L0.b 2, C12 0), (b5, C12 g), (b6, PLC a)]) hp10 ⟨
          oM, oJ .i64 .i64 ((m + 1 : Nat) : Int) 1 (h := fun w => sub1 _ m (by omega) w), oA,
          trivial⟩ (fun L10 w11 hp11 => ?_)
        refine k14 _ _ ?_
        refine wp_seq_k (fun K15 k15 => ?_)
        refine gs [.det (PLV a), .det (PLV a), .det (V12 (F12.sT a)), .alloc (C12 0), .store (.new 3) 0 (C12 (F12.sT a)) (C12 (F12.sT a))] [0, 1, 2, 3, 4] [0, 0, 3, 0, 15] (fun L => [PLV p, PLV q, L0.p 0, L0.p 1, L0.p 2, pt b5 0, pt b6 0, .int .i64 ((m : Nat) : Int), L.p 3, u9, u10, .int .i64 ((m + 1 : Nat) : Int), .bool true, .int .i64 ((m + 1 : Nat) : Int), .int .i64 ((m : Nat) : Int), PLV a, PLV a, V12 (F12.sT a), u18, u19, u20, u21, u22, u23, u24, u25, u26, u27, u28, u29, u30, u31, u32, u33, u34, u35, u36, u37, u38, u39, u40, u41, u42, u43, u44, u45, u46, u47]) (fun L => [(L0.b 0, PLC p), (L0.b 1, PLC q), (L0.b 2, C12 0), (b5, C12 g), (b6, PLC a), (L.b 3, C12 (F12.sT a))]) hp11 ⟨
          oL 4 0 rPL, oL 4 0 rPL, oH (v := V12 (F12.sT a)) (vs := #[PLV a, PLV a]) (fun w hb _ => pairSlopeT K a w (K.stay hg hb) (hI.odd M)), oZ r12, oT r12,
          trivial⟩ (fun L11 w12 hp12 => ?_)
        refine k15 _ _ ?_
        refine wp_seq_k (fun K16 k16 => ?_)
        refine dr [.det (V12 g), .det (V12 g), .det (V12 (g * g)), .det (PLV a), .det (V12 (F12.sT a)), .det (PLV p), .det (V12 (F12.ln a (F12.sT a) p)), .det (V12 ((g * g) * (F12.ln a (F12.sT a) p))), .store (.base 3) 0 (C12 ((g * g) * (F12.ln a (F12.sT a) p))) (C12 ((g * g) * (F12.ln a (F12.sT a) p)))] [0, 1, 2, 3, 4, 5, 6, 7, 8] [0, 0, 3, 0, 0, 0, 63, 127, 255] (fun L => [PLV p, PLV q, L0.p 0, L0.p 1, L0.p 2, pt b5 0, pt b6 0, .int .i64 ((m : Nat) : Int), L11.p 3, u9, u10, .int .i64 ((m + 1 : Nat) : Int), .bool true, .int .i64 ((m + 1 : Nat) : Int), .int .i64 ((m : Nat) : Int), PLV a, PLV a, V12 (F12.sT a), V12 g, V12 g, V12 (g * g), PLV a, V12 (F12.sT a), PLV p, V12 (F12.ln a (F12.sT a) p), V12 ((g * g) * (F12.ln a (F12.sT a) p)), u26, u27, u28, u29, u30, u31, u32, u33, u34, u35, u36, u37, u38, u39, u40, u41, u42, u43, u44, u45, u46, u47]) (fun L => [(L0.b 0, PLC p), (L0.b 1, PLC q), (L0.b 2, C12 0), (b5, C12 ((g * g) * (F12.ln a (F12.sT a) p))), (b6, PLC a), (L11.b 3, C12 (F12.sT a))]) hp12 ⟨
          oL 3 0 r12, oL 3 0 r12, oC K.stay hg (fp12Mul K g g), oL 4 0 rPL, oL 5 0 r12, oL 0 0 rPL, oC K.stay hg (pairLine K a (F12.sT a) p), oC K.stay hg (fp12Mul K (g * g) (F12.ln a (F12.sT a) p)),
          oT r12,
          trivial⟩ (fun L12 w13 hp13 => ?_)
        refine k16 _ _ ?_
        refine wp_seq_k (fun K17 k17 => ?_)
        refine gs [.det (PLV a), .det (PLV a), .det (V12 (F12.sT a)), .det (PLV (F12.sm a a (F12.sT a))), .store (.base 4) 0 (PLC (F12.sm a a (F12.sT a))) (PLC (F12.sm a a (F12.sT a)))] [0, 1, 2, 3, 4] [0, 0, 0, 7, 15] (fun L => [PLV p, PLV q, L0.p 0, L0.p 1, L0.p 2, pt b5 0, pt b6 0, .int .i64 ((m : Nat) : Int), L11.p 3, u9, u10, .int .i64 ((m + 1 : Nat) : Int), .bool true, .int .i64 ((m + 1 : Nat) : Int), .int .i64 ((m : Nat) : Int), PLV a, PLV a, V12 (F12.sT a), V12 g, V12 g, V12 (g * g), PLV a, V12 (F12.sT a), PLV p, V12 (F12.ln a (F12.sT a) p), V12 ((g * g) * (F12.ln a (F12.sT a) p)), PLV a, PLV a, V12 (F12.sT a), PLV (F12.sm a a (F12.sT a)), u30, u31, u32, u33, u34, u35, u36, u37, u38, u39, u40, u41, u42, u43, u44, u45, u46, u47]) (fun L => [(L0.b 0, PLC p), (L0.b 1, PLC q), (L0.b 2, C12 0), (b5, C12 ((g * g) * (F12.ln a (F12.sT a) p))), (b6, PLC (F12.sm a a (F12.sT a))), (L11.b 3, C12 (F12.sT a))]) hp13 ⟨
          oL 4 0 rPL, oL 4 0 rPL, oL 5 0 r12, oC K.stay hg (pairSum K a a (F12.sT a)), oT rPL,
          trivial⟩ (fun L13 w14 hp14 => ?_)
        refine k17 _ _ ?_
        refine wp_seq_k (fun K18 k18 => ?_)
        refine wp_seq_k (fun K19 k19 => ?_)
        refine gs [.det (.int .i64 ((m : Nat) : Int)), .det (.int .u64 (15132376222941642752 / 2 ^ m)), .det (.int .u64 1), .det (.bool true)] [0, 1, 2, 3] [0, 1, 3, 7] (fun L => [PLV p, PLV q, L0.p 0, L0.p 1, L0.p 2, pt b5 0, pt b6 0, .int .i64 ((m : Nat) : Int), L11.p 3, u9, u10, .int .i64 ((m + 1 : Nat) : Int), .bool true, .int .i64 ((m + 1 : Nat) : Int), .int .i64 ((m : Nat) : Int), PLV a, PLV a, V12 (F12.sT a), V12 g, V12 g, V12 (g * g), PLV a, V12 (F12.sT a), PLV p, V12 (F12.ln a (F12.sT a) p), V12 ((g * g) * (F12.ln a (F12.sT a) p)), PLV a, PLV a, V12 (F12.sT a), PLV (F12.sm a a (F12.sT a)), .int .i64 ((m : Nat) : Int), .int .u64 (15132376222941642752 / 2 ^ m), .int .u64 1, .bool true, u34, u35, u36, u37, u38, u39, u40, u41, u42, u43, u44, u45, u46, u47]) (fun L => [(L0.b 0, PLC p), (L0.b 1, PLC q), (L0.b 2, C12 0), (b5, C12 ((g * g) * (F12.ln a (F12.sT a) p))), (b6, PLC (F12.sm a a (F12.sT a))), (L11.b 3, C12 (F12.sT a))]) hp14 ⟨
          oM, oJ .u64 .i64 15132376222941642752 ((m : Nat) : Int) (h := fun w => shrN _ _ m (by omega) w), oJ .u64 .u64 (15132376222941642752 / 2 ^ m) 1 (h := fun w => and1 _ _ 1 (by rw [F12.mN_bit m (by omega), hb1]; rfl) w),
          oJ .u64 .u64 1 1 (h := fun w => (eqlI _ _ _ _ w).trans rfl),
          trivial⟩ (fun L14 w15 hp15 => ?_)
        refine k19 _ _ ?_
        refine wp_cond_true (by kernel_rfl) ?_
        refine wp_seq_k (fun K20 k20 => ?_)
        refine gs [.det (PLV (F12.sm a a (F12.sT a))), .det (PLV q), .det (V12 (F12.sN (F12.sm a a (F12.sT a)) q)), .store (.base 5) 0 (C12 (F12.sN (F12.sm a a (F12.sT a)) q)) (C12 (F12.sN (F12.sm a a (F12.sT a)) q))] [0, 1, 2, 3] [0, 0, 3, 7] (fun L => [PLV p, PLV q, L0.p 0, L0.p 1, L0.p 2, pt b5 0, pt b6 0, .int .i64 ((m : Nat) : Int), L11.p 3, u9, u10, .int .i64 ((m + 1 : Nat) : Int), .bool true, .int .i64 ((m + 1 : Nat) : Int), .int .i64 ((m : Nat) : Int), PLV a, PLV a, V12 (F12.sT a), V12 g, V12 g, V12 (g * g), PLV a, V12 (F12.sT a), PLV p, V12 (F12.ln a (F12.sT a) p), V12 ((g * g) * (F12.ln a (F12.sT a) p)), PLV a, PLV a, V12 (F12.sT a), PLV (F12.sm a a (F12.sT a)), .int .i64 ((m : Nat) : Int), .int .u64 (15132376222941642752 / 2 ^ m), .int .u64 1, .bool true, PLV (F12.sm a a (F12.sT a)), PLV q, V12 (F12.sN (F12.sm a a (F12.sT a)) q), u37, u38, u39, u40, u41, u42, u43, u44, u45, u46, u47]) (fun L => [(L0.b 0, PLC p), (L0.b 1, PLC q), (L0.b 2, C12 0), (b5, C12 ((g * g) * (F12.ln a (F12.sT a) p))), (b6, PLC (F12.sm a a (F12.sT a))), (L11.b 3, C12 (F12.sN (F12.sm a a (F12.sT a)) q))]) hp15 ⟨
          oL 4 0 rPL, oL 1 0 rPL, oH (v := V12 (F12.sN (F12.sm a a (F12.sT a)) q)) (vs := #[PLV (F12.sm a a (F12.sT a)), PLV q]) (fun w hb _ => pairSlopeN K (F12.sm a a (F12.sT a)) q w (K.stay hg hb) (hI.far M (by omega))),
          oT r12,
          trivial⟩ (fun L15 w16 hp16 => ?_)
        refine k20 _ _ ?_
        refine wp_seq_k (fun K21 k21 => ?_)
        refine dr [.det (V12 ((g * g) * (F12.ln a (F12.sT a) p))), .det (PLV (F12.sm a a (F12.sT a))), .det (V12 (F12.sN (F12.sm a a (F12.sT a)) q)), .det (PLV p), .det (V12 (F12.ln (F12.sm a a (F12.sT a)) (F12.sN (F12.sm a a (F12.sT a)) q) p)), .det (V12 (((g * g) * (F12.ln a (F12.sT a) p)) * (F12.ln (F12.sm a a (F12.sT a)) (F12.sN (F12.sm a a (F12.sT a)) q) p))), .store (.base 3) 0 (C12 (((g * g) * (F12.ln a (F12.sT a) p)) * (F12.ln (F12.sm a a (F12.sT a)) (F12.sN (F12.sm a a (F12.sT a)) q) p))) (C12 (((g * g) * (F12.ln a (F12.sT a) p)) * (F12.ln (F12.sm a a (F12.sT a)) (F12.sN (F12.sm a a (F12.sT a)) q) p)))] [0, 1, 2, 3, 4, 5, 6] [0, 0, 0, 0, 14, 31, 63] (fun L => [PLV p, PLV q, L0.p 0, L0.p 1, L0.p 2, pt b5 0, pt b6 0, .int .i64 ((m : Nat) : Int), L11.p 3, u9, u10, .int .i64 ((m + 1 : Nat) : Int), .bool true, .int .i64 ((m + 1 : Nat) : Int), .int .i64 ((m : Nat) : Int), PLV a, PLV a, V12 (F12.sT a), V12 g, V12 g, V12 (g * g), PLV a, V12 (F12.sT a), PLV p, V12 (F12.ln a (F12.sT a) p), V12 ((g * g) * (F12.ln a (F12.sT a) p)), PLV a, PLV a, V12 (F12.sT a), PLV (F12.sm a a (F12.sT a)), .int .i64 ((m : Nat) : Int), .int .u64 (15132376222941642752 / 2 ^ m), .int .u64 1, .bool true, PLV (F12.sm a a (F12.sT a)), PLV q, V12 (F12.sN (F12.sm a a (F12.sT a)) q), V12 ((g * g) * (F12.ln a (F12.sT a) p)), PLV (F12.sm a a (F12.sT a)), V12 (F12.sN (F12.sm a a (F12.sT a)) q), PLV p, V12 (F12.ln (F12.sm a a (F12.sT a)) (F12.sN (F12.sm a a (F12.sT a)) q) p), V12 (((g * g) * (F12.ln a (F12.sT a) p)) * (F12.ln (F12.sm a a (F12.sT a)) (F12.sN (F12.sm a a (F12.sT a)) q) p)), u43, u44, u45, u46, u47]) (fun L => [(L0.b 0, PLC p), (L0.b 1, PLC q), (L0.b 2, C12 0), (b5, C12 (((g * g) * (F12.ln a (F12.sT a) p)) * (F12.ln (F12.sm a a (F12.sT a)) (F12.sN (F12.sm a a (F12.sT a)) q) p))), (b6, PLC (F12.sm a a (F12.sT a))), (L11.b 3, C12 (F12.sN (F12.sm a a (F12.sT a)) q))]) hp16 ⟨
          oL 3 0 r12, oL 4 0 rPL, oL 5 0 r12, oL 0 0 rPL, oC K.stay hg (pairLine K (F12.sm a a (F12.sT a)) (F12.sN (F12.sm a a (F12.sT a)) q) p), oC K.stay hg (fp12Mul K ((g * g) * (F12.ln a (F12.sT a) p)) (F12.ln (F12.sm a a (F12.sT a)) (F12.sN (F12.sm a a (F12.sT a)) q) p)),
          oT r12,
          trivial⟩ (fun L16 w17 hp17 => ?_)
        refine k21 _ _ ?_
        refine gs [.det (PLV (F12.sm a a (F12.sT a))), .det (PLV q), .det (V12 (F12.sN (F12.sm a a (F12.sT a)) q)), .det (PLV (F12.sm (F12.sm a a (F12.sT a)) q (F12.sN (F12.sm a a (F12.sT a)) q))), .store (.base 4) 0 (PLC (F12.sm (F12.sm a a (F12.sT a)) q (F12.sN (F12.sm a a (F12.sT a)) q))) (PLC (F12.sm (F12.sm a a (F12.sT a)) q (F12.sN (F12.sm a a (F12.sT a)) q)))] [0, 1, 2, 3, 4] [0, 0, 0, 7, 15] (fun L => [PLV p, PLV q, L0.p 0, L0.p 1, L0.p 2, pt b5 0, pt b6 0, .int .i64 ((m : Nat) : Int), L11.p 3, u9, u10, .int .i64 ((m + 1 : Nat) : Int), .bool true, .int .i64 ((m + 1 : Nat) : Int), .int .i64 ((m : Nat) : Int), PLV a, PLV a, V12 (F12.sT a), V12 g, V12 g, V12 (g * g), PLV a, V12 (F12.sT a), PLV p, V12 (F12.ln a (F12.sT a) p), V12 ((g * g) * (F12.ln a (F12.sT a) p)), PLV a, PLV a, V12 (F12.sT a), PLV (F12.sm a a (F12.sT a)), .int .i64 ((m : Nat) : Int), .int .u64 (15132376222941642752 / 2 ^ m), .int .u64 1, .bool true, PLV (F12.sm a a (F12.sT a)), PLV q, V12 (F12.sN (F12.sm a a (F12.sT a)) q), V12 ((g * g) * (F12.ln a (F12.sT a) p)), PLV (F12.sm a a (F12.sT a)), V12 (F12.sN (F12.sm a a (F12.sT a)) q), PLV p, V12 (F12.ln (F12.sm a a (F12.sT a)) (F12.sN (F12.sm a a (F12.sT a)) q) p), V12 (((g * g) * (F12.ln a (F12.sT a) p)) * (F12.ln (F12.sm a a (F12.sT a)) (F12.sN (F12.sm a a (F12.sT a)) q) p)), PLV (F12.sm a a (F12.sT a)), PLV q, V12 (F12.sN (F12.sm a a (F12.sT a)) q), PLV (F12.sm (F12.sm a a (F12.sT a)) q (F12.sN (F12.sm a a (F12.sT a)) q)), u47]) (fun L => [(L0.b 0, PLC p), (L0.b 1, PLC q), (L0.b 2, C12 0), (b5, C12 (((g * g) * (F12.ln a (F12.sT a) p)) * (F12.ln (F12.sm a a (F12.sT a)) (F12.sN (F12.sm a a (F12.sT a)) q) p))), (b6, PLC (F12.sm (F12.sm a a (F12.sT a)) q (F12.sN (F12.sm a a (F12.sT a)) q))), (L11.b 3, C12 (F12.sN (F12.sm a a (F12.sT a)) q))]) hp17 ⟨
          oL 4 0 rPL, oL 1 0 rPL, oL 5 0 r12, oC K.stay hg (pairSum K (F12.sm a a (F12.sT a)) q (F12.sN (F12.sm a a (F12.sT a)) q)), oT rPL,
          trivial⟩ (fun L17 w18 hp18 => ?_)
        refine k18 _ _ ?_
        refine wp_goto ?_
        exact ⟨rfl, ⟨m, b5, b6, (((g * g) * (F12.ln a (F12.sT a) p)) * (F12.ln (F12.sm a a (F12.sT a)) (F12.sN (F12.sm a a (F12.sT a)) q) p)), (F12.sm (F12.sm a a (F12.sT a)) q (F12.sN (F12.sm a a (F12.sT a)) q)), L11.p 3, u9, u10, .int .i64 ((m + 1 : Nat) : Int), .bool true, .int .i64 ((m + 1 : Nat) : Int), .int .i64 ((m : Nat) : Int), PLV a, PLV a, V12 (F12.sT a), V12 g, V12 g, V12 (g * g), PLV a, V12 (F12.sT a), PLV p, V12 (F12.ln a (F12.sT a) p), V12 ((g * g) * (F12.ln a (F12.sT a) p)), PLV a, PLV a, V12 (F12.sT a), PLV (F12.sm a a (F12.sT a)), .int .i64 ((m : Nat) : Int), .int .u64 (15132376222941642752 / 2 ^ m), .int .u64 1, .bool true, PLV (F12.sm a a (F12.sT a)), PLV q, V12 (F12.sN (F12.sm a a (F12.sT a)) q), V12 ((g * g) * (F12.ln a (F12.sT a) p)), PLV (F12.sm a a (F12.sT a)), V12 (F12.sN (F12.sm a a (F12.sT a)) q), PLV p, V12 (F12.ln (F12.sm a a (F12.sT a)) (F12.sN (F12.sm a a (F12.sT a)) q) p), V12 (((g * g) * (F12.ln a (F12.sT a) p)) * (F12.ln (F12.sm a a (F12.sT a)) (F12.sN (F12.sm a a (F12.sT a)) q) p)), PLV (F12.sm a a (F12.sT a)), PLV q, V12 (F12.sN (F12.sm a a (F12.sT a)) q), PLV (F12.sm (F12.sm a a (F12.sT a)) q (F12.sN (F12.sm a a (F12.sT a)) q)), u47, rfl, by omega, hI.both M (by omega) hb1, Heap.sub hp18 (List.sublist_append_left [_, _, _, _, _] [_])⟩, by simp [slot, intOf]⟩
  · skip
    intro hr
    refine wp_seq_k (fun K22 k22 => ?_)
    refine dr [.det (V12 1), .det (PLV q), .alloc (C12 0), .alloc (PLC ⟨0, 0⟩), .store (.new 2) 0 (C12 1) (C12 1), .store (.new 3) 0 (PLC q) (PLC q)] [0, 1, 2, 3, 4, 5] [0, 0, 0, 0, 13, 31] (fun L => [PLV p, PLV q, L0.p 0, L0.p 1, L0.p 2, L.p 2, L.p 3, undef, undef, V12 1, PLV q] ++ U 37) (fun L => [(L0.b 0, PLC p), (L0.b 1, PLC q), (L0.b 2, C12 0), (L.b 2, C12 1), (L.b 3, PLC q)]) hp1 ⟨
      oC K.stay hg (fp12One K), oL 1 0 rPL, oZ r12, oZ rPL, oT r12, oT rPL,
      trivial⟩ (fun L18 w19 hp19 => ?_)
    refine k22 _ _ ?_
    refine wp_seq_k (fun K23 k23 => ?_)
    refine gs [.det (.int .i64 63)] [0] [0] (fun L => [PLV p, PLV q, L0.p 0, L0.p 1, L0.p 2, L18.p 2, L18.p 3, .int .i64 63, undef, V12 1, PLV q] ++ U 37) (fun L => [(L0.b 0, PLC p), (L0.b 1, PLC q), (L0.b 2, C12 0), (L18.b 2, C12 1), (L18.b 3, PLC q)]) hp19 ⟨
      oA,
      trivial⟩ (fun L19 w20 hp20 => ?_)
    refine k23 _ _ ?_
    refine wp_seq_k (fun K24 k24 => ?_)
    refine wp_label ?_
    exact k24 _ _ (hr _ _ ⟨63, (L18.b 2), (L18.b 3), 1, q, undef, V12 1, PLV q, undef, undef, undef, undef, undef, undef, undef, undef, undef, undef, undef, undef, undef, undef, undef, undef, undef, undef, undef, undef, undef, undef, undef, undef, undef, undef, undef, undef, undef, undef, undef, undef, undef, undef, undef, undef, undef, rfl, Nat.le_refl _, M.start, hp20⟩)
end Go.Proofs.YthnfgmhehfombaaGreatDoor.fpn
