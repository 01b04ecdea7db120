/- IR9. -/
import Derived.Test.YthehnlpgmkjefaaDoorGQ
import Derived.Test.YthehnlpgmkjefaaDoorGG
import Derived.Deep.LoopGhost
/- The reference's points of G1. -/
namespace Go.Proofs.YthehnlpgmkjefaaDoor.fpn.T2
open Go.RowKit Pl EC
set_option linter.unusedVariables false
set_option linter.unusedSimpArgs false
set_option maxRecDepth 4000

section
open Rn
variable {α : Type} [Add α] [Mul α] [Neg α] [Sub α] [OfNat α 0] [OfNat α 1] [CR α]
theorem ri8_0 (x1 y1 z1 x2 y2 z2 b : α) : ((((((x1 + y1) * (x2 + y2)) - (x1 * x2)) - (y1 * y2)) * ((y1 * y2) - (b * (z1 * z2)))) - (((((y1 + z1) * (y2 + z2)) - (y1 * y2)) - (z1 * z2)) * (b * ((((x1 + z1) * (x2 + z2)) - (x1 * x2)) - (z1 * z2))))) = ((((x1 * y2) + (x2 * y1)) * ((y1 * y2) - (b * (z1 * z2)))) - (((y1 * z2) + (y2 * z1)) * (b * ((x1 * z2) + (x2 * z1))))) := ring [x1, y1, z1, x2, y2, z2, b] (.s (.m (.s (.s (.m (.a (.v 0) (.v 1)) (.a (.v 3) (.v 4))) (.m (.v 0) (.v 3))) (.m (.v 1) (.v 4))) (.s (.m (.v 1) (.v 4)) (.m (.v 6) (.m (.v 2) (.v 5))))) (.m (.s (.s (.m (.a (.v 1) (.v 2)) (.a (.v 4) (.v 5))) (.m (.v 1) (.v 4))) (.m (.v 2) (.v 5))) (.m (.v 6) (.s (.s (.m (.a (.v 0) (.v 2)) (.a (.v 3) (.v 5))) (.m (.v 0) (.v 3))) (.m (.v 2) (.v 5)))))) (.s (.m (.a (.m (.v 0) (.v 4)) (.m (.v 3) (.v 1))) (.s (.m (.v 1) (.v 4)) (.m (.v 6) (.m (.v 2) (.v 5))))) (.m (.a (.m (.v 1) (.v 5)) (.m (.v 4) (.v 2))) (.m (.v 6) (.a (.m (.v 0) (.v 5)) (.m (.v 3) (.v 2)))))) (by kernel_rfl)
theorem ri8_1 (x1 y1 z1 x2 y2 z2 b : α) : ((((y1 * y2) - (b * (z1 * z2))) * ((y1 * y2) + (b * (z1 * z2)))) + ((b * ((((x1 + z1) * (x2 + z2)) - (x1 * x2)) - (z1 * z2))) * (((x1 * x2) + (x1 * x2)) + (x1 * x2)))) = ((((y1 * y2) - (b * (z1 * z2))) * ((y1 * y2) + (b * (z1 * z2)))) + ((b * ((x1 * z2) + (x2 * z1))) * (((x1 * x2) + (x1 * x2)) + (x1 * x2)))) := ring [x1, y1, z1, x2, y2, z2, b] (.a (.m (.s (.m (.v 1) (.v 4)) (.m (.v 6) (.m (.v 2) (.v 5)))) (.a (.m (.v 1) (.v 4)) (.m (.v 6) (.m (.v 2) (.v 5))))) (.m (.m (.v 6) (.s (.s (.m (.a (.v 0) (.v 2)) (.a (.v 3) (.v 5))) (.m (.v 0) (.v 3))) (.m (.v 2) (.v 5)))) (.a (.a (.m (.v 0) (.v 3)) (.m (.v 0) (.v 3))) (.m (.v 0) (.v 3))))) (.a (.m (.s (.m (.v 1) (.v 4)) (.m (.v 6) (.m (.v 2) (.v 5)))) (.a (.m (.v 1) (.v 4)) (.m (.v 6) (.m (.v 2) (.v 5))))) (.m (.m (.v 6) (.a (.m (.v 0) (.v 5)) (.m (.v 3) (.v 2)))) (.a (.a (.m (.v 0) (.v 3)) (.m (.v 0) (.v 3))) (.m (.v 0) (.v 3))))) (by kernel_rfl)
theorem ri8_2 (x1 y1 z1 x2 y2 z2 b : α) : ((((y1 * y2) + (b * (z1 * z2))) * ((((y1 + z1) * (y2 + z2)) - (y1 * y2)) - (z1 * z2))) + ((((x1 * x2) + (x1 * x2)) + (x1 * x2)) * ((((x1 + y1) * (x2 + y2)) - (x1 * x2)) - (y1 * y2)))) = ((((y1 * y2) + (b * (z1 * z2))) * ((y1 * z2) + (y2 * z1))) + ((((x1 * x2) + (x1 * x2)) + (x1 * x2)) * ((x1 * y2) + (x2 * y1)))) := ring [x1, y1, z1, x2, y2, z2, b] (.a (.m (.a (.m (.v 1) (.v 4)) (.m (.v 6) (.m (.v 2) (.v 5)))) (.s (.s (.m (.a (.v 1) (.v 2)) (.a (.v 4) (.v 5))) (.m (.v 1) (.v 4))) (.m (.v 2) (.v 5)))) (.m (.a (.a (.m (.v 0) (.v 3)) (.m (.v 0) (.v 3))) (.m (.v 0) (.v 3))) (.s (.s (.m (.a (.v 0) (.v 1)) (.a (.v 3) (.v 4))) (.m (.v 0) (.v 3))) (.m (.v 1) (.v 4))))) (.a (.m (.a (.m (.v 1) (.v 4)) (.m (.v 6) (.m (.v 2) (.v 5)))) (.a (.m (.v 1) (.v 5)) (.m (.v 4) (.v 2)))) (.m (.a (.a (.m (.v 0) (.v 3)) (.m (.v 0) (.v 3))) (.m (.v 0) (.v 3))) (.a (.m (.v 0) (.v 4)) (.m (.v 3) (.v 1))))) (by kernel_rfl)
end
def sp (t : F2 × F2 × F2) : Pj := ⟨t.1, t.2.1, t.2.2⟩
def radd2 (t u : F2 × F2 × F2) : F2 × F2 × F2 := (rX (b2 + b2 + b2) t.1 t.2.1 t.2.2 u.1 u.2.1 u.2.2, rY (b2 + b2 + b2) t.1 t.2.1 t.2.2 u.1 u.2.1 u.2.2, rZ (b2 + b2 + b2) t.1 t.2.1 t.2.2 u.1 u.2.1 u.2.2)
theorem twelve (x : F2) : ((((x + x) + (x + x)) + ((x + x) + (x + x))) + ((x + x) + (x + x))) * xi = (b2 + b2 + b2) * x := F2.ext' (by simp [xi, b2]; grind) (by simp [xi, b2]; grind)
set_option maxHeartbeats 4000000 in
theorem ref5xi (R : RefK)  (w : World) : Calls Tryd.prog 94 #[] w (Ret (PV xi) w) := by
  have hp0 := Heap.start w
  go_enter Tryd.func94, Tryd.ntmps94
  refine wp_seq_k (fun K1 k1 => ?_)
  refine gs [.alloc (PC 0)] [0] [0] (fun L => [pt (L.b 0) 0, undef, undef, undef]) (fun L => [(L.b 0, PC 0)]) hp0 ⟨
    oZ rP,
    trivial⟩ (fun L0 w1 hp1 => ?_)
  refine k1 _ _ ?_
  refine wp_seq_k (fun K2 k2 => ?_)
  refine gs [.det (FV 1), .det (FV 1), .det (PV ⟨1, 1⟩), .store (.base 0) 0 (PC ⟨1, 1⟩) (PC ⟨1, 1⟩)] [0, 1, 2, 3] [0, 1, 3, 7] (fun L => [pt (L0.b 0) 0, FV 1, FV 1, PV ⟨1, 1⟩]) (fun L => [((L0.b 0), PC ⟨1, 1⟩)]) hp1 ⟨
    oR R.of1, oR R.of1, oD (buildP 1 1), oT rP,
    trivial⟩ (fun L1 w2 hp2 => ?_)
  refine k2 _ _ ?_
  refine wp_ret ?_
  refine bodyPost_ret (v := PV ⟨1, 1⟩) ?_ rfl ?_
  · exact rc rP rfl (by kernel_rfl) (hp2.bound 0 rfl).2
  · exact ⟨rfl, hp2.bel⟩
set_option maxHeartbeats 4000000 in
theorem ref5mulB (R : RefK) (x y : F2) (w : World) : Calls Tryd.prog 64 #[PV x, PV y, .bool false] w (Ret (PV (x * y)) w) := by
  have hp0 := Heap.start w
  go_enter Tryd.func64, Tryd.ntmps64
  refine wp_seq_k (fun K1 k1 => ?_)
  refine gs [.alloc (PC x), .alloc (PC y), .alloc (PC 0)] [0, 1, 2] [0, 0, 0] (fun L => [PV x, PV y, .bool false, pt (L.b 0) 0, pt (L.b 1) 0, undef, pt (L.b 2) 0] ++ U 10) (fun L => [(L.b 0, PC x), (L.b 1, PC y), (L.b 2, PC 0)]) hp0 ⟨
    oB, oB, oZ rP,
    trivial⟩ (fun L0 w1 hp1 => ?_)
  refine k1 _ _ ?_
  refine wp_seq_k (fun K2 k2 => ?_)
  refine wp_seq_k (fun K3 k3 => ?_)
  refine gs [.det (.bool false)] [0] [0] (fun L => [PV x, PV y, .bool false, pt (L0.b 0) 0, pt (L0.b 1) 0, undef, pt (L0.b 2) 0, .bool false] ++ U 9) (fun L => [((L0.b 0), PC x), ((L0.b 1), PC y), ((L0.b 2), PC 0)]) hp1 ⟨
    oM,
    trivial⟩ (fun L1 w2 hp2 => ?_)
  refine k3 _ _ ?_
  refine wp_cond_false (by kernel_rfl) ?_
  refine skips ?_
  refine k2 _ _ ?_
  refine wp_seq_k (fun K4 k4 => ?_)
  refine gs [.det (PV x), .det (PV y), .det (PV (x * y)), .store (.base 2) 0 (PC (x * y)) (PC (x * y))] [0, 1, 2, 3] [0, 0, 3, 7] (fun L => [PV x, PV y, .bool false, pt (L0.b 0) 0, pt (L0.b 1) 0, undef, pt (L0.b 2) 0, .bool false, undef, undef, undef, undef, undef, undef, PV x, PV y, PV (x * y)]) (fun L => [((L0.b 0), PC x), ((L0.b 1), PC y), ((L0.b 2), PC (x * y))]) hp2 ⟨
    oL 0 0 rP, oL 1 0 rP, oR (ref5Mul2 R x y), oT rP,
    trivial⟩ (fun L2 w3 hp3 => ?_)
  refine k4 _ _ ?_
  refine wp_ret ?_
  refine bodyPost_ret (v := PV (x * y)) ?_ rfl ?_
  · exact rc rP rfl (by kernel_rfl) (hp3.bound 2 rfl).2
  · exact ⟨rfl, hp3.bel⟩
set_option maxHeartbeats 4000000 in
theorem ref5b3B (R : RefK) (x : F2) (w : World) : Calls Tryd.prog 66 #[PV x, .bool false] w (Ret (PV ((b2 + b2 + b2) * x)) w) := by
  have hp0 := Heap.start w
  go_enter Tryd.func66, Tryd.ntmps66
  refine wp_seq_k (fun K1 k1 => ?_)
  refine gs [.alloc (PC x), .alloc (PC 0)] [0, 1] [0, 0] (fun L => [PV x, .bool false, pt (L.b 0) 0, undef, pt (L.b 1) 0] ++ U 17) (fun L => [(L.b 0, PC x), (L.b 1, PC 0)]) hp0 ⟨
    oB, oZ rP,
    trivial⟩ (fun L0 w1 hp1 => ?_)
  refine k1 _ _ ?_
  refine wp_seq_k (fun K2 k2 => ?_)
  refine gs [.det (PV x), .det (PV x), .det (PV (x + x)), .alloc (PC 0), .store (.new 3) 0 (PC (x + x)) (PC (x + x))] [0, 1, 2, 3, 4] [0, 0, 3, 0, 15] (fun L => [PV x, .bool false, pt (L0.b 0) 0, undef, pt (L0.b 1) 0, pt (L.b 3) 0, PV x, PV x, PV (x + x)] ++ U 13) (fun L => [((L0.b 0), PC x), ((L0.b 1), PC 0), (L.b 3, PC (x + x))]) hp1 ⟨
    oL 0 0 rP, oL 0 0 rP, oR (ref5Add2 R x x), oZ rP, oT rP,
    trivial⟩ (fun L1 w2 hp2 => ?_)
  refine k2 _ _ ?_
  refine wp_seq_k (fun K3 k3 => ?_)
  refine gs [.det (PV (x + x)), .det (PV (x + x)), .det (PV ((x + x) + (x + x))), .store (.base 2) 0 (PC ((x + x) + (x + x))) (PC ((x + x) + (x + x)))] [0, 1, 2, 3] [0, 0, 3, 7] (fun L => [PV x, .bool false, pt (L0.b 0) 0, undef, pt (L0.b 1) 0, pt (L1.b 3) 0, PV x, PV x, PV (x + x), PV (x + x), PV (x + x), PV ((x + x) + (x + x))] ++ U 10) (fun L => [((L0.b 0), PC x), ((L0.b 1), PC 0), ((L1.b 3), PC ((x + x) + (x + x)))]) hp2 ⟨
    oL 2 0 rP, oL 2 0 rP, oR (ref5Add2 R (x + x) (x + x)), oT rP,
    trivial⟩ (fun L2 w3 hp3 => ?_)
  refine k3 _ _ ?_
  refine wp_seq_k (fun K4 k4 => ?_)
  refine dr [.det (PV ((x + x) + (x + x))), .det (PV ((x + x) + (x + x))), .det (PV (((x + x) + (x + x)) + ((x + x) + (x + x)))), .det (PV ((x + x) + (x + x))), .det (PV ((((x + x) + (x + x)) + ((x + x) + (x + x))) + ((x + x) + (x + x)))), .store (.base 2) 0 (PC ((((x + x) + (x + x)) + ((x + x) + (x + x))) + ((x + x) + (x + x)))) (PC ((((x + x) + (x + x)) + ((x + x) + (x + x))) + ((x + x) + (x + x))))] [0, 1, 2, 3, 4, 5] [0, 0, 3, 0, 15, 31] (fun L => [PV x, .bool false, pt (L0.b 0) 0, undef, pt (L0.b 1) 0, pt (L1.b 3) 0, PV x, PV x, PV (x + x), PV (x + x), PV (x + x), PV ((x + x) + (x + x)), PV ((x + x) + (x + x)), PV ((x + x) + (x + x)), PV (((x + x) + (x + x)) + ((x + x) + (x + x))), PV ((x + x) + (x + x)), PV ((((x + x) + (x + x)) + ((x + x) + (x + x))) + ((x + x) + (x + x)))] ++ U 5) (fun L => [((L0.b 0), PC x), ((L0.b 1), PC 0), ((L1.b 3), PC ((((x + x) + (x + x)) + ((x + x) + (x + x))) + ((x + x) + (x + x))))]) hp3 ⟨
    oL 2 0 rP, oL 2 0 rP, oR (ref5Add2 R ((x + x) + (x + x)) ((x + x) + (x + x))), oL 2 0 rP, oR (ref5Add2 R (((x + x) + (x + x)) + ((x + x) + (x + x))) ((x + x) + (x + x))),
    oT rP,
    trivial⟩ (fun L3 w4 hp4 => ?_)
  refine k4 _ _ ?_
  refine wp_seq_k (fun K5 k5 => ?_)
  refine wp_seq_k (fun K6 k6 => ?_)
  refine gs [.det (.bool false)] [0] [0] (fun L => [PV x, .bool false, pt (L0.b 0) 0, undef, pt (L0.b 1) 0, pt (L1.b 3) 0, PV x, PV x, PV (x + x), PV (x + x), PV (x + x), PV ((x + x) + (x + x)), PV ((x + x) + (x + x)), PV ((x + x) + (x + x)), PV (((x + x) + (x + x)) + ((x + x) + (x + x))), PV ((x + x) + (x + x)), PV ((((x + x) + (x + x)) + ((x + x) + (x + x))) + ((x + x) + (x + x))), .bool false] ++ U 4) (fun L => [((L0.b 0), PC x), ((L0.b 1), PC 0), ((L1.b 3), PC ((((x + x) + (x + x)) + ((x + x) + (x + x))) + ((x + x) + (x + x))))]) hp4 ⟨
    oM,
    trivial⟩ (fun L4 w5 hp5 => ?_)
  refine k6 _ _ ?_
  refine wp_cond_false (by kernel_rfl) ?_
  refine skips ?_
  refine k5 _ _ ?_
  refine wp_seq_k (fun K7 k7 => ?_)
  refine dr [.det (PV ((((x + x) + (x + x)) + ((x + x) + (x + x))) + ((x + x) + (x + x)))), .det (PV xi), .det (PV (((((x + x) + (x + x)) + ((x + x) + (x + x))) + ((x + x) + (x + x))) * xi)), .store (.base 1) 0 (PC (((((x + x) + (x + x)) + ((x + x) + (x + x))) + ((x + x) + (x + x))) * xi)) (PC (((((x + x) + (x + x)) + ((x + x) + (x + x))) + ((x + x) + (x + x))) * xi))] [0, 1, 2, 3] [0, 0, 3, 7] (fun L => [PV x, .bool false, pt (L0.b 0) 0, undef, pt (L0.b 1) 0, pt (L1.b 3) 0, PV x, PV x, PV (x + x), PV (x + x), PV (x + x), PV ((x + x) + (x + x)), PV ((x + x) + (x + x)), PV ((x + x) + (x + x)), PV (((x + x) + (x + x)) + ((x + x) + (x + x))), PV ((x + x) + (x + x)), PV ((((x + x) + (x + x)) + ((x + x) + (x + x))) + ((x + x) + (x + x))), .bool false, undef, PV ((((x + x) + (x + x)) + ((x + x) + (x + x))) + ((x + x) + (x + x))), PV xi, PV (((((x + x) + (x + x)) + ((x + x) + (x + x))) + ((x + x) + (x + x))) * xi)]) (fun L => [((L0.b 0), PC x), ((L0.b 1), PC (((((x + x) + (x + x)) + ((x + x) + (x + x))) + ((x + x) + (x + x))) * xi)), ((L1.b 3), PC ((((x + x) + (x + x)) + ((x + x) + (x + x))) + ((x + x) + (x + x))))]) hp5 ⟨
    oL 2 0 rP, oR (ref5xi R), oR (ref5Mul2 R ((((x + x) + (x + x)) + ((x + x) + (x + x))) + ((x + x) + (x + x))) xi), oT rP,
    trivial⟩ (fun L5 w6 hp6 => ?_)
  refine k7 _ _ ?_
  refine wp_ret ?_
  refine bodyPost_ret (v := PV (((((x + x) + (x + x)) + ((x + x) + (x + x))) + ((x + x) + (x + x))) * xi)) ?_ rfl ?_
  · exact rc rP rfl (by kernel_rfl) (hp6.bound 1 rfl).2
  · exact ⟨congrArg (fun z => Ending.returned (PV z)) (twelve x), hp6.bel⟩
set_option maxHeartbeats 4000000 in
theorem ref5addS (R : RefK) (x1 y1 z1 x2 y2 z2 : F2) (w : World) : Calls Tryd.prog 36 #[PJV ⟨x1, y1, z1⟩, PJV ⟨x2, y2, z2⟩, .bool false] w (Ret (PJV (sp (radd2 (x1, y1, z1) (x2, y2, z2)))) w) := by
  have hp0 := Heap.start w
  go_enter Tryd.func36, Tryd.ntmps36
  refine wp_seq_k (fun K1 k1 => ?_)
  refine gs [.alloc (PJC ⟨x1, y1, z1⟩), .alloc (PJC ⟨x2, y2, z2⟩), .alloc (PJC ⟨0, 0, 0⟩)] [0, 1, 2] [0, 0, 0] (fun L => [PJV ⟨x1, y1, z1⟩, PJV ⟨x2, y2, z2⟩, .bool false, pt (L.b 0) 0, pt (L.b 1) 0, undef, pt (L.b 2) 0] ++ U 122) (fun L => [(L.b 0, PJC ⟨x1, y1, z1⟩), (L.b 1, PJC ⟨x2, y2, z2⟩), (L.b 2, PJC ⟨0, 0, 0⟩)]) hp0 ⟨
    oB, oB, oZ rPJ,
    trivial⟩ (fun L0 w1 hp1 => ?_)
  refine k1 _ _ ?_
  refine wp_seq_k (fun K2 k2 => ?_)
  refine dr [.det (pt (L0.b 0) 0), .det (PV x1), .det (pt (L0.b 1) 0), .det (PV x2), .det (.bool false), .det (PV (x1 * x2)), .det (pt (L0.b 0) 12), .det (PV y1), .det (pt (L0.b 1) 12), .det (PV y2), .det (.bool false), .det (PV (y1 * y2)), .det (pt (L0.b 0) 24), .det (PV z1), .det (pt (L0.b 1) 24), .det (PV z2), .det (.bool false), .det (PV (z1 * z2)), .alloc (PC 0), .alloc (PC 0), .alloc (PC 0), .store (.new 18) 0 (PC (x1 * x2)) (PC (x1 * x2)), .store (.new 19) 0 (PC (y1 * y2)) (PC (y1 * y2)), .store (.new 20) 0 (PC (z1 * z2)) (PC (z1 * z2))] [0, 1, 2, 3, 4, 5, 6, 7, 8, 9, 10, 11, 12, 13, 14, 15, 16, 17, 18, 19, 20, 21, 22, 23] [0, 1, 0, 4, 0, 31, 0, 64, 0, 256, 0, 2047, 0, 4096, 0, 16384, 0, 131071, 0, 0, 0, 2097151, 4194303, 8388607] (fun L => [PJV ⟨x1, y1, z1⟩, PJV ⟨x2, y2, z2⟩, .bool false, pt (L0.b 0) 0, pt (L0.b 1) 0, undef, pt (L0.b 2) 0, pt (L.b 18) 0, pt (L.b 19) 0, pt (L.b 20) 0, undef, undef, undef, undef, undef, pt (L0.b 0) 0, PV x1, pt (L0.b 1) 0, PV x2, .bool false, PV (x1 * x2), pt (L0.b 0) 12, PV y1, pt (L0.b 1) 12, PV y2, .bool false, PV (y1 * y2), pt (L0.b 0) 24, PV z1, pt (L0.b 1) 24, PV z2, .bool false, PV (z1 * z2)] ++ U 96) (fun L => [((L0.b 0), PJC ⟨x1, y1, z1⟩), ((L0.b 1), PJC ⟨x2, y2, z2⟩), ((L0.b 2), PJC ⟨0, 0, 0⟩), (L.b 18, PC (x1 * x2)), (L.b 19, PC (y1 * y2)), (L.b 20, PC (z1 * z2))]) hp1 ⟨
    oF fP0, oL 0 0 rP, oF fP0, oL 1 0 rP, oM, oR (ref5mulB R x1 x2), oF fP1, oL 0 12 rP, oF fP1, oL 1 12 rP, oM, oR (ref5mulB R y1 y2), oF fP2, oL 0 24 rP, oF fP2,
    oL 1 24 rP, oM, oR (ref5mulB R z1 z2), oZ rP, oZ rP, oZ rP, oT rP, oT rP, oT rP,
    trivial⟩ (fun L1 w2 hp2 => ?_)
  refine k2 _ _ ?_
  refine wp_seq_k (fun K3 k3 => ?_)
  refine dr [.det (pt (L0.b 0) 0), .det (PV x1), .det (pt (L0.b 0) 12), .det (PV y1), .det (PV (x1 + y1)), .det (pt (L0.b 1) 0), .det (PV x2), .det (pt (L0.b 1) 12), .det (PV y2), .det (PV (x2 + y2)), .det (.bool false), .det (PV ((x1 + y1) * (x2 + y2))), .det (PV (x1 * x2)), .det (PV (((x1 + y1) * (x2 + y2)) - (x1 * x2))), .det (PV (y1 * y2)), .det (PV ((((x1 + y1) * (x2 + y2)) - (x1 * x2)) - (y1 * y2))), .alloc (PC 0), .store (.new 16) 0 (PC ((((x1 + y1) * (x2 + y2)) - (x1 * x2)) - (y1 * y2))) (PC ((((x1 + y1) * (x2 + y2)) - (x1 * x2)) - (y1 * y2)))] [0, 1, 2, 3, 4, 5, 6, 7, 8, 9, 10, 11, 12, 13, 14, 15, 16, 17] [0, 1, 0, 4, 15, 0, 32, 0, 128, 511, 0, 2047, 0, 8191, 0, 32767, 0, 131071] (fun L => [PJV ⟨x1, y1, z1⟩, PJV ⟨x2, y2, z2⟩, .bool false, pt (L0.b 0) 0, pt (L0.b 1) 0, undef, pt (L0.b 2) 0, pt (L1.b 18) 0, pt (L1.b 19) 0, pt (L1.b 20) 0, pt (L.b 16) 0, undef, undef, undef, undef, pt (L0.b 0) 0, PV x1, pt (L0.b 1) 0, PV x2, .bool false, PV (x1 * x2), pt (L0.b 0) 12, PV y1, pt (L0.b 1) 12, PV y2, .bool false, PV (y1 * y2), pt (L0.b 0) 24, PV z1, pt (L0.b 1) 24, PV z2, .bool false, PV (z1 * z2), pt (L0.b 0) 0, PV x1, pt (L0.b 0) 12, PV y1, PV (x1 + y1), pt (L0.b 1) 0, PV x2, pt (L0.b 1) 12, PV y2, PV (x2 + y2), .bool false, PV ((x1 + y1) * (x2 + y2)), PV (x1 * x2), PV (((x1 + y1) * (x2 + y2)) - (x1 * x2)), PV (y1 * y2), PV ((((x1 + y1) * (x2 + y2)) - (x1 * x2)) - (y1 * y2))] ++ U 80) (fun L => [((L0.b 0), PJC ⟨x1, y1, z1⟩), ((L0.b 1), PJC ⟨x2, y2, z2⟩), ((L0.b 2), PJC ⟨0, 0, 0⟩), ((L1.b 18), PC (x1 * x2)), ((L1.b 19), PC (y1 * y2)), ((L1.b 20), PC (z1 * z2)), (L.b 16, PC ((((x1 + y1) * (x2 + y2)) - (x1 * x2)) - (y1 * y2)))]) hp2 ⟨
    oF fP0, oL 0 0 rP, oF fP1, oL 0 12 rP, oR (ref5Add2 R x1 y1), oF fP0, oL 1 0 rP, oF fP1, oL 1 12 rP, oR (ref5Add2 R x2 y2), oM, oR (ref5mulB R (x1 + y1) (x2 + y2)),
    oL 3 0 rP, oR (ref5Sub2 R ((x1 + y1) * (x2 + y2)) (x1 * x2)), oL 4 0 rP, oR (ref5Sub2 R (((x1 + y1) * (x2 + y2)) - (x1 * x2)) (y1 * y2)), oZ rP, oT rP,
    trivial⟩ (fun L2 w3 hp3 => ?_)
  refine k3 _ _ ?_
  refine wp_seq_k (fun K4 k4 => ?_)
  refine dr [.det (pt (L0.b 0) 12), .det (PV y1), .det (pt (L0.b 0) 24), .det (PV z1), .det (PV (y1 + z1)), .det (pt (L0.b 1) 12), .det (PV y2), .det (pt (L0.b 1) 24), .det (PV z2), .det (PV (y2 + z2)), .det (.bool false), .det (PV ((y1 + z1) * (y2 + z2))), .det (PV (y1 * y2)), .det (PV (((y1 + z1) * (y2 + z2)) - (y1 * y2))), .det (PV (z1 * z2)), .det (PV ((((y1 + z1) * (y2 + z2)) - (y1 * y2)) - (z1 * z2))), .alloc (PC 0), .store (.new 16) 0 (PC ((((y1 + z1) * (y2 + z2)) - (y1 * y2)) - (z1 * z2))) (PC ((((y1 + z1) * (y2 + z2)) - (y1 * y2)) - (z1 * z2)))] [0, 1, 2, 3, 4, 5, 6, 7, 8, 9, 10, 11, 12, 13, 14, 15, 16, 17] [0, 1, 0, 4, 15, 0, 32, 0, 128, 511, 0, 2047, 0, 8191, 0, 32767, 0, 131071] (fun L => [PJV ⟨x1, y1, z1⟩, PJV ⟨x2, y2, z2⟩, .bool false, pt (L0.b 0) 0, pt (L0.b 1) 0, undef, pt (L0.b 2) 0, pt (L1.b 18) 0, pt (L1.b 19) 0, pt (L1.b 20) 0, pt (L2.b 16) 0, pt (L.b 16) 0, undef, undef, undef, pt (L0.b 0) 0, PV x1, pt (L0.b 1) 0, PV x2, .bool false, PV (x1 * x2), pt (L0.b 0) 12, PV y1, pt (L0.b 1) 12, PV y2, .bool false, PV (y1 * y2), pt (L0.b 0) 24, PV z1, pt (L0.b 1) 24, PV z2, .bool false, PV (z1 * z2), pt (L0.b 0) 0, PV x1, pt (L0.b 0) 12, PV y1, PV (x1 + y1), pt (L0.b 1) 0, PV x2, pt (L0.b 1) 12, PV y2, PV (x2 + y2), .bool false, PV ((x1 + y1) * (x2 + y2)), PV (x1 * x2), PV (((x1 + y1) * (x2 + y2)) - (x1 * x2)), PV (y1 * y2), PV ((((x1 + y1) * (x2 + y2)) - (x1 * x2)) - (y1 * y2)), pt (L0.b 0) 12, PV y1, pt (L0.b 0) 24, PV z1, PV (y1 + z1), pt (L0.b 1) 12, PV y2, pt (L0.b 1) 24, PV z2, PV (y2 + z2), .bool false, PV ((y1 + z1) * (y2 + z2)), PV (y1 * y2), PV (((y1 + z1) * (y2 + z2)) - (y1 * y2)), PV (z1 * z2), PV ((((y1 + z1) * (y2 + z2)) - (y1 * y2)) - (z1 * z2))] ++ U 64) (fun L => [((L0.b 0), PJC ⟨x1, y1, z1⟩), ((L0.b 1), PJC ⟨x2, y2, z2⟩), ((L0.b 2), PJC ⟨0, 0, 0⟩), ((L1.b 18), PC (x1 * x2)), ((L1.b 19), PC (y1 * y2)), ((L1.b 20), PC (z1 * z2)), ((L2.b 16), PC ((((x1 + y1) * (x2 + y2)) - (x1 * x2)) - (y1 * y2))), (L.b 16, PC ((((y1 + z1) * (y2 + z2)) - (y1 * y2)) - (z1 * z2)))]) hp3 ⟨
    oF fP1, oL 0 12 rP, oF fP2, oL 0 24 rP, oR (ref5Add2 R y1 z1), oF fP1, oL 1 12 rP, oF fP2, oL 1 24 rP, oR (ref5Add2 R y2 z2), oM, oR (ref5mulB R (y1 + z1) (y2 + z2)),
    oL 4 0 rP, oR (ref5Sub2 R ((y1 + z1) * (y2 + z2)) (y1 * y2)), oL 5 0 rP, oR (ref5Sub2 R (((y1 + z1) * (y2 + z2)) - (y1 * y2)) (z1 * z2)), oZ rP, oT rP,
    trivial⟩ (fun L3 w4 hp4 => ?_)
  refine k4 _ _ ?_
  refine wp_seq_k (fun K5 k5 => ?_)
  refine dr [.det (pt (L0.b 0) 0), .det (PV x1), .det (pt (L0.b 0) 24), .det (PV z1), .det (PV (x1 + z1)), .det (pt (L0.b 1) 0), .det (PV x2), .det (pt (L0.b 1) 24), .det (PV z2), .det (PV (x2 + z2)), .det (.bool false), .det (PV ((x1 + z1) * (x2 + z2))), .det (PV (x1 * x2)), .det (PV (((x1 + z1) * (x2 + z2)) - (x1 * x2))), .det (PV (z1 * z2)), .det (PV ((((x1 + z1) * (x2 + z2)) - (x1 * x2)) - (z1 * z2))), .alloc (PC 0), .store (.new 16) 0 (PC ((((x1 + z1) * (x2 + z2)) - (x1 * x2)) - (z1 * z2))) (PC ((((x1 + z1) * (x2 + z2)) - (x1 * x2)) - (z1 * z2)))] [0, 1, 2, 3, 4, 5, 6, 7, 8, 9, 10, 11, 12, 13, 14, 15, 16, 17] [0, 1, 0, 4, 15, 0, 32, 0, 128, 511, 0, 2047, 0, 8191, 0, 32767, 0, 131071] (fun L => [PJV ⟨x1, y1, z1⟩, PJV ⟨x2, y2, z2⟩, .bool false, pt (L0.b 0) 0, pt (L0.b 1) 0, undef, pt (L0.b 2) 0, pt (L1.b 18) 0, pt (L1.b 19) 0, pt (L1.b 20) 0, pt (L2.b 16) 0, pt (L3.b 16) 0, pt (L.b 16) 0, undef, undef, pt (L0.b 0) 0, PV x1, pt (L0.b 1) 0, PV x2, .bool false, PV (x1 * x2), pt (L0.b 0) 12, PV y1, pt (L0.b 1) 12, PV y2, .bool false, PV (y1 * y2), pt (L0.b 0) 24, PV z1, pt (L0.b 1) 24, PV z2, .bool false, PV (z1 * z2), pt (L0.b 0) 0, PV x1, pt (L0.b 0) 12, PV y1, PV (x1 + y1), pt (L0.b 1) 0, PV x2, pt (L0.b 1) 12, PV y2, PV (x2 + y2), .bool false, PV ((x1 + y1) * (x2 + y2)), PV (x1 * x2), PV (((x1 + y1) * (x2 + y2)) - (x1 * x2)), PV (y1 * y2), PV ((((x1 + y1) * (x2 + y2)) - (x1 * x2)) - (y1 * y2)), pt (L0.b 0) 12, PV y1, pt (L0.b 0) 24, PV z1, PV (y1 + z1), pt (L0.b 1) 12, PV y2, pt (L0.b 1) 24, PV z2, PV (y2 + z2), .bool false, PV ((y1 + z1) * (y2 + z2)), PV (y1 * y2), PV (((y1 + z1) * (y2 + z2)) - (y1 * y2)), PV (z1 * z2), PV ((((y1 + z1) * (y2 + z2)) - (y1 * y2)) - (z1 * z2)), pt (L0.b 0) 0, PV x1, pt (L0.b 0) 24, PV z1, PV (x1 + z1), pt (L0.b 1) 0, PV x2, pt (L0.b 1) 24, PV z2, PV (x2 + z2), .bool false, PV ((x1 + z1) * (x2 + z2)), PV (x1 * x2), PV (((x1 + z1) * (x2 + z2)) - (x1 * x2)), PV (z1 * z2), PV ((((x1 + z1) * (x2 + z2)) - (x1 * x2)) - (z1 * z2))] ++ U 48) (fun L => [((L0.b 0), PJC ⟨x1, y1, z1⟩), ((L0.b 1), PJC ⟨x2, y2, z2⟩), ((L0.b 2), PJC ⟨0, 0, 0⟩), ((L1.b 18), PC (x1 * x2)), ((L1.b 19), PC (y1 * y2)), ((L1.b 20), PC (z1 * z2)), ((L2.b 16), PC ((((x1 + y1) * (x2 + y2)) - (x1 * x2)) - (y1 * y2))), ((L3.b 16), PC ((((y1 + z1) * (y2 + z2)) - (y1 * y2)) - (z1 * z2))), (L.b 16, PC ((((x1 + z1) * (x2 + z2)) - (x1 * x2)) - (z1 * z2)))]) hp4 ⟨
    oF fP0, oL 0 0 rP, oF fP2, oL 0 24 rP, oR (ref5Add2 R x1 z1), oF fP0, oL 1 0 rP, oF fP2, oL 1 24 rP, oR (ref5Add2 R x2 z2), oM, oR (ref5mulB R (x1 + z1) (x2 + z2)),
    oL 3 0 rP, oR (ref5Sub2 R ((x1 + z1) * (x2 + z2)) (x1 * x2)), oL 5 0 rP, oR (ref5Sub2 R (((x1 + z1) * (x2 + z2)) - (x1 * x2)) (z1 * z2)), oZ rP, oT rP,
    trivial⟩ (fun L4 w5 hp5 => ?_)
  refine k5 _ _ ?_
  refine wp_seq_k (fun K6 k6 => ?_)
  refine dr [.det (PV (x1 * x2)), .det (PV (x1 * x2)), .det (PV ((x1 * x2) + (x1 * x2))), .det (PV (x1 * x2)), .det (PV (((x1 * x2) + (x1 * x2)) + (x1 * x2))), .store (.base 3) 0 (PC (((x1 * x2) + (x1 * x2)) + (x1 * x2))) (PC (((x1 * x2) + (x1 * x2)) + (x1 * x2)))] [0, 1, 2, 3, 4, 5] [0, 0, 3, 0, 15, 31] (fun L => [PJV ⟨x1, y1, z1⟩, PJV ⟨x2, y2, z2⟩, .bool false, pt (L0.b 0) 0, pt (L0.b 1) 0, undef, pt (L0.b 2) 0, pt (L1.b 18) 0, pt (L1.b 19) 0, pt (L1.b 20) 0, pt (L2.b 16) 0, pt (L3.b 16) 0, pt (L4.b 16) 0, undef, undef, pt (L0.b 0) 0, PV x1, pt (L0.b 1) 0, PV x2, .bool false, PV (x1 * x2), pt (L0.b 0) 12, PV y1, pt (L0.b 1) 12, PV y2, .bool false, PV (y1 * y2), pt (L0.b 0) 24, PV z1, pt (L0.b 1) 24, PV z2, .bool false, PV (z1 * z2), pt (L0.b 0) 0, PV x1, pt (L0.b 0) 12, PV y1, PV (x1 + y1), pt (L0.b 1) 0, PV x2, pt (L0.b 1) 12, PV y2, PV (x2 + y2), .bool false, PV ((x1 + y1) * (x2 + y2)), PV (x1 * x2), PV (((x1 + y1) * (x2 + y2)) - (x1 * x2)), PV (y1 * y2), PV ((((x1 + y1) * (x2 + y2)) - (x1 * x2)) - (y1 * y2)), pt (L0.b 0) 12, PV y1, pt (L0.b 0) 24, PV z1, PV (y1 + z1), pt (L0.b 1) 12, PV y2, pt (L0.b 1) 24, PV z2, PV (y2 + z2), .bool false, PV ((y1 + z1) * (y2 + z2)), PV (y1 * y2), PV (((y1 + z1) * (y2 + z2)) - (y1 * y2)), PV (z1 * z2), PV ((((y1 + z1) * (y2 + z2)) - (y1 * y2)) - (z1 * z2)), pt (L0.b 0) 0, PV x1, pt (L0.b 0) 24, PV z1, PV (x1 + z1), pt (L0.b 1) 0, PV x2, pt (L0.b 1) 24, PV z2, PV (x2 + z2), .bool false, PV ((x1 + z1) * (x2 + z2)), PV (x1 * x2), PV (((x1 + z1) * (x2 + z2)) - (x1 * x2)), PV (z1 * z2), PV ((((x1 + z1) * (x2 + z2)) - (x1 * x2)) - (z1 * z2)), PV (x1 * x2), PV (x1 * x2), PV ((x1 * x2) + (x1 * x2)), PV (x1 * x2), PV (((x1 * x2) + (x1 * x2)) + (x1 * x2))] ++ U 43) (fun L => [((L0.b 0), PJC ⟨x1, y1, z1⟩), ((L0.b 1), PJC ⟨x2, y2, z2⟩), ((L0.b 2), PJC ⟨0, 0, 0⟩), ((L1.b 18), PC (((x1 * x2) + (x1 * x2)) + (x1 * x2))), ((L1.b 19), PC (y1 * y2)), ((L1.b 20), PC (z1 * z2)), ((L2.b 16), PC ((((x1 + y1) * (x2 + y2)) - (x1 * x2)) - (y1 * y2))), ((L3.b 16), PC ((((y1 + z1) * (y2 + z2)) - (y1 * y2)) - (z1 * z2))), ((L4.b 16), PC ((((x1 + z1) * (x2 + z2)) - (x1 * x2)) - (z1 * z2)))]) hp5 ⟨
    oL 3 0 rP, oL 3 0 rP, oR (ref5Add2 R (x1 * x2) (x1 * x2)), oL 3 0 rP, oR (ref5Add2 R ((x1 * x2) + (x1 * x2)) (x1 * x2)), oT rP,
    trivial⟩ (fun L5 w6 hp6 => ?_)
  refine k6 _ _ ?_
  refine wp_seq_k (fun K7 k7 => ?_)
  refine gs [.det (PV (z1 * z2)), .det (.bool false), .det (PV ((b2 + b2 + b2) * (z1 * z2))), .store (.base 5) 0 (PC ((b2 + b2 + b2) * (z1 * z2))) (PC ((b2 + b2 + b2) * (z1 * z2)))] [0, 1, 2, 3] [0, 0, 3, 7] (fun L => [PJV ⟨x1, y1, z1⟩, PJV ⟨x2, y2, z2⟩, .bool false, pt (L0.b 0) 0, pt (L0.b 1) 0, undef, pt (L0.b 2) 0, pt (L1.b 18) 0, pt (L1.b 19) 0, pt (L1.b 20) 0, pt (L2.b 16) 0, pt (L3.b 16) 0, pt (L4.b 16) 0, undef, undef, pt (L0.b 0) 0, PV x1, pt (L0.b 1) 0, PV x2, .bool false, PV (x1 * x2), pt (L0.b 0) 12, PV y1, pt (L0.b 1) 12, PV y2, .bool false, PV (y1 * y2), pt (L0.b 0) 24, PV z1, pt (L0.b 1) 24, PV z2, .bool false, PV (z1 * z2), pt (L0.b 0) 0, PV x1, pt (L0.b 0) 12, PV y1, PV (x1 + y1), pt (L0.b 1) 0, PV x2, pt (L0.b 1) 12, PV y2, PV (x2 + y2), .bool false, PV ((x1 + y1) * (x2 + y2)), PV (x1 * x2), PV (((x1 + y1) * (x2 + y2)) - (x1 * x2)), PV (y1 * y2), PV ((((x1 + y1) * (x2 + y2)) - (x1 * x2)) - (y1 * y2)), pt (L0.b 0) 12, PV y1, pt (L0.b 0) 24, PV z1, PV (y1 + z1), pt (L0.b 1) 12, PV y2, pt (L0.b 1) 24, PV z2, PV (y2 + z2), .bool false, PV ((y1 + z1) * (y2 + z2)), PV (y1 * y2), PV (((y1 + z1) * (y2 + z2)) - (y1 * y2)), PV (z1 * z2), PV ((((y1 + z1) * (y2 + z2)) - (y1 * y2)) - (z1 * z2)), pt (L0.b 0) 0, PV x1, pt (L0.b 0) 24, PV z1, PV (x1 + z1), pt (L0.b 1) 0, PV x2, pt (L0.b 1) 24, PV z2, PV (x2 + z2), .bool false, PV ((x1 + z1) * (x2 + z2)), PV (x1 * x2), PV (((x1 + z1) * (x2 + z2)) - (x1 * x2)), PV (z1 * z2), PV ((((x1 + z1) * (x2 + z2)) - (x1 * x2)) - (z1 * z2)), PV (x1 * x2), PV (x1 * x2), PV ((x1 * x2) + (x1 * x2)), PV (x1 * x2), PV (((x1 * x2) + (x1 * x2)) + (x1 * x2)), PV (z1 * z2), .bool false, PV ((b2 + b2 + b2) * (z1 * z2))] ++ U 40) (fun L => [((L0.b 0), PJC ⟨x1, y1, z1⟩), ((L0.b 1), PJC ⟨x2, y2, z2⟩), ((L0.b 2), PJC ⟨0, 0, 0⟩), ((L1.b 18), PC (((x1 * x2) + (x1 * x2)) + (x1 * x2))), ((L1.b 19), PC (y1 * y2)), ((L1.b 20), PC ((b2 + b2 + b2) * (z1 * z2))), ((L2.b 16), PC ((((x1 + y1) * (x2 + y2)) - (x1 * x2)) - (y1 * y2))), ((L3.b 16), PC ((((y1 + z1) * (y2 + z2)) - (y1 * y2)) - (z1 * z2))), ((L4.b 16), PC ((((x1 + z1) * (x2 + z2)) - (x1 * x2)) - (z1 * z2)))]) hp6 ⟨
    oL 5 0 rP, oM, oR (ref5b3B R (z1 * z2)), oT rP,
    trivial⟩ (fun L6 w7 hp7 => ?_)
  refine k7 _ _ ?_
  refine wp_seq_k (fun K8 k8 => ?_)
  refine gs [.det (PV (y1 * y2)), .det (PV ((b2 + b2 + b2) * (z1 * z2))), .det (PV ((y1 * y2) + ((b2 + b2 + b2) * (z1 * z2)))), .alloc (PC 0), .store (.new 3) 0 (PC ((y1 * y2) + ((b2 + b2 + b2) * (z1 * z2)))) (PC ((y1 * y2) + ((b2 + b2 + b2) * (z1 * z2))))] [0, 1, 2, 3, 4] [0, 0, 3, 0, 15] (fun L => [PJV ⟨x1, y1, z1⟩, PJV ⟨x2, y2, z2⟩, .bool false, pt (L0.b 0) 0, pt (L0.b 1) 0, undef, pt (L0.b 2) 0, pt (L1.b 18) 0, pt (L1.b 19) 0, pt (L1.b 20) 0, pt (L2.b 16) 0, pt (L3.b 16) 0, pt (L4.b 16) 0, pt (L.b 3) 0, undef, pt (L0.b 0) 0, PV x1, pt (L0.b 1) 0, PV x2, .bool false, PV (x1 * x2), pt (L0.b 0) 12, PV y1, pt (L0.b 1) 12, PV y2, .bool false, PV (y1 * y2), pt (L0.b 0) 24, PV z1, pt (L0.b 1) 24, PV z2, .bool false, PV (z1 * z2), pt (L0.b 0) 0, PV x1, pt (L0.b 0) 12, PV y1, PV (x1 + y1), pt (L0.b 1) 0, PV x2, pt (L0.b 1) 12, PV y2, PV (x2 + y2), .bool false, PV ((x1 + y1) * (x2 + y2)), PV (x1 * x2), PV (((x1 + y1) * (x2 + y2)) - (x1 * x2)), PV (y1 * y2), PV ((((x1 + y1) * (x2 + y2)) - (x1 * x2)) - (y1 * y2)), pt (L0.b 0) 12, PV y1, pt (L0.b 0) 24, PV z1, PV (y1 + z1), pt (L0.b 1) 12, PV y2, pt (L0.b 1) 24, PV z2, PV (y2 + z2), .bool false, PV ((y1 + z1) * (y2 + z2)), PV (y1 * y2), PV (((y1 + z1) * (y2 + z2)) - (y1 * y2)), PV (z1 * z2), PV ((((y1 + z1) * (y2 + z2)) - (y1 * y2)) - (z1 * z2)), pt (L0.b 0) 0, PV x1, pt (L0.b 0) 24, PV z1, PV (x1 + z1), pt (L0.b 1) 0, PV x2, pt (L0.b 1) 24, PV z2, PV (x2 + z2), .bool false, PV ((x1 + z1) * (x2 + z2)), PV (x1 * x2), PV (((x1 + z1) * (x2 + z2)) - (x1 * x2)), PV (z1 * z2), PV ((((x1 + z1) * (x2 + z2)) - (x1 * x2)) - (z1 * z2)), PV (x1 * x2), PV (x1 * x2), PV ((x1 * x2) + (x1 * x2)), PV (x1 * x2), PV (((x1 * x2) + (x1 * x2)) + (x1 * x2)), PV (z1 * z2), .bool false, PV ((b2 + b2 + b2) * (z1 * z2)), PV (y1 * y2), PV ((b2 + b2 + b2) * (z1 * z2)), PV ((y1 * y2) + ((b2 + b2 + b2) * (z1 * z2)))] ++ U 37) (fun L => [((L0.b 0), PJC ⟨x1, y1, z1⟩), ((L0.b 1), PJC ⟨x2, y2, z2⟩), ((L0.b 2), PJC ⟨0, 0, 0⟩), ((L1.b 18), PC (((x1 * x2) + (x1 * x2)) + (x1 * x2))), ((L1.b 19), PC (y1 * y2)), ((L1.b 20), PC ((b2 + b2 + b2) * (z1 * z2))), ((L2.b 16), PC ((((x1 + y1) * (x2 + y2)) - (x1 * x2)) - (y1 * y2))), ((L3.b 16), PC ((((y1 + z1) * (y2 + z2)) - (y1 * y2)) - (z1 * z2))), ((L4.b 16), PC ((((x1 + z1) * (x2 + z2)) - (x1 * x2)) - (z1 * z2))), (L.b 3, PC ((y1 * y2) + ((b2 + b2 + b2) * (z1 * z2))))]) hp7 ⟨
    oL 4 0 rP, oL 5 0 rP, oR (ref5Add2 R (y1 * y2) ((b2 + b2 + b2) * (z1 * z2))), oZ rP, oT rP,
    trivial⟩ (fun L7 w8 hp8 => ?_)
  refine k8 _ _ ?_
  refine wp_seq_k (fun K9 k9 => ?_)
  refine gs [.det (PV (y1 * y2)), .det (PV ((b2 + b2 + b2) * (z1 * z2))), .det (PV ((y1 * y2) - ((b2 + b2 + b2) * (z1 * z2)))), .store (.base 4) 0 (PC ((y1 * y2) - ((b2 + b2 + b2) * (z1 * z2)))) (PC ((y1 * y2) - ((b2 + b2 + b2) * (z1 * z2))))] [0, 1, 2, 3] [0, 0, 3, 7] (fun L => [PJV ⟨x1, y1, z1⟩, PJV ⟨x2, y2, z2⟩, .bool false, pt (L0.b 0) 0, pt (L0.b 1) 0, undef, pt (L0.b 2) 0, pt (L1.b 18) 0, pt (L1.b 19) 0, pt (L1.b 20) 0, pt (L2.b 16) 0, pt (L3.b 16) 0, pt (L4.b 16) 0, pt (L7.b 3) 0, undef, pt (L0.b 0) 0, PV x1, pt (L0.b 1) 0, PV x2, .bool false, PV (x1 * x2), pt (L0.b 0) 12, PV y1, pt (L0.b 1) 12, PV y2, .bool false, PV (y1 * y2), pt (L0.b 0) 24, PV z1, pt (L0.b 1) 24, PV z2, .bool false, PV (z1 * z2), pt (L0.b 0) 0, PV x1, pt (L0.b 0) 12, PV y1, PV (x1 + y1), pt (L0.b 1) 0, PV x2, pt (L0.b 1) 12, PV y2, PV (x2 + y2), .bool false, PV ((x1 + y1) * (x2 + y2)), PV (x1 * x2), PV (((x1 + y1) * (x2 + y2)) - (x1 * x2)), PV (y1 * y2), PV ((((x1 + y1) * (x2 + y2)) - (x1 * x2)) - (y1 * y2)), pt (L0.b 0) 12, PV y1, pt (L0.b 0) 24, PV z1, PV (y1 + z1), pt (L0.b 1) 12, PV y2, pt (L0.b 1) 24, PV z2, PV (y2 + z2), .bool false, PV ((y1 + z1) * (y2 + z2)), PV (y1 * y2), PV (((y1 + z1) * (y2 + z2)) - (y1 * y2)), PV (z1 * z2), PV ((((y1 + z1) * (y2 + z2)) - (y1 * y2)) - (z1 * z2)), pt (L0.b 0) 0, PV x1, pt (L0.b 0) 24, PV z1, PV (x1 + z1), pt (L0.b 1) 0, PV x2, pt (L0.b 1) 24, PV z2, PV (x2 + z2), .bool false, PV ((x1 + z1) * (x2 + z2)), PV (x1 * x2), PV (((x1 + z1) * (x2 + z2)) - (x1 * x2)), PV (z1 * z2), PV ((((x1 + z1) * (x2 + z2)) - (x1 * x2)) - (z1 * z2)), PV (x1 * x2), PV (x1 * x2), PV ((x1 * x2) + (x1 * x2)), PV (x1 * x2), PV (((x1 * x2) + (x1 * x2)) + (x1 * x2)), PV (z1 * z2), .bool false, PV ((b2 + b2 + b2) * (z1 * z2)), PV (y1 * y2), PV ((b2 + b2 + b2) * (z1 * z2)), PV ((y1 * y2) + ((b2 + b2 + b2) * (z1 * z2))), PV (y1 * y2), PV ((b2 + b2 + b2) * (z1 * z2)), PV ((y1 * y2) - ((b2 + b2 + b2) * (z1 * z2)))] ++ U 34) (fun L => [((L0.b 0), PJC ⟨x1, y1, z1⟩), ((L0.b 1), PJC ⟨x2, y2, z2⟩), ((L0.b 2), PJC ⟨0, 0, 0⟩), ((L1.b 18), PC (((x1 * x2) + (x1 * x2)) + (x1 * x2))), ((L1.b 19), PC ((y1 * y2) - ((b2 + b2 + b2) * (z1 * z2)))), ((L1.b 20), PC ((b2 + b2 + b2) * (z1 * z2))), ((L2.b 16), PC ((((x1 + y1) * (x2 + y2)) - (x1 * x2)) - (y1 * y2))), ((L3.b 16), PC ((((y1 + z1) * (y2 + z2)) - (y1 * y2)) - (z1 * z2))), ((L4.b 16), PC ((((x1 + z1) * (x2 + z2)) - (x1 * x2)) - (z1 * z2))), ((L7.b 3), PC ((y1 * y2) + ((b2 + b2 + b2) * (z1 * z2))))]) hp8 ⟨
    oL 4 0 rP, oL 5 0 rP, oR (ref5Sub2 R (y1 * y2) ((b2 + b2 + b2) * (z1 * z2))), oT rP,
    trivial⟩ (fun L8 w9 hp9 => ?_)
  refine k9 _ _ ?_
  refine wp_seq_k (fun K10 k10 => ?_)
  refine gs [.det (PV ((((x1 + z1) * (x2 + z2)) - (x1 * x2)) - (z1 * z2))), .det (.bool false), .det (PV ((b2 + b2 + b2) * ((((x1 + z1) * (x2 + z2)) - (x1 * x2)) - (z1 * z2)))), .store (.base 8) 0 (PC ((b2 + b2 + b2) * ((((x1 + z1) * (x2 + z2)) - (x1 * x2)) - (z1 * z2)))) (PC ((b2 + b2 + b2) * ((((x1 + z1) * (x2 + z2)) - (x1 * x2)) - (z1 * z2))))] [0, 1, 2, 3] [0, 0, 3, 7] (fun L => [PJV ⟨x1, y1, z1⟩, PJV ⟨x2, y2, z2⟩, .bool false, pt (L0.b 0) 0, pt (L0.b 1) 0, undef, pt (L0.b 2) 0, pt (L1.b 18) 0, pt (L1.b 19) 0, pt (L1.b 20) 0, pt (L2.b 16) 0, pt (L3.b 16) 0, pt (L4.b 16) 0, pt (L7.b 3) 0, undef, pt (L0.b 0) 0, PV x1, pt (L0.b 1) 0, PV x2, .bool false, PV (x1 * x2), pt (L0.b 0) 12, PV y1, pt (L0.b 1) 12, PV y2, .bool false, PV (y1 * y2), pt (L0.b 0) 24, PV z1, pt (L0.b 1) 24, PV z2, .bool false, PV (z1 * z2), pt (L0.b 0) 0, PV x1, pt (L0.b 0) 12, PV y1, PV (x1 + y1), pt (L0.b 1) 0, PV x2, pt (L0.b 1) 12, PV y2, PV (x2 + y2), .bool false, PV ((x1 + y1) * (x2 + y2)), PV (x1 * x2), PV (((x1 + y1) * (x2 + y2)) - (x1 * x2)), PV (y1 * y2), PV ((((x1 + y1) * (x2 + y2)) - (x1 * x2)) - (y1 * y2)), pt (L0.b 0) 12, PV y1, pt (L0.b 0) 24, PV z1, PV (y1 + z1), pt (L0.b 1) 12, PV y2, pt (L0.b 1) 24, PV z2, PV (y2 + z2), .bool false, PV ((y1 + z1) * (y2 + z2)), PV (y1 * y2), PV (((y1 + z1) * (y2 + z2)) - (y1 * y2)), PV (z1 * z2), PV ((((y1 + z1) * (y2 + z2)) - (y1 * y2)) - (z1 * z2)), pt (L0.b 0) 0, PV x1, pt (L0.b 0) 24, PV z1, PV (x1 + z1), pt (L0.b 1) 0, PV x2, pt (L0.b 1) 24, PV z2, PV (x2 + z2), .bool false, PV ((x1 + z1) * (x2 + z2)), PV (x1 * x2), PV (((x1 + z1) * (x2 + z2)) - (x1 * x2)), PV (z1 * z2), PV ((((x1 + z1) * (x2 + z2)) - (x1 * x2)) - (z1 * z2)), PV (x1 * x2), PV (x1 * x2), PV ((x1 * x2) + (x1 * x2)), PV (x1 * x2), PV (((x1 * x2) + (x1 * x2)) + (x1 * x2)), PV (z1 * z2), .bool false, PV ((b2 + b2 + b2) * (z1 * z2)), PV (y1 * y2), PV ((b2 + b2 + b2) * (z1 * z2)), PV ((y1 * y2) + ((b2 + b2 + b2) * (z1 * z2))), PV (y1 * y2), PV ((b2 + b2 + b2) * (z1 * z2)), PV ((y1 * y2) - ((b2 + b2 + b2) * (z1 * z2))), PV ((((x1 + z1) * (x2 + z2)) - (x1 * x2)) - (z1 * z2)), .bool false, PV ((b2 + b2 + b2) * ((((x1 + z1) * (x2 + z2)) - (x1 * x2)) - (z1 * z2)))] ++ U 31) (fun L => [((L0.b 0), PJC ⟨x1, y1, z1⟩), ((L0.b 1), PJC ⟨x2, y2, z2⟩), ((L0.b 2), PJC ⟨0, 0, 0⟩), ((L1.b 18), PC (((x1 * x2) + (x1 * x2)) + (x1 * x2))), ((L1.b 19), PC ((y1 * y2) - ((b2 + b2 + b2) * (z1 * z2)))), ((L1.b 20), PC ((b2 + b2 + b2) * (z1 * z2))), ((L2.b 16), PC ((((x1 + y1) * (x2 + y2)) - (x1 * x2)) - (y1 * y2))), ((L3.b 16), PC ((((y1 + z1) * (y2 + z2)) - (y1 * y2)) - (z1 * z2))), ((L4.b 16), PC ((b2 + b2 + b2) * ((((x1 + z1) * (x2 + z2)) - (x1 * x2)) - (z1 * z2)))), ((L7.b 3), PC ((y1 * y2) + ((b2 + b2 + b2) * (z1 * z2))))]) hp9 ⟨
    oL 8 0 rP, oM, oR (ref5b3B R ((((x1 + z1) * (x2 + z2)) - (x1 * x2)) - (z1 * z2))), oT rP,
    trivial⟩ (fun L9 w10 hp10 => ?_)
  refine k10 _ _ ?_
  refine wp_seq_k (fun K11 k11 => ?_)
  refine dr [.det (PV ((((x1 + y1) * (x2 + y2)) - (x1 * x2)) - (y1 * y2))), .det (PV ((y1 * y2) - ((b2 + b2 + b2) * (z1 * z2)))), .det (.bool false), .det (PV (((((x1 + y1) * (x2 + y2)) - (x1 * x2)) - (y1 * y2)) * ((y1 * y2) - ((b2 + b2 + b2) * (z1 * z2))))), .det (PV ((((y1 + z1) * (y2 + z2)) - (y1 * y2)) - (z1 * z2))), .det (PV ((b2 + b2 + b2) * ((((x1 + z1) * (x2 + z2)) - (x1 * x2)) - (z1 * z2)))), .det (.bool false), .det (PV (((((y1 + z1) * (y2 + z2)) - (y1 * y2)) - (z1 * z2)) * ((b2 + b2 + b2) * ((((x1 + z1) * (x2 + z2)) - (x1 * x2)) - (z1 * z2))))), .det (PV ((((((x1 + y1) * (x2 + y2)) - (x1 * x2)) - (y1 * y2)) * ((y1 * y2) - ((b2 + b2 + b2) * (z1 * z2)))) - (((((y1 + z1) * (y2 + z2)) - (y1 * y2)) - (z1 * z2)) * ((b2 + b2 + b2) * ((((x1 + z1) * (x2 + z2)) - (x1 * x2)) - (z1 * z2)))))), .alloc (PC 0), .store (.new 9) 0 (PC ((((((x1 + y1) * (x2 + y2)) - (x1 * x2)) - (y1 * y2)) * ((y1 * y2) - ((b2 + b2 + b2) * (z1 * z2)))) - (((((y1 + z1) * (y2 + z2)) - (y1 * y2)) - (z1 * z2)) * ((b2 + b2 + b2) * ((((x1 + z1) * (x2 + z2)) - (x1 * x2)) - (z1 * z2)))))) (PC ((((((x1 + y1) * (x2 + y2)) - (x1 * x2)) - (y1 * y2)) * ((y1 * y2) - ((b2 + b2 + b2) * (z1 * z2)))) - (((((y1 + z1) * (y2 + z2)) - (y1 * y2)) - (z1 * z2)) * ((b2 + b2 + b2) * ((((x1 + z1) * (x2 + z2)) - (x1 * x2)) - (z1 * z2))))))] [0, 1, 2, 3, 4, 5, 6, 7, 8, 9, 10] [0, 0, 0, 7, 0, 0, 0, 127, 255, 0, 1023] (fun L => [PJV ⟨x1, y1, z1⟩, PJV ⟨x2, y2, z2⟩, .bool false, pt (L0.b 0) 0, pt (L0.b 1) 0, undef, pt (L0.b 2) 0, pt (L1.b 18) 0, pt (L1.b 19) 0, pt (L1.b 20) 0, pt (L2.b 16) 0, pt (L3.b 16) 0, pt (L4.b 16) 0, pt (L7.b 3) 0, pt (L.b 9) 0, pt (L0.b 0) 0, PV x1, pt (L0.b 1) 0, PV x2, .bool false, PV (x1 * x2), pt (L0.b 0) 12, PV y1, pt (L0.b 1) 12, PV y2, .bool false, PV (y1 * y2), pt (L0.b 0) 24, PV z1, pt (L0.b 1) 24, PV z2, .bool false, PV (z1 * z2), pt (L0.b 0) 0, PV x1, pt (L0.b 0) 12, PV y1, PV (x1 + y1), pt (L0.b 1) 0, PV x2, pt (L0.b 1) 12, PV y2, PV (x2 + y2), .bool false, PV ((x1 + y1) * (x2 + y2)), PV (x1 * x2), PV (((x1 + y1) * (x2 + y2)) - (x1 * x2)), PV (y1 * y2), PV ((((x1 + y1) * (x2 + y2)) - (x1 * x2)) - (y1 * y2)), pt (L0.b 0) 12, PV y1, pt (L0.b 0) 24, PV z1, PV (y1 + z1), pt (L0.b 1) 12, PV y2, pt (L0.b 1) 24, PV z2, PV (y2 + z2), .bool false, PV ((y1 + z1) * (y2 + z2)), PV (y1 * y2), PV (((y1 + z1) * (y2 + z2)) - (y1 * y2)), PV (z1 * z2), PV ((((y1 + z1) * (y2 + z2)) - (y1 * y2)) - (z1 * z2)), pt (L0.b 0) 0, PV x1, pt (L0.b 0) 24, PV z1, PV (x1 + z1), pt (L0.b 1) 0, PV x2, pt (L0.b 1) 24, PV z2, PV (x2 + z2), .bool false, PV ((x1 + z1) * (x2 + z2)), PV (x1 * x2), PV (((x1 + z1) * (x2 + z2)) - (x1 * x2)), PV (z1 * z2), PV ((((x1 + z1) * (x2 + z2)) - (x1 * x2)) - (z1 * z2)), PV (x1 * x2), PV (x1 * x2), PV ((x1 * x2) + (x1 * x2)), PV (x1 * x2), PV (((x1 * x2) + (x1 * x2)) + (x1 * x2)), PV (z1 * z2), .bool false, PV ((b2 + b2 + b2) * (z1 * z2)), PV (y1 * y2), PV ((b2 + b2 + b2) * (z1 * z2)), PV ((y1 * y2) + ((b2 + b2 + b2) * (z1 * z2))), PV (y1 * y2), PV ((b2 + b2 + b2) * (z1 * z2)), PV ((y1 * y2) - ((b2 + b2 + b2) * (z1 * z2))), PV ((((x1 + z1) * (x2 + z2)) - (x1 * x2)) - (z1 * z2)), .bool false, PV ((b2 + b2 + b2) * ((((x1 + z1) * (x2 + z2)) - (x1 * x2)) - (z1 * z2))), PV ((((x1 + y1) * (x2 + y2)) - (x1 * x2)) - (y1 * y2)), PV ((y1 * y2) - ((b2 + b2 + b2) * (z1 * z2))), .bool false, PV (((((x1 + y1) * (x2 + y2)) - (x1 * x2)) - (y1 * y2)) * ((y1 * y2) - ((b2 + b2 + b2) * (z1 * z2)))), PV ((((y1 + z1) * (y2 + z2)) - (y1 * y2)) - (z1 * z2)), PV ((b2 + b2 + b2) * ((((x1 + z1) * (x2 + z2)) - (x1 * x2)) - (z1 * z2))), .bool false, PV (((((y1 + z1) * (y2 + z2)) - (y1 * y2)) - (z1 * z2)) * ((b2 + b2 + b2) * ((((x1 + z1) * (x2 + z2)) - (x1 * x2)) - (z1 * z2)))), PV ((((((x1 + y1) * (x2 + y2)) - (x1 * x2)) - (y1 * y2)) * ((y1 * y2) - ((b2 + b2 + b2) * (z1 * z2)))) - (((((y1 + z1) * (y2 + z2)) - (y1 * y2)) - (z1 * z2)) * ((b2 + b2 + b2) * ((((x1 + z1) * (x2 + z2)) - (x1 * x2)) - (z1 * z2)))))] ++ U 22) (fun L => [((L0.b 0), PJC ⟨x1, y1, z1⟩), ((L0.b 1), PJC ⟨x2, y2, z2⟩), ((L0.b 2), PJC ⟨0, 0, 0⟩), ((L1.b 18), PC (((x1 * x2) + (x1 * x2)) + (x1 * x2))), ((L1.b 19), PC ((y1 * y2) - ((b2 + b2 + b2) * (z1 * z2)))), ((L1.b 20), PC ((b2 + b2 + b2) * (z1 * z2))), ((L2.b 16), PC ((((x1 + y1) * (x2 + y2)) - (x1 * x2)) - (y1 * y2))), ((L3.b 16), PC ((((y1 + z1) * (y2 + z2)) - (y1 * y2)) - (z1 * z2))), ((L4.b 16), PC ((b2 + b2 + b2) * ((((x1 + z1) * (x2 + z2)) - (x1 * x2)) - (z1 * z2)))), ((L7.b 3), PC ((y1 * y2) + ((b2 + b2 + b2) * (z1 * z2)))), (L.b 9, PC ((((((x1 + y1) * (x2 + y2)) - (x1 * x2)) - (y1 * y2)) * ((y1 * y2) - ((b2 + b2 + b2) * (z1 * z2)))) - (((((y1 + z1) * (y2 + z2)) - (y1 * y2)) - (z1 * z2)) * ((b2 + b2 + b2) * ((((x1 + z1) * (x2 + z2)) - (x1 * x2)) - (z1 * z2))))))]) hp10 ⟨
    oL 6 0 rP, oL 4 0 rP, oM, oR (ref5mulB R ((((x1 + y1) * (x2 + y2)) - (x1 * x2)) - (y1 * y2)) ((y1 * y2) - ((b2 + b2 + b2) * (z1 * z2)))), oL 7 0 rP, oL 8 0 rP,
    oM, oR (ref5mulB R ((((y1 + z1) * (y2 + z2)) - (y1 * y2)) - (z1 * z2)) ((b2 + b2 + b2) * ((((x1 + z1) * (x2 + z2)) - (x1 * x2)) - (z1 * z2)))), oR (ref5Sub2 R (((((x1 + y1) * (x2 + y2)) - (x1 * x2)) - (y1 * y2)) * ((y1 * y2) - ((b2 + b2 + b2) * (z1 * z2)))) (((((y1 + z1) * (y2 + z2)) - (y1 * y2)) - (z1 * z2)) * ((b2 + b2 + b2) * ((((x1 + z1) * (x2 + z2)) - (x1 * x2)) - (z1 * z2))))),
    oZ rP, oT rP,
    trivial⟩ (fun L10 w11 hp11 => ?_)
  refine k11 _ _ ?_
  refine wp_seq_k (fun K12 k12 => ?_)
  refine dr [.det (PV ((y1 * y2) - ((b2 + b2 + b2) * (z1 * z2)))), .det (PV ((y1 * y2) + ((b2 + b2 + b2) * (z1 * z2)))), .det (.bool false), .det (PV (((y1 * y2) - ((b2 + b2 + b2) * (z1 * z2))) * ((y1 * y2) + ((b2 + b2 + b2) * (z1 * z2))))), .det (PV ((b2 + b2 + b2) * ((((x1 + z1) * (x2 + z2)) - (x1 * x2)) - (z1 * z2)))), .det (PV (((x1 * x2) + (x1 * x2)) + (x1 * x2))), .det (.bool false), .det (PV (((b2 + b2 + b2) * ((((x1 + z1) * (x2 + z2)) - (x1 * x2)) - (z1 * z2))) * (((x1 * x2) + (x1 * x2)) + (x1 * x2)))), .det (PV ((((y1 * y2) - ((b2 + b2 + b2) * (z1 * z2))) * ((y1 * y2) + ((b2 + b2 + b2) * (z1 * z2)))) + (((b2 + b2 + b2) * ((((x1 + z1) * (x2 + z2)) - (x1 * x2)) - (z1 * z2))) * (((x1 * x2) + (x1 * x2)) + (x1 * x2))))), .store (.base 8) 0 (PC ((((y1 * y2) - ((b2 + b2 + b2) * (z1 * z2))) * ((y1 * y2) + ((b2 + b2 + b2) * (z1 * z2)))) + (((b2 + b2 + b2) * ((((x1 + z1) * (x2 + z2)) - (x1 * x2)) - (z1 * z2))) * (((x1 * x2) + (x1 * x2)) + (x1 * x2))))) (PC ((((y1 * y2) - ((b2 + b2 + b2) * (z1 * z2))) * ((y1 * y2) + ((b2 + b2 + b2) * (z1 * z2)))) + (((b2 + b2 + b2) * ((((x1 + z1) * (x2 + z2)) - (x1 * x2)) - (z1 * z2))) * (((x1 * x2) + (x1 * x2)) + (x1 * x2)))))] [0, 1, 2, 3, 4, 5, 6, 7, 8, 9] [0, 0, 0, 7, 0, 0, 0, 127, 255, 511] (fun L => [PJV ⟨x1, y1, z1⟩, PJV ⟨x2, y2, z2⟩, .bool false, pt (L0.b 0) 0, pt (L0.b 1) 0, undef, pt (L0.b 2) 0, pt (L1.b 18) 0, pt (L1.b 19) 0, pt (L1.b 20) 0, pt (L2.b 16) 0, pt (L3.b 16) 0, pt (L4.b 16) 0, pt (L7.b 3) 0, pt (L10.b 9) 0, pt (L0.b 0) 0, PV x1, pt (L0.b 1) 0, PV x2, .bool false, PV (x1 * x2), pt (L0.b 0) 12, PV y1, pt (L0.b 1) 12, PV y2, .bool false, PV (y1 * y2), pt (L0.b 0) 24, PV z1, pt (L0.b 1) 24, PV z2, .bool false, PV (z1 * z2), pt (L0.b 0) 0, PV x1, pt (L0.b 0) 12, PV y1, PV (x1 + y1), pt (L0.b 1) 0, PV x2, pt (L0.b 1) 12, PV y2, PV (x2 + y2), .bool false, PV ((x1 + y1) * (x2 + y2)), PV (x1 * x2), PV (((x1 + y1) * (x2 + y2)) - (x1 * x2)), PV (y1 * y2), PV ((((x1 + y1) * (x2 + y2)) - (x1 * x2)) - (y1 * y2)), pt (L0.b 0) 12, PV y1, pt (L0.b 0) 24, PV z1, PV (y1 + z1), pt (L0.b 1) 12, PV y2, pt (L0.b 1) 24, PV z2, PV (y2 + z2), .bool false, PV ((y1 + z1) * (y2 + z2)), PV (y1 * y2), PV (((y1 + z1) * (y2 + z2)) - (y1 * y2)), PV (z1 * z2), PV ((((y1 + z1) * (y2 + z2)) - (y1 * y2)) - (z1 * z2)), pt (L0.b 0) 0, PV x1, pt (L0.b 0) 24, PV z1, PV (x1 + z1), pt (L0.b 1) 0, PV x2, pt (L0.b 1) 24, PV z2, PV (x2 + z2), .bool false, PV ((x1 + z1) * (x2 + z2)), PV (x1 * x2), PV (((x1 + z1) * (x2 + z2)) - (x1 * x2)), PV (z1 * z2), PV ((((x1 + z1) * (x2 + z2)) - (x1 * x2)) - (z1 * z2)), PV (x1 * x2), PV (x1 * x2), PV ((x1 * x2) + (x1 * x2)), PV (x1 * x2), PV (((x1 * x2) + (x1 * x2)) + (x1 * x2)), PV (z1 * z2), .bool false, PV ((b2 + b2 + b2) * (z1 * z2)), PV (y1 * y2), PV ((b2 + b2 + b2) * (z1 * z2)), PV ((y1 * y2) + ((b2 + b2 + b2) * (z1 * z2))), PV (y1 * y2), PV ((b2 + b2 + b2) * (z1 * z2)), PV ((y1 * y2) - ((b2 + b2 + b2) * (z1 * z2))), PV ((((x1 + z1) * (x2 + z2)) - (x1 * x2)) - (z1 * z2)), .bool false, PV ((b2 + b2 + b2) * ((((x1 + z1) * (x2 + z2)) - (x1 * x2)) - (z1 * z2))), PV ((((x1 + y1) * (x2 + y2)) - (x1 * x2)) - (y1 * y2)), PV ((y1 * y2) - ((b2 + b2 + b2) * (z1 * z2))), .bool false, PV (((((x1 + y1) * (x2 + y2)) - (x1 * x2)) - (y1 * y2)) * ((y1 * y2) - ((b2 + b2 + b2) * (z1 * z2)))), PV ((((y1 + z1) * (y2 + z2)) - (y1 * y2)) - (z1 * z2)), PV ((b2 + b2 + b2) * ((((x1 + z1) * (x2 + z2)) - (x1 * x2)) - (z1 * z2))), .bool false, PV (((((y1 + z1) * (y2 + z2)) - (y1 * y2)) - (z1 * z2)) * ((b2 + b2 + b2) * ((((x1 + z1) * (x2 + z2)) - (x1 * x2)) - (z1 * z2)))), PV ((((((x1 + y1) * (x2 + y2)) - (x1 * x2)) - (y1 * y2)) * ((y1 * y2) - ((b2 + b2 + b2) * (z1 * z2)))) - (((((y1 + z1) * (y2 + z2)) - (y1 * y2)) - (z1 * z2)) * ((b2 + b2 + b2) * ((((x1 + z1) * (x2 + z2)) - (x1 * x2)) - (z1 * z2))))), PV ((y1 * y2) - ((b2 + b2 + b2) * (z1 * z2))), PV ((y1 * y2) + ((b2 + b2 + b2) * (z1 * z2))), .bool false, PV (((y1 * y2) - ((b2 + b2 + b2) * (z1 * z2))) * ((y1 * y2) + ((b2 + b2 + b2) * (z1 * z2)))), PV ((b2 + b2 + b2) * ((((x1 + z1) * (x2 + z2)) - (x1 * x2)) - (z1 * z2))), PV (((x1 * x2) + (x1 * x2)) + (x1 * x2)), .bool false, PV (((b2 + b2 + b2) * ((((x1 + z1) * (x2 + z2)) - (x1 * x2)) - (z1 * z2))) * (((x1 * x2) + (x1 * x2)) + (x1 * x2))), PV ((((y1 * y2) - ((b2 + b2 + b2) * (z1 * z2))) * ((y1 * y2) + ((b2 + b2 + b2) * (z1 * z2)))) + (((b2 + b2 + b2) * ((((x1 + z1) * (x2 + z2)) - (x1 * x2)) - (z1 * z2))) * (((x1 * x2) + (x1 * x2)) + (x1 * x2))))] ++ U 13) (fun L => [((L0.b 0), PJC ⟨x1, y1, z1⟩), ((L0.b 1), PJC ⟨x2, y2, z2⟩), ((L0.b 2), PJC ⟨0, 0, 0⟩), ((L1.b 18), PC (((x1 * x2) + (x1 * x2)) + (x1 * x2))), ((L1.b 19), PC ((y1 * y2) - ((b2 + b2 + b2) * (z1 * z2)))), ((L1.b 20), PC ((b2 + b2 + b2) * (z1 * z2))), ((L2.b 16), PC ((((x1 + y1) * (x2 + y2)) - (x1 * x2)) - (y1 * y2))), ((L3.b 16), PC ((((y1 + z1) * (y2 + z2)) - (y1 * y2)) - (z1 * z2))), ((L4.b 16), PC ((((y1 * y2) - ((b2 + b2 + b2) * (z1 * z2))) * ((y1 * y2) + ((b2 + b2 + b2) * (z1 * z2)))) + (((b2 + b2 + b2) * ((((x1 + z1) * (x2 + z2)) - (x1 * x2)) - (z1 * z2))) * (((x1 * x2) + (x1 * x2)) + (x1 * x2))))), ((L7.b 3), PC ((y1 * y2) + ((b2 + b2 + b2) * (z1 * z2)))), ((L10.b 9), PC ((((((x1 + y1) * (x2 + y2)) - (x1 * x2)) - (y1 * y2)) * ((y1 * y2) - ((b2 + b2 + b2) * (z1 * z2)))) - (((((y1 + z1) * (y2 + z2)) - (y1 * y2)) - (z1 * z2)) * ((b2 + b2 + b2) * ((((x1 + z1) * (x2 + z2)) - (x1 * x2)) - (z1 * z2))))))]) hp11 ⟨
    oL 4 0 rP, oL 9 0 rP, oM, oR (ref5mulB R ((y1 * y2) - ((b2 + b2 + b2) * (z1 * z2))) ((y1 * y2) + ((b2 + b2 + b2) * (z1 * z2)))), oL 8 0 rP, oL 3 0 rP, oM, oR (ref5mulB R ((b2 + b2 + b2) * ((((x1 + z1) * (x2 + z2)) - (x1 * x2)) - (z1 * z2))) (((x1 * x2) + (x1 * x2)) + (x1 * x2))),
    oR (ref5Add2 R (((y1 * y2) - ((b2 + b2 + b2) * (z1 * z2))) * ((y1 * y2) + ((b2 + b2 + b2) * (z1 * z2)))) (((b2 + b2 + b2) * ((((x1 + z1) * (x2 + z2)) - (x1 * x2)) - (z1 * z2))) * (((x1 * x2) + (x1 * x2)) + (x1 * x2)))),
    oT rP,
    trivial⟩ (fun L11 w12 hp12 => ?_)
  refine k12 _ _ ?_
  refine wp_seq_k (fun K13 k13 => ?_)
  refine dr [.det (PV ((y1 * y2) + ((b2 + b2 + b2) * (z1 * z2)))), .det (PV ((((y1 + z1) * (y2 + z2)) - (y1 * y2)) - (z1 * z2))), .det (.bool false), .det (PV (((y1 * y2) + ((b2 + b2 + b2) * (z1 * z2))) * ((((y1 + z1) * (y2 + z2)) - (y1 * y2)) - (z1 * z2)))), .det (PV (((x1 * x2) + (x1 * x2)) + (x1 * x2))), .det (PV ((((x1 + y1) * (x2 + y2)) - (x1 * x2)) - (y1 * y2))), .det (.bool false), .det (PV ((((x1 * x2) + (x1 * x2)) + (x1 * x2)) * ((((x1 + y1) * (x2 + y2)) - (x1 * x2)) - (y1 * y2)))), .det (PV ((((y1 * y2) + ((b2 + b2 + b2) * (z1 * z2))) * ((((y1 + z1) * (y2 + z2)) - (y1 * y2)) - (z1 * z2))) + ((((x1 * x2) + (x1 * x2)) + (x1 * x2)) * ((((x1 + y1) * (x2 + y2)) - (x1 * x2)) - (y1 * y2))))), .store (.base 9) 0 (PC ((((y1 * y2) + ((b2 + b2 + b2) * (z1 * z2))) * ((((y1 + z1) * (y2 + z2)) - (y1 * y2)) - (z1 * z2))) + ((((x1 * x2) + (x1 * x2)) + (x1 * x2)) * ((((x1 + y1) * (x2 + y2)) - (x1 * x2)) - (y1 * y2))))) (PC ((((y1 * y2) + ((b2 + b2 + b2) * (z1 * z2))) * ((((y1 + z1) * (y2 + z2)) - (y1 * y2)) - (z1 * z2))) + ((((x1 * x2) + (x1 * x2)) + (x1 * x2)) * ((((x1 + y1) * (x2 + y2)) - (x1 * x2)) - (y1 * y2)))))] [0, 1, 2, 3, 4, 5, 6, 7, 8, 9] [0, 0, 0, 7, 0, 0, 0, 127, 255, 511] (fun L => [PJV ⟨x1, y1, z1⟩, PJV ⟨x2, y2, z2⟩, .bool false, pt (L0.b 0) 0, pt (L0.b 1) 0, undef, pt (L0.b 2) 0, pt (L1.b 18) 0, pt (L1.b 19) 0, pt (L1.b 20) 0, pt (L2.b 16) 0, pt (L3.b 16) 0, pt (L4.b 16) 0, pt (L7.b 3) 0, pt (L10.b 9) 0, pt (L0.b 0) 0, PV x1, pt (L0.b 1) 0, PV x2, .bool false, PV (x1 * x2), pt (L0.b 0) 12, PV y1, pt (L0.b 1) 12, PV y2, .bool false, PV (y1 * y2), pt (L0.b 0) 24, PV z1, pt (L0.b 1) 24, PV z2, .bool false, PV (z1 * z2), pt (L0.b 0) 0, PV x1, pt (L0.b 0) 12, PV y1, PV (x1 + y1), pt (L0.b 1) 0, PV x2, pt (L0.b 1) 12, PV y2, PV (x2 + y2), .bool false, PV ((x1 + y1) * (x2 + y2)), PV (x1 * x2), PV (((x1 + y1) * (x2 + y2)) - (x1 * x2)), PV (y1 * y2), PV ((((x1 + y1) * (x2 + y2)) - (x1 * x2)) - (y1 * y2)), pt (L0.b 0) 12, PV y1, pt (L0.b 0) 24, PV z1, PV (y1 + z1), pt (L0.b 1) 12, PV y2, pt (L0.b 1) 24, PV z2, PV (y2 + z2), .bool false, PV ((y1 + z1) * (y2 + z2)), PV (y1 * y2), PV (((y1 + z1) * (y2 + z2)) - (y1 * y2)), PV (z1 * z2), PV ((((y1 + z1) * (y2 + z2)) - (y1 * y2)) - (z1 * z2)), pt (L0.b 0) 0, PV x1, pt (L0.b 0) 24, PV z1, PV (x1 + z1), pt (L0.b 1) 0, PV x2, pt (L0.b 1) 24, PV z2, PV (x2 + z2), .bool false, PV ((x1 + z1) * (x2 + z2)), PV (x1 * x2), PV (((x1 + z1) * (x2 + z2)) - (x1 * x2)), PV (z1 * z2), PV ((((x1 + z1) * (x2 + z2)) - (x1 * x2)) - (z1 * z2)), PV (x1 * x2), PV (x1 * x2), PV ((x1 * x2) + (x1 * x2)), PV (x1 * x2), PV (((x1 * x2) + (x1 * x2)) + (x1 * x2)), PV (z1 * z2), .bool false, PV ((b2 + b2 + b2) * (z1 * z2)), PV (y1 * y2), PV ((b2 + b2 + b2) * (z1 * z2)), PV ((y1 * y2) + ((b2 + b2 + b2) * (z1 * z2))), PV (y1 * y2), PV ((b2 + b2 + b2) * (z1 * z2)), PV ((y1 * y2) - ((b2 + b2 + b2) * (z1 * z2))), PV ((((x1 + z1) * (x2 + z2)) - (x1 * x2)) - (z1 * z2)), .bool false, PV ((b2 + b2 + b2) * ((((x1 + z1) * (x2 + z2)) - (x1 * x2)) - (z1 * z2))), PV ((((x1 + y1) * (x2 + y2)) - (x1 * x2)) - (y1 * y2)), PV ((y1 * y2) - ((b2 + b2 + b2) * (z1 * z2))), .bool false, PV (((((x1 + y1) * (x2 + y2)) - (x1 * x2)) - (y1 * y2)) * ((y1 * y2) - ((b2 + b2 + b2) * (z1 * z2)))), PV ((((y1 + z1) * (y2 + z2)) - (y1 * y2)) - (z1 * z2)), PV ((b2 + b2 + b2) * ((((x1 + z1) * (x2 + z2)) - (x1 * x2)) - (z1 * z2))), .bool false, PV (((((y1 + z1) * (y2 + z2)) - (y1 * y2)) - (z1 * z2)) * ((b2 + b2 + b2) * ((((x1 + z1) * (x2 + z2)) - (x1 * x2)) - (z1 * z2)))), PV ((((((x1 + y1) * (x2 + y2)) - (x1 * x2)) - (y1 * y2)) * ((y1 * y2) - ((b2 + b2 + b2) * (z1 * z2)))) - (((((y1 + z1) * (y2 + z2)) - (y1 * y2)) - (z1 * z2)) * ((b2 + b2 + b2) * ((((x1 + z1) * (x2 + z2)) - (x1 * x2)) - (z1 * z2))))), PV ((y1 * y2) - ((b2 + b2 + b2) * (z1 * z2))), PV ((y1 * y2) + ((b2 + b2 + b2) * (z1 * z2))), .bool false, PV (((y1 * y2) - ((b2 + b2 + b2) * (z1 * z2))) * ((y1 * y2) + ((b2 + b2 + b2) * (z1 * z2)))), PV ((b2 + b2 + b2) * ((((x1 + z1) * (x2 + z2)) - (x1 * x2)) - (z1 * z2))), PV (((x1 * x2) + (x1 * x2)) + (x1 * x2)), .bool false, PV (((b2 + b2 + b2) * ((((x1 + z1) * (x2 + z2)) - (x1 * x2)) - (z1 * z2))) * (((x1 * x2) + (x1 * x2)) + (x1 * x2))), PV ((((y1 * y2) - ((b2 + b2 + b2) * (z1 * z2))) * ((y1 * y2) + ((b2 + b2 + b2) * (z1 * z2)))) + (((b2 + b2 + b2) * ((((x1 + z1) * (x2 + z2)) - (x1 * x2)) - (z1 * z2))) * (((x1 * x2) + (x1 * x2)) + (x1 * x2)))), PV ((y1 * y2) + ((b2 + b2 + b2) * (z1 * z2))), PV ((((y1 + z1) * (y2 + z2)) - (y1 * y2)) - (z1 * z2)), .bool false, PV (((y1 * y2) + ((b2 + b2 + b2) * (z1 * z2))) * ((((y1 + z1) * (y2 + z2)) - (y1 * y2)) - (z1 * z2))), PV (((x1 * x2) + (x1 * x2)) + (x1 * x2)), PV ((((x1 + y1) * (x2 + y2)) - (x1 * x2)) - (y1 * y2)), .bool false, PV ((((x1 * x2) + (x1 * x2)) + (x1 * x2)) * ((((x1 + y1) * (x2 + y2)) - (x1 * x2)) - (y1 * y2))), PV ((((y1 * y2) + ((b2 + b2 + b2) * (z1 * z2))) * ((((y1 + z1) * (y2 + z2)) - (y1 * y2)) - (z1 * z2))) + ((((x1 * x2) + (x1 * x2)) + (x1 * x2)) * ((((x1 + y1) * (x2 + y2)) - (x1 * x2)) - (y1 * y2))))] ++ U 4) (fun L => [((L0.b 0), PJC ⟨x1, y1, z1⟩), ((L0.b 1), PJC ⟨x2, y2, z2⟩), ((L0.b 2), PJC ⟨0, 0, 0⟩), ((L1.b 18), PC (((x1 * x2) + (x1 * x2)) + (x1 * x2))), ((L1.b 19), PC ((y1 * y2) - ((b2 + b2 + b2) * (z1 * z2)))), ((L1.b 20), PC ((b2 + b2 + b2) * (z1 * z2))), ((L2.b 16), PC ((((x1 + y1) * (x2 + y2)) - (x1 * x2)) - (y1 * y2))), ((L3.b 16), PC ((((y1 + z1) * (y2 + z2)) - (y1 * y2)) - (z1 * z2))), ((L4.b 16), PC ((((y1 * y2) - ((b2 + b2 + b2) * (z1 * z2))) * ((y1 * y2) + ((b2 + b2 + b2) * (z1 * z2)))) + (((b2 + b2 + b2) * ((((x1 + z1) * (x2 + z2)) - (x1 * x2)) - (z1 * z2))) * (((x1 * x2) + (x1 * x2)) + (x1 * x2))))), ((L7.b 3), PC ((((y1 * y2) + ((b2 + b2 + b2) * (z1 * z2))) * ((((y1 + z1) * (y2 + z2)) - (y1 * y2)) - (z1 * z2))) + ((((x1 * x2) + (x1 * x2)) + (x1 * x2)) * ((((x1 + y1) * (x2 + y2)) - (x1 * x2)) - (y1 * y2))))), ((L10.b 9), PC ((((((x1 + y1) * (x2 + y2)) - (x1 * x2)) - (y1 * y2)) * ((y1 * y2) - ((b2 + b2 + b2) * (z1 * z2)))) - (((((y1 + z1) * (y2 + z2)) - (y1 * y2)) - (z1 * z2)) * ((b2 + b2 + b2) * ((((x1 + z1) * (x2 + z2)) - (x1 * x2)) - (z1 * z2))))))]) hp12 ⟨
    oL 9 0 rP, oL 7 0 rP, oM, oR (ref5mulB R ((y1 * y2) + ((b2 + b2 + b2) * (z1 * z2))) ((((y1 + z1) * (y2 + z2)) - (y1 * y2)) - (z1 * z2))), oL 3 0 rP, oL 6 0 rP,
    oM, oR (ref5mulB R (((x1 * x2) + (x1 * x2)) + (x1 * x2)) ((((x1 + y1) * (x2 + y2)) - (x1 * x2)) - (y1 * y2))), oR (ref5Add2 R (((y1 * y2) + ((b2 + b2 + b2) * (z1 * z2))) * ((((y1 + z1) * (y2 + z2)) - (y1 * y2)) - (z1 * z2))) ((((x1 * x2) + (x1 * x2)) + (x1 * x2)) * ((((x1 + y1) * (x2 + y2)) - (x1 * x2)) - (y1 * y2)))),
    oT rP,
    trivial⟩ (fun L12 w13 hp13 => ?_)
  refine k13 _ _ ?_
  refine wp_seq_k (fun K14 k14 => ?_)
  refine gs [.det (PV ((((((x1 + y1) * (x2 + y2)) - (x1 * x2)) - (y1 * y2)) * ((y1 * y2) - ((b2 + b2 + b2) * (z1 * z2)))) - (((((y1 + z1) * (y2 + z2)) - (y1 * y2)) - (z1 * z2)) * ((b2 + b2 + b2) * ((((x1 + z1) * (x2 + z2)) - (x1 * x2)) - (z1 * z2)))))), .det (PV ((((y1 * y2) - ((b2 + b2 + b2) * (z1 * z2))) * ((y1 * y2) + ((b2 + b2 + b2) * (z1 * z2)))) + (((b2 + b2 + b2) * ((((x1 + z1) * (x2 + z2)) - (x1 * x2)) - (z1 * z2))) * (((x1 * x2) + (x1 * x2)) + (x1 * x2))))), .det (PV ((((y1 * y2) + ((b2 + b2 + b2) * (z1 * z2))) * ((((y1 + z1) * (y2 + z2)) - (y1 * y2)) - (z1 * z2))) + ((((x1 * x2) + (x1 * x2)) + (x1 * x2)) * ((((x1 + y1) * (x2 + y2)) - (x1 * x2)) - (y1 * y2))))), .det (PJV ⟨((((((x1 + y1) * (x2 + y2)) - (x1 * x2)) - (y1 * y2)) * ((y1 * y2) - ((b2 + b2 + b2) * (z1 * z2)))) - (((((y1 + z1) * (y2 + z2)) - (y1 * y2)) - (z1 * z2)) * ((b2 + b2 + b2) * ((((x1 + z1) * (x2 + z2)) - (x1 * x2)) - (z1 * z2))))), ((((y1 * y2) - ((b2 + b2 + b2) * (z1 * z2))) * ((y1 * y2) + ((b2 + b2 + b2) * (z1 * z2)))) + (((b2 + b2 + b2) * ((((x1 + z1) * (x2 + z2)) - (x1 * x2)) - (z1 * z2))) * (((x1 * x2) + (x1 * x2)) + (x1 * x2)))), ((((y1 * y2) + ((b2 + b2 + b2) * (z1 * z2))) * ((((y1 + z1) * (y2 + z2)) - (y1 * y2)) - (z1 * z2))) + ((((x1 * x2) + (x1 * x2)) + (x1 * x2)) * ((((x1 + y1) * (x2 + y2)) - (x1 * x2)) - (y1 * y2))))⟩), .store (.base 2) 0 (PJC ⟨((((((x1 + y1) * (x2 + y2)) - (x1 * x2)) - (y1 * y2)) * ((y1 * y2) - ((b2 + b2 + b2) * (z1 * z2)))) - (((((y1 + z1) * (y2 + z2)) - (y1 * y2)) - (z1 * z2)) * ((b2 + b2 + b2) * ((((x1 + z1) * (x2 + z2)) - (x1 * x2)) - (z1 * z2))))), ((((y1 * y2) - ((b2 + b2 + b2) * (z1 * z2))) * ((y1 * y2) + ((b2 + b2 + b2) * (z1 * z2)))) + (((b2 + b2 + b2) * ((((x1 + z1) * (x2 + z2)) - (x1 * x2)) - (z1 * z2))) * (((x1 * x2) + (x1 * x2)) + (x1 * x2)))), ((((y1 * y2) + ((b2 + b2 + b2) * (z1 * z2))) * ((((y1 + z1) * (y2 + z2)) - (y1 * y2)) - (z1 * z2))) + ((((x1 * x2) + (x1 * x2)) + (x1 * x2)) * ((((x1 + y1) * (x2 + y2)) - (x1 * x2)) - (y1 * y2))))⟩) (PJC ⟨((((((x1 + y1) * (x2 + y2)) - (x1 * x2)) - (y1 * y2)) * ((y1 * y2) - ((b2 + b2 + b2) * (z1 * z2)))) - (((((y1 + z1) * (y2 + z2)) - (y1 * y2)) - (z1 * z2)) * ((b2 + b2 + b2) * ((((x1 + z1) * (x2 + z2)) - (x1 * x2)) - (z1 * z2))))), ((((y1 * y2) - ((b2 + b2 + b2) * (z1 * z2))) * ((y1 * y2) + ((b2 + b2 + b2) * (z1 * z2)))) + (((b2 + b2 + b2) * ((((x1 + z1) * (x2 + z2)) - (x1 * x2)) - (z1 * z2))) * (((x1 * x2) + (x1 * x2)) + (x1 * x2)))), ((((y1 * y2) + ((b2 + b2 + b2) * (z1 * z2))) * ((((y1 + z1) * (y2 + z2)) - (y1 * y2)) - (z1 * z2))) + ((((x1 * x2) + (x1 * x2)) + (x1 * x2)) * ((((x1 + y1) * (x2 + y2)) - (x1 * x2)) - (y1 * y2))))⟩)] [0, 1, 2, 3, 4] [0, 0, 0, 7, 15] (fun L => [PJV ⟨x1, y1, z1⟩, PJV ⟨x2, y2, z2⟩, .bool false, pt (L0.b 0) 0, pt (L0.b 1) 0, undef, pt (L0.b 2) 0, pt (L1.b 18) 0, pt (L1.b 19) 0, pt (L1.b 20) 0, pt (L2.b 16) 0, pt (L3.b 16) 0, pt (L4.b 16) 0, pt (L7.b 3) 0, pt (L10.b 9) 0, pt (L0.b 0) 0, PV x1, pt (L0.b 1) 0, PV x2, .bool false, PV (x1 * x2), pt (L0.b 0) 12, PV y1, pt (L0.b 1) 12, PV y2, .bool false, PV (y1 * y2), pt (L0.b 0) 24, PV z1, pt (L0.b 1) 24, PV z2, .bool false, PV (z1 * z2), pt (L0.b 0) 0, PV x1, pt (L0.b 0) 12, PV y1, PV (x1 + y1), pt (L0.b 1) 0, PV x2, pt (L0.b 1) 12, PV y2, PV (x2 + y2), .bool false, PV ((x1 + y1) * (x2 + y2)), PV (x1 * x2), PV (((x1 + y1) * (x2 + y2)) - (x1 * x2)), PV (y1 * y2), PV ((((x1 + y1) * (x2 + y2)) - (x1 * x2)) - (y1 * y2)), pt (L0.b 0) 12, PV y1, pt (L0.b 0) 24, PV z1, PV (y1 + z1), pt (L0.b 1) 12, PV y2, pt (L0.b 1) 24, PV z2, PV (y2 + z2), .bool false, PV ((y1 + z1) * (y2 + z2)), PV (y1 * y2), PV (((y1 + z1) * (y2 + z2)) - (y1 * y2)), PV (z1 * z2), PV ((((y1 + z1) * (y2 + z2)) - (y1 * y2)) - (z1 * z2)), pt (L0.b 0) 0, PV x1, pt (L0.b 0) 24, PV z1, PV (x1 + z1), pt (L0.b 1) 0, PV x2, pt (L0.b 1) 24, PV z2, PV (x2 + z2), .bool false, PV ((x1 + z1) * (x2 + z2)), PV (x1 * x2), PV (((x1 + z1) * (x2 + z2)) - (x1 * x2)), PV (z1 * z2), PV ((((x1 + z1) * (x2 + z2)) - (x1 * x2)) - (z1 * z2)), PV (x1 * x2), PV (x1 * x2), PV ((x1 * x2) + (x1 * x2)), PV (x1 * x2), PV (((x1 * x2) + (x1 * x2)) + (x1 * x2)), PV (z1 * z2), .bool false, PV ((b2 + b2 + b2) * (z1 * z2)), PV (y1 * y2), PV ((b2 + b2 + b2) * (z1 * z2)), PV ((y1 * y2) + ((b2 + b2 + b2) * (z1 * z2))), PV (y1 * y2), PV ((b2 + b2 + b2) * (z1 * z2)), PV ((y1 * y2) - ((b2 + b2 + b2) * (z1 * z2))), PV ((((x1 + z1) * (x2 + z2)) - (x1 * x2)) - (z1 * z2)), .bool false, PV ((b2 + b2 + b2) * ((((x1 + z1) * (x2 + z2)) - (x1 * x2)) - (z1 * z2))), PV ((((x1 + y1) * (x2 + y2)) - (x1 * x2)) - (y1 * y2)), PV ((y1 * y2) - ((b2 + b2 + b2) * (z1 * z2))), .bool false, PV (((((x1 + y1) * (x2 + y2)) - (x1 * x2)) - (y1 * y2)) * ((y1 * y2) - ((b2 + b2 + b2) * (z1 * z2)))), PV ((((y1 + z1) * (y2 + z2)) - (y1 * y2)) - (z1 * z2)), PV ((b2 + b2 + b2) * ((((x1 + z1) * (x2 + z2)) - (x1 * x2)) - (z1 * z2))), .bool false, PV (((((y1 + z1) * (y2 + z2)) - (y1 * y2)) - (z1 * z2)) * ((b2 + b2 + b2) * ((((x1 + z1) * (x2 + z2)) - (x1 * x2)) - (z1 * z2)))), PV ((((((x1 + y1) * (x2 + y2)) - (x1 * x2)) - (y1 * y2)) * ((y1 * y2) - ((b2 + b2 + b2) * (z1 * z2)))) - (((((y1 + z1) * (y2 + z2)) - (y1 * y2)) - (z1 * z2)) * ((b2 + b2 + b2) * ((((x1 + z1) * (x2 + z2)) - (x1 * x2)) - (z1 * z2))))), PV ((y1 * y2) - ((b2 + b2 + b2) * (z1 * z2))), PV ((y1 * y2) + ((b2 + b2 + b2) * (z1 * z2))), .bool false, PV (((y1 * y2) - ((b2 + b2 + b2) * (z1 * z2))) * ((y1 * y2) + ((b2 + b2 + b2) * (z1 * z2)))), PV ((b2 + b2 + b2) * ((((x1 + z1) * (x2 + z2)) - (x1 * x2)) - (z1 * z2))), PV (((x1 * x2) + (x1 * x2)) + (x1 * x2)), .bool false, PV (((b2 + b2 + b2) * ((((x1 + z1) * (x2 + z2)) - (x1 * x2)) - (z1 * z2))) * (((x1 * x2) + (x1 * x2)) + (x1 * x2))), PV ((((y1 * y2) - ((b2 + b2 + b2) * (z1 * z2))) * ((y1 * y2) + ((b2 + b2 + b2) * (z1 * z2)))) + (((b2 + b2 + b2) * ((((x1 + z1) * (x2 + z2)) - (x1 * x2)) - (z1 * z2))) * (((x1 * x2) + (x1 * x2)) + (x1 * x2)))), PV ((y1 * y2) + ((b2 + b2 + b2) * (z1 * z2))), PV ((((y1 + z1) * (y2 + z2)) - (y1 * y2)) - (z1 * z2)), .bool false, PV (((y1 * y2) + ((b2 + b2 + b2) * (z1 * z2))) * ((((y1 + z1) * (y2 + z2)) - (y1 * y2)) - (z1 * z2))), PV (((x1 * x2) + (x1 * x2)) + (x1 * x2)), PV ((((x1 + y1) * (x2 + y2)) - (x1 * x2)) - (y1 * y2)), .bool false, PV ((((x1 * x2) + (x1 * x2)) + (x1 * x2)) * ((((x1 + y1) * (x2 + y2)) - (x1 * x2)) - (y1 * y2))), PV ((((y1 * y2) + ((b2 + b2 + b2) * (z1 * z2))) * ((((y1 + z1) * (y2 + z2)) - (y1 * y2)) - (z1 * z2))) + ((((x1 * x2) + (x1 * x2)) + (x1 * x2)) * ((((x1 + y1) * (x2 + y2)) - (x1 * x2)) - (y1 * y2)))), PV ((((((x1 + y1) * (x2 + y2)) - (x1 * x2)) - (y1 * y2)) * ((y1 * y2) - ((b2 + b2 + b2) * (z1 * z2)))) - (((((y1 + z1) * (y2 + z2)) - (y1 * y2)) - (z1 * z2)) * ((b2 + b2 + b2) * ((((x1 + z1) * (x2 + z2)) - (x1 * x2)) - (z1 * z2))))), PV ((((y1 * y2) - ((b2 + b2 + b2) * (z1 * z2))) * ((y1 * y2) + ((b2 + b2 + b2) * (z1 * z2)))) + (((b2 + b2 + b2) * ((((x1 + z1) * (x2 + z2)) - (x1 * x2)) - (z1 * z2))) * (((x1 * x2) + (x1 * x2)) + (x1 * x2)))), PV ((((y1 * y2) + ((b2 + b2 + b2) * (z1 * z2))) * ((((y1 + z1) * (y2 + z2)) - (y1 * y2)) - (z1 * z2))) + ((((x1 * x2) + (x1 * x2)) + (x1 * x2)) * ((((x1 + y1) * (x2 + y2)) - (x1 * x2)) - (y1 * y2)))), PJV ⟨((((((x1 + y1) * (x2 + y2)) - (x1 * x2)) - (y1 * y2)) * ((y1 * y2) - ((b2 + b2 + b2) * (z1 * z2)))) - (((((y1 + z1) * (y2 + z2)) - (y1 * y2)) - (z1 * z2)) * ((b2 + b2 + b2) * ((((x1 + z1) * (x2 + z2)) - (x1 * x2)) - (z1 * z2))))), ((((y1 * y2) - ((b2 + b2 + b2) * (z1 * z2))) * ((y1 * y2) + ((b2 + b2 + b2) * (z1 * z2)))) + (((b2 + b2 + b2) * ((((x1 + z1) * (x2 + z2)) - (x1 * x2)) - (z1 * z2))) * (((x1 * x2) + (x1 * x2)) + (x1 * x2)))), ((((y1 * y2) + ((b2 + b2 + b2) * (z1 * z2))) * ((((y1 + z1) * (y2 + z2)) - (y1 * y2)) - (z1 * z2))) + ((((x1 * x2) + (x1 * x2)) + (x1 * x2)) * ((((x1 + y1) * (x2 + y2)) - (x1 * x2)) - (y1 * y2))))⟩]) (fun L => [((L0.b 0), PJC ⟨x1, y1, z1⟩), ((L0.b 1), PJC ⟨x2, y2, z2⟩), ((L0.b 2), PJC ⟨((((((x1 + y1) * (x2 + y2)) - (x1 * x2)) - (y1 * y2)) * ((y1 * y2) - ((b2 + b2 + b2) * (z1 * z2)))) - (((((y1 + z1) * (y2 + z2)) - (y1 * y2)) - (z1 * z2)) * ((b2 + b2 + b2) * ((((x1 + z1) * (x2 + z2)) - (x1 * x2)) - (z1 * z2))))), ((((y1 * y2) - ((b2 + b2 + b2) * (z1 * z2))) * ((y1 * y2) + ((b2 + b2 + b2) * (z1 * z2)))) + (((b2 + b2 + b2) * ((((x1 + z1) * (x2 + z2)) - (x1 * x2)) - (z1 * z2))) * (((x1 * x2) + (x1 * x2)) + (x1 * x2)))), ((((y1 * y2) + ((b2 + b2 + b2) * (z1 * z2))) * ((((y1 + z1) * (y2 + z2)) - (y1 * y2)) - (z1 * z2))) + ((((x1 * x2) + (x1 * x2)) + (x1 * x2)) * ((((x1 + y1) * (x2 + y2)) - (x1 * x2)) - (y1 * y2))))⟩), ((L1.b 18), PC (((x1 * x2) + (x1 * x2)) + (x1 * x2))), ((L1.b 19), PC ((y1 * y2) - ((b2 + b2 + b2) * (z1 * z2)))), ((L1.b 20), PC ((b2 + b2 + b2) * (z1 * z2))), ((L2.b 16), PC ((((x1 + y1) * (x2 + y2)) - (x1 * x2)) - (y1 * y2))), ((L3.b 16), PC ((((y1 + z1) * (y2 + z2)) - (y1 * y2)) - (z1 * z2))), ((L4.b 16), PC ((((y1 * y2) - ((b2 + b2 + b2) * (z1 * z2))) * ((y1 * y2) + ((b2 + b2 + b2) * (z1 * z2)))) + (((b2 + b2 + b2) * ((((x1 + z1) * (x2 + z2)) - (x1 * x2)) - (z1 * z2))) * (((x1 * x2) + (x1 * x2)) + (x1 * x2))))), ((L7.b 3), PC ((((y1 * y2) + ((b2 + b2 + b2) * (z1 * z2))) * ((((y1 + z1) * (y2 + z2)) - (y1 * y2)) - (z1 * z2))) + ((((x1 * x2) + (x1 * x2)) + (x1 * x2)) * ((((x1 + y1) * (x2 + y2)) - (x1 * x2)) - (y1 * y2))))), ((L10.b 9), PC ((((((x1 + y1) * (x2 + y2)) - (x1 * x2)) - (y1 * y2)) * ((y1 * y2) - ((b2 + b2 + b2) * (z1 * z2)))) - (((((y1 + z1) * (y2 + z2)) - (y1 * y2)) - (z1 * z2)) * ((b2 + b2 + b2) * ((((x1 + z1) * (x2 + z2)) - (x1 * x2)) - (z1 * z2))))))]) hp13 ⟨
    oL 10 0 rP, oL 8 0 rP, oL 9 0 rP, oD (buildPJ012 ((((((x1 + y1) * (x2 + y2)) - (x1 * x2)) - (y1 * y2)) * ((y1 * y2) - ((b2 + b2 + b2) * (z1 * z2)))) - (((((y1 + z1) * (y2 + z2)) - (y1 * y2)) - (z1 * z2)) * ((b2 + b2 + b2) * ((((x1 + z1) * (x2 + z2)) - (x1 * x2)) - (z1 * z2))))) ((((y1 * y2) - ((b2 + b2 + b2) * (z1 * z2))) * ((y1 * y2) + ((b2 + b2 + b2) * (z1 * z2)))) + (((b2 + b2 + b2) * ((((x1 + z1) * (x2 + z2)) - (x1 * x2)) - (z1 * z2))) * (((x1 * x2) + (x1 * x2)) + (x1 * x2)))) ((((y1 * y2) + ((b2 + b2 + b2) * (z1 * z2))) * ((((y1 + z1) * (y2 + z2)) - (y1 * y2)) - (z1 * z2))) + ((((x1 * x2) + (x1 * x2)) + (x1 * x2)) * ((((x1 + y1) * (x2 + y2)) - (x1 * x2)) - (y1 * y2))))),
    oT rPJ,
    trivial⟩ (fun L13 w14 hp14 => ?_)
  refine k14 _ _ ?_
  refine wp_ret ?_
  refine bodyPost_ret (v := PJV ⟨((((((x1 + y1) * (x2 + y2)) - (x1 * x2)) - (y1 * y2)) * ((y1 * y2) - ((b2 + b2 + b2) * (z1 * z2)))) - (((((y1 + z1) * (y2 + z2)) - (y1 * y2)) - (z1 * z2)) * ((b2 + b2 + b2) * ((((x1 + z1) * (x2 + z2)) - (x1 * x2)) - (z1 * z2))))), ((((y1 * y2) - ((b2 + b2 + b2) * (z1 * z2))) * ((y1 * y2) + ((b2 + b2 + b2) * (z1 * z2)))) + (((b2 + b2 + b2) * ((((x1 + z1) * (x2 + z2)) - (x1 * x2)) - (z1 * z2))) * (((x1 * x2) + (x1 * x2)) + (x1 * x2)))), ((((y1 * y2) + ((b2 + b2 + b2) * (z1 * z2))) * ((((y1 + z1) * (y2 + z2)) - (y1 * y2)) - (z1 * z2))) + ((((x1 * x2) + (x1 * x2)) + (x1 * x2)) * ((((x1 + y1) * (x2 + y2)) - (x1 * x2)) - (y1 * y2))))⟩) ?_ rfl ?_
  · exact rc rPJ rfl (by kernel_rfl) (hp14.bound 2 rfl).2
  · exact ⟨congrArg (fun z => Ending.returned (PJV z)) (Pj.ext' (ri8_0 (x1) (y1) (z1) (x2) (y2) (z2) ((b2 + b2 + b2))) (ri8_1 (x1) (y1) (z1) (x2) (y2) (z2) ((b2 + b2 + b2))) (ri8_2 (x1) (y1) (z1) (x2) (y2) (z2) ((b2 + b2 + b2)))), hp14.bel⟩
theorem ref5add (R : RefK) (t u : F2 × F2 × F2) (w : World) : Calls Tryd.prog 36 #[PJV (sp t), PJV (sp u), .bool false] w (Ret (PJV (sp (radd2 t u))) w) := ref5addS R t.1 t.2.1 t.2.2 u.1 u.2.1 u.2.2 w
set_option maxHeartbeats 4000000 in
theorem ref5none (R : RefK)  (w : World) : Calls Tryd.prog 67 #[] w (Ret (PJV (sp (0, 1, 0))) w) := by
  have hp0 := Heap.start w
  go_enter Tryd.func67, Tryd.ntmps67
  refine wp_seq_k (fun K1 k1 => ?_)
  refine gs [.alloc (PJC ⟨0, 0, 0⟩)] [0] [0] (fun L => [pt (L.b 0) 0, undef, undef]) (fun L => [(L.b 0, PJC ⟨0, 0, 0⟩)]) hp0 ⟨
    oZ rPJ,
    trivial⟩ (fun L0 w1 hp1 => ?_)
  refine k1 _ _ ?_
  refine wp_seq_k (fun K2 k2 => ?_)
  refine gs [.det (PV 1), .det (PJV ⟨0, 1, 0⟩), .store (.base 0) 0 (PJC ⟨0, 1, 0⟩) (PJC ⟨0, 1, 0⟩)] [0, 1, 2] [0, 1, 3] (fun L => [pt (L0.b 0) 0, PV 1, PJV ⟨0, 1, 0⟩]) (fun L => [((L0.b 0), PJC ⟨0, 1, 0⟩)]) hp1 ⟨
    oR (ref5one2 R), oD (buildPJ1 1), oT rPJ,
    trivial⟩ (fun L1 w2 hp2 => ?_)
  refine k2 _ _ ?_
  refine wp_ret ?_
  refine bodyPost_ret (v := PJV ⟨0, 1, 0⟩) ?_ rfl ?_
  · exact rc rPJ rfl (by kernel_rfl) (hp2.bound 0 rfl).2
  · exact ⟨rfl, hp2.bel⟩
set_option maxHeartbeats 4000000 in
theorem ref5of10 (R : RefK) (x y : F2) (w : World) : Calls Tryd.prog 37 #[GV ⟨x, y, true⟩] w (Ret (PJV (sp (0, 1, 0))) w) := by
  have hp0 := Heap.start w
  go_enter Tryd.func37, Tryd.ntmps37
  refine wp_seq_k (fun K1 k1 => ?_)
  refine gs [.alloc (GC ⟨x, y, true⟩), .alloc (PJC ⟨0, 0, 0⟩)] [0, 1] [0, 0] (fun L => [GV ⟨x, y, true⟩, pt (L.b 0) 0, pt (L.b 1) 0] ++ U 9) (fun L => [(L.b 0, GC ⟨x, y, true⟩), (L.b 1, PJC ⟨0, 0, 0⟩)]) hp0 ⟨
    oB, oZ rPJ,
    trivial⟩ (fun L0 w1 hp1 => ?_)
  refine k1 _ _ ?_
  refine wp_seq_k (fun K2 k2 => ?_)
  refine wp_seq_k (fun K3 k3 => ?_)
  refine gs [.det (pt (L0.b 0) 24), .det (.bool true)] [0, 1] [0, 1] (fun L => [GV ⟨x, y, true⟩, pt (L0.b 0) 0, pt (L0.b 1) 0, pt (L0.b 0) 24, .bool true] ++ U 7) (fun L => [((L0.b 0), GC ⟨x, y, true⟩), ((L0.b 1), PJC ⟨0, 0, 0⟩)]) hp1 ⟨
    oF fG2, oL1 0 24 oneB,
    trivial⟩ (fun L1 w2 hp2 => ?_)
  refine k3 _ _ ?_
  refine wp_cond_true (by kernel_rfl) ?_
  refine wp_seq_k (fun K4 k4 => ?_)
  refine gs [.det (PJV (sp (0, 1, 0))), .store (.base 1) 0 (PJC (sp (0, 1, 0))) (PJC (sp (0, 1, 0)))] [0, 1] [0, 1] (fun L => [GV ⟨x, y, true⟩, pt (L0.b 0) 0, pt (L0.b 1) 0, pt (L0.b 0) 24, .bool true, PJV (sp (0, 1, 0))] ++ U 6) (fun L => [((L0.b 0), GC ⟨x, y, true⟩), ((L0.b 1), PJC (sp (0, 1, 0)))]) hp2 ⟨
    oR (ref5none R ), oT rPJ,
    trivial⟩ (fun L2 w3 hp3 => ?_)
  refine k4 _ _ ?_
  refine wp_ret ?_
  refine bodyPost_ret (v := PJV (sp (0, 1, 0))) ?_ rfl ?_
  · exact rc rPJ rfl (by kernel_rfl) (hp3.bound 1 rfl).2
  · exact ⟨rfl, hp3.bel⟩
set_option maxHeartbeats 4000000 in
theorem ref5of11 (R : RefK) (x y : F2) (w : World) : Calls Tryd.prog 37 #[GV ⟨x, y, false⟩] w (Ret (PJV (sp (x, y, 1))) w) := by
  have hp0 := Heap.start w
  go_enter Tryd.func37, Tryd.ntmps37
  refine wp_seq_k (fun K1 k1 => ?_)
  refine gs [.alloc (GC ⟨x, y, false⟩), .alloc (PJC ⟨0, 0, 0⟩)] [0, 1] [0, 0] (fun L => [GV ⟨x, y, false⟩, pt (L.b 0) 0, pt (L.b 1) 0] ++ U 9) (fun L => [(L.b 0, GC ⟨x, y, false⟩), (L.b 1, PJC ⟨0, 0, 0⟩)]) hp0 ⟨
    oB, oZ rPJ,
    trivial⟩ (fun L0 w1 hp1 => ?_)
  refine k1 _ _ ?_
  refine wp_seq_k (fun K2 k2 => ?_)
  refine wp_seq_k (fun K3 k3 => ?_)
  refine gs [.det (pt (L0.b 0) 24), .det (.bool false)] [0, 1] [0, 1] (fun L => [GV ⟨x, y, false⟩, pt (L0.b 0) 0, pt (L0.b 1) 0, pt (L0.b 0) 24, .bool false] ++ U 7) (fun L => [((L0.b 0), GC ⟨x, y, false⟩), ((L0.b 1), PJC ⟨0, 0, 0⟩)]) hp1 ⟨
    oF fG2, oL1 0 24 oneB,
    trivial⟩ (fun L1 w2 hp2 => ?_)
  refine k3 _ _ ?_
  refine wp_cond_false (by kernel_rfl) ?_
  refine skips ?_
  refine k2 _ _ ?_
  refine wp_seq_k (fun K4 k4 => ?_)
  refine dr [.det (pt (L0.b 0) 0), .det (PV x), .det (pt (L0.b 0) 12), .det (PV y), .det (PV 1), .det (PJV ⟨x, y, 1⟩), .store (.base 1) 0 (PJC ⟨x, y, 1⟩) (PJC ⟨x, y, 1⟩)] [0, 1, 2, 3, 4, 5, 6] [0, 1, 0, 4, 0, 31, 63] (fun L => [GV ⟨x, y, false⟩, pt (L0.b 0) 0, pt (L0.b 1) 0, pt (L0.b 0) 24, .bool false, undef, pt (L0.b 0) 0, PV x, pt (L0.b 0) 12, PV y, PV 1, PJV ⟨x, y, 1⟩]) (fun L => [((L0.b 0), GC ⟨x, y, false⟩), ((L0.b 1), PJC ⟨x, y, 1⟩)]) hp2 ⟨
    oF fG0, oL 0 0 rP, oF fG1, oL 0 12 rP, oR (ref5one2 R), oD (buildPJ012 x y 1), oT rPJ,
    trivial⟩ (fun L2 w3 hp3 => ?_)
  refine k4 _ _ ?_
  refine wp_ret ?_
  refine bodyPost_ret (v := PJV ⟨x, y, 1⟩) ?_ rfl ?_
  · exact rc rPJ rfl (by kernel_rfl) (hp3.bound 1 rfl).2
  · exact ⟨rfl, hp3.bel⟩
def pof : Pt F2 → F2 × F2 × F2
  | .inf => (0, 1, 0)
  | .aff x y => (x, y, 1)
theorem ref5of1 (R : RefK) (P : Pt F2) (w : World) : Calls Tryd.prog 37 #[GV (gp P)] w (Ret (PJV (sp (pof P))) w) := by
  cases P with
  | inf => exact ref5of10 R 0 0 w
  | aff x y => exact ref5of11 R x y w
def Rep3 (P : Pt F2) (t : F2 × F2 × F2) : Prop := Rep P t.1 t.2.1 t.2.2
theorem rep_of (P : Pt F2) : Rep3 P (pof P) := by
  cases P with
  | inf => exact Rep.inf crv2
  | aff x y => exact Rep.aff crv2 x y
theorem rep_add {P Q : Pt F2} (hP : On b2 P) (hQ : On b2 Q) {t u : F2 × F2 × F2} (h : Rep3 P t) (h' : Rep3 Q u) : Rep3 (add F2.inv P Q) (radd2 t u) := Rep.sum crv2 hP hQ h h'
noncomputable def pto (t : F2 × F2 × F2) : Pt F2 := if t.2.2 = 0 then .inf else .aff (t.1 * F2.inv t.2.2) (t.2.1 * F2.inv t.2.2)
theorem pto_rep {P : Pt F2} {t : F2 × F2 × F2} (h : Rep3 P t) : pto t = P := by
  obtain ⟨c, hc, h⟩ := h
  unfold pto
  cases P with
  | inf => exact if_pos (h.2.2.trans (Rn.mul_zero c))
  | aff x y =>
    obtain ⟨h0, h1, h2⟩ := h
    rw [Rn.mul_one] at h2
    rw [h0, h1, h2, if_neg hc]
    have e : ∀ x : F2, c * x * F2.inv c = x := fun x => by
      rw [Rn.CR.mul_comm c x, Rn.CR.mul_assoc, F2.inv_mul hc, Rn.mul_one]
    rw [e, e]
set_option maxHeartbeats 4000000 in
theorem ref5to11 (R : RefK) (x y z : F2) (w : World) (hz : z ≠ 0) : Calls Tryd.prog 35 #[PJV ⟨x, y, z⟩] w (Ret (GV ⟨x * F2.inv z, y * F2.inv z, false⟩) w) := by
  have hp0 := Heap.start w
  go_enter Tryd.func35, Tryd.ntmps35
  refine wp_seq_k (fun K1 k1 => ?_)
  refine gs [.alloc (PJC ⟨x, y, z⟩), .alloc (GC ⟨0, 0, false⟩)] [0, 1] [0, 0] (fun L => [PJV ⟨x, y, z⟩, pt (L.b 0) 0, pt (L.b 1) 0] ++ U 20) (fun L => [(L.b 0, PJC ⟨x, y, z⟩), (L.b 1, GC ⟨0, 0, false⟩)]) hp0 ⟨
    oB, oZ rG,
    trivial⟩ (fun L0 w1 hp1 => ?_)
  refine k1 _ _ ?_
  refine wp_seq_k (fun K2 k2 => ?_)
  refine gs [.det (pt (L0.b 0) 24), .det (PV z), .det (.tuple #[PV (F2.inv z), .int .i64 0]), .det (.tuple #[PV (F2.inv z), .int .i64 0]), .det (PV (F2.inv z)), .det (.int .i64 0), .alloc (PC 0), .store (.new 6) 0 (PC (F2.inv z)) (PC (F2.inv z)), .det (.int .i64 0)] [0, 1, 2, 3, 4, 5, 6, 7, 8] [0, 1, 3, 7, 15, 15, 0, 95, 255] (fun L => [PJV ⟨x, y, z⟩, pt (L0.b 0) 0, pt (L0.b 1) 0, pt (L.b 6) 0, .int .i64 0, .tuple #[PV (F2.inv z), .int .i64 0], pt (L0.b 0) 24, PV z, .tuple #[PV (F2.inv z), .int .i64 0], PV (F2.inv z), .int .i64 0] ++ U 12) (fun L => [((L0.b 0), PJC ⟨x, y, z⟩), ((L0.b 1), GC ⟨0, 0, false⟩), (L.b 6, PC (F2.inv z))]) hp1 ⟨
    oF fP2, oL 0 24 rP, oH (v := .tuple #[PV (F2.inv z), .int .i64 0]) (vs := #[PV z]) (fun w _ _ => ref5Inv2 R z w (F2.norm_ne hz)), oM, oX, oX, oZ rP, oT rP, oA,
    trivial⟩ (fun L1 w2 hp2 => ?_)
  refine k2 _ _ ?_
  refine wp_seq_k (fun K3 k3 => ?_)
  refine wp_seq_k (fun K4 k4 => ?_)
  refine gs [.det (.int .i64 0), .det (.bool false)] [0, 1] [0, 1] (fun L => [PJV ⟨x, y, z⟩, pt (L0.b 0) 0, pt (L0.b 1) 0, pt (L1.b 6) 0, .int .i64 0, .tuple #[PV (F2.inv z), .int .i64 0], pt (L0.b 0) 24, PV z, .tuple #[PV (F2.inv z), .int .i64 0], PV (F2.inv z), .int .i64 0, .int .i64 0, .bool false] ++ U 10) (fun L => [((L0.b 0), PJC ⟨x, y, z⟩), ((L0.b 1), GC ⟨0, 0, false⟩), ((L1.b 6), PC (F2.inv z))]) hp2 ⟨
    oM, oJ .i64 .i64 0 0 (h := fun w => (neqI _ _ _ _ w).trans rfl),
    trivial⟩ (fun L2 w3 hp3 => ?_)
  refine k4 _ _ ?_
  refine wp_cond_false (by kernel_rfl) ?_
  refine skips ?_
  refine k3 _ _ ?_
  refine wp_seq_k (fun K5 k5 => ?_)
  refine dr [.det (pt (L0.b 0) 0), .det (PV x), .det (PV (F2.inv z)), .det (PV (x * (F2.inv z))), .det (pt (L0.b 0) 12), .det (PV y), .det (PV (F2.inv z)), .det (PV (y * (F2.inv z))), .det (GV ⟨(x * (F2.inv z)), (y * (F2.inv z)), false⟩), .store (.base 1) 0 (GC ⟨(x * (F2.inv z)), (y * (F2.inv z)), false⟩) (GC ⟨(x * (F2.inv z)), (y * (F2.inv z)), false⟩)] [0, 1, 2, 3, 4, 5, 6, 7, 8, 9] [0, 1, 0, 7, 0, 16, 0, 127, 255, 511] (fun L => [PJV ⟨x, y, z⟩, pt (L0.b 0) 0, pt (L0.b 1) 0, pt (L1.b 6) 0, .int .i64 0, .tuple #[PV (F2.inv z), .int .i64 0], pt (L0.b 0) 24, PV z, .tuple #[PV (F2.inv z), .int .i64 0], PV (F2.inv z), .int .i64 0, .int .i64 0, .bool false, undef, pt (L0.b 0) 0, PV x, PV (F2.inv z), PV (x * (F2.inv z)), pt (L0.b 0) 12, PV y, PV (F2.inv z), PV (y * (F2.inv z)), GV ⟨(x * (F2.inv z)), (y * (F2.inv z)), false⟩]) (fun L => [((L0.b 0), PJC ⟨x, y, z⟩), ((L0.b 1), GC ⟨(x * (F2.inv z)), (y * (F2.inv z)), false⟩), ((L1.b 6), PC (F2.inv z))]) hp3 ⟨
    oF fP0, oL 0 0 rP, oL 2 0 rP, oR (ref5Mul2 R x (F2.inv z)), oF fP1, oL 0 12 rP, oL 2 0 rP, oR (ref5Mul2 R y (F2.inv z)), oD (buildG01 (x * (F2.inv z)) (y * (F2.inv z))),
    oT rG,
    trivial⟩ (fun L3 w4 hp4 => ?_)
  refine k5 _ _ ?_
  refine wp_ret ?_
  refine bodyPost_ret (v := GV ⟨(x * (F2.inv z)), (y * (F2.inv z)), false⟩) ?_ rfl ?_
  · exact rc rG rfl (by kernel_rfl) (hp4.bound 1 rfl).2
  · exact ⟨rfl, hp4.bel⟩
set_option maxHeartbeats 4000000 in
theorem ref5to10 (R : RefK) (x y : F2) (w : World) : Calls Tryd.prog 35 #[PJV ⟨x, y, 0⟩] w (Ret (GV ⟨0, 0, true⟩) w) := by
  have hp0 := Heap.start w
  go_enter Tryd.func35, Tryd.ntmps35
  refine wp_seq_k (fun K1 k1 => ?_)
  refine gs [.alloc (PJC ⟨x, y, 0⟩), .alloc (GC ⟨0, 0, false⟩)] [0, 1] [0, 0] (fun L => [PJV ⟨x, y, 0⟩, pt (L.b 0) 0, pt (L.b 1) 0] ++ U 20) (fun L => [(L.b 0, PJC ⟨x, y, 0⟩), (L.b 1, GC ⟨0, 0, false⟩)]) hp0 ⟨
    oB, oZ rG,
    trivial⟩ (fun L0 w1 hp1 => ?_)
  refine k1 _ _ ?_
  refine wp_seq_k (fun K2 k2 => ?_)
  refine gs [.det (pt (L0.b 0) 24), .det (PV 0), .det (.tuple #[PV 0, .int .i64 7]), .det (.tuple #[PV 0, .int .i64 7]), .det (PV 0), .det (.int .i64 7), .alloc (PC 0), .store (.new 6) 0 (PC 0) (PC 0), .det (.int .i64 7)] [0, 1, 2, 3, 4, 5, 6, 7, 8] [0, 1, 3, 7, 15, 15, 0, 95, 255] (fun L => [PJV ⟨x, y, 0⟩, pt (L0.b 0) 0, pt (L0.b 1) 0, pt (L.b 6) 0, .int .i64 7, .tuple #[PV 0, .int .i64 7], pt (L0.b 0) 24, PV 0, .tuple #[PV 0, .int .i64 7], PV 0, .int .i64 7] ++ U 12) (fun L => [((L0.b 0), PJC ⟨x, y, 0⟩), ((L0.b 1), GC ⟨0, 0, false⟩), (L.b 6, PC 0)]) hp1 ⟨
    oF fP2, oL 0 24 rP, oH (v := .tuple #[PV 0, .int .i64 7]) (vs := #[PV 0]) (fun w _ _ => ref5Inv20 R 0 w (by kernel_rfl)), oM, oX, oX, oZ rP, oT rP, oA,
    trivial⟩ (fun L1 w2 hp2 => ?_)
  refine k2 _ _ ?_
  refine wp_seq_k (fun K3 k3 => ?_)
  refine wp_seq_k (fun K4 k4 => ?_)
  refine gs [.det (.int .i64 7), .det (.bool true)] [0, 1] [0, 1] (fun L => [PJV ⟨x, y, 0⟩, pt (L0.b 0) 0, pt (L0.b 1) 0, pt (L1.b 6) 0, .int .i64 7, .tuple #[PV 0, .int .i64 7], pt (L0.b 0) 24, PV 0, .tuple #[PV 0, .int .i64 7], PV 0, .int .i64 7, .int .i64 7, .bool true] ++ U 10) (fun L => [((L0.b 0), PJC ⟨x, y, 0⟩), ((L0.b 1), GC ⟨0, 0, false⟩), ((L1.b 6), PC 0)]) hp2 ⟨
    oM, oJ .i64 .i64 7 0 (h := fun w => (neqI _ _ _ _ w).trans rfl),
    trivial⟩ (fun L2 w3 hp3 => ?_)
  refine k4 _ _ ?_
  refine wp_cond_true (by kernel_rfl) ?_
  refine wp_seq_k (fun K5 k5 => ?_)
  refine gs [.det (GV ⟨0, 0, true⟩), .store (.base 1) 0 (GC ⟨0, 0, true⟩) (GC ⟨0, 0, true⟩)] [0, 1] [0, 1] (fun L => [PJV ⟨x, y, 0⟩, pt (L0.b 0) 0, pt (L0.b 1) 0, pt (L1.b 6) 0, .int .i64 7, .tuple #[PV 0, .int .i64 7], pt (L0.b 0) 24, PV 0, .tuple #[PV 0, .int .i64 7], PV 0, .int .i64 7, .int .i64 7, .bool true, GV ⟨0, 0, true⟩] ++ U 9) (fun L => [((L0.b 0), PJC ⟨x, y, 0⟩), ((L0.b 1), GC ⟨0, 0, true⟩), ((L1.b 6), PC 0)]) hp3 ⟨
    oD (buildGi true), oT rG,
    trivial⟩ (fun L3 w4 hp4 => ?_)
  refine k5 _ _ ?_
  refine wp_ret ?_
  refine bodyPost_ret (v := GV ⟨0, 0, true⟩) ?_ rfl ?_
  · exact rc rG rfl (by kernel_rfl) (hp4.bound 1 rfl).2
  · exact ⟨rfl, hp4.bel⟩
theorem ref5to1 (R : RefK) (t : F2 × F2 × F2) (w : World) : Calls Tryd.prog 35 #[PJV (sp t)] w (Ret (GV (gp (pto t))) w) := by
  obtain ⟨x, y, z⟩ := t
  unfold pto
  by_cases hz : z = 0
  · subst hz; rw [if_pos rfl]; exact ref5to10 R x y w
  · rw [if_neg hz]; exact ref5to11 R x y z w hz
theorem lad_succ (t : F2 × F2 × F2) (f e : Nat) : lad (b2 + b2 + b2) t.1 t.2.1 t.2.2 (f + 1) e = if e % 2 = 1 then radd2 (radd2 (lad (b2 + b2 + b2) t.1 t.2.1 t.2.2 f (e / 2)) (lad (b2 + b2 + b2) t.1 t.2.1 t.2.2 f (e / 2))) t else radd2 (lad (b2 + b2 + b2) t.1 t.2.1 t.2.2 f (e / 2)) (lad (b2 + b2 + b2) t.1 t.2.1 t.2.2 f (e / 2)) := rfl
theorem half_half (E j : Nat) : E / 2 ^ j / 2 = E / 2 ^ (j + 1) := by rw [Nat.pow_succ, Nat.div_div_eq_div_mul]
theorem lad_even {t y : F2 × F2 × F2} {n E j : Nat} (hL : j + 1 ≤ 64 * n) (hy : y = lad (b2 + b2 + b2) t.1 t.2.1 t.2.2 (64 * n - (j + 1)) (E / 2 ^ (j + 1))) (hb : E / 2 ^ j % 2 = 0) : radd2 y y = lad (b2 + b2 + b2) t.1 t.2.1 t.2.2 (64 * n - j) (E / 2 ^ j) := by
  rw [show 64 * n - j = (64 * n - (j + 1)) + 1 by omega, lad_succ, half_half, ← hy, if_neg (by omega)]
theorem lad_odd {t y : F2 × F2 × F2} {n E j : Nat} (hL : j + 1 ≤ 64 * n) (hy : y = lad (b2 + b2 + b2) t.1 t.2.1 t.2.2 (64 * n - (j + 1)) (E / 2 ^ (j + 1))) (hb : E / 2 ^ j % 2 = 1) : radd2 (radd2 y y) t = lad (b2 + b2 + b2) t.1 t.2.1 t.2.2 (64 * n - j) (E / 2 ^ j) := by
  rw [show 64 * n - j = (64 * n - (j + 1)) + 1 by omega, lad_succ, half_half, ← hy, if_pos hb]
def timesI (t : F2 × F2 × F2) (p : Option Addr) (n c E : Nat) (w : World) (b3 b6 b7 : Nat) : Nat → Act → World → Prop := fun L a' w' => ∃ (y : F2 × F2 × F2) (u4 u5 u9 u10 u11 u12 u13 u14 u15 u16 u17 u18 u19 u20 u21 u22 u23 u24 u25 u26 u27 u28 u29 : Value),
  a' = { tmps := #[PJV (sp t), .slice p n c, .bool false, .pointer (some ⟨b3, 0, none⟩), u4, u5, .pointer (some ⟨b6, 0, none⟩), .pointer (some ⟨b7, 0, none⟩), .int .i64 ((L : Int) - 1), u9, u10, u11, u12, u13, u14, u15, u16, u17, u18, u19, u20, u21, u22, u23, u24, u25, u26, u27, u28, u29], defers := [] } ∧ L ≤ 64 * n ∧ y = lad (b2 + b2 + b2) t.1 t.2.1 t.2.2 (64 * n - L) (E / 2 ^ L) ∧ Heap w.heap.size w w' [(b3, PJC (sp t)), (b6, PJC ⟨0, 0, 0⟩), (b7, PJC (sp y))]

set_option maxHeartbeats 4000000 in
theorem ref5times (R : RefK) (t : F2 × F2 × F2) (p : Option Addr) (n c : Nat) (g : Nat → Int) (E : Nat) (w : World) (hn : n ≤ 24) (he : At w p n g) (rg : Rg g n) (hE : val g n = (E : Int)) : Calls Tryd.prog 41 #[PJV (sp t), .slice p n c, .bool false] w (Ret (PJV (sp (lad (b2 + b2 + b2) t.1 t.2.1 t.2.2 (64 * n) E))) w) := by
  have hp0 := Heap.start w
  go_enter Tryd.func41, Tryd.ntmps41
  refine wp_seq_k (fun K1 k1 => ?_)
  refine gs [.alloc (PJC (sp t)), .alloc (PJC ⟨0, 0, 0⟩)] [0, 1] [0, 0] (fun L => [PJV (sp t), .slice p n c, .bool false, pt (L.b 0) 0, undef, undef, pt (L.b 1) 0] ++ U 23) (fun L => [(L.b 0, PJC (sp t)), (L.b 1, PJC ⟨0, 0, 0⟩)]) hp0 ⟨
    oB, oZ rPJ,
    trivial⟩ (fun L0 w1 hp1 => ?_)
  refine k1 _ _ ?_
  refine wp_seq_k (fun K2 k2 => ?_)
  refine gs [.det (PJV (sp (0, 1, 0))), .alloc (PJC ⟨0, 0, 0⟩), .store (.new 1) 0 (PJC (sp (0, 1, 0))) (PJC (sp (0, 1, 0)))] [0, 1, 2] [0, 0, 3] (fun L => [PJV (sp t), .slice p n c, .bool false, pt (L0.b 0) 0, undef, undef, pt (L0.b 1) 0, pt (L.b 1) 0, undef, PJV (sp (0, 1, 0))] ++ U 20) (fun L => [((L0.b 0), PJC (sp t)), ((L0.b 1), PJC ⟨0, 0, 0⟩), (L.b 1, PJC (sp (0, 1, 0)))]) hp1 ⟨
    oR (ref5none R ), oZ rPJ, oT rPJ,
    trivial⟩ (fun L1 w2 hp2 => ?_)
  refine k2 _ _ ?_
  refine wp_seq_k (fun K3 k3 => ?_)
  refine wp_seq_k (fun K4 k4 => ?_)
  refine gs [.det (.slice p n c), .det (.int .i64 n), .det (.int .i64 ((64 * n : Nat) : Int)), .det (.int .i64 (((64 * n : Nat) : Int) - 1)), .det (.int .i64 (((64 * n : Nat) : Int) - 1))] [0, 1, 2, 3, 4] [0, 1, 3, 7, 15] (fun L => [PJV (sp t), .slice p n c, .bool false, pt (L0.b 0) 0, undef, undef, pt (L0.b 1) 0, pt (L1.b 1) 0, .int .i64 (((64 * n : Nat) : Int) - 1), PJV (sp (0, 1, 0)), .slice p n c, .int .i64 n, .int .i64 ((64 * n : Nat) : Int), .int .i64 (((64 * n : Nat) : Int) - 1)] ++ U 16) (fun L => [((L0.b 0), PJC (sp t)), ((L0.b 1), PJC ⟨0, 0, 0⟩), ((L1.b 1), PJC (sp (0, 1, 0)))]) hp2 ⟨
    oM, fun h => ⟨ob_len (p := p) (n := n) (c := c) (fun _ => rfl) h rfl (fun _ => by kernel_rfl) Tryd.underlying54⟩, oJ .i64 .i64 64 n (h := fun w => mul64 _ n (by omega) w),
    oJ .i64 .i64 ((64 * n : Nat) : Int) 1 (h := fun w => sub3 _ (64 * n) (by omega) w), oA,
    trivial⟩ (fun L2 w3 hp3 => ?_)
  refine k4 _ _ ?_
  refine wp_block_k (fun K5 k5 => ?_)
  refine wp_loop_ghost (timesI t p n c E w (L0.b 0) (L0.b 1) (L1.b 1)) (64 * n) ⟨(0, 1, 0), undef, undef, PJV (sp (0, 1, 0)), .slice p n c, .int .i64 n, .int .i64 ((64 * n : Nat) : Int), .int .i64 (((64 * n : Nat) : Int) - 1), undef, undef, undef, undef, undef, undef, undef, undef, undef, undef, undef, undef, undef, undef, undef, undef, rfl, Nat.le_refl _, by rw [Nat.sub_self]; rfl, hp3⟩ ?_
  rintro L a' W ⟨y, u4, u5, u9, u10, u11, u12, u13, u14, u15, u16, u17, u18, u19, u20, u21, u22, u23, u24, u25, u26, u27, u28, u29, rfl, hL, hy, hJ⟩
  by_cases hL0 : L = 0
  rotate_left
  · skip
    obtain ⟨j, rfl⟩ : ∃ j, L = j + 1 := ⟨L - 1, by omega⟩
    rw [show (((j + 1 : Nat) : Int) - 1) = (j : Int) by omega]
    rcases (show E / 2 ^ j % 2 = 0 ∨ E / 2 ^ j % 2 = 1 by omega) with hb0 | hb1
    · skip
      refine wp_seq_k (fun K6 k6 => ?_)
      refine wp_seq_k (fun K7 k7 => ?_)
      refine gs [.det (.int .i64 (j : Int)), .det (.bool true)] [0, 1] [0, 1] (fun L => [PJV (sp t), .slice p n c, .bool false, pt (L0.b 0) 0, u4, u5, pt (L0.b 1) 0, pt (L1.b 1) 0, .int .i64 (j : Int), u9, u10, u11, u12, u13, .int .i64 (j : Int), .bool true, u16, u17, u18, u19, u20, u21, u22, u23, u24, u25, u26, u27, u28, u29]) (fun L => [((L0.b 0), PJC (sp t)), ((L0.b 1), PJC ⟨0, 0, 0⟩), ((L1.b 1), PJC (sp y))]) hJ ⟨
        oM, oJ .i64 .i64 (j : Int) 0 (h := fun w => (geqI _ _ _ w).trans (by rw [decide_eq_true (by omega)])),
        trivial⟩ (fun L3 w4 hp4 => ?_)
      refine k7 _ _ ?_
      refine wp_cond_true (by kernel_rfl) ?_
      refine skips ?_
      refine k6 _ _ ?_
      refine wp_seq_k (fun K8 k8 => ?_)
      refine wp_block_k (fun K9 k9 => ?_)
      refine wp_seq_k (fun K10 k10 => ?_)
      refine gs [.det (PJV (sp y)), .det (PJV (sp y)), .det (.bool false), .det (PJV (sp (radd2 y y))), .store (.base 2) 0 (PJC (sp (radd2 y y))) (PJC (sp (radd2 y y)))] [0, 1, 2, 3, 4] [0, 0, 0, 7, 15] (fun L => [PJV (sp t), .slice p n c, .bool false, pt (L0.b 0) 0, u4, u5, pt (L0.b 1) 0, pt (L1.b 1) 0, .int .i64 (j : Int), u9, u10, u11, u12, u13, .int .i64 (j : Int), .bool true, u16, u17, PJV (sp y), PJV (sp y), .bool false, PJV (sp (radd2 y y)), u22, u23, u24, u25, u26, u27, u28, u29]) (fun L => [((L0.b 0), PJC (sp t)), ((L0.b 1), PJC ⟨0, 0, 0⟩), ((L1.b 1), PJC (sp (radd2 y y)))]) hp4 ⟨
        oL 2 0 rPJ, oL 2 0 rPJ, oM, oR (ref5add R y y), oT rPJ,
        trivial⟩ (fun L4 w5 hp5 => ?_)
      refine k10 _ _ ?_
      refine wp_seq_k (fun K11 k11 => ?_)
      refine gs [.det (.slice p n c), .det (.int .i64 (j : Int)), .det (.bool false)] [0, 1, 2] [0, 0, 3] (fun L => [PJV (sp t), .slice p n c, .bool false, pt (L0.b 0) 0, u4, u5, pt (L0.b 1) 0, pt (L1.b 1) 0, .int .i64 (j : Int), u9, u10, u11, u12, u13, .int .i64 (j : Int), .bool true, u16, u17, PJV (sp y), PJV (sp y), .bool false, PJV (sp (radd2 y y)), .slice p n c, .int .i64 (j : Int), .bool false, u25, u26, u27, u28, u29]) (fun L => [((L0.b 0), PJC (sp t)), ((L0.b 1), PJC ⟨0, 0, 0⟩), ((L1.b 1), PJC (sp (radd2 y y)))]) hp5 ⟨
        oM, oM, oH (v := .bool false) (vs := #[.slice p n c, .int .i64 (j : Int)]) (fun w hb _ => bitRN p n c g E j w (by omega) (by omega) (AtK.below he hb) rg hE (by rw [hb0]; rfl)),
        trivial⟩ (fun L5 w6 hp6 => ?_)
      refine k11 _ _ ?_
      refine wp_cond_false (by kernel_rfl) ?_
      refine skips ?_
      refine k9 _ _ _ ?_
      refine block_normal ?_
      refine k8 _ _ ?_
      refine gs [.det (.int .i64 (j : Int)), .det (.int .i64 ((j : Int) - 1)), .det (.int .i64 ((j : Int) - 1))] [0, 1, 2] [0, 1, 3] (fun L => [PJV (sp t), .slice p n c, .bool false, pt (L0.b 0) 0, u4, u5, pt (L0.b 1) 0, pt (L1.b 1) 0, .int .i64 ((j : Int) - 1), u9, u10, u11, u12, u13, .int .i64 (j : Int), .bool true, .int .i64 (j : Int), .int .i64 ((j : Int) - 1), PJV (sp y), PJV (sp y), .bool false, PJV (sp (radd2 y y)), .slice p n c, .int .i64 (j : Int), .bool false, u25, u26, u27, u28, u29]) (fun L => [((L0.b 0), PJC (sp t)), ((L0.b 1), PJC ⟨0, 0, 0⟩), ((L1.b 1), PJC (sp (radd2 y y)))]) hp6 ⟨
        oM, oJ .i64 .i64 (j : Int) 1 (h := fun w => sub3 _ j (by omega) w), oA,
        trivial⟩ (fun L6 w7 hp7 => ?_)
      exact ⟨j, Nat.lt_succ_self _, radd2 y y, u4, u5, u9, u10, u11, u12, u13, .int .i64 (j : Int), .bool true, .int .i64 (j : Int), .int .i64 ((j : Int) - 1), PJV (sp y), PJV (sp y), .bool false, PJV (sp (radd2 y y)), .slice p n c, .int .i64 (j : Int), .bool false, u25, u26, u27, u28, u29, rfl, by omega, lad_even hL hy hb0, hp7⟩
    · skip
      refine wp_seq_k (fun K12 k12 => ?_)
      refine wp_seq_k (fun K13 k13 => ?_)
      refine gs [.det (.int .i64 (j : Int)), .det (.bool true)] [0, 1] [0, 1] (fun L => [PJV (sp t), .slice p n c, .bool false, pt (L0.b 0) 0, u4, u5, pt (L0.b 1) 0, pt (L1.b 1) 0, .int .i64 (j : Int), u9, u10, u11, u12, u13, .int .i64 (j : Int), .bool true, u16, u17, u18, u19, u20, u21, u22, u23, u24, u25, u26, u27, u28, u29]) (fun L => [((L0.b 0), PJC (sp t)), ((L0.b 1), PJC ⟨0, 0, 0⟩), ((L1.b 1), PJC (sp y))]) hJ ⟨
        oM, oJ .i64 .i64 (j : Int) 0 (h := fun w => (geqI _ _ _ w).trans (by rw [decide_eq_true (by omega)])),
        trivial⟩ (fun L7 w8 hp8 => ?_)
      refine k13 _ _ ?_
      refine wp_cond_true (by kernel_rfl) ?_
      refine skips ?_
      refine k12 _ _ ?_
      refine wp_seq_k (fun K14 k14 => ?_)
      refine wp_block_k (fun K15 k15 => ?_)
      refine wp_seq_k (fun K16 k16 => ?_)
      refine gs [.det (PJV (sp y)), .det (PJV (sp y)), .det (.bool false), .det (PJV (sp (radd2 y y))), .store (.base 2) 0 (PJC (sp (radd2 y y))) (PJC (sp (radd2 y y)))] [0, 1, 2, 3, 4] [0, 0, 0, 7, 15] (fun L => [PJV (sp t), .slice p n c, .bool false, pt (L0.b 0) 0, u4, u5, pt (L0.b 1) 0, pt (L1.b 1) 0, .int .i64 (j : Int), u9, u10, u11, u12, u13, .int .i64 (j : Int), .bool true, u16, u17, PJV (sp y), PJV (sp y), .bool false, PJV (sp (radd2 y y)), u22, u23, u24, u25, u26, u27, u28, u29]) (fun L => [((L0.b 0), PJC (sp t)), ((L0.b 1), PJC ⟨0, 0, 0⟩), ((L1.b 1), PJC (sp (radd2 y y)))]) hp8 ⟨
        oL 2 0 rPJ, oL 2 0 rPJ, oM, oR (ref5add R y y), oT rPJ,
        trivial⟩ (fun L8 w9 hp9 => ?_)
      refine k16 _ _ ?_
      refine wp_seq_k (fun K17 k17 => ?_)
      refine gs [.det (.slice p n c), .det (.int .i64 (j : Int)), .det (.bool true)] [0, 1, 2] [0, 0, 3] (fun L => [PJV (sp t), .slice p n c, .bool false, pt (L0.b 0) 0, u4, u5, pt (L0.b 1) 0, pt (L1.b 1) 0, .int .i64 (j : Int), u9, u10, u11, u12, u13, .int .i64 (j : Int), .bool true, u16, u17, PJV (sp y), PJV (sp y), .bool false, PJV (sp (radd2 y y)), .slice p n c, .int .i64 (j : Int), .bool true, u25, u26, u27, u28, u29]) (fun L => [((L0.b 0), PJC (sp t)), ((L0.b 1), PJC ⟨0, 0, 0⟩), ((L1.b 1), PJC (sp (radd2 y y)))]) hp9 ⟨
        oM, oM, oH (v := .bool true) (vs := #[.slice p n c, .int .i64 (j : Int)]) (fun w hb _ => bitRN p n c g E j w (by omega) (by omega) (AtK.below he hb) rg hE (by rw [hb1]; rfl)),
        trivial⟩ (fun L9 w10 hp10 => ?_)
      refine k17 _ _ ?_
      refine wp_cond_true (by kernel_rfl) ?_
      refine gs [.det (PJV (sp (radd2 y y))), .det (PJV (sp t)), .det (.bool false), .det (PJV (sp (radd2 (radd2 y y) t))), .store (.base 2) 0 (PJC (sp (radd2 (radd2 y y) t))) (PJC (sp (radd2 (radd2 y y) t)))] [0, 1, 2, 3, 4] [0, 0, 0, 7, 15] (fun L => [PJV (sp t), .slice p n c, .bool false, pt (L0.b 0) 0, u4, u5, pt (L0.b 1) 0, pt (L1.b 1) 0, .int .i64 (j : Int), u9, u10, u11, u12, u13, .int .i64 (j : Int), .bool true, u16, u17, PJV (sp y), PJV (sp y), .bool false, PJV (sp (radd2 y y)), .slice p n c, .int .i64 (j : Int), .bool true, PJV (sp (radd2 y y)), PJV (sp t), .bool false, PJV (sp (radd2 (radd2 y y) t)), u29]) (fun L => [((L0.b 0), PJC (sp t)), ((L0.b 1), PJC ⟨0, 0, 0⟩), ((L1.b 1), PJC (sp (radd2 (radd2 y y) t)))]) hp10 ⟨
        oL 2 0 rPJ, oL 0 0 rPJ, oM, oR (ref5add R (radd2 y y) t), oT rPJ,
        trivial⟩ (fun L10 w11 hp11 => ?_)
      refine k15 _ _ _ ?_
      refine block_normal ?_
      refine k14 _ _ ?_
      refine gs [.det (.int .i64 (j : Int)), .det (.int .i64 ((j : Int) - 1)), .det (.int .i64 ((j : Int) - 1))] [0, 1, 2] [0, 1, 3] (fun L => [PJV (sp t), .slice p n c, .bool false, pt (L0.b 0) 0, u4, u5, pt (L0.b 1) 0, pt (L1.b 1) 0, .int .i64 ((j : Int) - 1), u9, u10, u11, u12, u13, .int .i64 (j : Int), .bool true, .int .i64 (j : Int), .int .i64 ((j : Int) - 1), PJV (sp y), PJV (sp y), .bool false, PJV (sp (radd2 y y)), .slice p n c, .int .i64 (j : Int), .bool true, PJV (sp (radd2 y y)), PJV (sp t), .bool false, PJV (sp (radd2 (radd2 y y) t)), u29]) (fun L => [((L0.b 0), PJC (sp t)), ((L0.b 1), PJC ⟨0, 0, 0⟩), ((L1.b 1), PJC (sp (radd2 (radd2 y y) t)))]) hp11 ⟨
        oM, oJ .i64 .i64 (j : Int) 1 (h := fun w => sub3 _ j (by omega) w), oA,
        trivial⟩ (fun L11 w12 hp12 => ?_)
      exact ⟨j, Nat.lt_succ_self _, radd2 (radd2 y y) t, u4, u5, u9, u10, u11, u12, u13, .int .i64 (j : Int), .bool true, .int .i64 (j : Int), .int .i64 ((j : Int) - 1), PJV (sp y), PJV (sp y), .bool false, PJV (sp (radd2 y y)), .slice p n c, .int .i64 (j : Int), .bool true, PJV (sp (radd2 y y)), PJV (sp t), .bool false, PJV (sp (radd2 (radd2 y y) t)), u29, rfl, by omega, lad_odd hL hy hb1, hp12⟩
  subst hL0
  refine wp_seq_k (fun K18 k18 => ?_)
  refine wp_seq_k (fun K19 k19 => ?_)
  refine gs [.det (.int .i64 (((0 : Nat) : Int) - 1)), .det (.bool false)] [0, 1] [0, 1] (fun L => [PJV (sp t), .slice p n c, .bool false, pt (L0.b 0) 0, u4, u5, pt (L0.b 1) 0, pt (L1.b 1) 0, .int .i64 (((0 : Nat) : Int) - 1), u9, u10, u11, u12, u13, .int .i64 (((0 : Nat) : Int) - 1), .bool false, u16, u17, u18, u19, u20, u21, u22, u23, u24, u25, u26, u27, u28, u29]) (fun L => [((L0.b 0), PJC (sp t)), ((L0.b 1), PJC ⟨0, 0, 0⟩), ((L1.b 1), PJC (sp y))]) hJ ⟨
    oM, oJ .i64 .i64 (((0 : Nat) : Int) - 1) 0 (h := fun w => (geqI _ _ _ w).trans (by rw [decide_eq_false (by omega)])),
    trivial⟩ (fun L12 w13 hp13 => ?_)
  refine k19 _ _ ?_
  refine wp_cond_false (by kernel_rfl) ?_
  refine wp_exit ?_
  refine then_exit ?_
  refine then_exit ?_
  refine k5 _ _ _ ?_
  refine exit_in ?_
  refine k3 _ _ ?_
  refine wp_seq_k (fun K20 k20 => ?_)
  refine gs [.det (PJV (sp y)), .store (.base 1) 0 (PJC (sp y)) (PJC (sp y))] [0, 1] [0, 1] (fun L => [PJV (sp t), .slice p n c, .bool false, pt (L0.b 0) 0, u4, u5, pt (L0.b 1) 0, pt (L1.b 1) 0, .int .i64 (((0 : Nat) : Int) - 1), u9, u10, u11, u12, u13, .int .i64 (((0 : Nat) : Int) - 1), .bool false, u16, u17, u18, u19, u20, u21, u22, u23, u24, u25, u26, u27, u28, PJV (sp y)]) (fun L => [((L0.b 0), PJC (sp t)), ((L0.b 1), PJC (sp y)), ((L1.b 1), PJC (sp y))]) hp13 ⟨
    oL 2 0 rPJ, oT rPJ,
    trivial⟩ (fun L13 w14 hp14 => ?_)
  refine k20 _ _ ?_
  refine wp_ret ?_
  refine bodyPost_ret (v := PJV (sp y)) ?_ rfl ?_
  · exact rc rPJ rfl (by kernel_rfl) (hp14.bound 1 rfl).2
  · exact ⟨congrArg (fun z => Ending.returned (PJV (sp z))) (by rw [hy, Nat.pow_zero, Nat.div_one, Nat.sub_zero]), hp14.bel⟩
end Go.Proofs.YthehnlpgmkjefaaDoor.fpn.T2
