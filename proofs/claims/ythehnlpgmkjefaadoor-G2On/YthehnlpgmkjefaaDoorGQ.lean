/- HG2 I9. -/
import Derived.Test.YthehnlpgmkjefaaDoorGO
import Derived.Test.YthehnlpgmkjefaaDoorGJ
import Derived.Laws.Tables
import Derived.Test.YthehnlpgmkjefaaDoorGF
/- Points, their three numbers, scalars: cells, fields, how they are held against each other and built. -/
namespace Go.Proofs.YthehnlpgmkjefaaDoor.fpn.T2
open Go.RowKit Pl EC
set_option linter.unusedVariables false
set_option linter.unusedSimpArgs false
set_option maxRecDepth 4000

structure G2p where
  x : F2
  y : F2
  i : Bool
  deriving DecidableEq
theorem G2p.ext' {a b : G2p} (h0 : a.x = b.x) (h1 : a.y = b.y) (h2 : a.i = b.i) : a = b := by cases a; cases b; simp_all
def gp : Pt F2 → G2p
  | .inf => ⟨0, 0, true⟩
  | .aff x y => ⟨x, y, false⟩
theorem gp_inj {P Q : Pt F2} (h : gp P = gp Q) : P = Q := by
  cases P <;> cases Q <;> simp_all [gp]
def GC (p : G2p) : List Value := PC p.x ++ PC p.y ++ [.bool p.i]
def GV (p : G2p) : Value := .agg (GC p).toArray
def QGC (f e g h : Nat → Int) (i : Bool) : List Value := QC2 f e ++ QC2 g h ++ [.bool i]
def QGV (f e g h : Nat → Int) (i : Bool) : Value := .agg (QGC f e g h i).toArray
def JC (a : Jc F2) : List Value := PC a.x ++ PC a.y ++ PC a.z
def JV (a : Jc F2) : Value := .agg (JC a).toArray

theorem rG : RowT Tryd.prog 32 25 (GC ⟨0, 0, false⟩) := ⟨⟨_, Tryd.underlying32, rfl⟩, by kernel_rfl, by kernel_rfl⟩
theorem rJ : RowT Tryd.prog 58 36 (JC ⟨0, 0, 0⟩) := ⟨⟨_, Tryd.underlying58, rfl⟩, by kernel_rfl, by kernel_rfl⟩
theorem fG0 : FldT Tryd.prog 32 0 0 11 := ⟨_, _, Tryd.underlying32, rfl, rfl, by kernel_rfl⟩
theorem fG1 : FldT Tryd.prog 32 1 12 11 := ⟨_, _, Tryd.underlying32, rfl, rfl, by kernel_rfl⟩
theorem fG2 : FldT Tryd.prog 32 2 24 0 := ⟨_, _, Tryd.underlying32, rfl, rfl, by kernel_rfl⟩
theorem fG2a (fs : Array Field) (f : Field) (h : Tryd.prog.underlying 32 = some (.struct fs)) (hf : fs[2]? = some f) (w : World) : (isAgg f.type).run Tryd.prog w = .ok false w := by
  have e := h.symm.trans Tryd.underlying32
  injection e with e
  injection e with e
  subst e
  have : f.type = 4 := by
    injection hf with hf
    subst hf; rfl
  rw [this]
  exact Tryd.isAgg4 w
theorem fJ0 : FldT Tryd.prog 58 0 0 11 := ⟨_, _, Tryd.underlying58, rfl, rfl, by kernel_rfl⟩
theorem fJ1 : FldT Tryd.prog 58 1 12 11 := ⟨_, _, Tryd.underlying58, rfl, rfl, by kernel_rfl⟩
theorem fJ2 : FldT Tryd.prog 58 2 24 11 := ⟨_, _, Tryd.underlying58, rfl, rfl, by kernel_rfl⟩

theorem notHeld : Tryd.prog.stoodInHeld 32 = false := by kernel_rfl
def zero2 (f e : Nat → Int) : Bool := decide (val f 6 = 0) && decide (val e 6 = 0)
theorem QC2_cut0 (f e : Nat → Int) : List.take 6 (QC2 f e) = QC f := rfl
theorem QC2_cut1 (f e : Nat → Int) : List.take 6 (List.drop 6 (QC2 f e)) = QC e := rfl
theorem eqN2 (d : Nat) (f e f' e' : Nat → Int) (w : World) : ∃ b : Bool, (b = true ↔ (∀ i, i < 6 → f i = f' i) ∧ (∀ i, i < 6 → e i = e' i)) ∧ (Op.equalIn (d + 3) 30 (QV2 f e) (QV2 f' e')).run Tryd.prog w = .ok b w := by
  obtain ⟨b0, h0, e0⟩ := eqN d f f' w
  obtain ⟨b1, h1, e1⟩ := eqN d e e' w
  have hp0 : ∀ (f e : Nat → Int), (part 28 (QC2 f e).toArray 0).run Tryd.prog w = .ok (QV f) w := fun f e => by
    simp [part, Sem.run_bind, Tryd.isAgg28, Tryd.sizeOf28, QC2_cut0, QV]
  have hp1 : ∀ (f e : Nat → Int), (part 28 (QC2 f e).toArray 6).run Tryd.prog w = .ok (QV e) w := fun f e => by
    simp [part, Sem.run_bind, Tryd.isAgg28, Tryd.sizeOf28, QC2_cut1, QV]
  refine ⟨b0 && b1, ?_, ?_⟩
  · rw [← h0, ← h1]; simp
  · unfold QV2
    rw [show d + 3 = (d + 2) + 1 from rfl, Op.equalIn.eq_def]
    simp only [Sem.run_bind, run_underlying Tryd.underlying30, Result.andThen_ok]
    simp only [Std.Legacy.Range.forIn_eq_forIn_range', Std.Legacy.Range.size, Nat.sub_zero, Nat.add_sub_cancel, Nat.div_one, List.range'_succ, List.range'_zero, List.forIn_cons, List.forIn_nil]
    simp only [Sem.run_bind, Tryd.sizeOf28, Result.andThen_ok, Nat.zero_mul, Nat.reduceAdd, Nat.reduceMul, Nat.one_mul, hp0, hp1, e0, e1]
    cases b0 <;> cases b1 <;> simp [hp0, hp1, e0, e1]
theorem QGC_cut0 (f e g h : Nat → Int) (i : Bool) : List.take 12 (QGC f e g h i) = QC2 f e := rfl
theorem QGC_cut1 (f e g h : Nat → Int) (i : Bool) : List.take 12 (List.drop 12 (QGC f e g h i)) = QC2 g h := rfl
theorem QGC_cut2 (f e g h : Nat → Int) (i : Bool) : (QGC f e g h i)[24]? = some (.bool i) := rfl
theorem QG_eq (d : Nat) (f e g h f' e' g' h' : Nat → Int) (i i' : Bool) (w : World) : ∃ b : Bool, (b = true ↔ ((∀ k, k < 6 → f k = f' k) ∧ (∀ k, k < 6 → e k = e' k)) ∧ ((∀ k, k < 6 → g k = g' k) ∧ (∀ k, k < 6 → h k = h' k)) ∧ i = i') ∧ (Op.equalIn (d + 4) 32 (QGV f e g h i) (QGV f' e' g' h' i')).run Tryd.prog w = .ok b w := by
  obtain ⟨b0, h0, e0⟩ := eqN2 d f e f' e' w
  obtain ⟨b1, h1, e1⟩ := eqN2 d g h g' h' w
  have e2 : (Op.equalIn (d + 3) 4 (.bool i) (.bool i')).run Tryd.prog w = .ok (i == i') w := by
    rw [show d + 3 = (d + 2) + 1 from rfl, Op.equalIn.eq_def]
    simp [Sem.run_bind, run_underlying Tryd.underlying4]
  have p0 : ∀ (f e g h : Nat → Int) (i : Bool), (part 30 (QGC f e g h i).toArray 0).run Tryd.prog w = .ok (QV2 f e) w := fun f e g h i => by
    simp [part, Sem.run_bind, Tryd.isAgg30, Tryd.sizeOf30, QGC_cut0, QV2]
  have p1 : ∀ (f e g h : Nat → Int) (i : Bool), (part 30 (QGC f e g h i).toArray 12).run Tryd.prog w = .ok (QV2 g h) w := fun f e g h i => by
    simp [part, Sem.run_bind, Tryd.isAgg30, Tryd.sizeOf30, QGC_cut1, QV2]
  have p2 : ∀ (f e g h : Nat → Int) (i : Bool), (part 4 (QGC f e g h i).toArray 24).run Tryd.prog w = .ok (.bool i) w := fun f e g h i => by
    simp [part, Sem.run_bind, Tryd.isAgg4, QGC_cut2]
  refine ⟨b0 && (b1 && i == i'), ?_, ?_⟩
  · rw [← h0, ← h1]; simp
  · unfold QGV
    rw [show d + 4 = (d + 3) + 1 from rfl, Op.equalIn.eq_def]
    simp only [Sem.run_bind, run_underlying Tryd.underlying32, Result.andThen_ok, run_program, notHeld, Bool.false_eq_true, if_false]
    simp only [List.forIn_toArray, List.forIn_cons, List.forIn_nil]
    simp [Sem.run_bind, p0, p1, p2, e0, e1, e2]
    cases b0 <;> cases b1 <;> cases i <;> cases i' <;> simp [p0, p1, p2, e0, e1, e2]
theorem GV_eq (d : Nat) (x y : G2p) (w : World) : (Op.equalIn (d + 4) 32 (GV x) (GV y)).run Tryd.prog w = .ok (decide (x = y)) w := by
  obtain ⟨b, hb, e⟩ := QG_eq d (lb x.x.c0.val) (lb x.x.c1.val) (lb x.y.c0.val) (lb x.y.c1.val) (lb y.x.c0.val) (lb y.x.c1.val) (lb y.y.c0.val) (lb y.y.c1.val) x.i y.i w
  have hE : b = decide (x = y) := by
    by_cases h : x = y
    · rw [decide_eq_true h]; subst h; exact hb.2 ⟨⟨fun _ _ => rfl, fun _ _ => rfl⟩, ⟨fun _ _ => rfl, fun _ _ => rfl⟩, rfl⟩
    · rw [decide_eq_false h]
      cases hb' : b with
      | false => rfl
      | true =>
        obtain ⟨⟨h0, h1⟩, ⟨h2, h3⟩, h4⟩ := hb.1 hb'
        exact absurd (G2p.ext' (F2.ext' (lb_eq h0) (lb_eq h1)) (F2.ext' (lb_eq h2) (lb_eq h3)) h4) h
  rw [← hE]
  exact e
theorem guardG (op : BinOp) (x y : Operand) (cs ds : Array Value) (w : World) : (eqGuard op 32 x y (.agg cs) (.agg ds)).run Tryd.prog w = .ok () w := by
  have h : Tryd.prog.eqGuardType Tryd.prog.depth 32 = false := by kernel_rfl
  unfold eqGuard
  cases op <;> simp [Sem.run_bind, h]
theorem eqlG (a b : G2p) (w : World) : (binOp .eql 32 (GV a) (GV b)).run Tryd.prog w = .ok (.bool (decide (a = b))) w := by
  have := GV_eq 9996 a b w
  unfold GV at *
  simp [binOp, Sem.run_bind, Op.equal, Op.maxDepth, this]
theorem neqG (a b : G2p) (w : World) : (binOp .neq 32 (GV a) (GV b)).run Tryd.prog w = .ok (.bool (!decide (a = b))) w := by
  have := GV_eq 9996 a b w
  unfold GV at *
  simp [binOp, Sem.run_bind, Op.equal, Op.maxDepth, this]
theorem qG : EqT Tryd.prog 32 GV := ⟨fun _ _ _ _ _ w => guardG _ _ _ _ _ w, eqlG, neqG⟩
theorem zero_lb {f : Nat → Int} (rf : Rg f 6) : (∀ k, k < 6 → f k = lb (0 : F).val k) ↔ val f 6 = 0 := by
  have z0 : val (lb (0 : F).val) 6 = 0 := by rw [lbF]; rfl
  constructor
  · intro h; rw [val_congr h]; exact z0
  · intro h; exact digits rf (lb_rg _ _) (h.trans z0.symm)
theorem eqlQG (f e g h : Nat → Int) (i : Bool) (rf : Rg f 6) (re : Rg e 6) (rg : Rg g 6) (rh : Rg h 6) (w : World) : (binOp .eql 32 (QGV f e g h i) (GV ⟨0, 0, true⟩)).run Tryd.prog w = .ok (.bool (zero2 f e && (zero2 g h && i))) w := by
  obtain ⟨b, hb, e1⟩ := QG_eq 9996 f e g h (lb (0 : F).val) (lb (0 : F).val) (lb (0 : F).val) (lb (0 : F).val) i true w
  have hE : b = (zero2 f e && (zero2 g h && i)) := by
    rw [Bool.eq_iff_iff, hb, zero_lb rf, zero_lb re, zero_lb rg, zero_lb rh]
    simp [zero2]
  rw [← hE]
  have e' : (Op.equalIn 10000 32 (QGV f e g h i) (GV ⟨0, 0, true⟩)).run Tryd.prog w = .ok b w := e1
  unfold QGV GV at *
  simp [binOp, Sem.run_bind, Op.equal, Op.maxDepth, e']
theorem guardQ2 (op : BinOp) (x y : Operand) (cs ds : Array Value) (w : World) : (eqGuard op 30 x y (.agg cs) (.agg ds)).run Tryd.prog w = .ok () w := by
  have h : Tryd.prog.eqGuardType Tryd.prog.depth 30 = false := by kernel_rfl
  unfold eqGuard
  cases op <;> simp [Sem.run_bind, h]
theorem eqlQF2 (f e : Nat → Int) (rf : Rg f 6) (re : Rg e 6) (w : World) : (binOp .eql 30 (QV2 f e) (PV 0)).run Tryd.prog w = .ok (.bool (zero2 f e)) w := by
  obtain ⟨b, hb, e1⟩ := eqN2 9997 f e (lb (0 : F).val) (lb (0 : F).val) w
  have hE : b = zero2 f e := by
    rw [Bool.eq_iff_iff, hb, zero_lb rf, zero_lb re]
    simp [zero2]
  rw [← hE]
  have e' : (Op.equalIn 10000 30 (QV2 f e) (PV 0)).run Tryd.prog w = .ok b w := e1
  unfold QV2 PV at *
  simp [binOp, Sem.run_bind, Op.equal, Op.maxDepth, e']

theorem buildGn (w : World) : (Instr.build 32 #[]).run Tryd.prog w = .ok (GV ⟨0, 0, false⟩) w := run_build w _ _ _ (by kernel_rfl)
theorem buildGi (b : Bool) (w : World) : (Instr.build 32 #[(2, .bool b)]).run Tryd.prog w = .ok (GV ⟨0, 0, b⟩) w := run_build w _ _ _ (by kernel_rfl)
theorem buildG01 (a b : F2) (w : World) : (Instr.build 32 #[(0, PV a), (1, PV b)]).run Tryd.prog w = .ok (GV ⟨a, b, false⟩) w := run_build w _ _ _ (by kernel_rfl)
theorem buildG012 (a b : F2) (i : Bool) (w : World) : (Instr.build 32 #[(0, PV a), (1, PV b), (2, .bool i)]).run Tryd.prog w = .ok (GV ⟨a, b, i⟩) w := run_build w _ _ _ (by kernel_rfl)
theorem buildJn (w : World) : (Instr.build 58 #[]).run Tryd.prog w = .ok (JV ⟨0, 0, 0⟩) w := run_build w _ _ _ (by kernel_rfl)
theorem buildJ012 (a b c : F2) (w : World) : (Instr.build 58 #[(0, PV a), (1, PV b), (2, PV c)]).run Tryd.prog w = .ok (JV ⟨a, b, c⟩) w := run_build w _ _ _ (by kernel_rfl)
theorem buildFg2x0 (w : World) : (Instr.build 28 #[(0, .int .u64 15312334153293348280), (1, .int .u64 841050694974028783), (2, .int .u64 12993178926126977399), (3, .int .u64 14331714969349929730), (4, .int .u64 2740446039084699729), (5, .int .u64 165123225776229009)]).run Tryd.prog w = .ok (FV g2x.c0) w := run_build w _ _ _ (by kernel_rfl)
theorem buildFg2x1 (w : World) : (Instr.build 28 #[(0, .int .u64 16549740192668593022), (1, .int .u64 3696594454104530263), (2, .int .u64 13103893525273989193), (3, .int .u64 6443473286224459290), (4, .int .u64 9055845637167730533), (5, .int .u64 1432192374203850592)]).run Tryd.prog w = .ok (FV g2x.c1) w := run_build w _ _ _ (by kernel_rfl)
theorem buildFg2y0 (w : World) : (Instr.build 28 #[(0, .int .u64 16254428414758889473), (1, .int .u64 10536956157198377609), (2, .int .u64 7873024875724591404), (3, .int .u64 12537348094477325223), (4, .int .u64 10144865889576432922), (5, .int .u64 929383263523139089)]).run Tryd.prog w = .ok (FV g2y.c0) w := run_build w _ _ _ (by kernel_rfl)
theorem buildFg2y1 (w : World) : (Instr.build 28 #[(0, .int .u64 12297368366147926462), (1, .int .u64 4555124010822409633), (2, .int .u64 2771000935339432363), (3, .int .u64 14645187562128761775), (4, .int .u64 3651525051980876697), (5, .int .u64 434250606344352972)]).run Tryd.prog w = .ok (FV g2y.c1) w := run_build w _ _ _ (by kernel_rfl)
end Go.Proofs.YthehnlpgmkjefaaDoor.fpn.T2

/- Package g1. -/
namespace Go.Proofs.YthehnlpgmkjefaaDoor.fpn.T2
open Go.RowKit Pl EC
set_option linter.unusedVariables false
set_option linter.unusedSimpArgs false
set_option maxRecDepth 4000

set_option maxHeartbeats 4000000 in
theorem g2square {G : World → Prop} (K : FpK G) (x : F2) (w : World) (hg : G w) : Calls Tryd.prog 43 #[PV x] w (Ret (PV (x * x)) w) := by
  have hp0 := Heap.start w
  go_enter Tryd.func43, Tryd.ntmps43
  refine wp_seq_k (fun K1 k1 => ?_)
  refine gs [.alloc (PC x), .alloc (PC 0)] [0, 1] [0, 0] (fun L => [PV x, pt (L.b 0) 0, pt (L.b 1) 0, undef, undef, undef]) (fun L => [(L.b 0, PC x), (L.b 1, PC 0)]) hp0 ⟨
    oB, oZ rP,
    trivial⟩ (fun L0 w1 hp1 => ?_)
  refine k1 _ _ ?_
  refine wp_seq_k (fun K2 k2 => ?_)
  refine gs [.det (PV x), .det (PV x), .det (PV (x * x)), .store (.base 1) 0 (PC (x * x)) (PC (x * x))] [0, 1, 2, 3] [0, 0, 3, 7] (fun L => [PV x, pt (L0.b 0) 0, pt (L0.b 1) 0, PV x, PV x, PV (x * x)]) (fun L => [((L0.b 0), PC x), ((L0.b 1), PC (x * x))]) hp1 ⟨
    oL 0 0 rP, oL 0 0 rP, oC K.stay hg (fp2Mul K x x), oT rP,
    trivial⟩ (fun L1 w2 hp2 => ?_)
  refine k2 _ _ ?_
  refine wp_ret ?_
  refine bodyPost_ret (v := PV (x * x)) ?_ rfl ?_
  · exact rc rP rfl (by kernel_rfl) (hp2.bound 1 rfl).2
  · exact ⟨rfl, hp2.bel⟩
set_option maxHeartbeats 4000000 in
theorem g2double {G : World → Prop} (K : FpK G) (x : F2) (w : World) (hg : G w) : Calls Tryd.prog 92 #[PV x] w (Ret (PV (x + x)) w) := by
  have hp0 := Heap.start w
  go_enter Tryd.func92, Tryd.ntmps92
  refine wp_seq_k (fun K1 k1 => ?_)
  refine gs [.alloc (PC x), .alloc (PC 0)] [0, 1] [0, 0] (fun L => [PV x, pt (L.b 0) 0, pt (L.b 1) 0, undef, undef, undef]) (fun L => [(L.b 0, PC x), (L.b 1, PC 0)]) hp0 ⟨
    oB, oZ rP,
    trivial⟩ (fun L0 w1 hp1 => ?_)
  refine k1 _ _ ?_
  refine wp_seq_k (fun K2 k2 => ?_)
  refine gs [.det (PV x), .det (PV x), .det (PV (x + x)), .store (.base 1) 0 (PC (x + x)) (PC (x + x))] [0, 1, 2, 3] [0, 0, 3, 7] (fun L => [PV x, pt (L0.b 0) 0, pt (L0.b 1) 0, PV x, PV x, PV (x + x)]) (fun L => [((L0.b 0), PC x), ((L0.b 1), PC (x + x))]) hp1 ⟨
    oL 0 0 rP, oL 0 0 rP, oC K.stay hg (fp2Add K x x), oT rP,
    trivial⟩ (fun L1 w2 hp2 => ?_)
  refine k2 _ _ ?_
  refine wp_ret ?_
  refine bodyPost_ret (v := PV (x + x)) ?_ rfl ?_
  · exact rc rP rfl (by kernel_rfl) (hp2.bound 1 rfl).2
  · exact ⟨rfl, hp2.bel⟩
set_option maxHeartbeats 4000000 in
theorem g2isInf {G : World → Prop} (K : FpK G) (a : Jc F2) (w : World) (hg : G w) : Calls Tryd.prog 56 #[JV a] w (Ret (.bool (decide (a.z = 0))) w) := by
  have hp0 := Heap.start w
  go_enter Tryd.func56, Tryd.ntmps56
  refine wp_seq_k (fun K1 k1 => ?_)
  refine gs [.alloc (JC a), .det (.bool false)] [0, 1] [0, 0] (fun L => [JV a, pt (L.b 0) 0, .bool false] ++ U 4) (fun L => [(L.b 0, JC a)]) hp0 ⟨
    oB, oA,
    trivial⟩ (fun L0 w1 hp1 => ?_)
  refine k1 _ _ ?_
  refine wp_seq_k (fun K2 k2 => ?_)
  refine gs [.det (pt (L0.b 0) 24), .det (PV a.z), .det (PV 0), .det (.bool (decide (a.z = 0))), .det (.bool (decide (a.z = 0)))] [0, 1, 2, 3, 4] [0, 1, 0, 7, 15] (fun L => [JV a, pt (L0.b 0) 0, .bool (decide (a.z = 0)), pt (L0.b 0) 24, PV a.z, PV 0, .bool (decide (a.z = 0))]) (fun L => [((L0.b 0), JC a)]) hp1 ⟨
    oF fJ2, oL 0 24 rP, oD buildP0, oE (a := a.z) (b := 0) qP rfl, oA,
    trivial⟩ (fun L1 w2 hp2 => ?_)
  refine k2 _ _ ?_
  refine wp_ret ?_
  refine bodyPost_ret (v := .bool (decide (a.z = 0))) ?_ rfl ?_
  · exact res_t rfl (by kernel_rfl) _
  · exact ⟨rfl, hp2.bel⟩
set_option maxHeartbeats 4000000 in
theorem g2lift0 {G : World → Prop} (K : FpK G) (x y : F2) (w : World) (hg : G w) : Calls Tryd.prog 34 #[GV ⟨x, y, true⟩] w (Ret (JV ⟨0, 0, 0⟩) w) := by
  have hp0 := Heap.start w
  go_enter Tryd.func34, Tryd.ntmps34
  refine wp_seq_k (fun K1 k1 => ?_)
  refine gs [.alloc (GC ⟨x, y, true⟩), .alloc (JC ⟨0, 0, 0⟩)] [0, 1] [0, 0] (fun L => [GV ⟨x, y, true⟩, pt (L.b 0) 0, pt (L.b 1) 0] ++ U 10) (fun L => [(L.b 0, GC ⟨x, y, true⟩), (L.b 1, JC ⟨0, 0, 0⟩)]) hp0 ⟨
    oB, oZ rJ,
    trivial⟩ (fun L0 w1 hp1 => ?_)
  refine k1 _ _ ?_
  refine wp_seq_k (fun K2 k2 => ?_)
  refine wp_seq_k (fun K3 k3 => ?_)
  refine gs [.det (pt (L0.b 0) 24), .det (.bool true)] [0, 1] [0, 1] (fun L => [GV ⟨x, y, true⟩, pt (L0.b 0) 0, pt (L0.b 1) 0, pt (L0.b 0) 24, .bool true] ++ U 8) (fun L => [((L0.b 0), GC ⟨x, y, true⟩), ((L0.b 1), JC ⟨0, 0, 0⟩)]) hp1 ⟨
    oF fG2, oL1 0 24 oneB,
    trivial⟩ (fun L1 w2 hp2 => ?_)
  refine k3 _ _ ?_
  refine wp_cond_true (by kernel_rfl) ?_
  refine wp_seq_k (fun K4 k4 => ?_)
  refine gs [.det (JV ⟨0, 0, 0⟩), .store (.base 1) 0 (JC ⟨0, 0, 0⟩) (JC ⟨0, 0, 0⟩)] [0, 1] [0, 1] (fun L => [GV ⟨x, y, true⟩, pt (L0.b 0) 0, pt (L0.b 1) 0, pt (L0.b 0) 24, .bool true, JV ⟨0, 0, 0⟩] ++ U 7) (fun L => [((L0.b 0), GC ⟨x, y, true⟩), ((L0.b 1), JC ⟨0, 0, 0⟩)]) hp2 ⟨
    oD buildJn, oT rJ,
    trivial⟩ (fun L2 w3 hp3 => ?_)
  refine k4 _ _ ?_
  refine wp_ret ?_
  refine bodyPost_ret (v := JV ⟨0, 0, 0⟩) ?_ rfl ?_
  · exact rc rJ rfl (by kernel_rfl) (hp3.bound 1 rfl).2
  · exact ⟨rfl, hp3.bel⟩
set_option maxHeartbeats 4000000 in
theorem g2lift1 {G : World → Prop} (K : FpK G) (x y : F2) (w : World) (hg : G w) : Calls Tryd.prog 34 #[GV ⟨x, y, false⟩] w (Ret (JV ⟨x, y, 1⟩) w) := by
  have hp0 := Heap.start w
  go_enter Tryd.func34, Tryd.ntmps34
  refine wp_seq_k (fun K1 k1 => ?_)
  refine gs [.alloc (GC ⟨x, y, false⟩), .alloc (JC ⟨0, 0, 0⟩)] [0, 1] [0, 0] (fun L => [GV ⟨x, y, false⟩, pt (L.b 0) 0, pt (L.b 1) 0] ++ U 10) (fun L => [(L.b 0, GC ⟨x, y, false⟩), (L.b 1, JC ⟨0, 0, 0⟩)]) hp0 ⟨
    oB, oZ rJ,
    trivial⟩ (fun L0 w1 hp1 => ?_)
  refine k1 _ _ ?_
  refine wp_seq_k (fun K2 k2 => ?_)
  refine wp_seq_k (fun K3 k3 => ?_)
  refine gs [.det (pt (L0.b 0) 24), .det (.bool false)] [0, 1] [0, 1] (fun L => [GV ⟨x, y, false⟩, pt (L0.b 0) 0, pt (L0.b 1) 0, pt (L0.b 0) 24, .bool false] ++ U 8) (fun L => [((L0.b 0), GC ⟨x, y, false⟩), ((L0.b 1), JC ⟨0, 0, 0⟩)]) hp1 ⟨
    oF fG2, oL1 0 24 oneB,
    trivial⟩ (fun L1 w2 hp2 => ?_)
  refine k3 _ _ ?_
  refine wp_cond_false (by kernel_rfl) ?_
  refine skips ?_
  refine k2 _ _ ?_
  refine wp_seq_k (fun K4 k4 => ?_)
  refine gs [.det (pt (L0.b 0) 0), .det (PV x), .det (pt (L0.b 0) 12), .det (PV y), .det (FV 1), .det (PV ⟨1, 0⟩), .det (JV ⟨x, y, ⟨1, 0⟩⟩), .store (.base 1) 0 (JC ⟨x, y, ⟨1, 0⟩⟩) (JC ⟨x, y, ⟨1, 0⟩⟩)] [0, 1, 2, 3, 4, 5, 6, 7] [0, 1, 0, 4, 0, 16, 63, 127] (fun L => [GV ⟨x, y, false⟩, pt (L0.b 0) 0, pt (L0.b 1) 0, pt (L0.b 0) 24, .bool false, undef, pt (L0.b 0) 0, PV x, pt (L0.b 0) 12, PV y, FV 1, PV ⟨1, 0⟩, JV ⟨x, y, ⟨1, 0⟩⟩]) (fun L => [((L0.b 0), GC ⟨x, y, false⟩), ((L0.b 1), JC ⟨x, y, ⟨1, 0⟩⟩)]) hp2 ⟨
    oF fG0, oL 0 0 rP, oF fG1, oL 0 12 rP, oD buildF1, oD (buildPa 1), oD (buildJ012 x y ⟨1, 0⟩), oT rJ,
    trivial⟩ (fun L2 w3 hp3 => ?_)
  refine k4 _ _ ?_
  refine wp_ret ?_
  refine bodyPost_ret (v := JV ⟨x, y, ⟨1, 0⟩⟩) ?_ rfl ?_
  · exact rc rJ rfl (by kernel_rfl) (hp3.bound 1 rfl).2
  · exact ⟨rfl, hp3.bel⟩
theorem g2lift {G : World → Prop} (K : FpK G) (P : Pt F2) (w : World) (hg : G w) : Calls Tryd.prog 34 #[GV (gp P)] w (Ret (JV (jlift P)) w) := by
  cases P with
  | inf => exact g2lift0 K 0 0 w hg
  | aff x y => exact g2lift1 K x y w hg
set_option maxHeartbeats 4000000 in
theorem g2twice {G : World → Prop} (K : FpK G) (a : Jc F2) (w : World) (hg : G w) : Calls Tryd.prog 62 #[JV a] w (Ret (JV (jtwice a)) w) := by
  have hp0 := Heap.start w
  go_enter Tryd.func62, Tryd.ntmps62
  refine wp_seq_k (fun K1 k1 => ?_)
  refine gs [.alloc (JC a), .alloc (JC ⟨0, 0, 0⟩)] [0, 1] [0, 0] (fun L => [JV a, pt (L.b 0) 0, pt (L.b 1) 0] ++ U 49) (fun L => [(L.b 0, JC a), (L.b 1, JC ⟨0, 0, 0⟩)]) hp0 ⟨
    oB, oZ rJ,
    trivial⟩ (fun L0 w1 hp1 => ?_)
  refine k1 _ _ ?_
  refine wp_seq_k (fun K2 k2 => ?_)
  refine dr [.det (pt (L0.b 0) 0), .det (PV a.x), .det (PV (a.x * a.x)), .det (pt (L0.b 0) 12), .det (PV a.y), .det (PV (a.y * a.y)), .alloc (PC 0), .alloc (PC 0), .store (.new 6) 0 (PC (a.x * a.x)) (PC (a.x * a.x)), .store (.new 7) 0 (PC (a.y * a.y)) (PC (a.y * a.y))] [0, 1, 2, 3, 4, 5, 6, 7, 8, 9] [0, 1, 3, 0, 8, 31, 0, 0, 255, 511] (fun L => [JV a, pt (L0.b 0) 0, pt (L0.b 1) 0, pt (L.b 6) 0, pt (L.b 7) 0, undef, undef, undef, undef, undef, pt (L0.b 0) 0, PV a.x, PV (a.x * a.x), pt (L0.b 0) 12, PV a.y, PV (a.y * a.y)] ++ U 36) (fun L => [((L0.b 0), JC a), ((L0.b 1), JC ⟨0, 0, 0⟩), (L.b 6, PC (a.x * a.x)), (L.b 7, PC (a.y * a.y))]) hp1 ⟨
    oF fJ0, oL 0 0 rP, oC K.stay hg (g2square K a.x), oF fJ1, oL 0 12 rP, oC K.stay hg (g2square K a.y), oZ rP, oZ rP, oT rP, oT rP,
    trivial⟩ (fun L1 w2 hp2 => ?_)
  refine k2 _ _ ?_
  refine wp_seq_k (fun K3 k3 => ?_)
  refine dr [.det (PV (a.x * a.x)), .det (PV ((a.x * a.x) + (a.x * a.x))), .det (PV (a.x * a.x)), .det (PV (((a.x * a.x) + (a.x * a.x)) + (a.x * a.x))), .alloc (PC 0), .store (.new 4) 0 (PC (((a.x * a.x) + (a.x * a.x)) + (a.x * a.x))) (PC (((a.x * a.x) + (a.x * a.x)) + (a.x * a.x)))] [0, 1, 2, 3, 4, 5] [0, 1, 0, 7, 0, 31] (fun L => [JV a, pt (L0.b 0) 0, pt (L0.b 1) 0, pt (L1.b 6) 0, pt (L1.b 7) 0, pt (L.b 4) 0, undef, undef, undef, undef, pt (L0.b 0) 0, PV a.x, PV (a.x * a.x), pt (L0.b 0) 12, PV a.y, PV (a.y * a.y), PV (a.x * a.x), PV ((a.x * a.x) + (a.x * a.x)), PV (a.x * a.x), PV (((a.x * a.x) + (a.x * a.x)) + (a.x * a.x))] ++ U 32) (fun L => [((L0.b 0), JC a), ((L0.b 1), JC ⟨0, 0, 0⟩), ((L1.b 6), PC (a.x * a.x)), ((L1.b 7), PC (a.y * a.y)), (L.b 4, PC (((a.x * a.x) + (a.x * a.x)) + (a.x * a.x)))]) hp2 ⟨
    oL 2 0 rP, oC K.stay hg (g2double K (a.x * a.x)), oL 2 0 rP, oC K.stay hg (fp2Add K ((a.x * a.x) + (a.x * a.x)) (a.x * a.x)), oZ rP, oT rP,
    trivial⟩ (fun L2 w3 hp3 => ?_)
  refine k3 _ _ ?_
  refine wp_seq_k (fun K4 k4 => ?_)
  refine gs [.det (pt (L0.b 0) 0), .det (PV a.x), .det (PV (a.y * a.y)), .det (PV (a.x * (a.y * a.y))), .det (PV ((a.x * (a.y * a.y)) + (a.x * (a.y * a.y)))), .det (PV (((a.x * (a.y * a.y)) + (a.x * (a.y * a.y))) + ((a.x * (a.y * a.y)) + (a.x * (a.y * a.y))))), .alloc (PC 0), .store (.new 6) 0 (PC (((a.x * (a.y * a.y)) + (a.x * (a.y * a.y))) + ((a.x * (a.y * a.y)) + (a.x * (a.y * a.y))))) (PC (((a.x * (a.y * a.y)) + (a.x * (a.y * a.y))) + ((a.x * (a.y * a.y)) + (a.x * (a.y * a.y)))))] [0, 1, 2, 3, 4, 5, 6, 7] [0, 1, 0, 7, 15, 31, 0, 127] (fun L => [JV a, pt (L0.b 0) 0, pt (L0.b 1) 0, pt (L1.b 6) 0, pt (L1.b 7) 0, pt (L2.b 4) 0, pt (L.b 6) 0, undef, undef, undef, pt (L0.b 0) 0, PV a.x, PV (a.x * a.x), pt (L0.b 0) 12, PV a.y, PV (a.y * a.y), PV (a.x * a.x), PV ((a.x * a.x) + (a.x * a.x)), PV (a.x * a.x), PV (((a.x * a.x) + (a.x * a.x)) + (a.x * a.x)), pt (L0.b 0) 0, PV a.x, PV (a.y * a.y), PV (a.x * (a.y * a.y)), PV ((a.x * (a.y * a.y)) + (a.x * (a.y * a.y))), PV (((a.x * (a.y * a.y)) + (a.x * (a.y * a.y))) + ((a.x * (a.y * a.y)) + (a.x * (a.y * a.y))))] ++ U 26) (fun L => [((L0.b 0), JC a), ((L0.b 1), JC ⟨0, 0, 0⟩), ((L1.b 6), PC (a.x * a.x)), ((L1.b 7), PC (a.y * a.y)), ((L2.b 4), PC (((a.x * a.x) + (a.x * a.x)) + (a.x * a.x))), (L.b 6, PC (((a.x * (a.y * a.y)) + (a.x * (a.y * a.y))) + ((a.x * (a.y * a.y)) + (a.x * (a.y * a.y)))))]) hp3 ⟨
    oF fJ0, oL 0 0 rP, oL 3 0 rP, oC K.stay hg (fp2Mul K a.x (a.y * a.y)), oC K.stay hg (g2double K (a.x * (a.y * a.y))), oC K.stay hg (g2double K ((a.x * (a.y * a.y)) + (a.x * (a.y * a.y)))),
    oZ rP, oT rP,
    trivial⟩ (fun L3 w4 hp4 => ?_)
  refine k4 _ _ ?_
  refine wp_seq_k (fun K5 k5 => ?_)
  refine dr [.det (PV (((a.x * a.x) + (a.x * a.x)) + (a.x * a.x))), .det (PV ((((a.x * a.x) + (a.x * a.x)) + (a.x * a.x)) * (((a.x * a.x) + (a.x * a.x)) + (a.x * a.x)))), .det (PV (((a.x * (a.y * a.y)) + (a.x * (a.y * a.y))) + ((a.x * (a.y * a.y)) + (a.x * (a.y * a.y))))), .det (PV ((((a.x * (a.y * a.y)) + (a.x * (a.y * a.y))) + ((a.x * (a.y * a.y)) + (a.x * (a.y * a.y)))) + (((a.x * (a.y * a.y)) + (a.x * (a.y * a.y))) + ((a.x * (a.y * a.y)) + (a.x * (a.y * a.y)))))), .det (PV (((((a.x * a.x) + (a.x * a.x)) + (a.x * a.x)) * (((a.x * a.x) + (a.x * a.x)) + (a.x * a.x))) - ((((a.x * (a.y * a.y)) + (a.x * (a.y * a.y))) + ((a.x * (a.y * a.y)) + (a.x * (a.y * a.y)))) + (((a.x * (a.y * a.y)) + (a.x * (a.y * a.y))) + ((a.x * (a.y * a.y)) + (a.x * (a.y * a.y))))))), .alloc (PC 0), .store (.new 5) 0 (PC (((((a.x * a.x) + (a.x * a.x)) + (a.x * a.x)) * (((a.x * a.x) + (a.x * a.x)) + (a.x * a.x))) - ((((a.x * (a.y * a.y)) + (a.x * (a.y * a.y))) + ((a.x * (a.y * a.y)) + (a.x * (a.y * a.y)))) + (((a.x * (a.y * a.y)) + (a.x * (a.y * a.y))) + ((a.x * (a.y * a.y)) + (a.x * (a.y * a.y))))))) (PC (((((a.x * a.x) + (a.x * a.x)) + (a.x * a.x)) * (((a.x * a.x) + (a.x * a.x)) + (a.x * a.x))) - ((((a.x * (a.y * a.y)) + (a.x * (a.y * a.y))) + ((a.x * (a.y * a.y)) + (a.x * (a.y * a.y)))) + (((a.x * (a.y * a.y)) + (a.x * (a.y * a.y))) + ((a.x * (a.y * a.y)) + (a.x * (a.y * a.y)))))))] [0, 1, 2, 3, 4, 5, 6] [0, 1, 0, 7, 15, 0, 63] (fun L => [JV a, pt (L0.b 0) 0, pt (L0.b 1) 0, pt (L1.b 6) 0, pt (L1.b 7) 0, pt (L2.b 4) 0, pt (L3.b 6) 0, pt (L.b 5) 0, undef, undef, pt (L0.b 0) 0, PV a.x, PV (a.x * a.x), pt (L0.b 0) 12, PV a.y, PV (a.y * a.y), PV (a.x * a.x), PV ((a.x * a.x) + (a.x * a.x)), PV (a.x * a.x), PV (((a.x * a.x) + (a.x * a.x)) + (a.x * a.x)), pt (L0.b 0) 0, PV a.x, PV (a.y * a.y), PV (a.x * (a.y * a.y)), PV ((a.x * (a.y * a.y)) + (a.x * (a.y * a.y))), PV (((a.x * (a.y * a.y)) + (a.x * (a.y * a.y))) + ((a.x * (a.y * a.y)) + (a.x * (a.y * a.y)))), PV (((a.x * a.x) + (a.x * a.x)) + (a.x * a.x)), PV ((((a.x * a.x) + (a.x * a.x)) + (a.x * a.x)) * (((a.x * a.x) + (a.x * a.x)) + (a.x * a.x))), PV (((a.x * (a.y * a.y)) + (a.x * (a.y * a.y))) + ((a.x * (a.y * a.y)) + (a.x * (a.y * a.y)))), PV ((((a.x * (a.y * a.y)) + (a.x * (a.y * a.y))) + ((a.x * (a.y * a.y)) + (a.x * (a.y * a.y)))) + (((a.x * (a.y * a.y)) + (a.x * (a.y * a.y))) + ((a.x * (a.y * a.y)) + (a.x * (a.y * a.y))))), PV (((((a.x * a.x) + (a.x * a.x)) + (a.x * a.x)) * (((a.x * a.x) + (a.x * a.x)) + (a.x * a.x))) - ((((a.x * (a.y * a.y)) + (a.x * (a.y * a.y))) + ((a.x * (a.y * a.y)) + (a.x * (a.y * a.y)))) + (((a.x * (a.y * a.y)) + (a.x * (a.y * a.y))) + ((a.x * (a.y * a.y)) + (a.x * (a.y * a.y))))))] ++ U 21) (fun L => [((L0.b 0), JC a), ((L0.b 1), JC ⟨0, 0, 0⟩), ((L1.b 6), PC (a.x * a.x)), ((L1.b 7), PC (a.y * a.y)), ((L2.b 4), PC (((a.x * a.x) + (a.x * a.x)) + (a.x * a.x))), ((L3.b 6), PC (((a.x * (a.y * a.y)) + (a.x * (a.y * a.y))) + ((a.x * (a.y * a.y)) + (a.x * (a.y * a.y))))), (L.b 5, PC (((((a.x * a.x) + (a.x * a.x)) + (a.x * a.x)) * (((a.x * a.x) + (a.x * a.x)) + (a.x * a.x))) - ((((a.x * (a.y * a.y)) + (a.x * (a.y * a.y))) + ((a.x * (a.y * a.y)) + (a.x * (a.y * a.y)))) + (((a.x * (a.y * a.y)) + (a.x * (a.y * a.y))) + ((a.x * (a.y * a.y)) + (a.x * (a.y * a.y)))))))]) hp4 ⟨
    oL 4 0 rP, oC K.stay hg (g2square K (((a.x * a.x) + (a.x * a.x)) + (a.x * a.x))), oL 5 0 rP, oC K.stay hg (g2double K (((a.x * (a.y * a.y)) + (a.x * (a.y * a.y))) + ((a.x * (a.y * a.y)) + (a.x * (a.y * a.y))))),
    oC K.stay hg (fp2Sub K ((((a.x * a.x) + (a.x * a.x)) + (a.x * a.x)) * (((a.x * a.x) + (a.x * a.x)) + (a.x * a.x))) ((((a.x * (a.y * a.y)) + (a.x * (a.y * a.y))) + ((a.x * (a.y * a.y)) + (a.x * (a.y * a.y)))) + (((a.x * (a.y * a.y)) + (a.x * (a.y * a.y))) + ((a.x * (a.y * a.y)) + (a.x * (a.y * a.y)))))),
    oZ rP, oT rP,
    trivial⟩ (fun L4 w5 hp5 => ?_)
  refine k5 _ _ ?_
  refine wp_seq_k (fun K6 k6 => ?_)
  refine gs [.det (PV (a.y * a.y)), .det (PV ((a.y * a.y) * (a.y * a.y))), .det (PV (((a.y * a.y) * (a.y * a.y)) + ((a.y * a.y) * (a.y * a.y)))), .det (PV ((((a.y * a.y) * (a.y * a.y)) + ((a.y * a.y) * (a.y * a.y))) + (((a.y * a.y) * (a.y * a.y)) + ((a.y * a.y) * (a.y * a.y))))), .det (PV (((((a.y * a.y) * (a.y * a.y)) + ((a.y * a.y) * (a.y * a.y))) + (((a.y * a.y) * (a.y * a.y)) + ((a.y * a.y) * (a.y * a.y)))) + ((((a.y * a.y) * (a.y * a.y)) + ((a.y * a.y) * (a.y * a.y))) + (((a.y * a.y) * (a.y * a.y)) + ((a.y * a.y) * (a.y * a.y)))))), .alloc (PC 0), .store (.new 5) 0 (PC (((((a.y * a.y) * (a.y * a.y)) + ((a.y * a.y) * (a.y * a.y))) + (((a.y * a.y) * (a.y * a.y)) + ((a.y * a.y) * (a.y * a.y)))) + ((((a.y * a.y) * (a.y * a.y)) + ((a.y * a.y) * (a.y * a.y))) + (((a.y * a.y) * (a.y * a.y)) + ((a.y * a.y) * (a.y * a.y)))))) (PC (((((a.y * a.y) * (a.y * a.y)) + ((a.y * a.y) * (a.y * a.y))) + (((a.y * a.y) * (a.y * a.y)) + ((a.y * a.y) * (a.y * a.y)))) + ((((a.y * a.y) * (a.y * a.y)) + ((a.y * a.y) * (a.y * a.y))) + (((a.y * a.y) * (a.y * a.y)) + ((a.y * a.y) * (a.y * a.y))))))] [0, 1, 2, 3, 4, 5, 6] [0, 1, 3, 7, 15, 0, 63] (fun L => [JV a, pt (L0.b 0) 0, pt (L0.b 1) 0, pt (L1.b 6) 0, pt (L1.b 7) 0, pt (L2.b 4) 0, pt (L3.b 6) 0, pt (L4.b 5) 0, pt (L.b 5) 0, undef, pt (L0.b 0) 0, PV a.x, PV (a.x * a.x), pt (L0.b 0) 12, PV a.y, PV (a.y * a.y), PV (a.x * a.x), PV ((a.x * a.x) + (a.x * a.x)), PV (a.x * a.x), PV (((a.x * a.x) + (a.x * a.x)) + (a.x * a.x)), pt (L0.b 0) 0, PV a.x, PV (a.y * a.y), PV (a.x * (a.y * a.y)), PV ((a.x * (a.y * a.y)) + (a.x * (a.y * a.y))), PV (((a.x * (a.y * a.y)) + (a.x * (a.y * a.y))) + ((a.x * (a.y * a.y)) + (a.x * (a.y * a.y)))), PV (((a.x * a.x) + (a.x * a.x)) + (a.x * a.x)), PV ((((a.x * a.x) + (a.x * a.x)) + (a.x * a.x)) * (((a.x * a.x) + (a.x * a.x)) + (a.x * a.x))), PV (((a.x * (a.y * a.y)) + (a.x * (a.y * a.y))) + ((a.x * (a.y * a.y)) + (a.x * (a.y * a.y)))), PV ((((a.x * (a.y * a.y)) + (a.x * (a.y * a.y))) + ((a.x * (a.y * a.y)) + (a.x * (a.y * a.y)))) + (((a.x * (a.y * a.y)) + (a.x * (a.y * a.y))) + ((a.x * (a.y * a.y)) + (a.x * (a.y * a.y))))), PV (((((a.x * a.x) + (a.x * a.x)) + (a.x * a.x)) * (((a.x * a.x) + (a.x * a.x)) + (a.x * a.x))) - ((((a.x * (a.y * a.y)) + (a.x * (a.y * a.y))) + ((a.x * (a.y * a.y)) + (a.x * (a.y * a.y)))) + (((a.x * (a.y * a.y)) + (a.x * (a.y * a.y))) + ((a.x * (a.y * a.y)) + (a.x * (a.y * a.y)))))), PV (a.y * a.y), PV ((a.y * a.y) * (a.y * a.y)), PV (((a.y * a.y) * (a.y * a.y)) + ((a.y * a.y) * (a.y * a.y))), PV ((((a.y * a.y) * (a.y * a.y)) + ((a.y * a.y) * (a.y * a.y))) + (((a.y * a.y) * (a.y * a.y)) + ((a.y * a.y) * (a.y * a.y)))), PV (((((a.y * a.y) * (a.y * a.y)) + ((a.y * a.y) * (a.y * a.y))) + (((a.y * a.y) * (a.y * a.y)) + ((a.y * a.y) * (a.y * a.y)))) + ((((a.y * a.y) * (a.y * a.y)) + ((a.y * a.y) * (a.y * a.y))) + (((a.y * a.y) * (a.y * a.y)) + ((a.y * a.y) * (a.y * a.y)))))] ++ U 16) (fun L => [((L0.b 0), JC a), ((L0.b 1), JC ⟨0, 0, 0⟩), ((L1.b 6), PC (a.x * a.x)), ((L1.b 7), PC (a.y * a.y)), ((L2.b 4), PC (((a.x * a.x) + (a.x * a.x)) + (a.x * a.x))), ((L3.b 6), PC (((a.x * (a.y * a.y)) + (a.x * (a.y * a.y))) + ((a.x * (a.y * a.y)) + (a.x * (a.y * a.y))))), ((L4.b 5), PC (((((a.x * a.x) + (a.x * a.x)) + (a.x * a.x)) * (((a.x * a.x) + (a.x * a.x)) + (a.x * a.x))) - ((((a.x * (a.y * a.y)) + (a.x * (a.y * a.y))) + ((a.x * (a.y * a.y)) + (a.x * (a.y * a.y)))) + (((a.x * (a.y * a.y)) + (a.x * (a.y * a.y))) + ((a.x * (a.y * a.y)) + (a.x * (a.y * a.y))))))), (L.b 5, PC (((((a.y * a.y) * (a.y * a.y)) + ((a.y * a.y) * (a.y * a.y))) + (((a.y * a.y) * (a.y * a.y)) + ((a.y * a.y) * (a.y * a.y)))) + ((((a.y * a.y) * (a.y * a.y)) + ((a.y * a.y) * (a.y * a.y))) + (((a.y * a.y) * (a.y * a.y)) + ((a.y * a.y) * (a.y * a.y))))))]) hp5 ⟨
    oL 3 0 rP, oC K.stay hg (g2square K (a.y * a.y)), oC K.stay hg (g2double K ((a.y * a.y) * (a.y * a.y))), oC K.stay hg (g2double K (((a.y * a.y) * (a.y * a.y)) + ((a.y * a.y) * (a.y * a.y)))),
    oC K.stay hg (g2double K ((((a.y * a.y) * (a.y * a.y)) + ((a.y * a.y) * (a.y * a.y))) + (((a.y * a.y) * (a.y * a.y)) + ((a.y * a.y) * (a.y * a.y))))), oZ rP,
    oT rP,
    trivial⟩ (fun L5 w6 hp6 => ?_)
  refine k6 _ _ ?_
  refine wp_seq_k (fun K7 k7 => ?_)
  refine dr [.det (PV (((a.x * a.x) + (a.x * a.x)) + (a.x * a.x))), .det (PV (((a.x * (a.y * a.y)) + (a.x * (a.y * a.y))) + ((a.x * (a.y * a.y)) + (a.x * (a.y * a.y))))), .det (PV (((((a.x * a.x) + (a.x * a.x)) + (a.x * a.x)) * (((a.x * a.x) + (a.x * a.x)) + (a.x * a.x))) - ((((a.x * (a.y * a.y)) + (a.x * (a.y * a.y))) + ((a.x * (a.y * a.y)) + (a.x * (a.y * a.y)))) + (((a.x * (a.y * a.y)) + (a.x * (a.y * a.y))) + ((a.x * (a.y * a.y)) + (a.x * (a.y * a.y))))))), .det (PV ((((a.x * (a.y * a.y)) + (a.x * (a.y * a.y))) + ((a.x * (a.y * a.y)) + (a.x * (a.y * a.y)))) - (((((a.x * a.x) + (a.x * a.x)) + (a.x * a.x)) * (((a.x * a.x) + (a.x * a.x)) + (a.x * a.x))) - ((((a.x * (a.y * a.y)) + (a.x * (a.y * a.y))) + ((a.x * (a.y * a.y)) + (a.x * (a.y * a.y)))) + (((a.x * (a.y * a.y)) + (a.x * (a.y * a.y))) + ((a.x * (a.y * a.y)) + (a.x * (a.y * a.y)))))))), .det (PV ((((a.x * a.x) + (a.x * a.x)) + (a.x * a.x)) * ((((a.x * (a.y * a.y)) + (a.x * (a.y * a.y))) + ((a.x * (a.y * a.y)) + (a.x * (a.y * a.y)))) - (((((a.x * a.x) + (a.x * a.x)) + (a.x * a.x)) * (((a.x * a.x) + (a.x * a.x)) + (a.x * a.x))) - ((((a.x * (a.y * a.y)) + (a.x * (a.y * a.y))) + ((a.x * (a.y * a.y)) + (a.x * (a.y * a.y)))) + (((a.x * (a.y * a.y)) + (a.x * (a.y * a.y))) + ((a.x * (a.y * a.y)) + (a.x * (a.y * a.y))))))))), .det (PV (((((a.y * a.y) * (a.y * a.y)) + ((a.y * a.y) * (a.y * a.y))) + (((a.y * a.y) * (a.y * a.y)) + ((a.y * a.y) * (a.y * a.y)))) + ((((a.y * a.y) * (a.y * a.y)) + ((a.y * a.y) * (a.y * a.y))) + (((a.y * a.y) * (a.y * a.y)) + ((a.y * a.y) * (a.y * a.y)))))), .det (PV (((((a.x * a.x) + (a.x * a.x)) + (a.x * a.x)) * ((((a.x * (a.y * a.y)) + (a.x * (a.y * a.y))) + ((a.x * (a.y * a.y)) + (a.x * (a.y * a.y)))) - (((((a.x * a.x) + (a.x * a.x)) + (a.x * a.x)) * (((a.x * a.x) + (a.x * a.x)) + (a.x * a.x))) - ((((a.x * (a.y * a.y)) + (a.x * (a.y * a.y))) + ((a.x * (a.y * a.y)) + (a.x * (a.y * a.y)))) + (((a.x * (a.y * a.y)) + (a.x * (a.y * a.y))) + ((a.x * (a.y * a.y)) + (a.x * (a.y * a.y)))))))) - (((((a.y * a.y) * (a.y * a.y)) + ((a.y * a.y) * (a.y * a.y))) + (((a.y * a.y) * (a.y * a.y)) + ((a.y * a.y) * (a.y * a.y)))) + ((((a.y * a.y) * (a.y * a.y)) + ((a.y * a.y) * (a.y * a.y))) + (((a.y * a.y) * (a.y * a.y)) + ((a.y * a.y) * (a.y * a.y))))))), .alloc (PC 0), .store (.new 7) 0 (PC (((((a.x * a.x) + (a.x * a.x)) + (a.x * a.x)) * ((((a.x * (a.y * a.y)) + (a.x * (a.y * a.y))) + ((a.x * (a.y * a.y)) + (a.x * (a.y * a.y)))) - (((((a.x * a.x) + (a.x * a.x)) + (a.x * a.x)) * (((a.x * a.x) + (a.x * a.x)) + (a.x * a.x))) - ((((a.x * (a.y * a.y)) + (a.x * (a.y * a.y))) + ((a.x * (a.y * a.y)) + (a.x * (a.y * a.y)))) + (((a.x * (a.y * a.y)) + (a.x * (a.y * a.y))) + ((a.x * (a.y * a.y)) + (a.x * (a.y * a.y)))))))) - (((((a.y * a.y) * (a.y * a.y)) + ((a.y * a.y) * (a.y * a.y))) + (((a.y * a.y) * (a.y * a.y)) + ((a.y * a.y) * (a.y * a.y)))) + ((((a.y * a.y) * (a.y * a.y)) + ((a.y * a.y) * (a.y * a.y))) + (((a.y * a.y) * (a.y * a.y)) + ((a.y * a.y) * (a.y * a.y))))))) (PC (((((a.x * a.x) + (a.x * a.x)) + (a.x * a.x)) * ((((a.x * (a.y * a.y)) + (a.x * (a.y * a.y))) + ((a.x * (a.y * a.y)) + (a.x * (a.y * a.y)))) - (((((a.x * a.x) + (a.x * a.x)) + (a.x * a.x)) * (((a.x * a.x) + (a.x * a.x)) + (a.x * a.x))) - ((((a.x * (a.y * a.y)) + (a.x * (a.y * a.y))) + ((a.x * (a.y * a.y)) + (a.x * (a.y * a.y)))) + (((a.x * (a.y * a.y)) + (a.x * (a.y * a.y))) + ((a.x * (a.y * a.y)) + (a.x * (a.y * a.y)))))))) - (((((a.y * a.y) * (a.y * a.y)) + ((a.y * a.y) * (a.y * a.y))) + (((a.y * a.y) * (a.y * a.y)) + ((a.y * a.y) * (a.y * a.y)))) + ((((a.y * a.y) * (a.y * a.y)) + ((a.y * a.y) * (a.y * a.y))) + (((a.y * a.y) * (a.y * a.y)) + ((a.y * a.y) * (a.y * a.y)))))))] [0, 1, 2, 3, 4, 5, 6, 7, 8] [0, 0, 0, 6, 15, 0, 63, 0, 255] (fun L => [JV a, pt (L0.b 0) 0, pt (L0.b 1) 0, pt (L1.b 6) 0, pt (L1.b 7) 0, pt (L2.b 4) 0, pt (L3.b 6) 0, pt (L4.b 5) 0, pt (L5.b 5) 0, pt (L.b 7) 0, pt (L0.b 0) 0, PV a.x, PV (a.x * a.x), pt (L0.b 0) 12, PV a.y, PV (a.y * a.y), PV (a.x * a.x), PV ((a.x * a.x) + (a.x * a.x)), PV (a.x * a.x), PV (((a.x * a.x) + (a.x * a.x)) + (a.x * a.x)), pt (L0.b 0) 0, PV a.x, PV (a.y * a.y), PV (a.x * (a.y * a.y)), PV ((a.x * (a.y * a.y)) + (a.x * (a.y * a.y))), PV (((a.x * (a.y * a.y)) + (a.x * (a.y * a.y))) + ((a.x * (a.y * a.y)) + (a.x * (a.y * a.y)))), PV (((a.x * a.x) + (a.x * a.x)) + (a.x * a.x)), PV ((((a.x * a.x) + (a.x * a.x)) + (a.x * a.x)) * (((a.x * a.x) + (a.x * a.x)) + (a.x * a.x))), PV (((a.x * (a.y * a.y)) + (a.x * (a.y * a.y))) + ((a.x * (a.y * a.y)) + (a.x * (a.y * a.y)))), PV ((((a.x * (a.y * a.y)) + (a.x * (a.y * a.y))) + ((a.x * (a.y * a.y)) + (a.x * (a.y * a.y)))) + (((a.x * (a.y * a.y)) + (a.x * (a.y * a.y))) + ((a.x * (a.y * a.y)) + (a.x * (a.y * a.y))))), PV (((((a.x * a.x) + (a.x * a.x)) + (a.x * a.x)) * (((a.x * a.x) + (a.x * a.x)) + (a.x * a.x))) - ((((a.x * (a.y * a.y)) + (a.x * (a.y * a.y))) + ((a.x * (a.y * a.y)) + (a.x * (a.y * a.y)))) + (((a.x * (a.y * a.y)) + (a.x * (a.y * a.y))) + ((a.x * (a.y * a.y)) + (a.x * (a.y * a.y)))))), PV (a.y * a.y), PV ((a.y * a.y) * (a.y * a.y)), PV (((a.y * a.y) * (a.y * a.y)) + ((a.y * a.y) * (a.y * a.y))), PV ((((a.y * a.y) * (a.y * a.y)) + ((a.y * a.y) * (a.y * a.y))) + (((a.y * a.y) * (a.y * a.y)) + ((a.y * a.y) * (a.y * a.y)))), PV (((((a.y * a.y) * (a.y * a.y)) + ((a.y * a.y) * (a.y * a.y))) + (((a.y * a.y) * (a.y * a.y)) + ((a.y * a.y) * (a.y * a.y)))) + ((((a.y * a.y) * (a.y * a.y)) + ((a.y * a.y) * (a.y * a.y))) + (((a.y * a.y) * (a.y * a.y)) + ((a.y * a.y) * (a.y * a.y))))), PV (((a.x * a.x) + (a.x * a.x)) + (a.x * a.x)), PV (((a.x * (a.y * a.y)) + (a.x * (a.y * a.y))) + ((a.x * (a.y * a.y)) + (a.x * (a.y * a.y)))), PV (((((a.x * a.x) + (a.x * a.x)) + (a.x * a.x)) * (((a.x * a.x) + (a.x * a.x)) + (a.x * a.x))) - ((((a.x * (a.y * a.y)) + (a.x * (a.y * a.y))) + ((a.x * (a.y * a.y)) + (a.x * (a.y * a.y)))) + (((a.x * (a.y * a.y)) + (a.x * (a.y * a.y))) + ((a.x * (a.y * a.y)) + (a.x * (a.y * a.y)))))), PV ((((a.x * (a.y * a.y)) + (a.x * (a.y * a.y))) + ((a.x * (a.y * a.y)) + (a.x * (a.y * a.y)))) - (((((a.x * a.x) + (a.x * a.x)) + (a.x * a.x)) * (((a.x * a.x) + (a.x * a.x)) + (a.x * a.x))) - ((((a.x * (a.y * a.y)) + (a.x * (a.y * a.y))) + ((a.x * (a.y * a.y)) + (a.x * (a.y * a.y)))) + (((a.x * (a.y * a.y)) + (a.x * (a.y * a.y))) + ((a.x * (a.y * a.y)) + (a.x * (a.y * a.y))))))), PV ((((a.x * a.x) + (a.x * a.x)) + (a.x * a.x)) * ((((a.x * (a.y * a.y)) + (a.x * (a.y * a.y))) + ((a.x * (a.y * a.y)) + (a.x * (a.y * a.y)))) - (((((a.x * a.x) + (a.x * a.x)) + (a.x * a.x)) * (((a.x * a.x) + (a.x * a.x)) + (a.x * a.x))) - ((((a.x * (a.y * a.y)) + (a.x * (a.y * a.y))) + ((a.x * (a.y * a.y)) + (a.x * (a.y * a.y)))) + (((a.x * (a.y * a.y)) + (a.x * (a.y * a.y))) + ((a.x * (a.y * a.y)) + (a.x * (a.y * a.y)))))))), PV (((((a.y * a.y) * (a.y * a.y)) + ((a.y * a.y) * (a.y * a.y))) + (((a.y * a.y) * (a.y * a.y)) + ((a.y * a.y) * (a.y * a.y)))) + ((((a.y * a.y) * (a.y * a.y)) + ((a.y * a.y) * (a.y * a.y))) + (((a.y * a.y) * (a.y * a.y)) + ((a.y * a.y) * (a.y * a.y))))), PV (((((a.x * a.x) + (a.x * a.x)) + (a.x * a.x)) * ((((a.x * (a.y * a.y)) + (a.x * (a.y * a.y))) + ((a.x * (a.y * a.y)) + (a.x * (a.y * a.y)))) - (((((a.x * a.x) + (a.x * a.x)) + (a.x * a.x)) * (((a.x * a.x) + (a.x * a.x)) + (a.x * a.x))) - ((((a.x * (a.y * a.y)) + (a.x * (a.y * a.y))) + ((a.x * (a.y * a.y)) + (a.x * (a.y * a.y)))) + (((a.x * (a.y * a.y)) + (a.x * (a.y * a.y))) + ((a.x * (a.y * a.y)) + (a.x * (a.y * a.y)))))))) - (((((a.y * a.y) * (a.y * a.y)) + ((a.y * a.y) * (a.y * a.y))) + (((a.y * a.y) * (a.y * a.y)) + ((a.y * a.y) * (a.y * a.y)))) + ((((a.y * a.y) * (a.y * a.y)) + ((a.y * a.y) * (a.y * a.y))) + (((a.y * a.y) * (a.y * a.y)) + ((a.y * a.y) * (a.y * a.y))))))] ++ U 9) (fun L => [((L0.b 0), JC a), ((L0.b 1), JC ⟨0, 0, 0⟩), ((L1.b 6), PC (a.x * a.x)), ((L1.b 7), PC (a.y * a.y)), ((L2.b 4), PC (((a.x * a.x) + (a.x * a.x)) + (a.x * a.x))), ((L3.b 6), PC (((a.x * (a.y * a.y)) + (a.x * (a.y * a.y))) + ((a.x * (a.y * a.y)) + (a.x * (a.y * a.y))))), ((L4.b 5), PC (((((a.x * a.x) + (a.x * a.x)) + (a.x * a.x)) * (((a.x * a.x) + (a.x * a.x)) + (a.x * a.x))) - ((((a.x * (a.y * a.y)) + (a.x * (a.y * a.y))) + ((a.x * (a.y * a.y)) + (a.x * (a.y * a.y)))) + (((a.x * (a.y * a.y)) + (a.x * (a.y * a.y))) + ((a.x * (a.y * a.y)) + (a.x * (a.y * a.y))))))), ((L5.b 5), PC (((((a.y * a.y) * (a.y * a.y)) + ((a.y * a.y) * (a.y * a.y))) + (((a.y * a.y) * (a.y * a.y)) + ((a.y * a.y) * (a.y * a.y)))) + ((((a.y * a.y) * (a.y * a.y)) + ((a.y * a.y) * (a.y * a.y))) + (((a.y * a.y) * (a.y * a.y)) + ((a.y * a.y) * (a.y * a.y)))))), (L.b 7, PC (((((a.x * a.x) + (a.x * a.x)) + (a.x * a.x)) * ((((a.x * (a.y * a.y)) + (a.x * (a.y * a.y))) + ((a.x * (a.y * a.y)) + (a.x * (a.y * a.y)))) - (((((a.x * a.x) + (a.x * a.x)) + (a.x * a.x)) * (((a.x * a.x) + (a.x * a.x)) + (a.x * a.x))) - ((((a.x * (a.y * a.y)) + (a.x * (a.y * a.y))) + ((a.x * (a.y * a.y)) + (a.x * (a.y * a.y)))) + (((a.x * (a.y * a.y)) + (a.x * (a.y * a.y))) + ((a.x * (a.y * a.y)) + (a.x * (a.y * a.y)))))))) - (((((a.y * a.y) * (a.y * a.y)) + ((a.y * a.y) * (a.y * a.y))) + (((a.y * a.y) * (a.y * a.y)) + ((a.y * a.y) * (a.y * a.y)))) + ((((a.y * a.y) * (a.y * a.y)) + ((a.y * a.y) * (a.y * a.y))) + (((a.y * a.y) * (a.y * a.y)) + ((a.y * a.y) * (a.y * a.y)))))))]) hp6 ⟨
    oL 4 0 rP, oL 5 0 rP, oL 6 0 rP, oC K.stay hg (fp2Sub K (((a.x * (a.y * a.y)) + (a.x * (a.y * a.y))) + ((a.x * (a.y * a.y)) + (a.x * (a.y * a.y)))) (((((a.x * a.x) + (a.x * a.x)) + (a.x * a.x)) * (((a.x * a.x) + (a.x * a.x)) + (a.x * a.x))) - ((((a.x * (a.y * a.y)) + (a.x * (a.y * a.y))) + ((a.x * (a.y * a.y)) + (a.x * (a.y * a.y)))) + (((a.x * (a.y * a.y)) + (a.x * (a.y * a.y))) + ((a.x * (a.y * a.y)) + (a.x * (a.y * a.y))))))),
    oC K.stay hg (fp2Mul K (((a.x * a.x) + (a.x * a.x)) + (a.x * a.x)) ((((a.x * (a.y * a.y)) + (a.x * (a.y * a.y))) + ((a.x * (a.y * a.y)) + (a.x * (a.y * a.y)))) - (((((a.x * a.x) + (a.x * a.x)) + (a.x * a.x)) * (((a.x * a.x) + (a.x * a.x)) + (a.x * a.x))) - ((((a.x * (a.y * a.y)) + (a.x * (a.y * a.y))) + ((a.x * (a.y * a.y)) + (a.x * (a.y * a.y)))) + (((a.x * (a.y * a.y)) + (a.x * (a.y * a.y))) + ((a.x * (a.y * a.y)) + (a.x * (a.y * a.y)))))))),
    oL 7 0 rP, oC K.stay hg (fp2Sub K ((((a.x * a.x) + (a.x * a.x)) + (a.x * a.x)) * ((((a.x * (a.y * a.y)) + (a.x * (a.y * a.y))) + ((a.x * (a.y * a.y)) + (a.x * (a.y * a.y)))) - (((((a.x * a.x) + (a.x * a.x)) + (a.x * a.x)) * (((a.x * a.x) + (a.x * a.x)) + (a.x * a.x))) - ((((a.x * (a.y * a.y)) + (a.x * (a.y * a.y))) + ((a.x * (a.y * a.y)) + (a.x * (a.y * a.y)))) + (((a.x * (a.y * a.y)) + (a.x * (a.y * a.y))) + ((a.x * (a.y * a.y)) + (a.x * (a.y * a.y)))))))) (((((a.y * a.y) * (a.y * a.y)) + ((a.y * a.y) * (a.y * a.y))) + (((a.y * a.y) * (a.y * a.y)) + ((a.y * a.y) * (a.y * a.y)))) + ((((a.y * a.y) * (a.y * a.y)) + ((a.y * a.y) * (a.y * a.y))) + (((a.y * a.y) * (a.y * a.y)) + ((a.y * a.y) * (a.y * a.y)))))),
    oZ rP, oT rP,
    trivial⟩ (fun L6 w7 hp7 => ?_)
  refine k7 _ _ ?_
  refine wp_seq_k (fun K8 k8 => ?_)
  refine dr [.det (PV (((((a.x * a.x) + (a.x * a.x)) + (a.x * a.x)) * (((a.x * a.x) + (a.x * a.x)) + (a.x * a.x))) - ((((a.x * (a.y * a.y)) + (a.x * (a.y * a.y))) + ((a.x * (a.y * a.y)) + (a.x * (a.y * a.y)))) + (((a.x * (a.y * a.y)) + (a.x * (a.y * a.y))) + ((a.x * (a.y * a.y)) + (a.x * (a.y * a.y))))))), .det (PV (((((a.x * a.x) + (a.x * a.x)) + (a.x * a.x)) * ((((a.x * (a.y * a.y)) + (a.x * (a.y * a.y))) + ((a.x * (a.y * a.y)) + (a.x * (a.y * a.y)))) - (((((a.x * a.x) + (a.x * a.x)) + (a.x * a.x)) * (((a.x * a.x) + (a.x * a.x)) + (a.x * a.x))) - ((((a.x * (a.y * a.y)) + (a.x * (a.y * a.y))) + ((a.x * (a.y * a.y)) + (a.x * (a.y * a.y)))) + (((a.x * (a.y * a.y)) + (a.x * (a.y * a.y))) + ((a.x * (a.y * a.y)) + (a.x * (a.y * a.y)))))))) - (((((a.y * a.y) * (a.y * a.y)) + ((a.y * a.y) * (a.y * a.y))) + (((a.y * a.y) * (a.y * a.y)) + ((a.y * a.y) * (a.y * a.y)))) + ((((a.y * a.y) * (a.y * a.y)) + ((a.y * a.y) * (a.y * a.y))) + (((a.y * a.y) * (a.y * a.y)) + ((a.y * a.y) * (a.y * a.y))))))), .det (pt (L0.b 0) 12), .det (PV a.y), .det (pt (L0.b 0) 24), .det (PV a.z), .det (PV (a.y * a.z)), .det (PV ((a.y * a.z) + (a.y * a.z))), .det (JV ⟨(((((a.x * a.x) + (a.x * a.x)) + (a.x * a.x)) * (((a.x * a.x) + (a.x * a.x)) + (a.x * a.x))) - ((((a.x * (a.y * a.y)) + (a.x * (a.y * a.y))) + ((a.x * (a.y * a.y)) + (a.x * (a.y * a.y)))) + (((a.x * (a.y * a.y)) + (a.x * (a.y * a.y))) + ((a.x * (a.y * a.y)) + (a.x * (a.y * a.y)))))), (((((a.x * a.x) + (a.x * a.x)) + (a.x * a.x)) * ((((a.x * (a.y * a.y)) + (a.x * (a.y * a.y))) + ((a.x * (a.y * a.y)) + (a.x * (a.y * a.y)))) - (((((a.x * a.x) + (a.x * a.x)) + (a.x * a.x)) * (((a.x * a.x) + (a.x * a.x)) + (a.x * a.x))) - ((((a.x * (a.y * a.y)) + (a.x * (a.y * a.y))) + ((a.x * (a.y * a.y)) + (a.x * (a.y * a.y)))) + (((a.x * (a.y * a.y)) + (a.x * (a.y * a.y))) + ((a.x * (a.y * a.y)) + (a.x * (a.y * a.y)))))))) - (((((a.y * a.y) * (a.y * a.y)) + ((a.y * a.y) * (a.y * a.y))) + (((a.y * a.y) * (a.y * a.y)) + ((a.y * a.y) * (a.y * a.y)))) + ((((a.y * a.y) * (a.y * a.y)) + ((a.y * a.y) * (a.y * a.y))) + (((a.y * a.y) * (a.y * a.y)) + ((a.y * a.y) * (a.y * a.y)))))), ((a.y * a.z) + (a.y * a.z))⟩), .store (.base 1) 0 (JC ⟨(((((a.x * a.x) + (a.x * a.x)) + (a.x * a.x)) * (((a.x * a.x) + (a.x * a.x)) + (a.x * a.x))) - ((((a.x * (a.y * a.y)) + (a.x * (a.y * a.y))) + ((a.x * (a.y * a.y)) + (a.x * (a.y * a.y)))) + (((a.x * (a.y * a.y)) + (a.x * (a.y * a.y))) + ((a.x * (a.y * a.y)) + (a.x * (a.y * a.y)))))), (((((a.x * a.x) + (a.x * a.x)) + (a.x * a.x)) * ((((a.x * (a.y * a.y)) + (a.x * (a.y * a.y))) + ((a.x * (a.y * a.y)) + (a.x * (a.y * a.y)))) - (((((a.x * a.x) + (a.x * a.x)) + (a.x * a.x)) * (((a.x * a.x) + (a.x * a.x)) + (a.x * a.x))) - ((((a.x * (a.y * a.y)) + (a.x * (a.y * a.y))) + ((a.x * (a.y * a.y)) + (a.x * (a.y * a.y)))) + (((a.x * (a.y * a.y)) + (a.x * (a.y * a.y))) + ((a.x * (a.y * a.y)) + (a.x * (a.y * a.y)))))))) - (((((a.y * a.y) * (a.y * a.y)) + ((a.y * a.y) * (a.y * a.y))) + (((a.y * a.y) * (a.y * a.y)) + ((a.y * a.y) * (a.y * a.y)))) + ((((a.y * a.y) * (a.y * a.y)) + ((a.y * a.y) * (a.y * a.y))) + (((a.y * a.y) * (a.y * a.y)) + ((a.y * a.y) * (a.y * a.y)))))), ((a.y * a.z) + (a.y * a.z))⟩) (JC ⟨(((((a.x * a.x) + (a.x * a.x)) + (a.x * a.x)) * (((a.x * a.x) + (a.x * a.x)) + (a.x * a.x))) - ((((a.x * (a.y * a.y)) + (a.x * (a.y * a.y))) + ((a.x * (a.y * a.y)) + (a.x * (a.y * a.y)))) + (((a.x * (a.y * a.y)) + (a.x * (a.y * a.y))) + ((a.x * (a.y * a.y)) + (a.x * (a.y * a.y)))))), (((((a.x * a.x) + (a.x * a.x)) + (a.x * a.x)) * ((((a.x * (a.y * a.y)) + (a.x * (a.y * a.y))) + ((a.x * (a.y * a.y)) + (a.x * (a.y * a.y)))) - (((((a.x * a.x) + (a.x * a.x)) + (a.x * a.x)) * (((a.x * a.x) + (a.x * a.x)) + (a.x * a.x))) - ((((a.x * (a.y * a.y)) + (a.x * (a.y * a.y))) + ((a.x * (a.y * a.y)) + (a.x * (a.y * a.y)))) + (((a.x * (a.y * a.y)) + (a.x * (a.y * a.y))) + ((a.x * (a.y * a.y)) + (a.x * (a.y * a.y)))))))) - (((((a.y * a.y) * (a.y * a.y)) + ((a.y * a.y) * (a.y * a.y))) + (((a.y * a.y) * (a.y * a.y)) + ((a.y * a.y) * (a.y * a.y)))) + ((((a.y * a.y) * (a.y * a.y)) + ((a.y * a.y) * (a.y * a.y))) + (((a.y * a.y) * (a.y * a.y)) + ((a.y * a.y) * (a.y * a.y)))))), ((a.y * a.z) + (a.y * a.z))⟩)] [0, 1, 2, 3, 4, 5, 6, 7, 8, 9] [0, 0, 0, 4, 0, 16, 60, 124, 255, 511] (fun L => [JV a, pt (L0.b 0) 0, pt (L0.b 1) 0, pt (L1.b 6) 0, pt (L1.b 7) 0, pt (L2.b 4) 0, pt (L3.b 6) 0, pt (L4.b 5) 0, pt (L5.b 5) 0, pt (L6.b 7) 0, pt (L0.b 0) 0, PV a.x, PV (a.x * a.x), pt (L0.b 0) 12, PV a.y, PV (a.y * a.y), PV (a.x * a.x), PV ((a.x * a.x) + (a.x * a.x)), PV (a.x * a.x), PV (((a.x * a.x) + (a.x * a.x)) + (a.x * a.x)), pt (L0.b 0) 0, PV a.x, PV (a.y * a.y), PV (a.x * (a.y * a.y)), PV ((a.x * (a.y * a.y)) + (a.x * (a.y * a.y))), PV (((a.x * (a.y * a.y)) + (a.x * (a.y * a.y))) + ((a.x * (a.y * a.y)) + (a.x * (a.y * a.y)))), PV (((a.x * a.x) + (a.x * a.x)) + (a.x * a.x)), PV ((((a.x * a.x) + (a.x * a.x)) + (a.x * a.x)) * (((a.x * a.x) + (a.x * a.x)) + (a.x * a.x))), PV (((a.x * (a.y * a.y)) + (a.x * (a.y * a.y))) + ((a.x * (a.y * a.y)) + (a.x * (a.y * a.y)))), PV ((((a.x * (a.y * a.y)) + (a.x * (a.y * a.y))) + ((a.x * (a.y * a.y)) + (a.x * (a.y * a.y)))) + (((a.x * (a.y * a.y)) + (a.x * (a.y * a.y))) + ((a.x * (a.y * a.y)) + (a.x * (a.y * a.y))))), PV (((((a.x * a.x) + (a.x * a.x)) + (a.x * a.x)) * (((a.x * a.x) + (a.x * a.x)) + (a.x * a.x))) - ((((a.x * (a.y * a.y)) + (a.x * (a.y * a.y))) + ((a.x * (a.y * a.y)) + (a.x * (a.y * a.y)))) + (((a.x * (a.y * a.y)) + (a.x * (a.y * a.y))) + ((a.x * (a.y * a.y)) + (a.x * (a.y * a.y)))))), PV (a.y * a.y), PV ((a.y * a.y) * (a.y * a.y)), PV (((a.y * a.y) * (a.y * a.y)) + ((a.y * a.y) * (a.y * a.y))), PV ((((a.y * a.y) * (a.y * a.y)) + ((a.y * a.y) * (a.y * a.y))) + (((a.y * a.y) * (a.y * a.y)) + ((a.y * a.y) * (a.y * a.y)))), PV (((((a.y * a.y) * (a.y * a.y)) + ((a.y * a.y) * (a.y * a.y))) + (((a.y * a.y) * (a.y * a.y)) + ((a.y * a.y) * (a.y * a.y)))) + ((((a.y * a.y) * (a.y * a.y)) + ((a.y * a.y) * (a.y * a.y))) + (((a.y * a.y) * (a.y * a.y)) + ((a.y * a.y) * (a.y * a.y))))), PV (((a.x * a.x) + (a.x * a.x)) + (a.x * a.x)), PV (((a.x * (a.y * a.y)) + (a.x * (a.y * a.y))) + ((a.x * (a.y * a.y)) + (a.x * (a.y * a.y)))), PV (((((a.x * a.x) + (a.x * a.x)) + (a.x * a.x)) * (((a.x * a.x) + (a.x * a.x)) + (a.x * a.x))) - ((((a.x * (a.y * a.y)) + (a.x * (a.y * a.y))) + ((a.x * (a.y * a.y)) + (a.x * (a.y * a.y)))) + (((a.x * (a.y * a.y)) + (a.x * (a.y * a.y))) + ((a.x * (a.y * a.y)) + (a.x * (a.y * a.y)))))), PV ((((a.x * (a.y * a.y)) + (a.x * (a.y * a.y))) + ((a.x * (a.y * a.y)) + (a.x * (a.y * a.y)))) - (((((a.x * a.x) + (a.x * a.x)) + (a.x * a.x)) * (((a.x * a.x) + (a.x * a.x)) + (a.x * a.x))) - ((((a.x * (a.y * a.y)) + (a.x * (a.y * a.y))) + ((a.x * (a.y * a.y)) + (a.x * (a.y * a.y)))) + (((a.x * (a.y * a.y)) + (a.x * (a.y * a.y))) + ((a.x * (a.y * a.y)) + (a.x * (a.y * a.y))))))), PV ((((a.x * a.x) + (a.x * a.x)) + (a.x * a.x)) * ((((a.x * (a.y * a.y)) + (a.x * (a.y * a.y))) + ((a.x * (a.y * a.y)) + (a.x * (a.y * a.y)))) - (((((a.x * a.x) + (a.x * a.x)) + (a.x * a.x)) * (((a.x * a.x) + (a.x * a.x)) + (a.x * a.x))) - ((((a.x * (a.y * a.y)) + (a.x * (a.y * a.y))) + ((a.x * (a.y * a.y)) + (a.x * (a.y * a.y)))) + (((a.x * (a.y * a.y)) + (a.x * (a.y * a.y))) + ((a.x * (a.y * a.y)) + (a.x * (a.y * a.y)))))))), PV (((((a.y * a.y) * (a.y * a.y)) + ((a.y * a.y) * (a.y * a.y))) + (((a.y * a.y) * (a.y * a.y)) + ((a.y * a.y) * (a.y * a.y)))) + ((((a.y * a.y) * (a.y * a.y)) + ((a.y * a.y) * (a.y * a.y))) + (((a.y * a.y) * (a.y * a.y)) + ((a.y * a.y) * (a.y * a.y))))), PV (((((a.x * a.x) + (a.x * a.x)) + (a.x * a.x)) * ((((a.x * (a.y * a.y)) + (a.x * (a.y * a.y))) + ((a.x * (a.y * a.y)) + (a.x * (a.y * a.y)))) - (((((a.x * a.x) + (a.x * a.x)) + (a.x * a.x)) * (((a.x * a.x) + (a.x * a.x)) + (a.x * a.x))) - ((((a.x * (a.y * a.y)) + (a.x * (a.y * a.y))) + ((a.x * (a.y * a.y)) + (a.x * (a.y * a.y)))) + (((a.x * (a.y * a.y)) + (a.x * (a.y * a.y))) + ((a.x * (a.y * a.y)) + (a.x * (a.y * a.y)))))))) - (((((a.y * a.y) * (a.y * a.y)) + ((a.y * a.y) * (a.y * a.y))) + (((a.y * a.y) * (a.y * a.y)) + ((a.y * a.y) * (a.y * a.y)))) + ((((a.y * a.y) * (a.y * a.y)) + ((a.y * a.y) * (a.y * a.y))) + (((a.y * a.y) * (a.y * a.y)) + ((a.y * a.y) * (a.y * a.y)))))), PV (((((a.x * a.x) + (a.x * a.x)) + (a.x * a.x)) * (((a.x * a.x) + (a.x * a.x)) + (a.x * a.x))) - ((((a.x * (a.y * a.y)) + (a.x * (a.y * a.y))) + ((a.x * (a.y * a.y)) + (a.x * (a.y * a.y)))) + (((a.x * (a.y * a.y)) + (a.x * (a.y * a.y))) + ((a.x * (a.y * a.y)) + (a.x * (a.y * a.y)))))), PV (((((a.x * a.x) + (a.x * a.x)) + (a.x * a.x)) * ((((a.x * (a.y * a.y)) + (a.x * (a.y * a.y))) + ((a.x * (a.y * a.y)) + (a.x * (a.y * a.y)))) - (((((a.x * a.x) + (a.x * a.x)) + (a.x * a.x)) * (((a.x * a.x) + (a.x * a.x)) + (a.x * a.x))) - ((((a.x * (a.y * a.y)) + (a.x * (a.y * a.y))) + ((a.x * (a.y * a.y)) + (a.x * (a.y * a.y)))) + (((a.x * (a.y * a.y)) + (a.x * (a.y * a.y))) + ((a.x * (a.y * a.y)) + (a.x * (a.y * a.y)))))))) - (((((a.y * a.y) * (a.y * a.y)) + ((a.y * a.y) * (a.y * a.y))) + (((a.y * a.y) * (a.y * a.y)) + ((a.y * a.y) * (a.y * a.y)))) + ((((a.y * a.y) * (a.y * a.y)) + ((a.y * a.y) * (a.y * a.y))) + (((a.y * a.y) * (a.y * a.y)) + ((a.y * a.y) * (a.y * a.y)))))), pt (L0.b 0) 12, PV a.y, pt (L0.b 0) 24, PV a.z, PV (a.y * a.z), PV ((a.y * a.z) + (a.y * a.z)), JV ⟨(((((a.x * a.x) + (a.x * a.x)) + (a.x * a.x)) * (((a.x * a.x) + (a.x * a.x)) + (a.x * a.x))) - ((((a.x * (a.y * a.y)) + (a.x * (a.y * a.y))) + ((a.x * (a.y * a.y)) + (a.x * (a.y * a.y)))) + (((a.x * (a.y * a.y)) + (a.x * (a.y * a.y))) + ((a.x * (a.y * a.y)) + (a.x * (a.y * a.y)))))), (((((a.x * a.x) + (a.x * a.x)) + (a.x * a.x)) * ((((a.x * (a.y * a.y)) + (a.x * (a.y * a.y))) + ((a.x * (a.y * a.y)) + (a.x * (a.y * a.y)))) - (((((a.x * a.x) + (a.x * a.x)) + (a.x * a.x)) * (((a.x * a.x) + (a.x * a.x)) + (a.x * a.x))) - ((((a.x * (a.y * a.y)) + (a.x * (a.y * a.y))) + ((a.x * (a.y * a.y)) + (a.x * (a.y * a.y)))) + (((a.x * (a.y * a.y)) + (a.x * (a.y * a.y))) + ((a.x * (a.y * a.y)) + (a.x * (a.y * a.y)))))))) - (((((a.y * a.y) * (a.y * a.y)) + ((a.y * a.y) * (a.y * a.y))) + (((a.y * a.y) * (a.y * a.y)) + ((a.y * a.y) * (a.y * a.y)))) + ((((a.y * a.y) * (a.y * a.y)) + ((a.y * a.y) * (a.y * a.y))) + (((a.y * a.y) * (a.y * a.y)) + ((a.y * a.y) * (a.y * a.y)))))), ((a.y * a.z) + (a.y * a.z))⟩]) (fun L => [((L0.b 0), JC a), ((L0.b 1), JC ⟨(((((a.x * a.x) + (a.x * a.x)) + (a.x * a.x)) * (((a.x * a.x) + (a.x * a.x)) + (a.x * a.x))) - ((((a.x * (a.y * a.y)) + (a.x * (a.y * a.y))) + ((a.x * (a.y * a.y)) + (a.x * (a.y * a.y)))) + (((a.x * (a.y * a.y)) + (a.x * (a.y * a.y))) + ((a.x * (a.y * a.y)) + (a.x * (a.y * a.y)))))), (((((a.x * a.x) + (a.x * a.x)) + (a.x * a.x)) * ((((a.x * (a.y * a.y)) + (a.x * (a.y * a.y))) + ((a.x * (a.y * a.y)) + (a.x * (a.y * a.y)))) - (((((a.x * a.x) + (a.x * a.x)) + (a.x * a.x)) * (((a.x * a.x) + (a.x * a.x)) + (a.x * a.x))) - ((((a.x * (a.y * a.y)) + (a.x * (a.y * a.y))) + ((a.x * (a.y * a.y)) + (a.x * (a.y * a.y)))) + (((a.x * (a.y * a.y)) + (a.x * (a.y * a.y))) + ((a.x * (a.y * a.y)) + (a.x * (a.y * a.y)))))))) - (((((a.y * a.y) * (a.y * a.y)) + ((a.y * a.y) * (a.y * a.y))) + (((a.y * a.y) * (a.y * a.y)) + ((a.y * a.y) * (a.y * a.y)))) + ((((a.y * a.y) * (a.y * a.y)) + ((a.y * a.y) * (a.y * a.y))) + (((a.y * a.y) * (a.y * a.y)) + ((a.y * a.y) * (a.y * a.y)))))), ((a.y * a.z) + (a.y * a.z))⟩), ((L1.b 6), PC (a.x * a.x)), ((L1.b 7), PC (a.y * a.y)), ((L2.b 4), PC (((a.x * a.x) + (a.x * a.x)) + (a.x * a.x))), ((L3.b 6), PC (((a.x * (a.y * a.y)) + (a.x * (a.y * a.y))) + ((a.x * (a.y * a.y)) + (a.x * (a.y * a.y))))), ((L4.b 5), PC (((((a.x * a.x) + (a.x * a.x)) + (a.x * a.x)) * (((a.x * a.x) + (a.x * a.x)) + (a.x * a.x))) - ((((a.x * (a.y * a.y)) + (a.x * (a.y * a.y))) + ((a.x * (a.y * a.y)) + (a.x * (a.y * a.y)))) + (((a.x * (a.y * a.y)) + (a.x * (a.y * a.y))) + ((a.x * (a.y * a.y)) + (a.x * (a.y * a.y))))))), ((L5.b 5), PC (((((a.y * a.y) * (a.y * a.y)) + ((a.y * a.y) * (a.y * a.y))) + (((a.y * a.y) * (a.y * a.y)) + ((a.y * a.y) * (a.y * a.y)))) + ((((a.y * a.y) * (a.y * a.y)) + ((a.y * a.y) * (a.y * a.y))) + (((a.y * a.y) * (a.y * a.y)) + ((a.y * a.y) * (a.y * a.y)))))), ((L6.b 7), PC (((((a.x * a.x) + (a.x * a.x)) + (a.x * a.x)) * ((((a.x * (a.y * a.y)) + (a.x * (a.y * a.y))) + ((a.x * (a.y * a.y)) + (a.x * (a.y * a.y)))) - (((((a.x * a.x) + (a.x * a.x)) + (a.x * a.x)) * (((a.x * a.x) + (a.x * a.x)) + (a.x * a.x))) - ((((a.x * (a.y * a.y)) + (a.x * (a.y * a.y))) + ((a.x * (a.y * a.y)) + (a.x * (a.y * a.y)))) + (((a.x * (a.y * a.y)) + (a.x * (a.y * a.y))) + ((a.x * (a.y * a.y)) + (a.x * (a.y * a.y)))))))) - (((((a.y * a.y) * (a.y * a.y)) + ((a.y * a.y) * (a.y * a.y))) + (((a.y * a.y) * (a.y * a.y)) + ((a.y * a.y) * (a.y * a.y)))) + ((((a.y * a.y) * (a.y * a.y)) + ((a.y * a.y) * (a.y * a.y))) + (((a.y * a.y) * (a.y * a.y)) + ((a.y * a.y) * (a.y * a.y)))))))]) hp7 ⟨
    oL 6 0 rP, oL 8 0 rP, oF fJ1, oL 0 12 rP, oF fJ2, oL 0 24 rP, oC K.stay hg (fp2Mul K a.y a.z), oC K.stay hg (g2double K (a.y * a.z)), oD (buildJ012 (((((a.x * a.x) + (a.x * a.x)) + (a.x * a.x)) * (((a.x * a.x) + (a.x * a.x)) + (a.x * a.x))) - ((((a.x * (a.y * a.y)) + (a.x * (a.y * a.y))) + ((a.x * (a.y * a.y)) + (a.x * (a.y * a.y)))) + (((a.x * (a.y * a.y)) + (a.x * (a.y * a.y))) + ((a.x * (a.y * a.y)) + (a.x * (a.y * a.y)))))) (((((a.x * a.x) + (a.x * a.x)) + (a.x * a.x)) * ((((a.x * (a.y * a.y)) + (a.x * (a.y * a.y))) + ((a.x * (a.y * a.y)) + (a.x * (a.y * a.y)))) - (((((a.x * a.x) + (a.x * a.x)) + (a.x * a.x)) * (((a.x * a.x) + (a.x * a.x)) + (a.x * a.x))) - ((((a.x * (a.y * a.y)) + (a.x * (a.y * a.y))) + ((a.x * (a.y * a.y)) + (a.x * (a.y * a.y)))) + (((a.x * (a.y * a.y)) + (a.x * (a.y * a.y))) + ((a.x * (a.y * a.y)) + (a.x * (a.y * a.y)))))))) - (((((a.y * a.y) * (a.y * a.y)) + ((a.y * a.y) * (a.y * a.y))) + (((a.y * a.y) * (a.y * a.y)) + ((a.y * a.y) * (a.y * a.y)))) + ((((a.y * a.y) * (a.y * a.y)) + ((a.y * a.y) * (a.y * a.y))) + (((a.y * a.y) * (a.y * a.y)) + ((a.y * a.y) * (a.y * a.y)))))) ((a.y * a.z) + (a.y * a.z))),
    oT rJ,
    trivial⟩ (fun L7 w8 hp8 => ?_)
  refine k8 _ _ ?_
  refine wp_ret ?_
  refine bodyPost_ret (v := JV ⟨(((((a.x * a.x) + (a.x * a.x)) + (a.x * a.x)) * (((a.x * a.x) + (a.x * a.x)) + (a.x * a.x))) - ((((a.x * (a.y * a.y)) + (a.x * (a.y * a.y))) + ((a.x * (a.y * a.y)) + (a.x * (a.y * a.y)))) + (((a.x * (a.y * a.y)) + (a.x * (a.y * a.y))) + ((a.x * (a.y * a.y)) + (a.x * (a.y * a.y)))))), (((((a.x * a.x) + (a.x * a.x)) + (a.x * a.x)) * ((((a.x * (a.y * a.y)) + (a.x * (a.y * a.y))) + ((a.x * (a.y * a.y)) + (a.x * (a.y * a.y)))) - (((((a.x * a.x) + (a.x * a.x)) + (a.x * a.x)) * (((a.x * a.x) + (a.x * a.x)) + (a.x * a.x))) - ((((a.x * (a.y * a.y)) + (a.x * (a.y * a.y))) + ((a.x * (a.y * a.y)) + (a.x * (a.y * a.y)))) + (((a.x * (a.y * a.y)) + (a.x * (a.y * a.y))) + ((a.x * (a.y * a.y)) + (a.x * (a.y * a.y)))))))) - (((((a.y * a.y) * (a.y * a.y)) + ((a.y * a.y) * (a.y * a.y))) + (((a.y * a.y) * (a.y * a.y)) + ((a.y * a.y) * (a.y * a.y)))) + ((((a.y * a.y) * (a.y * a.y)) + ((a.y * a.y) * (a.y * a.y))) + (((a.y * a.y) * (a.y * a.y)) + ((a.y * a.y) * (a.y * a.y)))))), ((a.y * a.z) + (a.y * a.z))⟩) ?_ rfl ?_
  · exact rc rJ rfl (by kernel_rfl) (hp8.bound 1 rfl).2
  · exact ⟨congrArg (fun z => Ending.returned (JV z)) (Jc.ext' rfl rfl rfl), hp8.bel⟩
set_option maxHeartbeats 4000000 in
theorem g2across {G : World → Prop} (K : FpK G) (a : Jc F2) (s t : F2) (w : World) (hg : G w) : Calls Tryd.prog 61 #[JV a, PV s, PV t] w (Ret (JV (jacross a s t)) w) := by
  have hp0 := Heap.start w
  go_enter Tryd.func61, Tryd.ntmps61
  refine wp_seq_k (fun K1 k1 => ?_)
  refine gs [.alloc (JC a), .alloc (PC s), .alloc (PC t), .alloc (JC ⟨0, 0, 0⟩)] [0, 1, 2, 3] [0, 0, 0, 0] (fun L => [JV a, PV s, PV t, pt (L.b 0) 0, pt (L.b 1) 0, pt (L.b 2) 0, pt (L.b 3) 0] ++ U 38) (fun L => [(L.b 0, JC a), (L.b 1, PC s), (L.b 2, PC t), (L.b 3, JC ⟨0, 0, 0⟩)]) hp0 ⟨
    oB, oB, oB, oZ rJ,
    trivial⟩ (fun L0 w1 hp1 => ?_)
  refine k1 _ _ ?_
  refine wp_seq_k (fun K2 k2 => ?_)
  refine gs [.det (PV s), .det (PV (s * s)), .alloc (PC 0), .store (.new 2) 0 (PC (s * s)) (PC (s * s))] [0, 1, 2, 3] [0, 1, 0, 7] (fun L => [JV a, PV s, PV t, pt (L0.b 0) 0, pt (L0.b 1) 0, pt (L0.b 2) 0, pt (L0.b 3) 0, pt (L.b 2) 0, undef, undef, undef, undef, PV s, PV (s * s)] ++ U 31) (fun L => [((L0.b 0), JC a), ((L0.b 1), PC s), ((L0.b 2), PC t), ((L0.b 3), JC ⟨0, 0, 0⟩), (L.b 2, PC (s * s))]) hp1 ⟨
    oL 1 0 rP, oC K.stay hg (g2square K s), oZ rP, oT rP,
    trivial⟩ (fun L1 w2 hp2 => ?_)
  refine k2 _ _ ?_
  refine wp_seq_k (fun K3 k3 => ?_)
  refine gs [.det (PV (s * s)), .det (PV s), .det (PV ((s * s) * s)), .alloc (PC 0), .store (.new 3) 0 (PC ((s * s) * s)) (PC ((s * s) * s))] [0, 1, 2, 3, 4] [0, 0, 3, 0, 15] (fun L => [JV a, PV s, PV t, pt (L0.b 0) 0, pt (L0.b 1) 0, pt (L0.b 2) 0, pt (L0.b 3) 0, pt (L1.b 2) 0, pt (L.b 3) 0, undef, undef, undef, PV s, PV (s * s), PV (s * s), PV s, PV ((s * s) * s)] ++ U 28) (fun L => [((L0.b 0), JC a), ((L0.b 1), PC s), ((L0.b 2), PC t), ((L0.b 3), JC ⟨0, 0, 0⟩), ((L1.b 2), PC (s * s)), (L.b 3, PC ((s * s) * s))]) hp2 ⟨
    oL 4 0 rP, oL 1 0 rP, oC K.stay hg (fp2Mul K (s * s) s), oZ rP, oT rP,
    trivial⟩ (fun L2 w3 hp3 => ?_)
  refine k3 _ _ ?_
  refine wp_seq_k (fun K4 k4 => ?_)
  refine gs [.det (pt (L0.b 0) 0), .det (PV a.x), .det (PV (s * s)), .det (PV (a.x * (s * s))), .alloc (PC 0), .store (.new 4) 0 (PC (a.x * (s * s))) (PC (a.x * (s * s)))] [0, 1, 2, 3, 4, 5] [0, 1, 0, 7, 0, 31] (fun L => [JV a, PV s, PV t, pt (L0.b 0) 0, pt (L0.b 1) 0, pt (L0.b 2) 0, pt (L0.b 3) 0, pt (L1.b 2) 0, pt (L2.b 3) 0, pt (L.b 4) 0, undef, undef, PV s, PV (s * s), PV (s * s), PV s, PV ((s * s) * s), pt (L0.b 0) 0, PV a.x, PV (s * s), PV (a.x * (s * s))] ++ U 24) (fun L => [((L0.b 0), JC a), ((L0.b 1), PC s), ((L0.b 2), PC t), ((L0.b 3), JC ⟨0, 0, 0⟩), ((L1.b 2), PC (s * s)), ((L2.b 3), PC ((s * s) * s)), (L.b 4, PC (a.x * (s * s)))]) hp3 ⟨
    oF fJ0, oL 0 0 rP, oL 4 0 rP, oC K.stay hg (fp2Mul K a.x (s * s)), oZ rP, oT rP,
    trivial⟩ (fun L3 w4 hp4 => ?_)
  refine k4 _ _ ?_
  refine wp_seq_k (fun K5 k5 => ?_)
  refine dr [.det (PV t), .det (PV (t * t)), .det (PV ((s * s) * s)), .det (PV ((t * t) - ((s * s) * s))), .det (PV (a.x * (s * s))), .det (PV ((a.x * (s * s)) + (a.x * (s * s)))), .det (PV (((t * t) - ((s * s) * s)) - ((a.x * (s * s)) + (a.x * (s * s))))), .alloc (PC 0), .store (.new 7) 0 (PC (((t * t) - ((s * s) * s)) - ((a.x * (s * s)) + (a.x * (s * s))))) (PC (((t * t) - ((s * s) * s)) - ((a.x * (s * s)) + (a.x * (s * s)))))] [0, 1, 2, 3, 4, 5, 6, 7, 8] [0, 1, 0, 7, 0, 31, 63, 0, 255] (fun L => [JV a, PV s, PV t, pt (L0.b 0) 0, pt (L0.b 1) 0, pt (L0.b 2) 0, pt (L0.b 3) 0, pt (L1.b 2) 0, pt (L2.b 3) 0, pt (L3.b 4) 0, pt (L.b 7) 0, undef, PV s, PV (s * s), PV (s * s), PV s, PV ((s * s) * s), pt (L0.b 0) 0, PV a.x, PV (s * s), PV (a.x * (s * s)), PV t, PV (t * t), PV ((s * s) * s), PV ((t * t) - ((s * s) * s)), PV (a.x * (s * s)), PV ((a.x * (s * s)) + (a.x * (s * s))), PV (((t * t) - ((s * s) * s)) - ((a.x * (s * s)) + (a.x * (s * s))))] ++ U 17) (fun L => [((L0.b 0), JC a), ((L0.b 1), PC s), ((L0.b 2), PC t), ((L0.b 3), JC ⟨0, 0, 0⟩), ((L1.b 2), PC (s * s)), ((L2.b 3), PC ((s * s) * s)), ((L3.b 4), PC (a.x * (s * s))), (L.b 7, PC (((t * t) - ((s * s) * s)) - ((a.x * (s * s)) + (a.x * (s * s)))))]) hp4 ⟨
    oL 2 0 rP, oC K.stay hg (g2square K t), oL 5 0 rP, oC K.stay hg (fp2Sub K (t * t) ((s * s) * s)), oL 6 0 rP, oC K.stay hg (g2double K (a.x * (s * s))), oC K.stay hg (fp2Sub K ((t * t) - ((s * s) * s)) ((a.x * (s * s)) + (a.x * (s * s)))),
    oZ rP, oT rP,
    trivial⟩ (fun L4 w5 hp5 => ?_)
  refine k5 _ _ ?_
  refine wp_seq_k (fun K6 k6 => ?_)
  refine dr [.det (PV t), .det (PV (a.x * (s * s))), .det (PV (((t * t) - ((s * s) * s)) - ((a.x * (s * s)) + (a.x * (s * s))))), .det (PV ((a.x * (s * s)) - (((t * t) - ((s * s) * s)) - ((a.x * (s * s)) + (a.x * (s * s)))))), .det (PV (t * ((a.x * (s * s)) - (((t * t) - ((s * s) * s)) - ((a.x * (s * s)) + (a.x * (s * s))))))), .det (pt (L0.b 0) 12), .det (PV a.y), .det (PV ((s * s) * s)), .det (PV (a.y * ((s * s) * s))), .det (PV ((t * ((a.x * (s * s)) - (((t * t) - ((s * s) * s)) - ((a.x * (s * s)) + (a.x * (s * s)))))) - (a.y * ((s * s) * s)))), .alloc (PC 0), .store (.new 10) 0 (PC ((t * ((a.x * (s * s)) - (((t * t) - ((s * s) * s)) - ((a.x * (s * s)) + (a.x * (s * s)))))) - (a.y * ((s * s) * s)))) (PC ((t * ((a.x * (s * s)) - (((t * t) - ((s * s) * s)) - ((a.x * (s * s)) + (a.x * (s * s)))))) - (a.y * ((s * s) * s))))] [0, 1, 2, 3, 4, 5, 6, 7, 8, 9, 10, 11] [0, 0, 0, 6, 15, 0, 32, 0, 255, 511, 0, 2047] (fun L => [JV a, PV s, PV t, pt (L0.b 0) 0, pt (L0.b 1) 0, pt (L0.b 2) 0, pt (L0.b 3) 0, pt (L1.b 2) 0, pt (L2.b 3) 0, pt (L3.b 4) 0, pt (L4.b 7) 0, pt (L.b 10) 0, PV s, PV (s * s), PV (s * s), PV s, PV ((s * s) * s), pt (L0.b 0) 0, PV a.x, PV (s * s), PV (a.x * (s * s)), PV t, PV (t * t), PV ((s * s) * s), PV ((t * t) - ((s * s) * s)), PV (a.x * (s * s)), PV ((a.x * (s * s)) + (a.x * (s * s))), PV (((t * t) - ((s * s) * s)) - ((a.x * (s * s)) + (a.x * (s * s)))), PV t, PV (a.x * (s * s)), PV (((t * t) - ((s * s) * s)) - ((a.x * (s * s)) + (a.x * (s * s)))), PV ((a.x * (s * s)) - (((t * t) - ((s * s) * s)) - ((a.x * (s * s)) + (a.x * (s * s))))), PV (t * ((a.x * (s * s)) - (((t * t) - ((s * s) * s)) - ((a.x * (s * s)) + (a.x * (s * s)))))), pt (L0.b 0) 12, PV a.y, PV ((s * s) * s), PV (a.y * ((s * s) * s)), PV ((t * ((a.x * (s * s)) - (((t * t) - ((s * s) * s)) - ((a.x * (s * s)) + (a.x * (s * s)))))) - (a.y * ((s * s) * s)))] ++ U 7) (fun L => [((L0.b 0), JC a), ((L0.b 1), PC s), ((L0.b 2), PC t), ((L0.b 3), JC ⟨0, 0, 0⟩), ((L1.b 2), PC (s * s)), ((L2.b 3), PC ((s * s) * s)), ((L3.b 4), PC (a.x * (s * s))), ((L4.b 7), PC (((t * t) - ((s * s) * s)) - ((a.x * (s * s)) + (a.x * (s * s))))), (L.b 10, PC ((t * ((a.x * (s * s)) - (((t * t) - ((s * s) * s)) - ((a.x * (s * s)) + (a.x * (s * s)))))) - (a.y * ((s * s) * s))))]) hp5 ⟨
    oL 2 0 rP, oL 6 0 rP, oL 7 0 rP, oC K.stay hg (fp2Sub K (a.x * (s * s)) (((t * t) - ((s * s) * s)) - ((a.x * (s * s)) + (a.x * (s * s))))), oC K.stay hg (fp2Mul K t ((a.x * (s * s)) - (((t * t) - ((s * s) * s)) - ((a.x * (s * s)) + (a.x * (s * s)))))),
    oF fJ1, oL 0 12 rP, oL 5 0 rP, oC K.stay hg (fp2Mul K a.y ((s * s) * s)), oC K.stay hg (fp2Sub K (t * ((a.x * (s * s)) - (((t * t) - ((s * s) * s)) - ((a.x * (s * s)) + (a.x * (s * s)))))) (a.y * ((s * s) * s))),
    oZ rP, oT rP,
    trivial⟩ (fun L5 w6 hp6 => ?_)
  refine k6 _ _ ?_
  refine wp_seq_k (fun K7 k7 => ?_)
  refine dr [.det (PV (((t * t) - ((s * s) * s)) - ((a.x * (s * s)) + (a.x * (s * s))))), .det (PV ((t * ((a.x * (s * s)) - (((t * t) - ((s * s) * s)) - ((a.x * (s * s)) + (a.x * (s * s)))))) - (a.y * ((s * s) * s)))), .det (pt (L0.b 0) 24), .det (PV a.z), .det (PV s), .det (PV (a.z * s)), .det (JV ⟨(((t * t) - ((s * s) * s)) - ((a.x * (s * s)) + (a.x * (s * s)))), ((t * ((a.x * (s * s)) - (((t * t) - ((s * s) * s)) - ((a.x * (s * s)) + (a.x * (s * s)))))) - (a.y * ((s * s) * s))), (a.z * s)⟩), .store (.base 3) 0 (JC ⟨(((t * t) - ((s * s) * s)) - ((a.x * (s * s)) + (a.x * (s * s)))), ((t * ((a.x * (s * s)) - (((t * t) - ((s * s) * s)) - ((a.x * (s * s)) + (a.x * (s * s)))))) - (a.y * ((s * s) * s))), (a.z * s)⟩) (JC ⟨(((t * t) - ((s * s) * s)) - ((a.x * (s * s)) + (a.x * (s * s)))), ((t * ((a.x * (s * s)) - (((t * t) - ((s * s) * s)) - ((a.x * (s * s)) + (a.x * (s * s)))))) - (a.y * ((s * s) * s))), (a.z * s)⟩)] [0, 1, 2, 3, 4, 5, 6, 7] [0, 0, 0, 4, 0, 28, 63, 127] (fun L => [JV a, PV s, PV t, pt (L0.b 0) 0, pt (L0.b 1) 0, pt (L0.b 2) 0, pt (L0.b 3) 0, pt (L1.b 2) 0, pt (L2.b 3) 0, pt (L3.b 4) 0, pt (L4.b 7) 0, pt (L5.b 10) 0, PV s, PV (s * s), PV (s * s), PV s, PV ((s * s) * s), pt (L0.b 0) 0, PV a.x, PV (s * s), PV (a.x * (s * s)), PV t, PV (t * t), PV ((s * s) * s), PV ((t * t) - ((s * s) * s)), PV (a.x * (s * s)), PV ((a.x * (s * s)) + (a.x * (s * s))), PV (((t * t) - ((s * s) * s)) - ((a.x * (s * s)) + (a.x * (s * s)))), PV t, PV (a.x * (s * s)), PV (((t * t) - ((s * s) * s)) - ((a.x * (s * s)) + (a.x * (s * s)))), PV ((a.x * (s * s)) - (((t * t) - ((s * s) * s)) - ((a.x * (s * s)) + (a.x * (s * s))))), PV (t * ((a.x * (s * s)) - (((t * t) - ((s * s) * s)) - ((a.x * (s * s)) + (a.x * (s * s)))))), pt (L0.b 0) 12, PV a.y, PV ((s * s) * s), PV (a.y * ((s * s) * s)), PV ((t * ((a.x * (s * s)) - (((t * t) - ((s * s) * s)) - ((a.x * (s * s)) + (a.x * (s * s)))))) - (a.y * ((s * s) * s))), PV (((t * t) - ((s * s) * s)) - ((a.x * (s * s)) + (a.x * (s * s)))), PV ((t * ((a.x * (s * s)) - (((t * t) - ((s * s) * s)) - ((a.x * (s * s)) + (a.x * (s * s)))))) - (a.y * ((s * s) * s))), pt (L0.b 0) 24, PV a.z, PV s, PV (a.z * s), JV ⟨(((t * t) - ((s * s) * s)) - ((a.x * (s * s)) + (a.x * (s * s)))), ((t * ((a.x * (s * s)) - (((t * t) - ((s * s) * s)) - ((a.x * (s * s)) + (a.x * (s * s)))))) - (a.y * ((s * s) * s))), (a.z * s)⟩]) (fun L => [((L0.b 0), JC a), ((L0.b 1), PC s), ((L0.b 2), PC t), ((L0.b 3), JC ⟨(((t * t) - ((s * s) * s)) - ((a.x * (s * s)) + (a.x * (s * s)))), ((t * ((a.x * (s * s)) - (((t * t) - ((s * s) * s)) - ((a.x * (s * s)) + (a.x * (s * s)))))) - (a.y * ((s * s) * s))), (a.z * s)⟩), ((L1.b 2), PC (s * s)), ((L2.b 3), PC ((s * s) * s)), ((L3.b 4), PC (a.x * (s * s))), ((L4.b 7), PC (((t * t) - ((s * s) * s)) - ((a.x * (s * s)) + (a.x * (s * s))))), ((L5.b 10), PC ((t * ((a.x * (s * s)) - (((t * t) - ((s * s) * s)) - ((a.x * (s * s)) + (a.x * (s * s)))))) - (a.y * ((s * s) * s))))]) hp6 ⟨
    oL 7 0 rP, oL 8 0 rP, oF fJ2, oL 0 24 rP, oL 1 0 rP, oC K.stay hg (fp2Mul K a.z s), oD (buildJ012 (((t * t) - ((s * s) * s)) - ((a.x * (s * s)) + (a.x * (s * s)))) ((t * ((a.x * (s * s)) - (((t * t) - ((s * s) * s)) - ((a.x * (s * s)) + (a.x * (s * s)))))) - (a.y * ((s * s) * s))) (a.z * s)),
    oT rJ,
    trivial⟩ (fun L6 w7 hp7 => ?_)
  refine k7 _ _ ?_
  refine wp_ret ?_
  refine bodyPost_ret (v := JV ⟨(((t * t) - ((s * s) * s)) - ((a.x * (s * s)) + (a.x * (s * s)))), ((t * ((a.x * (s * s)) - (((t * t) - ((s * s) * s)) - ((a.x * (s * s)) + (a.x * (s * s)))))) - (a.y * ((s * s) * s))), (a.z * s)⟩) ?_ rfl ?_
  · exact rc rJ rfl (by kernel_rfl) (hp7.bound 3 rfl).2
  · exact ⟨congrArg (fun z => Ending.returned (JV z)) (Jc.ext' rfl rfl rfl), hp7.bel⟩
set_option maxHeartbeats 4000000 in
theorem g2plus0 {G : World → Prop} (K : FpK G) (a : Jc F2) (w : World) (hg : G w) : Calls Tryd.prog 33 #[JV a, GV ⟨0, 0, true⟩] w (Ret (JV a) w) := by
  have hp0 := Heap.start w
  go_enter Tryd.func33, Tryd.ntmps33
  refine wp_seq_k (fun K1 k1 => ?_)
  refine gs [.alloc (JC a), .alloc (GC ⟨0, 0, true⟩), .alloc (JC ⟨0, 0, 0⟩)] [0, 1, 2] [0, 0, 0] (fun L => [JV a, GV ⟨0, 0, true⟩, pt (L.b 0) 0, pt (L.b 1) 0, pt (L.b 2) 0] ++ U 43) (fun L => [(L.b 0, JC a), (L.b 1, GC ⟨0, 0, true⟩), (L.b 2, JC ⟨0, 0, 0⟩)]) hp0 ⟨
    oB, oB, oZ rJ,
    trivial⟩ (fun L0 w1 hp1 => ?_)
  refine k1 _ _ ?_
  refine wp_seq_k (fun K2 k2 => ?_)
  refine wp_seq_k (fun K3 k3 => ?_)
  refine gs [.det (pt (L0.b 1) 24), .det (.bool true)] [0, 1] [0, 1] (fun L => [JV a, GV ⟨0, 0, true⟩, pt (L0.b 0) 0, pt (L0.b 1) 0, pt (L0.b 2) 0, undef, undef, undef, pt (L0.b 1) 24, .bool true] ++ U 38) (fun L => [((L0.b 0), JC a), ((L0.b 1), GC ⟨0, 0, true⟩), ((L0.b 2), JC ⟨0, 0, 0⟩)]) hp1 ⟨
    oF fG2, oL1 1 24 oneB,
    trivial⟩ (fun L1 w2 hp2 => ?_)
  refine k3 _ _ ?_
  refine wp_cond_true (by kernel_rfl) ?_
  refine wp_seq_k (fun K4 k4 => ?_)
  refine gs [.det (JV a), .store (.base 2) 0 (JC a) (JC a)] [0, 1] [0, 1] (fun L => [JV a, GV ⟨0, 0, true⟩, pt (L0.b 0) 0, pt (L0.b 1) 0, pt (L0.b 2) 0, undef, undef, undef, pt (L0.b 1) 24, .bool true, JV a] ++ U 37) (fun L => [((L0.b 0), JC a), ((L0.b 1), GC ⟨0, 0, true⟩), ((L0.b 2), JC a)]) hp2 ⟨
    oL 0 0 rJ, oT rJ,
    trivial⟩ (fun L2 w3 hp3 => ?_)
  refine k4 _ _ ?_
  refine wp_ret ?_
  refine bodyPost_ret (v := JV a) ?_ rfl ?_
  · exact rc rJ rfl (by kernel_rfl) (hp3.bound 2 rfl).2
  · exact ⟨rfl, hp3.bel⟩
set_option maxHeartbeats 4000000 in
theorem g2plus1 {G : World → Prop} (K : FpK G) (a : Jc F2) (x y : F2) (w : World) (hg : G w) (hz : a.z = 0) : Calls Tryd.prog 33 #[JV a, GV ⟨x, y, false⟩] w (Ret (JV ⟨x, y, 1⟩) w) := by
  have hp0 := Heap.start w
  go_enter Tryd.func33, Tryd.ntmps33
  refine wp_seq_k (fun K1 k1 => ?_)
  refine gs [.alloc (JC a), .alloc (GC ⟨x, y, false⟩), .alloc (JC ⟨0, 0, 0⟩)] [0, 1, 2] [0, 0, 0] (fun L => [JV a, GV ⟨x, y, false⟩, pt (L.b 0) 0, pt (L.b 1) 0, pt (L.b 2) 0] ++ U 43) (fun L => [(L.b 0, JC a), (L.b 1, GC ⟨x, y, false⟩), (L.b 2, JC ⟨0, 0, 0⟩)]) hp0 ⟨
    oB, oB, oZ rJ,
    trivial⟩ (fun L0 w1 hp1 => ?_)
  refine k1 _ _ ?_
  refine wp_seq_k (fun K2 k2 => ?_)
  refine wp_seq_k (fun K3 k3 => ?_)
  refine gs [.det (pt (L0.b 1) 24), .det (.bool false)] [0, 1] [0, 1] (fun L => [JV a, GV ⟨x, y, false⟩, pt (L0.b 0) 0, pt (L0.b 1) 0, pt (L0.b 2) 0, undef, undef, undef, pt (L0.b 1) 24, .bool false] ++ U 38) (fun L => [((L0.b 0), JC a), ((L0.b 1), GC ⟨x, y, false⟩), ((L0.b 2), JC ⟨0, 0, 0⟩)]) hp1 ⟨
    oF fG2, oL1 1 24 oneB,
    trivial⟩ (fun L1 w2 hp2 => ?_)
  refine k3 _ _ ?_
  refine wp_cond_false (by kernel_rfl) ?_
  refine skips ?_
  refine k2 _ _ ?_
  refine wp_seq_k (fun K4 k4 => ?_)
  refine wp_seq_k (fun K5 k5 => ?_)
  refine gs [.det (JV a), .det (.bool true)] [0, 1] [0, 1] (fun L => [JV a, GV ⟨x, y, false⟩, pt (L0.b 0) 0, pt (L0.b 1) 0, pt (L0.b 2) 0, undef, undef, undef, pt (L0.b 1) 24, .bool false, undef, JV a, .bool true] ++ U 35) (fun L => [((L0.b 0), JC a), ((L0.b 1), GC ⟨x, y, false⟩), ((L0.b 2), JC ⟨0, 0, 0⟩)]) hp2 ⟨
    oL 0 0 rJ, oH (v := .bool true) (vs := #[JV a]) (fun w hb _ => by have h := g2isInf K a w (K.stay hg hb); rw [decide_eq_true hz] at h; exact h),
    trivial⟩ (fun L2 w3 hp3 => ?_)
  refine k5 _ _ ?_
  refine wp_cond_true (by kernel_rfl) ?_
  refine wp_seq_k (fun K6 k6 => ?_)
  refine gs [.det (GV ⟨x, y, false⟩), .det (JV ⟨x, y, 1⟩), .store (.base 2) 0 (JC ⟨x, y, 1⟩) (JC ⟨x, y, 1⟩)] [0, 1, 2] [0, 1, 3] (fun L => [JV a, GV ⟨x, y, false⟩, pt (L0.b 0) 0, pt (L0.b 1) 0, pt (L0.b 2) 0, undef, undef, undef, pt (L0.b 1) 24, .bool false, undef, JV a, .bool true, GV ⟨x, y, false⟩, JV ⟨x, y, 1⟩] ++ U 33) (fun L => [((L0.b 0), JC a), ((L0.b 1), GC ⟨x, y, false⟩), ((L0.b 2), JC ⟨x, y, 1⟩)]) hp3 ⟨
    oL 1 0 rG, oH (v := JV ⟨x, y, 1⟩) (vs := #[GV ⟨x, y, false⟩]) (fun w hb _ => g2lift1 K _ _ w (K.stay hg hb)), oT rJ,
    trivial⟩ (fun L3 w4 hp4 => ?_)
  refine k6 _ _ ?_
  refine wp_ret ?_
  refine bodyPost_ret (v := JV ⟨x, y, 1⟩) ?_ rfl ?_
  · exact rc rJ rfl (by kernel_rfl) (hp4.bound 2 rfl).2
  · exact ⟨rfl, hp4.bel⟩
set_option maxHeartbeats 4000000 in
theorem g2plus2 {G : World → Prop} (K : FpK G) (a : Jc F2) (x y : F2) (w : World) (hg : G w) (hz : a.z ≠ 0) (hr : jrun a x ≠ 0) : Calls Tryd.prog 33 #[JV a, GV ⟨x, y, false⟩] w (Ret (JV (jacross a (jrun a x) (jrise a y))) w) := by
  have hp0 := Heap.start w
  go_enter Tryd.func33, Tryd.ntmps33
  refine wp_seq_k (fun K1 k1 => ?_)
  refine gs [.alloc (JC a), .alloc (GC ⟨x, y, false⟩), .alloc (JC ⟨0, 0, 0⟩)] [0, 1, 2] [0, 0, 0] (fun L => [JV a, GV ⟨x, y, false⟩, pt (L.b 0) 0, pt (L.b 1) 0, pt (L.b 2) 0] ++ U 43) (fun L => [(L.b 0, JC a), (L.b 1, GC ⟨x, y, false⟩), (L.b 2, JC ⟨0, 0, 0⟩)]) hp0 ⟨
    oB, oB, oZ rJ,
    trivial⟩ (fun L0 w1 hp1 => ?_)
  refine k1 _ _ ?_
  refine wp_seq_k (fun K2 k2 => ?_)
  refine wp_seq_k (fun K3 k3 => ?_)
  refine gs [.det (pt (L0.b 1) 24), .det (.bool false)] [0, 1] [0, 1] (fun L => [JV a, GV ⟨x, y, false⟩, pt (L0.b 0) 0, pt (L0.b 1) 0, pt (L0.b 2) 0, undef, undef, undef, pt (L0.b 1) 24, .bool false] ++ U 38) (fun L => [((L0.b 0), JC a), ((L0.b 1), GC ⟨x, y, false⟩), ((L0.b 2), JC ⟨0, 0, 0⟩)]) hp1 ⟨
    oF fG2, oL1 1 24 oneB,
    trivial⟩ (fun L1 w2 hp2 => ?_)
  refine k3 _ _ ?_
  refine wp_cond_false (by kernel_rfl) ?_
  refine skips ?_
  refine k2 _ _ ?_
  refine wp_seq_k (fun K4 k4 => ?_)
  refine wp_seq_k (fun K5 k5 => ?_)
  refine gs [.det (JV a), .det (.bool false)] [0, 1] [0, 1] (fun L => [JV a, GV ⟨x, y, false⟩, pt (L0.b 0) 0, pt (L0.b 1) 0, pt (L0.b 2) 0, undef, undef, undef, pt (L0.b 1) 24, .bool false, undef, JV a, .bool false] ++ U 35) (fun L => [((L0.b 0), JC a), ((L0.b 1), GC ⟨x, y, false⟩), ((L0.b 2), JC ⟨0, 0, 0⟩)]) hp2 ⟨
    oL 0 0 rJ, oH (v := .bool false) (vs := #[JV a]) (fun w hb _ => by have h := g2isInf K a w (K.stay hg hb); rw [decide_eq_false hz] at h; exact h),
    trivial⟩ (fun L2 w3 hp3 => ?_)
  refine k5 _ _ ?_
  refine wp_cond_false (by kernel_rfl) ?_
  refine skips ?_
  refine k4 _ _ ?_
  refine wp_seq_k (fun K6 k6 => ?_)
  refine gs [.det (pt (L0.b 0) 24), .det (PV a.z), .det (PV (a.z * a.z)), .alloc (PC 0), .store (.new 3) 0 (PC (a.z * a.z)) (PC (a.z * a.z))] [0, 1, 2, 3, 4] [0, 1, 3, 0, 15] (fun L => [JV a, GV ⟨x, y, false⟩, pt (L0.b 0) 0, pt (L0.b 1) 0, pt (L0.b 2) 0, pt (L.b 3) 0, undef, undef, pt (L0.b 1) 24, .bool false, undef, JV a, .bool false, undef, undef, pt (L0.b 0) 24, PV a.z, PV (a.z * a.z)] ++ U 30) (fun L => [((L0.b 0), JC a), ((L0.b 1), GC ⟨x, y, false⟩), ((L0.b 2), JC ⟨0, 0, 0⟩), (L.b 3, PC (a.z * a.z))]) hp3 ⟨
    oF fJ2, oL 0 24 rP, oC K.stay hg (g2square K a.z), oZ rP, oT rP,
    trivial⟩ (fun L3 w4 hp4 => ?_)
  refine k6 _ _ ?_
  refine wp_seq_k (fun K7 k7 => ?_)
  refine dr [.det (pt (L0.b 1) 0), .det (PV x), .det (PV (a.z * a.z)), .det (PV (x * (a.z * a.z))), .det (pt (L0.b 0) 0), .det (PV a.x), .det (PV ((x * (a.z * a.z)) - a.x)), .alloc (PC 0), .store (.new 7) 0 (PC ((x * (a.z * a.z)) - a.x)) (PC ((x * (a.z * a.z)) - a.x))] [0, 1, 2, 3, 4, 5, 6, 7, 8] [0, 1, 0, 7, 0, 16, 63, 0, 255] (fun L => [JV a, GV ⟨x, y, false⟩, pt (L0.b 0) 0, pt (L0.b 1) 0, pt (L0.b 2) 0, pt (L3.b 3) 0, pt (L.b 7) 0, undef, pt (L0.b 1) 24, .bool false, undef, JV a, .bool false, undef, undef, pt (L0.b 0) 24, PV a.z, PV (a.z * a.z), pt (L0.b 1) 0, PV x, PV (a.z * a.z), PV (x * (a.z * a.z)), pt (L0.b 0) 0, PV a.x, PV ((x * (a.z * a.z)) - a.x)] ++ U 23) (fun L => [((L0.b 0), JC a), ((L0.b 1), GC ⟨x, y, false⟩), ((L0.b 2), JC ⟨0, 0, 0⟩), ((L3.b 3), PC (a.z * a.z)), (L.b 7, PC ((x * (a.z * a.z)) - a.x))]) hp4 ⟨
    oF fG0, oL 1 0 rP, oL 3 0 rP, oC K.stay hg (fp2Mul K x (a.z * a.z)), oF fJ0, oL 0 0 rP, oC K.stay hg (fp2Sub K (x * (a.z * a.z)) a.x), oZ rP, oT rP,
    trivial⟩ (fun L4 w5 hp5 => ?_)
  refine k7 _ _ ?_
  refine wp_seq_k (fun K8 k8 => ?_)
  refine dr [.det (pt (L0.b 1) 12), .det (PV y), .det (PV (a.z * a.z)), .det (pt (L0.b 0) 24), .det (PV a.z), .det (PV ((a.z * a.z) * a.z)), .det (PV (y * ((a.z * a.z) * a.z))), .det (pt (L0.b 0) 12), .det (PV a.y), .det (PV ((y * ((a.z * a.z) * a.z)) - a.y)), .alloc (PC 0), .store (.new 10) 0 (PC ((y * ((a.z * a.z) * a.z)) - a.y)) (PC ((y * ((a.z * a.z) * a.z)) - a.y))] [0, 1, 2, 3, 4, 5, 6, 7, 8, 9, 10, 11] [0, 1, 0, 0, 8, 28, 63, 0, 128, 511, 0, 2047] (fun L => [JV a, GV ⟨x, y, false⟩, pt (L0.b 0) 0, pt (L0.b 1) 0, pt (L0.b 2) 0, pt (L3.b 3) 0, pt (L4.b 7) 0, pt (L.b 10) 0, pt (L0.b 1) 24, .bool false, undef, JV a, .bool false, undef, undef, pt (L0.b 0) 24, PV a.z, PV (a.z * a.z), pt (L0.b 1) 0, PV x, PV (a.z * a.z), PV (x * (a.z * a.z)), pt (L0.b 0) 0, PV a.x, PV ((x * (a.z * a.z)) - a.x), pt (L0.b 1) 12, PV y, PV (a.z * a.z), pt (L0.b 0) 24, PV a.z, PV ((a.z * a.z) * a.z), PV (y * ((a.z * a.z) * a.z)), pt (L0.b 0) 12, PV a.y, PV ((y * ((a.z * a.z) * a.z)) - a.y)] ++ U 13) (fun L => [((L0.b 0), JC a), ((L0.b 1), GC ⟨x, y, false⟩), ((L0.b 2), JC ⟨0, 0, 0⟩), ((L3.b 3), PC (a.z * a.z)), ((L4.b 7), PC ((x * (a.z * a.z)) - a.x)), (L.b 10, PC ((y * ((a.z * a.z) * a.z)) - a.y))]) hp5 ⟨
    oF fG1, oL 1 12 rP, oL 3 0 rP, oF fJ2, oL 0 24 rP, oC K.stay hg (fp2Mul K (a.z * a.z) a.z), oC K.stay hg (fp2Mul K y ((a.z * a.z) * a.z)), oF fJ1, oL 0 12 rP,
    oC K.stay hg (fp2Sub K (y * ((a.z * a.z) * a.z)) a.y), oZ rP, oT rP,
    trivial⟩ (fun L5 w6 hp6 => ?_)
  refine k8 _ _ ?_
  refine wp_seq_k (fun K9 k9 => ?_)
  refine wp_seq_k (fun K10 k10 => ?_)
  refine gs [.det (PV ((x * (a.z * a.z)) - a.x)), .det (PV 0), .det (.bool true)] [0, 1, 2] [0, 0, 3] (fun L => [JV a, GV ⟨x, y, false⟩, pt (L0.b 0) 0, pt (L0.b 1) 0, pt (L0.b 2) 0, pt (L3.b 3) 0, pt (L4.b 7) 0, pt (L5.b 10) 0, pt (L0.b 1) 24, .bool false, undef, JV a, .bool false, undef, undef, pt (L0.b 0) 24, PV a.z, PV (a.z * a.z), pt (L0.b 1) 0, PV x, PV (a.z * a.z), PV (x * (a.z * a.z)), pt (L0.b 0) 0, PV a.x, PV ((x * (a.z * a.z)) - a.x), pt (L0.b 1) 12, PV y, PV (a.z * a.z), pt (L0.b 0) 24, PV a.z, PV ((a.z * a.z) * a.z), PV (y * ((a.z * a.z) * a.z)), pt (L0.b 0) 12, PV a.y, PV ((y * ((a.z * a.z) * a.z)) - a.y), PV ((x * (a.z * a.z)) - a.x), PV 0, .bool true] ++ U 10) (fun L => [((L0.b 0), JC a), ((L0.b 1), GC ⟨x, y, false⟩), ((L0.b 2), JC ⟨0, 0, 0⟩), ((L3.b 3), PC (a.z * a.z)), ((L4.b 7), PC ((x * (a.z * a.z)) - a.x)), ((L5.b 10), PC ((y * ((a.z * a.z) * a.z)) - a.y))]) hp6 ⟨
    oL 4 0 rP, oD buildP0, oU (a := ((x * (a.z * a.z)) - a.x)) (b := 0) qP (yes' hr),
    trivial⟩ (fun L6 w7 hp7 => ?_)
  refine k10 _ _ ?_
  refine wp_cond_true (by kernel_rfl) ?_
  refine wp_seq_k (fun K11 k11 => ?_)
  refine gs [.det (JV a), .det (PV ((x * (a.z * a.z)) - a.x)), .det (PV ((y * ((a.z * a.z) * a.z)) - a.y)), .det (JV (jacross a ((x * (a.z * a.z)) - a.x) ((y * ((a.z * a.z) * a.z)) - a.y))), .store (.base 2) 0 (JC (jacross a ((x * (a.z * a.z)) - a.x) ((y * ((a.z * a.z) * a.z)) - a.y))) (JC (jacross a ((x * (a.z * a.z)) - a.x) ((y * ((a.z * a.z) * a.z)) - a.y)))] [0, 1, 2, 3, 4] [0, 0, 0, 7, 15] (fun L => [JV a, GV ⟨x, y, false⟩, pt (L0.b 0) 0, pt (L0.b 1) 0, pt (L0.b 2) 0, pt (L3.b 3) 0, pt (L4.b 7) 0, pt (L5.b 10) 0, pt (L0.b 1) 24, .bool false, undef, JV a, .bool false, undef, undef, pt (L0.b 0) 24, PV a.z, PV (a.z * a.z), pt (L0.b 1) 0, PV x, PV (a.z * a.z), PV (x * (a.z * a.z)), pt (L0.b 0) 0, PV a.x, PV ((x * (a.z * a.z)) - a.x), pt (L0.b 1) 12, PV y, PV (a.z * a.z), pt (L0.b 0) 24, PV a.z, PV ((a.z * a.z) * a.z), PV (y * ((a.z * a.z) * a.z)), pt (L0.b 0) 12, PV a.y, PV ((y * ((a.z * a.z) * a.z)) - a.y), PV ((x * (a.z * a.z)) - a.x), PV 0, .bool true, JV a, PV ((x * (a.z * a.z)) - a.x), PV ((y * ((a.z * a.z) * a.z)) - a.y), JV (jacross a ((x * (a.z * a.z)) - a.x) ((y * ((a.z * a.z) * a.z)) - a.y))] ++ U 6) (fun L => [((L0.b 0), JC a), ((L0.b 1), GC ⟨x, y, false⟩), ((L0.b 2), JC (jacross a ((x * (a.z * a.z)) - a.x) ((y * ((a.z * a.z) * a.z)) - a.y))), ((L3.b 3), PC (a.z * a.z)), ((L4.b 7), PC ((x * (a.z * a.z)) - a.x)), ((L5.b 10), PC ((y * ((a.z * a.z) * a.z)) - a.y))]) hp7 ⟨
    oL 0 0 rJ, oL 4 0 rP, oL 5 0 rP, oC K.stay hg (g2across K a ((x * (a.z * a.z)) - a.x) ((y * ((a.z * a.z) * a.z)) - a.y)), oT rJ,
    trivial⟩ (fun L7 w8 hp8 => ?_)
  refine k11 _ _ ?_
  refine wp_ret ?_
  refine bodyPost_ret (v := JV (jacross a ((x * (a.z * a.z)) - a.x) ((y * ((a.z * a.z) * a.z)) - a.y))) ?_ rfl ?_
  · exact rc rJ rfl (by kernel_rfl) (hp8.bound 2 rfl).2
  · exact ⟨rfl, hp8.bel⟩
set_option maxHeartbeats 4000000 in
theorem g2plus3 {G : World → Prop} (K : FpK G) (a : Jc F2) (x y : F2) (w : World) (hg : G w) (hz : a.z ≠ 0) (hr : jrun a x = 0) (hs : jrise a y ≠ 0) : Calls Tryd.prog 33 #[JV a, GV ⟨x, y, false⟩] w (Ret (JV ⟨0, 0, 0⟩) w) := by
  have hp0 := Heap.start w
  go_enter Tryd.func33, Tryd.ntmps33
  refine wp_seq_k (fun K1 k1 => ?_)
  refine gs [.alloc (JC a), .alloc (GC ⟨x, y, false⟩), .alloc (JC ⟨0, 0, 0⟩)] [0, 1, 2] [0, 0, 0] (fun L => [JV a, GV ⟨x, y, false⟩, pt (L.b 0) 0, pt (L.b 1) 0, pt (L.b 2) 0] ++ U 43) (fun L => [(L.b 0, JC a), (L.b 1, GC ⟨x, y, false⟩), (L.b 2, JC ⟨0, 0, 0⟩)]) hp0 ⟨
    oB, oB, oZ rJ,
    trivial⟩ (fun L0 w1 hp1 => ?_)
  refine k1 _ _ ?_
  refine wp_seq_k (fun K2 k2 => ?_)
  refine wp_seq_k (fun K3 k3 => ?_)
  refine gs [.det (pt (L0.b 1) 24), .det (.bool false)] [0, 1] [0, 1] (fun L => [JV a, GV ⟨x, y, false⟩, pt (L0.b 0) 0, pt (L0.b 1) 0, pt (L0.b 2) 0, undef, undef, undef, pt (L0.b 1) 24, .bool false] ++ U 38) (fun L => [((L0.b 0), JC a), ((L0.b 1), GC ⟨x, y, false⟩), ((L0.b 2), JC ⟨0, 0, 0⟩)]) hp1 ⟨
    oF fG2, oL1 1 24 oneB,
    trivial⟩ (fun L1 w2 hp2 => ?_)
  refine k3 _ _ ?_
  refine wp_cond_false (by kernel_rfl) ?_
  refine skips ?_
  refine k2 _ _ ?_
  refine wp_seq_k (fun K4 k4 => ?_)
  refine wp_seq_k (fun K5 k5 => ?_)
  refine gs [.det (JV a), .det (.bool false)] [0, 1] [0, 1] (fun L => [JV a, GV ⟨x, y, false⟩, pt (L0.b 0) 0, pt (L0.b 1) 0, pt (L0.b 2) 0, undef, undef, undef, pt (L0.b 1) 24, .bool false, undef, JV a, .bool false] ++ U 35) (fun L => [((L0.b 0), JC a), ((L0.b 1), GC ⟨x, y, false⟩), ((L0.b 2), JC ⟨0, 0, 0⟩)]) hp2 ⟨
    oL 0 0 rJ, oH (v := .bool false) (vs := #[JV a]) (fun w hb _ => by have h := g2isInf K a w (K.stay hg hb); rw [decide_eq_false hz] at h; exact h),
    trivial⟩ (fun L2 w3 hp3 => ?_)
  refine k5 _ _ ?_
  refine wp_cond_false (by kernel_rfl) ?_
  refine skips ?_
  refine k4 _ _ ?_
  refine wp_seq_k (fun K6 k6 => ?_)
  refine gs [.det (pt (L0.b 0) 24), .det (PV a.z), .det (PV (a.z * a.z)), .alloc (PC 0), .store (.new 3) 0 (PC (a.z * a.z)) (PC (a.z * a.z))] [0, 1, 2, 3, 4] [0, 1, 3, 0, 15] (fun L => [JV a, GV ⟨x, y, false⟩, pt (L0.b 0) 0, pt (L0.b 1) 0, pt (L0.b 2) 0, pt (L.b 3) 0, undef, undef, pt (L0.b 1) 24, .bool false, undef, JV a, .bool false, undef, undef, pt (L0.b 0) 24, PV a.z, PV (a.z * a.z)] ++ U 30) (fun L => [((L0.b 0), JC a), ((L0.b 1), GC ⟨x, y, false⟩), ((L0.b 2), JC ⟨0, 0, 0⟩), (L.b 3, PC (a.z * a.z))]) hp3 ⟨
    oF fJ2, oL 0 24 rP, oC K.stay hg (g2square K a.z), oZ rP, oT rP,
    trivial⟩ (fun L3 w4 hp4 => ?_)
  refine k6 _ _ ?_
  refine wp_seq_k (fun K7 k7 => ?_)
  refine dr [.det (pt (L0.b 1) 0), .det (PV x), .det (PV (a.z * a.z)), .det (PV (x * (a.z * a.z))), .det (pt (L0.b 0) 0), .det (PV a.x), .det (PV ((x * (a.z * a.z)) - a.x)), .alloc (PC 0), .store (.new 7) 0 (PC ((x * (a.z * a.z)) - a.x)) (PC ((x * (a.z * a.z)) - a.x))] [0, 1, 2, 3, 4, 5, 6, 7, 8] [0, 1, 0, 7, 0, 16, 63, 0, 255] (fun L => [JV a, GV ⟨x, y, false⟩, pt (L0.b 0) 0, pt (L0.b 1) 0, pt (L0.b 2) 0, pt (L3.b 3) 0, pt (L.b 7) 0, undef, pt (L0.b 1) 24, .bool false, undef, JV a, .bool false, undef, undef, pt (L0.b 0) 24, PV a.z, PV (a.z * a.z), pt (L0.b 1) 0, PV x, PV (a.z * a.z), PV (x * (a.z * a.z)), pt (L0.b 0) 0, PV a.x, PV ((x * (a.z * a.z)) - a.x)] ++ U 23) (fun L => [((L0.b 0), JC a), ((L0.b 1), GC ⟨x, y, false⟩), ((L0.b 2), JC ⟨0, 0, 0⟩), ((L3.b 3), PC (a.z * a.z)), (L.b 7, PC ((x * (a.z * a.z)) - a.x))]) hp4 ⟨
    oF fG0, oL 1 0 rP, oL 3 0 rP, oC K.stay hg (fp2Mul K x (a.z * a.z)), oF fJ0, oL 0 0 rP, oC K.stay hg (fp2Sub K (x * (a.z * a.z)) a.x), oZ rP, oT rP,
    trivial⟩ (fun L4 w5 hp5 => ?_)
  refine k7 _ _ ?_
  refine wp_seq_k (fun K8 k8 => ?_)
  refine dr [.det (pt (L0.b 1) 12), .det (PV y), .det (PV (a.z * a.z)), .det (pt (L0.b 0) 24), .det (PV a.z), .det (PV ((a.z * a.z) * a.z)), .det (PV (y * ((a.z * a.z) * a.z))), .det (pt (L0.b 0) 12), .det (PV a.y), .det (PV ((y * ((a.z * a.z) * a.z)) - a.y)), .alloc (PC 0), .store (.new 10) 0 (PC ((y * ((a.z * a.z) * a.z)) - a.y)) (PC ((y * ((a.z * a.z) * a.z)) - a.y))] [0, 1, 2, 3, 4, 5, 6, 7, 8, 9, 10, 11] [0, 1, 0, 0, 8, 28, 63, 0, 128, 511, 0, 2047] (fun L => [JV a, GV ⟨x, y, false⟩, pt (L0.b 0) 0, pt (L0.b 1) 0, pt (L0.b 2) 0, pt (L3.b 3) 0, pt (L4.b 7) 0, pt (L.b 10) 0, pt (L0.b 1) 24, .bool false, undef, JV a, .bool false, undef, undef, pt (L0.b 0) 24, PV a.z, PV (a.z * a.z), pt (L0.b 1) 0, PV x, PV (a.z * a.z), PV (x * (a.z * a.z)), pt (L0.b 0) 0, PV a.x, PV ((x * (a.z * a.z)) - a.x), pt (L0.b 1) 12, PV y, PV (a.z * a.z), pt (L0.b 0) 24, PV a.z, PV ((a.z * a.z) * a.z), PV (y * ((a.z * a.z) * a.z)), pt (L0.b 0) 12, PV a.y, PV ((y * ((a.z * a.z) * a.z)) - a.y)] ++ U 13) (fun L => [((L0.b 0), JC a), ((L0.b 1), GC ⟨x, y, false⟩), ((L0.b 2), JC ⟨0, 0, 0⟩), ((L3.b 3), PC (a.z * a.z)), ((L4.b 7), PC ((x * (a.z * a.z)) - a.x)), (L.b 10, PC ((y * ((a.z * a.z) * a.z)) - a.y))]) hp5 ⟨
    oF fG1, oL 1 12 rP, oL 3 0 rP, oF fJ2, oL 0 24 rP, oC K.stay hg (fp2Mul K (a.z * a.z) a.z), oC K.stay hg (fp2Mul K y ((a.z * a.z) * a.z)), oF fJ1, oL 0 12 rP,
    oC K.stay hg (fp2Sub K (y * ((a.z * a.z) * a.z)) a.y), oZ rP, oT rP,
    trivial⟩ (fun L5 w6 hp6 => ?_)
  refine k8 _ _ ?_
  refine wp_seq_k (fun K9 k9 => ?_)
  refine wp_seq_k (fun K10 k10 => ?_)
  refine gs [.det (PV ((x * (a.z * a.z)) - a.x)), .det (PV 0), .det (.bool false)] [0, 1, 2] [0, 0, 3] (fun L => [JV a, GV ⟨x, y, false⟩, pt (L0.b 0) 0, pt (L0.b 1) 0, pt (L0.b 2) 0, pt (L3.b 3) 0, pt (L4.b 7) 0, pt (L5.b 10) 0, pt (L0.b 1) 24, .bool false, undef, JV a, .bool false, undef, undef, pt (L0.b 0) 24, PV a.z, PV (a.z * a.z), pt (L0.b 1) 0, PV x, PV (a.z * a.z), PV (x * (a.z * a.z)), pt (L0.b 0) 0, PV a.x, PV ((x * (a.z * a.z)) - a.x), pt (L0.b 1) 12, PV y, PV (a.z * a.z), pt (L0.b 0) 24, PV a.z, PV ((a.z * a.z) * a.z), PV (y * ((a.z * a.z) * a.z)), pt (L0.b 0) 12, PV a.y, PV ((y * ((a.z * a.z) * a.z)) - a.y), PV ((x * (a.z * a.z)) - a.x), PV 0, .bool false] ++ U 10) (fun L => [((L0.b 0), JC a), ((L0.b 1), GC ⟨x, y, false⟩), ((L0.b 2), JC ⟨0, 0, 0⟩), ((L3.b 3), PC (a.z * a.z)), ((L4.b 7), PC ((x * (a.z * a.z)) - a.x)), ((L5.b 10), PC ((y * ((a.z * a.z) * a.z)) - a.y))]) hp6 ⟨
    oL 4 0 rP, oD buildP0, oU (a := ((x * (a.z * a.z)) - a.x)) (b := 0) qP (nay' hr),
    trivial⟩ (fun L6 w7 hp7 => ?_)
  refine k10 _ _ ?_
  refine wp_cond_false (by kernel_rfl) ?_
  refine skips ?_
  refine k9 _ _ ?_
  refine wp_seq_k (fun K11 k11 => ?_)
  refine wp_seq_k (fun K12 k12 => ?_)
  refine gs [.det (PV ((y * ((a.z * a.z) * a.z)) - a.y)), .det (PV 0), .det (.bool true)] [0, 1, 2] [0, 0, 3] (fun L => [JV a, GV ⟨x, y, false⟩, pt (L0.b 0) 0, pt (L0.b 1) 0, pt (L0.b 2) 0, pt (L3.b 3) 0, pt (L4.b 7) 0, pt (L5.b 10) 0, pt (L0.b 1) 24, .bool false, undef, JV a, .bool false, undef, undef, pt (L0.b 0) 24, PV a.z, PV (a.z * a.z), pt (L0.b 1) 0, PV x, PV (a.z * a.z), PV (x * (a.z * a.z)), pt (L0.b 0) 0, PV a.x, PV ((x * (a.z * a.z)) - a.x), pt (L0.b 1) 12, PV y, PV (a.z * a.z), pt (L0.b 0) 24, PV a.z, PV ((a.z * a.z) * a.z), PV (y * ((a.z * a.z) * a.z)), pt (L0.b 0) 12, PV a.y, PV ((y * ((a.z * a.z) * a.z)) - a.y), PV ((x * (a.z * a.z)) - a.x), PV 0, .bool false, undef, undef, undef, undef, PV ((y * ((a.z * a.z) * a.z)) - a.y), PV 0, .bool true, undef, undef, undef]) (fun L => [((L0.b 0), JC a), ((L0.b 1), GC ⟨x, y, false⟩), ((L0.b 2), JC ⟨0, 0, 0⟩), ((L3.b 3), PC (a.z * a.z)), ((L4.b 7), PC ((x * (a.z * a.z)) - a.x)), ((L5.b 10), PC ((y * ((a.z * a.z) * a.z)) - a.y))]) hp7 ⟨
    oL 5 0 rP, oD buildP0, oU (a := ((y * ((a.z * a.z) * a.z)) - a.y)) (b := 0) qP (yes' hs),
    trivial⟩ (fun L7 w8 hp8 => ?_)
  refine k12 _ _ ?_
  refine wp_cond_true (by kernel_rfl) ?_
  refine wp_seq_k (fun K13 k13 => ?_)
  refine gs [.det (JV ⟨0, 0, 0⟩), .store (.base 2) 0 (JC ⟨0, 0, 0⟩) (JC ⟨0, 0, 0⟩)] [0, 1] [0, 1] (fun L => [JV a, GV ⟨x, y, false⟩, pt (L0.b 0) 0, pt (L0.b 1) 0, pt (L0.b 2) 0, pt (L3.b 3) 0, pt (L4.b 7) 0, pt (L5.b 10) 0, pt (L0.b 1) 24, .bool false, undef, JV a, .bool false, undef, undef, pt (L0.b 0) 24, PV a.z, PV (a.z * a.z), pt (L0.b 1) 0, PV x, PV (a.z * a.z), PV (x * (a.z * a.z)), pt (L0.b 0) 0, PV a.x, PV ((x * (a.z * a.z)) - a.x), pt (L0.b 1) 12, PV y, PV (a.z * a.z), pt (L0.b 0) 24, PV a.z, PV ((a.z * a.z) * a.z), PV (y * ((a.z * a.z) * a.z)), pt (L0.b 0) 12, PV a.y, PV ((y * ((a.z * a.z) * a.z)) - a.y), PV ((x * (a.z * a.z)) - a.x), PV 0, .bool false, undef, undef, undef, undef, PV ((y * ((a.z * a.z) * a.z)) - a.y), PV 0, .bool true, JV ⟨0, 0, 0⟩, undef, undef]) (fun L => [((L0.b 0), JC a), ((L0.b 1), GC ⟨x, y, false⟩), ((L0.b 2), JC ⟨0, 0, 0⟩), ((L3.b 3), PC (a.z * a.z)), ((L4.b 7), PC ((x * (a.z * a.z)) - a.x)), ((L5.b 10), PC ((y * ((a.z * a.z) * a.z)) - a.y))]) hp8 ⟨
    oD buildJn, oT rJ,
    trivial⟩ (fun L8 w9 hp9 => ?_)
  refine k13 _ _ ?_
  refine wp_ret ?_
  refine bodyPost_ret (v := JV ⟨0, 0, 0⟩) ?_ rfl ?_
  · exact rc rJ rfl (by kernel_rfl) (hp9.bound 2 rfl).2
  · exact ⟨rfl, hp9.bel⟩
set_option maxHeartbeats 4000000 in
theorem g2plus4 {G : World → Prop} (K : FpK G) (a : Jc F2) (x y : F2) (w : World) (hg : G w) (hz : a.z ≠ 0) (hr : jrun a x = 0) (hs : jrise a y = 0) : Calls Tryd.prog 33 #[JV a, GV ⟨x, y, false⟩] w (Ret (JV (jtwice a)) w) := by
  have hp0 := Heap.start w
  go_enter Tryd.func33, Tryd.ntmps33
  refine wp_seq_k (fun K1 k1 => ?_)
  refine gs [.alloc (JC a), .alloc (GC ⟨x, y, false⟩), .alloc (JC ⟨0, 0, 0⟩)] [0, 1, 2] [0, 0, 0] (fun L => [JV a, GV ⟨x, y, false⟩, pt (L.b 0) 0, pt (L.b 1) 0, pt (L.b 2) 0] ++ U 43) (fun L => [(L.b 0, JC a), (L.b 1, GC ⟨x, y, false⟩), (L.b 2, JC ⟨0, 0, 0⟩)]) hp0 ⟨
    oB, oB, oZ rJ,
    trivial⟩ (fun L0 w1 hp1 => ?_)
  refine k1 _ _ ?_
  refine wp_seq_k (fun K2 k2 => ?_)
  refine wp_seq_k (fun K3 k3 => ?_)
  refine gs [.det (pt (L0.b 1) 24), .det (.bool false)] [0, 1] [0, 1] (fun L => [JV a, GV ⟨x, y, false⟩, pt (L0.b 0) 0, pt (L0.b 1) 0, pt (L0.b 2) 0, undef, undef, undef, pt (L0.b 1) 24, .bool false] ++ U 38) (fun L => [((L0.b 0), JC a), ((L0.b 1), GC ⟨x, y, false⟩), ((L0.b 2), JC ⟨0, 0, 0⟩)]) hp1 ⟨
    oF fG2, oL1 1 24 oneB,
    trivial⟩ (fun L1 w2 hp2 => ?_)
  refine k3 _ _ ?_
  refine wp_cond_false (by kernel_rfl) ?_
  refine skips ?_
  refine k2 _ _ ?_
  refine wp_seq_k (fun K4 k4 => ?_)
  refine wp_seq_k (fun K5 k5 => ?_)
  refine gs [.det (JV a), .det (.bool false)] [0, 1] [0, 1] (fun L => [JV a, GV ⟨x, y, false⟩, pt (L0.b 0) 0, pt (L0.b 1) 0, pt (L0.b 2) 0, undef, undef, undef, pt (L0.b 1) 24, .bool false, undef, JV a, .bool false] ++ U 35) (fun L => [((L0.b 0), JC a), ((L0.b 1), GC ⟨x, y, false⟩), ((L0.b 2), JC ⟨0, 0, 0⟩)]) hp2 ⟨
    oL 0 0 rJ, oH (v := .bool false) (vs := #[JV a]) (fun w hb _ => by have h := g2isInf K a w (K.stay hg hb); rw [decide_eq_false hz] at h; exact h),
    trivial⟩ (fun L2 w3 hp3 => ?_)
  refine k5 _ _ ?_
  refine wp_cond_false (by kernel_rfl) ?_
  refine skips ?_
  refine k4 _ _ ?_
  refine wp_seq_k (fun K6 k6 => ?_)
  refine gs [.det (pt (L0.b 0) 24), .det (PV a.z), .det (PV (a.z * a.z)), .alloc (PC 0), .store (.new 3) 0 (PC (a.z * a.z)) (PC (a.z * a.z))] [0, 1, 2, 3, 4] [0, 1, 3, 0, 15] (fun L => [JV a, GV ⟨x, y, false⟩, pt (L0.b 0) 0, pt (L0.b 1) 0, pt (L0.b 2) 0, pt (L.b 3) 0, undef, undef, pt (L0.b 1) 24, .bool false, undef, JV a, .bool false, undef, undef, pt (L0.b 0) 24, PV a.z, PV (a.z * a.z)] ++ U 30) (fun L => [((L0.b 0), JC a), ((L0.b 1), GC ⟨x, y, false⟩), ((L0.b 2), JC ⟨0, 0, 0⟩), (L.b 3, PC (a.z * a.z))]) hp3 ⟨
    oF fJ2, oL 0 24 rP, oC K.stay hg (g2square K a.z), oZ rP, oT rP,
    trivial⟩ (fun L3 w4 hp4 => ?_)
  refine k6 _ _ ?_
  refine wp_seq_k (fun K7 k7 => ?_)
  refine dr [.det (pt (L0.b 1) 0), .det (PV x), .det (PV (a.z * a.z)), .det (PV (x * (a.z * a.z))), .det (pt (L0.b 0) 0), .det (PV a.x), .det (PV ((x * (a.z * a.z)) - a.x)), .alloc (PC 0), .store (.new 7) 0 (PC ((x * (a.z * a.z)) - a.x)) (PC ((x * (a.z * a.z)) - a.x))] [0, 1, 2, 3, 4, 5, 6, 7, 8] [0, 1, 0, 7, 0, 16, 63, 0, 255] (fun L => [JV a, GV ⟨x, y, false⟩, pt (L0.b 0) 0, pt (L0.b 1) 0, pt (L0.b 2) 0, pt (L3.b 3) 0, pt (L.b 7) 0, undef, pt (L0.b 1) 24, .bool false, undef, JV a, .bool false, undef, undef, pt (L0.b 0) 24, PV a.z, PV (a.z * a.z), pt (L0.b 1) 0, PV x, PV (a.z * a.z), PV (x * (a.z * a.z)), pt (L0.b 0) 0, PV a.x, PV ((x * (a.z * a.z)) - a.x)] ++ U 23) (fun L => [((L0.b 0), JC a), ((L0.b 1), GC ⟨x, y, false⟩), ((L0.b 2), JC ⟨0, 0, 0⟩), ((L3.b 3), PC (a.z * a.z)), (L.b 7, PC ((x * (a.z * a.z)) - a.x))]) hp4 ⟨
    oF fG0, oL 1 0 rP, oL 3 0 rP, oC K.stay hg (fp2Mul K x (a.z * a.z)), oF fJ0, oL 0 0 rP, oC K.stay hg (fp2Sub K (x * (a.z * a.z)) a.x), oZ rP, oT rP,
    trivial⟩ (fun L4 w5 hp5 => ?_)
  refine k7 _ _ ?_
  refine wp_seq_k (fun K8 k8 => ?_)
  refine dr [.det (pt (L0.b 1) 12), .det (PV y), .det (PV (a.z * a.z)), .det (pt (L0.b 0) 24), .det (PV a.z), .det (PV ((a.z * a.z) * a.z)), .det (PV (y * ((a.z * a.z) * a.z))), .det (pt (L0.b 0) 12), .det (PV a.y), .det (PV ((y * ((a.z * a.z) * a.z)) - a.y)), .alloc (PC 0), .store (.new 10) 0 (PC ((y * ((a.z * a.z) * a.z)) - a.y)) (PC ((y * ((a.z * a.z) * a.z)) - a.y))] [0, 1, 2, 3, 4, 5, 6, 7, 8, 9, 10, 11] [0, 1, 0, 0, 8, 28, 63, 0, 128, 511, 0, 2047] (fun L => [JV a, GV ⟨x, y, false⟩, pt (L0.b 0) 0, pt (L0.b 1) 0, pt (L0.b 2) 0, pt (L3.b 3) 0, pt (L4.b 7) 0, pt (L.b 10) 0, pt (L0.b 1) 24, .bool false, undef, JV a, .bool false, undef, undef, pt (L0.b 0) 24, PV a.z, PV (a.z * a.z), pt (L0.b 1) 0, PV x, PV (a.z * a.z), PV (x * (a.z * a.z)), pt (L0.b 0) 0, PV a.x, PV ((x * (a.z * a.z)) - a.x), pt (L0.b 1) 12, PV y, PV (a.z * a.z), pt (L0.b 0) 24, PV a.z, PV ((a.z * a.z) * a.z), PV (y * ((a.z * a.z) * a.z)), pt (L0.b 0) 12, PV a.y, PV ((y * ((a.z * a.z) * a.z)) - a.y)] ++ U 13) (fun L => [((L0.b 0), JC a), ((L0.b 1), GC ⟨x, y, false⟩), ((L0.b 2), JC ⟨0, 0, 0⟩), ((L3.b 3), PC (a.z * a.z)), ((L4.b 7), PC ((x * (a.z * a.z)) - a.x)), (L.b 10, PC ((y * ((a.z * a.z) * a.z)) - a.y))]) hp5 ⟨
    oF fG1, oL 1 12 rP, oL 3 0 rP, oF fJ2, oL 0 24 rP, oC K.stay hg (fp2Mul K (a.z * a.z) a.z), oC K.stay hg (fp2Mul K y ((a.z * a.z) * a.z)), oF fJ1, oL 0 12 rP,
    oC K.stay hg (fp2Sub K (y * ((a.z * a.z) * a.z)) a.y), oZ rP, oT rP,
    trivial⟩ (fun L5 w6 hp6 => ?_)
  refine k8 _ _ ?_
  refine wp_seq_k (fun K9 k9 => ?_)
  refine wp_seq_k (fun K10 k10 => ?_)
  refine gs [.det (PV ((x * (a.z * a.z)) - a.x)), .det (PV 0), .det (.bool false)] [0, 1, 2] [0, 0, 3] (fun L => [JV a, GV ⟨x, y, false⟩, pt (L0.b 0) 0, pt (L0.b 1) 0, pt (L0.b 2) 0, pt (L3.b 3) 0, pt (L4.b 7) 0, pt (L5.b 10) 0, pt (L0.b 1) 24, .bool false, undef, JV a, .bool false, undef, undef, pt (L0.b 0) 24, PV a.z, PV (a.z * a.z), pt (L0.b 1) 0, PV x, PV (a.z * a.z), PV (x * (a.z * a.z)), pt (L0.b 0) 0, PV a.x, PV ((x * (a.z * a.z)) - a.x), pt (L0.b 1) 12, PV y, PV (a.z * a.z), pt (L0.b 0) 24, PV a.z, PV ((a.z * a.z) * a.z), PV (y * ((a.z * a.z) * a.z)), pt (L0.b 0) 12, PV a.y, PV ((y * ((a.z * a.z) * a.z)) - a.y), PV ((x * (a.z * a.z)) - a.x), PV 0, .bool false] ++ U 10) (fun L => [((L0.b 0), JC a), ((L0.b 1), GC ⟨x, y, false⟩), ((L0.b 2), JC ⟨0, 0, 0⟩), ((L3.b 3), PC (a.z * a.z)), ((L4.b 7), PC ((x * (a.z * a.z)) - a.x)), ((L5.b 10), PC ((y * ((a.z * a.z) * a.z)) - a.y))]) hp6 ⟨
    oL 4 0 rP, oD buildP0, oU (a := ((x * (a.z * a.z)) - a.x)) (b := 0) qP (nay' hr),
    trivial⟩ (fun L6 w7 hp7 => ?_)
  refine k10 _ _ ?_
  refine wp_cond_false (by kernel_rfl) ?_
  refine skips ?_
  refine k9 _ _ ?_
  refine wp_seq_k (fun K11 k11 => ?_)
  refine wp_seq_k (fun K12 k12 => ?_)
  refine gs [.det (PV ((y * ((a.z * a.z) * a.z)) - a.y)), .det (PV 0), .det (.bool false)] [0, 1, 2] [0, 0, 3] (fun L => [JV a, GV ⟨x, y, false⟩, pt (L0.b 0) 0, pt (L0.b 1) 0, pt (L0.b 2) 0, pt (L3.b 3) 0, pt (L4.b 7) 0, pt (L5.b 10) 0, pt (L0.b 1) 24, .bool false, undef, JV a, .bool false, undef, undef, pt (L0.b 0) 24, PV a.z, PV (a.z * a.z), pt (L0.b 1) 0, PV x, PV (a.z * a.z), PV (x * (a.z * a.z)), pt (L0.b 0) 0, PV a.x, PV ((x * (a.z * a.z)) - a.x), pt (L0.b 1) 12, PV y, PV (a.z * a.z), pt (L0.b 0) 24, PV a.z, PV ((a.z * a.z) * a.z), PV (y * ((a.z * a.z) * a.z)), pt (L0.b 0) 12, PV a.y, PV ((y * ((a.z * a.z) * a.z)) - a.y), PV ((x * (a.z * a.z)) - a.x), PV 0, .bool false, undef, undef, undef, undef, PV ((y * ((a.z * a.z) * a.z)) - a.y), PV 0, .bool false, undef, undef, undef]) (fun L => [((L0.b 0), JC a), ((L0.b 1), GC ⟨x, y, false⟩), ((L0.b 2), JC ⟨0, 0, 0⟩), ((L3.b 3), PC (a.z * a.z)), ((L4.b 7), PC ((x * (a.z * a.z)) - a.x)), ((L5.b 10), PC ((y * ((a.z * a.z) * a.z)) - a.y))]) hp7 ⟨
    oL 5 0 rP, oD buildP0, oU (a := ((y * ((a.z * a.z) * a.z)) - a.y)) (b := 0) qP (nay' hs),
    trivial⟩ (fun L7 w8 hp8 => ?_)
  refine k12 _ _ ?_
  refine wp_cond_false (by kernel_rfl) ?_
  refine skips ?_
  refine k11 _ _ ?_
  refine wp_seq_k (fun K13 k13 => ?_)
  refine gs [.det (JV a), .det (JV (jtwice a)), .store (.base 2) 0 (JC (jtwice a)) (JC (jtwice a))] [0, 1, 2] [0, 1, 3] (fun L => [JV a, GV ⟨x, y, false⟩, pt (L0.b 0) 0, pt (L0.b 1) 0, pt (L0.b 2) 0, pt (L3.b 3) 0, pt (L4.b 7) 0, pt (L5.b 10) 0, pt (L0.b 1) 24, .bool false, undef, JV a, .bool false, undef, undef, pt (L0.b 0) 24, PV a.z, PV (a.z * a.z), pt (L0.b 1) 0, PV x, PV (a.z * a.z), PV (x * (a.z * a.z)), pt (L0.b 0) 0, PV a.x, PV ((x * (a.z * a.z)) - a.x), pt (L0.b 1) 12, PV y, PV (a.z * a.z), pt (L0.b 0) 24, PV a.z, PV ((a.z * a.z) * a.z), PV (y * ((a.z * a.z) * a.z)), pt (L0.b 0) 12, PV a.y, PV ((y * ((a.z * a.z) * a.z)) - a.y), PV ((x * (a.z * a.z)) - a.x), PV 0, .bool false, undef, undef, undef, undef, PV ((y * ((a.z * a.z) * a.z)) - a.y), PV 0, .bool false, undef, JV a, JV (jtwice a)]) (fun L => [((L0.b 0), JC a), ((L0.b 1), GC ⟨x, y, false⟩), ((L0.b 2), JC (jtwice a)), ((L3.b 3), PC (a.z * a.z)), ((L4.b 7), PC ((x * (a.z * a.z)) - a.x)), ((L5.b 10), PC ((y * ((a.z * a.z) * a.z)) - a.y))]) hp8 ⟨
    oL 0 0 rJ, oC K.stay hg (g2twice K a), oT rJ,
    trivial⟩ (fun L8 w9 hp9 => ?_)
  refine k13 _ _ ?_
  refine wp_ret ?_
  refine bodyPost_ret (v := JV (jtwice a)) ?_ rfl ?_
  · exact rc rJ rfl (by kernel_rfl) (hp9.bound 2 rfl).2
  · exact ⟨rfl, hp9.bel⟩
theorem g2plus {G : World → Prop} (K : FpK G) (a : Jc F2) (P : Pt F2) (w : World) (hg : G w) : Calls Tryd.prog 33 #[JV a, GV (gp P)] w (Ret (JV (jplus a P)) w) := by
  cases P with
  | inf => exact g2plus0 K a w hg
  | aff x y =>
    rw [jplus_aff]
    by_cases hz : a.z = 0
    · rw [if_pos hz]; exact g2plus1 K a x y w hg hz
    · rw [if_neg hz]
      by_cases hr : jrun a x = 0
      · rw [if_neg (fun h => h hr)]
        by_cases hs : jrise a y = 0
        · rw [if_neg (fun h => h hs)]; exact g2plus4 K a x y w hg hz hr hs
        · rw [if_pos hs]; exact g2plus3 K a x y w hg hz hr hs
      · rw [if_pos hr]; exact g2plus2 K a x y w hg hz hr
set_option maxHeartbeats 4000000 in
theorem g2drop1 {G : World → Prop} (K : FpK G) (a : Jc F2) (w : World) (hg : G w) (hz : a.z ≠ 0) : Calls Tryd.prog 32 #[JV a] w (Ret (GV ⟨a.x * (F2.inv a.z * F2.inv a.z), a.y * (F2.inv a.z * F2.inv a.z * F2.inv a.z), false⟩) w) := by
  have hp0 := Heap.start w
  go_enter Tryd.func32, Tryd.ntmps32
  refine wp_seq_k (fun K1 k1 => ?_)
  refine gs [.alloc (JC a), .alloc (GC ⟨0, 0, false⟩)] [0, 1] [0, 0] (fun L => [JV a, pt (L.b 0) 0, pt (L.b 1) 0] ++ U 25) (fun L => [(L.b 0, JC a), (L.b 1, GC ⟨0, 0, false⟩)]) hp0 ⟨
    oB, oZ rG,
    trivial⟩ (fun L0 w1 hp1 => ?_)
  refine k1 _ _ ?_
  refine wp_seq_k (fun K2 k2 => ?_)
  refine gs [.det (pt (L0.b 0) 24), .det (PV a.z), .det (.tuple #[PV (F2.inv a.z), .int .i64 0]), .det (.tuple #[PV (F2.inv a.z), .int .i64 0]), .det (PV (F2.inv a.z)), .det (.int .i64 0), .alloc (PC 0), .store (.new 6) 0 (PC (F2.inv a.z)) (PC (F2.inv a.z)), .det (.int .i64 0)] [0, 1, 2, 3, 4, 5, 6, 7, 8] [0, 1, 3, 7, 15, 15, 0, 95, 255] (fun L => [JV a, pt (L0.b 0) 0, pt (L0.b 1) 0, pt (L.b 6) 0, .int .i64 0, undef, .tuple #[PV (F2.inv a.z), .int .i64 0], pt (L0.b 0) 24, PV a.z, .tuple #[PV (F2.inv a.z), .int .i64 0], PV (F2.inv a.z), .int .i64 0] ++ U 16) (fun L => [((L0.b 0), JC a), ((L0.b 1), GC ⟨0, 0, false⟩), (L.b 6, PC (F2.inv a.z))]) hp1 ⟨
    oF fJ2, oL 0 24 rP, oH (v := .tuple #[PV (F2.inv a.z), .int .i64 0]) (vs := #[PV a.z]) (fun w hb _ => fp2Inv K a.z w (K.stay hg hb) (F2.norm_ne hz)), oM, oX,
    oX, oZ rP, oT rP, oA,
    trivial⟩ (fun L1 w2 hp2 => ?_)
  refine k2 _ _ ?_
  refine wp_seq_k (fun K3 k3 => ?_)
  refine wp_seq_k (fun K4 k4 => ?_)
  refine gs [.det (.int .i64 0), .det (.bool false)] [0, 1] [0, 1] (fun L => [JV a, pt (L0.b 0) 0, pt (L0.b 1) 0, pt (L1.b 6) 0, .int .i64 0, undef, .tuple #[PV (F2.inv a.z), .int .i64 0], pt (L0.b 0) 24, PV a.z, .tuple #[PV (F2.inv a.z), .int .i64 0], PV (F2.inv a.z), .int .i64 0, .int .i64 0, .bool false] ++ U 14) (fun L => [((L0.b 0), JC a), ((L0.b 1), GC ⟨0, 0, false⟩), ((L1.b 6), PC (F2.inv a.z))]) hp2 ⟨
    oM, oJ .i64 .i64 0 0 (h := fun w => (neqI _ _ _ _ w).trans rfl),
    trivial⟩ (fun L2 w3 hp3 => ?_)
  refine k4 _ _ ?_
  refine wp_cond_false (by kernel_rfl) ?_
  refine skips ?_
  refine k3 _ _ ?_
  refine wp_seq_k (fun K5 k5 => ?_)
  refine gs [.det (PV (F2.inv a.z)), .det (PV ((F2.inv a.z) * (F2.inv a.z))), .alloc (PC 0), .store (.new 2) 0 (PC ((F2.inv a.z) * (F2.inv a.z))) (PC ((F2.inv a.z) * (F2.inv a.z)))] [0, 1, 2, 3] [0, 1, 0, 7] (fun L => [JV a, pt (L0.b 0) 0, pt (L0.b 1) 0, pt (L1.b 6) 0, .int .i64 0, pt (L.b 2) 0, .tuple #[PV (F2.inv a.z), .int .i64 0], pt (L0.b 0) 24, PV a.z, .tuple #[PV (F2.inv a.z), .int .i64 0], PV (F2.inv a.z), .int .i64 0, .int .i64 0, .bool false, undef, PV (F2.inv a.z), PV ((F2.inv a.z) * (F2.inv a.z))] ++ U 11) (fun L => [((L0.b 0), JC a), ((L0.b 1), GC ⟨0, 0, false⟩), ((L1.b 6), PC (F2.inv a.z)), (L.b 2, PC ((F2.inv a.z) * (F2.inv a.z)))]) hp3 ⟨
    oL 2 0 rP, oC K.stay hg (g2square K (F2.inv a.z)), oZ rP, oT rP,
    trivial⟩ (fun L3 w4 hp4 => ?_)
  refine k5 _ _ ?_
  refine wp_seq_k (fun K6 k6 => ?_)
  refine dr [.det (pt (L0.b 0) 0), .det (PV a.x), .det (PV ((F2.inv a.z) * (F2.inv a.z))), .det (PV (a.x * ((F2.inv a.z) * (F2.inv a.z)))), .det (pt (L0.b 0) 12), .det (PV a.y), .det (PV ((F2.inv a.z) * (F2.inv a.z))), .det (PV (F2.inv a.z)), .det (PV (((F2.inv a.z) * (F2.inv a.z)) * (F2.inv a.z))), .det (PV (a.y * (((F2.inv a.z) * (F2.inv a.z)) * (F2.inv a.z)))), .det (GV ⟨(a.x * ((F2.inv a.z) * (F2.inv a.z))), (a.y * (((F2.inv a.z) * (F2.inv a.z)) * (F2.inv a.z))), false⟩), .store (.base 1) 0 (GC ⟨(a.x * ((F2.inv a.z) * (F2.inv a.z))), (a.y * (((F2.inv a.z) * (F2.inv a.z)) * (F2.inv a.z))), false⟩) (GC ⟨(a.x * ((F2.inv a.z) * (F2.inv a.z))), (a.y * (((F2.inv a.z) * (F2.inv a.z)) * (F2.inv a.z))), false⟩)] [0, 1, 2, 3, 4, 5, 6, 7, 8, 9, 10, 11] [0, 1, 0, 7, 0, 16, 0, 0, 207, 511, 1023, 2047] (fun L => [JV a, pt (L0.b 0) 0, pt (L0.b 1) 0, pt (L1.b 6) 0, .int .i64 0, pt (L3.b 2) 0, .tuple #[PV (F2.inv a.z), .int .i64 0], pt (L0.b 0) 24, PV a.z, .tuple #[PV (F2.inv a.z), .int .i64 0], PV (F2.inv a.z), .int .i64 0, .int .i64 0, .bool false, undef, PV (F2.inv a.z), PV ((F2.inv a.z) * (F2.inv a.z)), pt (L0.b 0) 0, PV a.x, PV ((F2.inv a.z) * (F2.inv a.z)), PV (a.x * ((F2.inv a.z) * (F2.inv a.z))), pt (L0.b 0) 12, PV a.y, PV ((F2.inv a.z) * (F2.inv a.z)), PV (F2.inv a.z), PV (((F2.inv a.z) * (F2.inv a.z)) * (F2.inv a.z)), PV (a.y * (((F2.inv a.z) * (F2.inv a.z)) * (F2.inv a.z))), GV ⟨(a.x * ((F2.inv a.z) * (F2.inv a.z))), (a.y * (((F2.inv a.z) * (F2.inv a.z)) * (F2.inv a.z))), false⟩]) (fun L => [((L0.b 0), JC a), ((L0.b 1), GC ⟨(a.x * ((F2.inv a.z) * (F2.inv a.z))), (a.y * (((F2.inv a.z) * (F2.inv a.z)) * (F2.inv a.z))), false⟩), ((L1.b 6), PC (F2.inv a.z)), ((L3.b 2), PC ((F2.inv a.z) * (F2.inv a.z)))]) hp4 ⟨
    oF fJ0, oL 0 0 rP, oL 3 0 rP, oC K.stay hg (fp2Mul K a.x ((F2.inv a.z) * (F2.inv a.z))), oF fJ1, oL 0 12 rP, oL 3 0 rP, oL 2 0 rP, oC K.stay hg (fp2Mul K ((F2.inv a.z) * (F2.inv a.z)) (F2.inv a.z)),
    oC K.stay hg (fp2Mul K a.y (((F2.inv a.z) * (F2.inv a.z)) * (F2.inv a.z))), oD (buildG01 (a.x * ((F2.inv a.z) * (F2.inv a.z))) (a.y * (((F2.inv a.z) * (F2.inv a.z)) * (F2.inv a.z)))),
    oT rG,
    trivial⟩ (fun L4 w5 hp5 => ?_)
  refine k6 _ _ ?_
  refine wp_ret ?_
  refine bodyPost_ret (v := GV ⟨(a.x * ((F2.inv a.z) * (F2.inv a.z))), (a.y * (((F2.inv a.z) * (F2.inv a.z)) * (F2.inv a.z))), false⟩) ?_ rfl ?_
  · exact rc rG rfl (by kernel_rfl) (hp5.bound 1 rfl).2
  · exact ⟨rfl, hp5.bel⟩
set_option maxHeartbeats 4000000 in
theorem g2drop0 {G : World → Prop} (K : FpK G) (x y : F2) (w : World) (hg : G w) : Calls Tryd.prog 32 #[JV ⟨x, y, 0⟩] w (Ret (GV ⟨0, 0, true⟩) w) := by
  have hp0 := Heap.start w
  go_enter Tryd.func32, Tryd.ntmps32
  refine wp_seq_k (fun K1 k1 => ?_)
  refine gs [.alloc (JC ⟨x, y, 0⟩), .alloc (GC ⟨0, 0, false⟩)] [0, 1] [0, 0] (fun L => [JV ⟨x, y, 0⟩, pt (L.b 0) 0, pt (L.b 1) 0] ++ U 25) (fun L => [(L.b 0, JC ⟨x, y, 0⟩), (L.b 1, GC ⟨0, 0, false⟩)]) hp0 ⟨
    oB, oZ rG,
    trivial⟩ (fun L0 w1 hp1 => ?_)
  refine k1 _ _ ?_
  refine wp_seq_k (fun K2 k2 => ?_)
  refine gs [.det (pt (L0.b 0) 24), .det (PV 0), .det (.tuple #[PV 0, .int .i64 7]), .det (.tuple #[PV 0, .int .i64 7]), .det (PV 0), .det (.int .i64 7), .alloc (PC 0), .store (.new 6) 0 (PC 0) (PC 0), .det (.int .i64 7)] [0, 1, 2, 3, 4, 5, 6, 7, 8] [0, 1, 3, 7, 15, 15, 0, 95, 255] (fun L => [JV ⟨x, y, 0⟩, pt (L0.b 0) 0, pt (L0.b 1) 0, pt (L.b 6) 0, .int .i64 7, undef, .tuple #[PV 0, .int .i64 7], pt (L0.b 0) 24, PV 0, .tuple #[PV 0, .int .i64 7], PV 0, .int .i64 7] ++ U 16) (fun L => [((L0.b 0), JC ⟨x, y, 0⟩), ((L0.b 1), GC ⟨0, 0, false⟩), (L.b 6, PC 0)]) hp1 ⟨
    oF fJ2, oL 0 24 rP, oH (v := .tuple #[PV 0, .int .i64 7]) (vs := #[PV 0]) (fun w hb _ => fp2Inv0 K 0 w (K.stay hg hb) (by kernel_rfl)), oM, oX, oX, oZ rP, oT rP,
    oA,
    trivial⟩ (fun L1 w2 hp2 => ?_)
  refine k2 _ _ ?_
  refine wp_seq_k (fun K3 k3 => ?_)
  refine wp_seq_k (fun K4 k4 => ?_)
  refine gs [.det (.int .i64 7), .det (.bool true)] [0, 1] [0, 1] (fun L => [JV ⟨x, y, 0⟩, pt (L0.b 0) 0, pt (L0.b 1) 0, pt (L1.b 6) 0, .int .i64 7, undef, .tuple #[PV 0, .int .i64 7], pt (L0.b 0) 24, PV 0, .tuple #[PV 0, .int .i64 7], PV 0, .int .i64 7, .int .i64 7, .bool true] ++ U 14) (fun L => [((L0.b 0), JC ⟨x, y, 0⟩), ((L0.b 1), GC ⟨0, 0, false⟩), ((L1.b 6), PC 0)]) hp2 ⟨
    oM, oJ .i64 .i64 7 0 (h := fun w => (neqI _ _ _ _ w).trans rfl),
    trivial⟩ (fun L2 w3 hp3 => ?_)
  refine k4 _ _ ?_
  refine wp_cond_true (by kernel_rfl) ?_
  refine wp_seq_k (fun K5 k5 => ?_)
  refine gs [.det (GV ⟨0, 0, true⟩), .store (.base 1) 0 (GC ⟨0, 0, true⟩) (GC ⟨0, 0, true⟩)] [0, 1] [0, 1] (fun L => [JV ⟨x, y, 0⟩, pt (L0.b 0) 0, pt (L0.b 1) 0, pt (L1.b 6) 0, .int .i64 7, undef, .tuple #[PV 0, .int .i64 7], pt (L0.b 0) 24, PV 0, .tuple #[PV 0, .int .i64 7], PV 0, .int .i64 7, .int .i64 7, .bool true, GV ⟨0, 0, true⟩] ++ U 13) (fun L => [((L0.b 0), JC ⟨x, y, 0⟩), ((L0.b 1), GC ⟨0, 0, true⟩), ((L1.b 6), PC 0)]) hp3 ⟨
    oD (buildGi true), oT rG,
    trivial⟩ (fun L3 w4 hp4 => ?_)
  refine k5 _ _ ?_
  refine wp_ret ?_
  refine bodyPost_ret (v := GV ⟨0, 0, true⟩) ?_ rfl ?_
  · exact rc rG rfl (by kernel_rfl) (hp4.bound 1 rfl).2
  · exact ⟨rfl, hp4.bel⟩
theorem g2drop {G : World → Prop} (K : FpK G) (a : Jc F2) (w : World) (hg : G w) : Calls Tryd.prog 32 #[JV a] w (Ret (GV (gp (jdrop F2.inv a))) w) := by
  unfold jdrop
  by_cases hz : a.z = 0
  · rw [if_pos hz]
    obtain ⟨x, y, z⟩ := a
    have hz' : z = 0 := hz
    subst hz'
    exact g2drop0 K x y w hg
  · rw [if_neg hz]; exact g2drop1 K a w hg hz
set_option maxHeartbeats 4000000 in
theorem g2Neg1 {G : World → Prop} (K : FpK G) (x y : F2) (i : Bool) (w : World) (hg : G w) : Calls Tryd.prog 14 #[GV ⟨x, y, i⟩] w (Ret (GV ⟨x, -y, i⟩) w) := by
  have hp0 := Heap.start w
  go_enter Tryd.func14, Tryd.ntmps14
  refine wp_seq_k (fun K1 k1 => ?_)
  refine gs [.alloc (GC ⟨x, y, i⟩), .alloc (GC ⟨0, 0, false⟩)] [0, 1] [0, 0] (fun L => [GV ⟨x, y, i⟩, pt (L.b 0) 0, pt (L.b 1) 0] ++ U 8) (fun L => [(L.b 0, GC ⟨x, y, i⟩), (L.b 1, GC ⟨0, 0, false⟩)]) hp0 ⟨
    oB, oZ rG,
    trivial⟩ (fun L0 w1 hp1 => ?_)
  refine k1 _ _ ?_
  refine wp_seq_k (fun K2 k2 => ?_)
  refine dr [.det (pt (L0.b 0) 0), .det (PV x), .det (pt (L0.b 0) 12), .det (PV y), .det (PV (-y)), .det (pt (L0.b 0) 24), .det (.bool i), .det (GV ⟨x, (-y), i⟩), .store (.base 1) 0 (GC ⟨x, (-y), i⟩) (GC ⟨x, (-y), i⟩)] [0, 1, 2, 3, 4, 5, 6, 7, 8] [0, 1, 0, 4, 12, 0, 32, 127, 255] (fun L => [GV ⟨x, y, i⟩, pt (L0.b 0) 0, pt (L0.b 1) 0, pt (L0.b 0) 0, PV x, pt (L0.b 0) 12, PV y, PV (-y), pt (L0.b 0) 24, .bool i, GV ⟨x, (-y), i⟩]) (fun L => [((L0.b 0), GC ⟨x, y, i⟩), ((L0.b 1), GC ⟨x, (-y), i⟩)]) hp1 ⟨
    oF fG0, oL 0 0 rP, oF fG1, oL 0 12 rP, oC K.stay hg (fp2Neg K y), oF fG2, oL1 0 24 oneB, oD (buildG012 x (-y) i), oT rG,
    trivial⟩ (fun L1 w2 hp2 => ?_)
  refine k2 _ _ ?_
  refine wp_ret ?_
  refine bodyPost_ret (v := GV ⟨x, (-y), i⟩) ?_ rfl ?_
  · exact rc rG rfl (by kernel_rfl) (hp2.bound 1 rfl).2
  · exact ⟨rfl, hp2.bel⟩
theorem g2Neg {G : World → Prop} (K : FpK G) (P : Pt F2) (w : World) (hg : G w) : Calls Tryd.prog 14 #[GV (gp P)] w (Ret (GV (gp (neg P))) w) := by
  cases P with
  | inf =>
    have h := g2Neg1 K 0 0 true w hg
    rw [show (-0 : F2) = 0 from Rn.neg_zero] at h
    exact h
  | aff x y => exact g2Neg1 K x y false w hg
set_option maxHeartbeats 4000000 in
theorem g2Equal1 {G : World → Prop} (K : FpK G) (p q : G2p) (w : World) (hg : G w) : Calls Tryd.prog 18 #[GV p, GV q] w (Ret (.bool (decide (p = q))) w) := by
  have hp0 := Heap.start w
  go_enter Tryd.func18, Tryd.ntmps18
  refine wp_seq_k (fun K1 k1 => ?_)
  refine gs [.alloc (GC p), .alloc (GC q), .det (.bool false)] [0, 1, 2] [0, 0, 0] (fun L => [GV p, GV q, pt (L.b 0) 0, pt (L.b 1) 0, .bool false, undef, undef, undef]) (fun L => [(L.b 0, GC p), (L.b 1, GC q)]) hp0 ⟨
    oB, oB, oA,
    trivial⟩ (fun L0 w1 hp1 => ?_)
  refine k1 _ _ ?_
  refine wp_seq_k (fun K2 k2 => ?_)
  refine gs [.det (GV p), .det (GV q), .det (.bool (decide (p = q))), .det (.bool (decide (p = q)))] [0, 1, 2, 3] [0, 0, 3, 7] (fun L => [GV p, GV q, pt (L0.b 0) 0, pt (L0.b 1) 0, .bool (decide (p = q)), GV p, GV q, .bool (decide (p = q))]) (fun L => [((L0.b 0), GC p), ((L0.b 1), GC q)]) hp1 ⟨
    oL 0 0 rG, oL 1 0 rG, oE (a := p) (b := q) qG rfl, oA,
    trivial⟩ (fun L1 w2 hp2 => ?_)
  refine k2 _ _ ?_
  refine wp_ret ?_
  refine bodyPost_ret (v := .bool (decide (p = q))) ?_ rfl ?_
  · exact res_t rfl (by kernel_rfl) _
  · exact ⟨rfl, hp2.bel⟩
theorem g2Equal {G : World → Prop} (K : FpK G) (P Q : Pt F2) (w : World) (hg : G w) : Calls Tryd.prog 18 #[GV (gp P), GV (gp Q)] w (Ret (.bool (decide (P = Q))) w) := by
  have h := g2Equal1 K (gp P) (gp Q) w hg
  rw [show decide (gp P = gp Q) = decide (P = Q) from decide_eq_decide.2 ⟨gp_inj, fun h => by rw [h]⟩] at h
  exact h
set_option maxHeartbeats 4000000 in
theorem g2One {G : World → Prop} (K : FpK G)  (w : World) (hg : G w) : Calls Tryd.prog 26 #[] w (Ret (GV (gp gen2)) w) := by
  have hp0 := Heap.start w
  go_enter Tryd.func26, Tryd.ntmps26
  refine wp_seq_k (fun K1 k1 => ?_)
  refine gs [.alloc (GC ⟨0, 0, false⟩)] [0] [0] (fun L => [pt (L.b 0) 0] ++ U 7) (fun L => [(L.b 0, GC ⟨0, 0, false⟩)]) hp0 ⟨
    oZ rG,
    trivial⟩ (fun L0 w1 hp1 => ?_)
  refine k1 _ _ ?_
  refine wp_seq_k (fun K2 k2 => ?_)
  refine gs [.det (FV g2x.c0), .det (FV g2x.c1), .det (PV ⟨g2x.c0, g2x.c1⟩), .det (FV g2y.c0), .det (FV g2y.c1), .det (PV ⟨g2y.c0, g2y.c1⟩), .det (GV ⟨⟨g2x.c0, g2x.c1⟩, ⟨g2y.c0, g2y.c1⟩, false⟩), .store (.base 0) 0 (GC ⟨⟨g2x.c0, g2x.c1⟩, ⟨g2y.c0, g2y.c1⟩, false⟩) (GC ⟨⟨g2x.c0, g2x.c1⟩, ⟨g2y.c0, g2y.c1⟩, false⟩)] [0, 1, 2, 3, 4, 5, 6, 7] [0, 0, 3, 0, 0, 24, 63, 127] (fun L => [pt (L0.b 0) 0, FV g2x.c0, FV g2x.c1, PV ⟨g2x.c0, g2x.c1⟩, FV g2y.c0, FV g2y.c1, PV ⟨g2y.c0, g2y.c1⟩, GV ⟨⟨g2x.c0, g2x.c1⟩, ⟨g2y.c0, g2y.c1⟩, false⟩]) (fun L => [((L0.b 0), GC ⟨⟨g2x.c0, g2x.c1⟩, ⟨g2y.c0, g2y.c1⟩, false⟩)]) hp1 ⟨
    oD buildFg2x0, oD buildFg2x1, oD (buildP g2x.c0 g2x.c1), oD buildFg2y0, oD buildFg2y1, oD (buildP g2y.c0 g2y.c1), oD (buildG01 ⟨g2x.c0, g2x.c1⟩ ⟨g2y.c0, g2y.c1⟩),
    oT rG,
    trivial⟩ (fun L1 w2 hp2 => ?_)
  refine k2 _ _ ?_
  refine wp_ret ?_
  refine bodyPost_ret (v := GV ⟨⟨g2x.c0, g2x.c1⟩, ⟨g2y.c0, g2y.c1⟩, false⟩) ?_ rfl ?_
  · exact rc rG rfl (by kernel_rfl) (hp2.bound 0 rfl).2
  · exact ⟨rfl, hp2.bel⟩
set_option maxHeartbeats 4000000 in
theorem g2AddJ {G : World → Prop} (K : FpK G) (P Q : Pt F2) (w : World) (hg : G w) : Calls Tryd.prog 12 #[GV (gp P), GV (gp Q)] w (Ret (GV (gp (jdrop F2.inv (jplus (jlift P) Q)))) w) := by
  have hp0 := Heap.start w
  go_enter Tryd.func12, Tryd.ntmps12
  refine wp_seq_k (fun K1 k1 => ?_)
  refine gs [.alloc (GC (gp P)), .alloc (GC (gp Q)), .alloc (GC ⟨0, 0, false⟩)] [0, 1, 2] [0, 0, 0] (fun L => [GV (gp P), GV (gp Q), pt (L.b 0) 0, pt (L.b 1) 0, pt (L.b 2) 0] ++ U 5) (fun L => [(L.b 0, GC (gp P)), (L.b 1, GC (gp Q)), (L.b 2, GC ⟨0, 0, false⟩)]) hp0 ⟨
    oB, oB, oZ rG,
    trivial⟩ (fun L0 w1 hp1 => ?_)
  refine k1 _ _ ?_
  refine wp_seq_k (fun K2 k2 => ?_)
  refine dr [.det (GV (gp P)), .det (JV (jlift P)), .det (GV (gp Q)), .det (JV (jplus (jlift P) Q)), .det (GV (gp (jdrop F2.inv (jplus (jlift P) Q)))), .store (.base 2) 0 (GC (gp (jdrop F2.inv (jplus (jlift P) Q)))) (GC (gp (jdrop F2.inv (jplus (jlift P) Q))))] [0, 1, 2, 3, 4, 5] [0, 1, 0, 7, 15, 31] (fun L => [GV (gp P), GV (gp Q), pt (L0.b 0) 0, pt (L0.b 1) 0, pt (L0.b 2) 0, GV (gp P), JV (jlift P), GV (gp Q), JV (jplus (jlift P) Q), GV (gp (jdrop F2.inv (jplus (jlift P) Q)))]) (fun L => [((L0.b 0), GC (gp P)), ((L0.b 1), GC (gp Q)), ((L0.b 2), GC (gp (jdrop F2.inv (jplus (jlift P) Q))))]) hp1 ⟨
    oL 0 0 rG, oC K.stay hg (g2lift K P), oL 1 0 rG, oC K.stay hg (g2plus K (jlift P) Q), oC K.stay hg (g2drop K (jplus (jlift P) Q)), oT rG,
    trivial⟩ (fun L1 w2 hp2 => ?_)
  refine k2 _ _ ?_
  refine wp_ret ?_
  refine bodyPost_ret (v := GV (gp (jdrop F2.inv (jplus (jlift P) Q)))) ?_ rfl ?_
  · exact rc rG rfl (by kernel_rfl) (hp2.bound 2 rfl).2
  · exact ⟨rfl, hp2.bel⟩
theorem g2Add {G : World → Prop} (K : FpK G) (P Q : Pt F2) (w : World) (hg : G w) (hP : On b2 P) (hQ : On b2 Q) : Calls Tryd.prog 12 #[GV (gp P), GV (gp Q)] w (Ret (GV (gp (add F2.inv P Q))) w) := by
  have h := g2AddJ K P Q w hg
  rw [JRep.drop crv2 (JRep.plus crv2 hP hQ (JRep.lift crv2 P))] at h
  exact h
end Go.Proofs.YthehnlpgmkjefaaDoor.fpn.T2
