/- HG I8. -/
import Derived.Test.YtoehglidlakahaaDoorGE
import Derived.Test.YtoehglidlakahaaDoorGC
import Derived.Test.YtoehglidlakahaaDoorGJ
import Derived.Laws.Tables
/- Points, their three numbers, scalars: cells, fields, how they are held against each other and built. -/
namespace Go.Proofs.YtoehglidlakahaaDoor.fpn
open Go.RowKit Pl EC
set_option linter.unusedVariables false
set_option linter.unusedSimpArgs false
set_option maxRecDepth 4000

/-- A point as the package has it. -/
structure G1p where
  x : F
  y : F
  i : Bool
  deriving DecidableEq
theorem G1p.ext' {a b : G1p} (h0 : a.x = b.x) (h1 : a.y = b.y) (h2 : a.i = b.i) : a = b := by cases a; cases b; simp_all
/-- A point of the curve, so. -/
def gp : Pt F → G1p
  | .inf => ⟨0, 0, true⟩
  | .aff x y => ⟨x, y, false⟩
theorem gp_inj {P Q : Pt F} (h : gp P = gp Q) : P = Q := by
  cases P <;> cases Q <;> simp_all [gp]
def GC (p : G1p) : List Value := FC p.x ++ FC p.y ++ [.bool p.i]
def GV (p : G1p) : Value := .agg (GC p).toArray
/-- .. of limbs that may be anything. -/
def QGC (f g : Nat → Int) (i : Bool) : List Value := QC f ++ QC g ++ [.bool i]
def QGV (f g : Nat → Int) (i : Bool) : Value := .agg (QGC f g i).toArray
def JC (a : Jc F) : List Value := FC a.x ++ FC a.y ++ FC a.z
def JV (a : Jc F) : Value := .agg (JC a).toArray
/-- Three pairs. -/
structure Pj where
  x : F2
  y : F2
  z : F2
theorem Pj.ext' {a b : Pj} (h0 : a.x = b.x) (h1 : a.y = b.y) (h2 : a.z = b.z) : a = b := by cases a; cases b; simp_all
def PJC (a : Pj) : List Value := PC a.x ++ PC a.y ++ PC a.z
def PJV (a : Pj) : Value := .agg (PJC a).toArray
/-- A scalar's limbs. -/
def RC (n : Nat) : List Value := [.int .u64 (lb n 0), .int .u64 (lb n 1), .int .u64 (lb n 2), .int .u64 (lb n 3)]
def RV (n : Nat) : Value := .agg (RC n).toArray

theorem oneB : OneT Tryd.prog 4 := ⟨Tryd.isAgg4, by kernel_rfl⟩
theorem oneU : OneT Tryd.prog 22 := ⟨Tryd.isAgg22, by kernel_rfl⟩
theorem rG : RowT Tryd.prog 30 13 (GC ⟨0, 0, false⟩) := ⟨⟨_, Tryd.underlying30, rfl⟩, by kernel_rfl, by kernel_rfl⟩
theorem rJ : RowT Tryd.prog 56 18 (JC ⟨0, 0, 0⟩) := ⟨⟨_, Tryd.underlying56, rfl⟩, by kernel_rfl, by kernel_rfl⟩
theorem rPJ : RowT Tryd.prog 63 36 (PJC ⟨0, 0, 0⟩) := ⟨⟨_, Tryd.underlying63, rfl⟩, by kernel_rfl, by kernel_rfl⟩
theorem rR : RowT Tryd.prog 24 4 (RC 0) := ⟨⟨_, Tryd.underlying24, rfl⟩, by kernel_rfl, by kernel_rfl⟩
theorem aR : ArrT Tryd.prog 24 4 1 := ⟨⟨_, Tryd.underlying24, by kernel_rfl⟩⟩
theorem aF : ArrT Tryd.prog 28 6 1 := ⟨⟨_, Tryd.underlying28, by kernel_rfl⟩⟩
theorem fG0 : FldT Tryd.prog 30 0 0 5 := ⟨_, _, Tryd.underlying30, rfl, rfl, by kernel_rfl⟩
theorem fG1 : FldT Tryd.prog 30 1 6 5 := ⟨_, _, Tryd.underlying30, rfl, rfl, by kernel_rfl⟩
theorem fG2 : FldT Tryd.prog 30 2 12 0 := ⟨_, _, Tryd.underlying30, rfl, rfl, by kernel_rfl⟩
theorem fG2a (fs : Array Field) (f : Field) (h : Tryd.prog.underlying 30 = some (.struct fs)) (hf : fs[2]? = some f) (w : World) : (isAgg f.type).run Tryd.prog w = .ok false w := by
  have e := h.symm.trans Tryd.underlying30
  injection e with e
  injection e with e
  subst e
  have : f.type = 4 := by
    injection hf with hf
    subst hf; rfl
  rw [this]
  exact Tryd.isAgg4 w
theorem fJ0 : FldT Tryd.prog 56 0 0 5 := ⟨_, _, Tryd.underlying56, rfl, rfl, by kernel_rfl⟩
theorem fJ1 : FldT Tryd.prog 56 1 6 5 := ⟨_, _, Tryd.underlying56, rfl, rfl, by kernel_rfl⟩
theorem fJ2 : FldT Tryd.prog 56 2 12 5 := ⟨_, _, Tryd.underlying56, rfl, rfl, by kernel_rfl⟩
theorem fP0 : FldT Tryd.prog 63 0 0 11 := ⟨_, _, Tryd.underlying63, rfl, rfl, by kernel_rfl⟩
theorem fP1 : FldT Tryd.prog 63 1 12 11 := ⟨_, _, Tryd.underlying63, rfl, rfl, by kernel_rfl⟩
theorem fP2 : FldT Tryd.prog 63 2 24 11 := ⟨_, _, Tryd.underlying63, rfl, rfl, by kernel_rfl⟩

theorem eqN (d : Nat) (f g : Nat → Int) (w : World) : ∃ b : Bool, (b = true ↔ ∀ i, i < 6 → f i = g i) ∧ (Op.equalIn (d + 2) 28 (QV f) (QV g)).run Tryd.prog w = .ok b w := by
  have key : ∀ (a b c d' p q a' b' c' d'' p' q' : Int), (Op.equalIn (d + 2) 28 (.agg #[.int .u64 a, .int .u64 b, .int .u64 c, .int .u64 d', .int .u64 p, .int .u64 q]) (.agg #[.int .u64 a', .int .u64 b', .int .u64 c', .int .u64 d'', .int .u64 p', .int .u64 q'])).run Tryd.prog w = .ok (a == a' && (b == b' && (c == c' && (d' == d'' && (p == p' && q == q'))))) w := by
    intro a b c d' p q a' b' c' d'' p' q'
    have u3 := Tryd.underlying22
    have a3 := Tryd.isAgg22
    have z3 := Tryd.sizeOf22
    have hE : ∀ (x y : Int) (w : World), (Op.equalIn (d + 1) 22 (.int .u64 x) (.int .u64 y)).run Tryd.prog w = .ok (x == y) w := fun x y w => by
      rw [Op.equalIn.eq_def]
      simp [Sem.run_bind, run_underlying Tryd.underlying22]
    rw [show d + 2 = (d + 1) + 1 from rfl, Op.equalIn.eq_def]
    simp only [Sem.run_bind, run_underlying Tryd.underlying28, Result.andThen_ok]
    simp only [Std.Legacy.Range.forIn_eq_forIn_range', Std.Legacy.Range.size, Nat.sub_zero, Nat.add_sub_cancel, Nat.div_one, List.range'_succ, List.range'_zero, List.forIn_cons, List.forIn_nil]
    go_simp
    by_cases h1 : a = a'
    · by_cases h2 : b = b'
      · by_cases h3 : c = c'
        · by_cases h4 : d' = d''
          · by_cases h5 : p = p'
            · by_cases h6 : q = q' <;> simp [h1, h2, h3, h4, h5, h6]
            · simp [h1, h2, h3, h4, h5]
          · simp [h1, h2, h3, h4]
        · simp [h1, h2, h3]
      · simp [h1, h2]
    · simp [h1]
  refine ⟨_, ?_, key _ _ _ _ _ _ _ _ _ _ _ _⟩
  simp only [Bool.and_eq_true, beq_iff_eq]
  constructor
  · rintro ⟨h0, h1, h2, h3, h4, h5⟩ i hi
    rcases (show i = 0 ∨ i = 1 ∨ i = 2 ∨ i = 3 ∨ i = 4 ∨ i = 5 by omega) with rfl | rfl | rfl | rfl | rfl | rfl <;> assumption
  · intro h
    exact ⟨h 0 (by decide), h 1 (by decide), h 2 (by decide), h 3 (by decide), h 4 (by decide), h 5 (by decide)⟩
theorem notHeld : Tryd.prog.stoodInHeld 30 = false := by kernel_rfl
theorem QGC_cut0 (f g : Nat → Int) (i : Bool) : List.take 6 (QGC f g i) = QC f := rfl
theorem QGC_cut1 (f g : Nat → Int) (i : Bool) : List.take 6 (List.drop 6 (QGC f g i)) = QC g := rfl
theorem QGC_cut2 (f g : Nat → Int) (i : Bool) : (QGC f g i)[12]? = some (.bool i) := rfl
theorem QG_eq (d : Nat) (f g f' g' : Nat → Int) (i i' : Bool) (w : World) : ∃ b : Bool, (b = true ↔ (∀ k, k < 6 → f k = f' k) ∧ (∀ k, k < 6 → g k = g' k) ∧ i = i') ∧ (Op.equalIn (d + 3) 30 (QGV f g i) (QGV f' g' i')).run Tryd.prog w = .ok b w := by
  obtain ⟨b0, h0, e0⟩ := eqN d f f' w
  obtain ⟨b1, h1, e1⟩ := eqN d g g' w
  have e2 : (Op.equalIn (d + 2) 4 (.bool i) (.bool i')).run Tryd.prog w = .ok (i == i') w := by
    rw [show d + 2 = (d + 1) + 1 from rfl, Op.equalIn.eq_def]
    simp [Sem.run_bind, run_underlying Tryd.underlying4]
  have p0 : ∀ (f g : Nat → Int) (i : Bool), (part 28 (QGC f g i).toArray 0).run Tryd.prog w = .ok (QV f) w := fun f g i => by
    simp [part, Sem.run_bind, Tryd.isAgg28, Tryd.sizeOf28, QGC_cut0, QV]
  have p1 : ∀ (f g : Nat → Int) (i : Bool), (part 28 (QGC f g i).toArray 6).run Tryd.prog w = .ok (QV g) w := fun f g i => by
    simp [part, Sem.run_bind, Tryd.isAgg28, Tryd.sizeOf28, QGC_cut1, QV]
  have p2 : ∀ (f g : Nat → Int) (i : Bool), (part 4 (QGC f g i).toArray 12).run Tryd.prog w = .ok (.bool i) w := fun f g i => by
    simp [part, Sem.run_bind, Tryd.isAgg4, QGC_cut2]
  refine ⟨b0 && (b1 && i == i'), ?_, ?_⟩
  · rw [← h0, ← h1]; simp
  · unfold QGV
    rw [show d + 3 = (d + 2) + 1 from rfl, Op.equalIn.eq_def]
    simp only [Sem.run_bind, run_underlying Tryd.underlying30, Result.andThen_ok, run_program, notHeld, Bool.false_eq_true, if_false]
    simp only [List.forIn_toArray, List.forIn_cons, List.forIn_nil]
    simp [Sem.run_bind, p0, p1, p2, e0, e1, e2]
    cases b0 <;> cases b1 <;> cases i <;> cases i' <;> simp [p0, p1, p2, e0, e1, e2]
theorem GV_eq (d : Nat) (x y : G1p) (w : World) : (Op.equalIn (d + 3) 30 (GV x) (GV y)).run Tryd.prog w = .ok (decide (x = y)) w := by
  obtain ⟨b, hb, e⟩ := QG_eq d (lb x.x.val) (lb x.y.val) (lb y.x.val) (lb y.y.val) x.i y.i w
  have hE : b = decide (x = y) := by
    by_cases h : x = y
    · rw [decide_eq_true h]; subst h; exact hb.2 ⟨fun _ _ => rfl, fun _ _ => rfl, rfl⟩
    · rw [decide_eq_false h]
      cases hb' : b with
      | false => rfl
      | true =>
        obtain ⟨h0, h1, h2⟩ := hb.1 hb'
        exact absurd (G1p.ext' (lb_eq h0) (lb_eq h1) h2) h
  rw [← hE]
  exact e
theorem guardG (op : BinOp) (x y : Operand) (cs ds : Array Value) (w : World) : (eqGuard op 30 x y (.agg cs) (.agg ds)).run Tryd.prog w = .ok () w := by
  have h : Tryd.prog.eqGuardType Tryd.prog.depth 30 = false := by kernel_rfl
  unfold eqGuard
  cases op <;> simp [Sem.run_bind, h]
theorem guardQ (op : BinOp) (x y : Operand) (cs ds : Array Value) (w : World) : (eqGuard op 28 x y (.agg cs) (.agg ds)).run Tryd.prog w = .ok () w := by
  have h : Tryd.prog.eqGuardType Tryd.prog.depth 28 = false := by kernel_rfl
  unfold eqGuard
  cases op <;> simp [Sem.run_bind, h]
theorem eqlG (a b : G1p) (w : World) : (binOp .eql 30 (GV a) (GV b)).run Tryd.prog w = .ok (.bool (decide (a = b))) w := by
  have := GV_eq 9997 a b w
  unfold GV at *
  simp [binOp, Sem.run_bind, Op.equal, Op.maxDepth, this]
theorem neqG (a b : G1p) (w : World) : (binOp .neq 30 (GV a) (GV b)).run Tryd.prog w = .ok (.bool (!decide (a = b))) w := by
  have := GV_eq 9997 a b w
  unfold GV at *
  simp [binOp, Sem.run_bind, Op.equal, Op.maxDepth, this]
theorem qG : EqT Tryd.prog 30 GV := ⟨fun _ _ _ _ _ w => guardG _ _ _ _ _ w, eqlG, neqG⟩
/-- Held against the point without a place. -/
theorem eqlQG (f g : Nat → Int) (i : Bool) (rf : Rg f 6) (rg : Rg g 6) (w : World) : (binOp .eql 30 (QGV f g i) (GV ⟨0, 0, true⟩)).run Tryd.prog w = .ok (.bool (decide (val f 6 = 0) && (decide (val g 6 = 0) && i))) w := by
  obtain ⟨b, hb, e⟩ := QG_eq 9997 f g (lb (0 : F).val) (lb (0 : F).val) i true w
  have z : ∀ f : Nat → Int, Rg f 6 → ((∀ k, k < 6 → f k = lb (0 : F).val k) ↔ val f 6 = 0) := fun f rf => by
    have z0 : val (lb (0 : F).val) 6 = 0 := by rw [lbF]; rfl
    constructor
    · intro h; rw [val_congr h]; exact z0
    · intro h; exact digits rf (lb_rg _ _) (h.trans z0.symm)
  have hE : b = (decide (val f 6 = 0) && (decide (val g 6 = 0) && i)) := by
    rw [Bool.eq_iff_iff, hb, z f rf, z g rg]
    simp
  rw [← hE]
  have e' : (Op.equalIn 10000 30 (QGV f g i) (GV ⟨0, 0, true⟩)).run Tryd.prog w = .ok b w := e
  unfold QGV GV at *
  simp [binOp, Sem.run_bind, Op.equal, Op.maxDepth, e']
theorem eqlQF (f : Nat → Int) (rf : Rg f 6) (w : World) : (binOp .eql 28 (QV f) (FV 0)).run Tryd.prog w = .ok (.bool (decide (val f 6 = 0))) w := by
  obtain ⟨b, hb, e⟩ := eqN 9998 f (lb (0 : F).val) w
  have z0 : val (lb (0 : F).val) 6 = 0 := by rw [lbF]; rfl
  have hE : b = decide (val f 6 = 0) := by
    rw [Bool.eq_iff_iff, hb, decide_eq_true_iff]
    constructor
    · intro h; rw [val_congr h]; exact z0
    · intro h; exact digits rf (lb_rg _ _) (h.trans z0.symm)
  rw [← hE]
  have e' : (Op.equalIn 10000 28 (QV f) (FV 0)).run Tryd.prog w = .ok b w := e
  unfold QV FV at *
  simp [binOp, Sem.run_bind, Op.equal, Op.maxDepth, e']

theorem buildGn (w : World) : (Instr.build 30 #[]).run Tryd.prog w = .ok (GV ⟨0, 0, false⟩) w := run_build w _ _ _ (by kernel_rfl)
theorem buildGi (b : Bool) (w : World) : (Instr.build 30 #[(2, .bool b)]).run Tryd.prog w = .ok (GV ⟨0, 0, b⟩) w := run_build w _ _ _ (by kernel_rfl)
theorem buildG01 (a b : F) (w : World) : (Instr.build 30 #[(0, FV a), (1, FV b)]).run Tryd.prog w = .ok (GV ⟨a, b, false⟩) w := run_build w _ _ _ (by kernel_rfl)
theorem buildG012 (a b : F) (i : Bool) (w : World) : (Instr.build 30 #[(0, FV a), (1, FV b), (2, .bool i)]).run Tryd.prog w = .ok (GV ⟨a, b, i⟩) w := run_build w _ _ _ (by kernel_rfl)
theorem buildJn (w : World) : (Instr.build 56 #[]).run Tryd.prog w = .ok (JV ⟨0, 0, 0⟩) w := run_build w _ _ _ (by kernel_rfl)
theorem buildJ012 (a b c : F) (w : World) : (Instr.build 56 #[(0, FV a), (1, FV b), (2, FV c)]).run Tryd.prog w = .ok (JV ⟨a, b, c⟩) w := run_build w _ _ _ (by kernel_rfl)
theorem buildPJ1 (a : F2) (w : World) : (Instr.build 63 #[(1, PV a)]).run Tryd.prog w = .ok (PJV ⟨0, a, 0⟩) w := run_build w _ _ _ (by kernel_rfl)
theorem buildPJ012 (a b c : F2) (w : World) : (Instr.build 63 #[(0, PV a), (1, PV b), (2, PV c)]).run Tryd.prog w = .ok (PJV ⟨a, b, c⟩) w := run_build w _ _ _ (by kernel_rfl)
theorem buildFg1x (w : World) : (Instr.build 28 #[(0, .int .u64 18103045581585958587), (1, .int .u64 7806400890582735599), (2, .int .u64 11623291730934869080), (3, .int .u64 14080658508445169925), (4, .int .u64 2780237799254240271), (5, .int .u64 1725392847304644500)]).run Tryd.prog w = .ok (FV g1x) w := run_build w _ _ _ (by kernel_rfl)
theorem buildFg1y (w : World) : (Instr.build 28 #[(0, .int .u64 912580534683953121), (1, .int .u64 15005087156090211044), (2, .int .u64 61670280795567085), (3, .int .u64 18227722000993880822), (4, .int .u64 11573741888802228964), (5, .int .u64 627113611842199793)]).run Tryd.prog w = .ok (FV g1y) w := run_build w _ _ _ (by kernel_rfl)
theorem buildRk (n : Nat) (hn : n < 2 ^ 64) (w : World) : (Instr.build 24 #[(0, .int .u64 (n : Int))]).run Tryd.prog w = .ok (RV n) w := by
  have h0 : lb n 0 = (n : Int) := by unfold lb; simp [Nat.mod_eq_of_lt hn]
  have hk : ∀ k, 0 < k → lb n k = 0 := fun k hk => by
    unfold lb
    have : n / 2 ^ (64 * k) = 0 := Nat.div_eq_of_lt (Nat.lt_of_lt_of_le hn (Nat.pow_le_pow_right (by decide) (by omega)))
    rw [this]; rfl
  have : RV n = .agg #[.int .u64 (n : Int), .int .u64 0, .int .u64 0, .int .u64 0] := by
    unfold RV RC
    rw [h0, hk 1 (by decide), hk 2 (by decide), hk 3 (by decide)]
  rw [this]
  exact run_build w _ _ _ (by kernel_rfl)
end Go.Proofs.YtoehglidlakahaaDoor.fpn

/- Package g1. -/
namespace Go.Proofs.YtoehglidlakahaaDoor.fpn
open Go.RowKit Pl EC
set_option linter.unusedVariables false
set_option linter.unusedSimpArgs false
set_option maxRecDepth 4000

theorem FpK.of4 {G : World → Prop} (K : FpK G) (w : World) (hg : G w) : Calls Tryd.prog 46 #[.int .u64 4] w (Ret (FV 4) w) := by
  have h := K.of 4 w (by decide) hg
  rw [show (Fin.ofNat RN 4 : F) = 4 by kernel_rfl] at h
  exact h
set_option maxHeartbeats 4000000 in
theorem g1square {G : World → Prop} (K : FpK G) (x : F) (w : World) (hg : G w) : Calls Tryd.prog 43 #[FV x] w (Ret (FV (x * x)) w) := by
  have hp0 := Heap.start w
  go_enter Tryd.func43, Tryd.ntmps43
  refine wp_seq_k (fun K1 k1 => ?_)
  refine gs [.alloc (FC x), .alloc (FC 0)] [0, 1] [0, 0] (fun L => [FV x, pt (L.b 0) 0, pt (L.b 1) 0, undef, undef, undef]) (fun L => [(L.b 0, FC x), (L.b 1, FC 0)]) hp0 ⟨
    oB, oZ rF,
    trivial⟩ (fun L0 w1 hp1 => ?_)
  refine k1 _ _ ?_
  refine wp_seq_k (fun K2 k2 => ?_)
  refine gs [.det (FV x), .det (FV x), .det (FV (x * x)), .store (.base 1) 0 (FC (x * x)) (FC (x * x))] [0, 1, 2, 3] [0, 0, 3, 7] (fun L => [FV x, pt (L0.b 0) 0, pt (L0.b 1) 0, FV x, FV x, FV (x * x)]) (fun L => [((L0.b 0), FC x), ((L0.b 1), FC (x * x))]) hp1 ⟨
    oL 0 0 rF, oL 0 0 rF, oC K.stay hg (K.mul x x), oT rF,
    trivial⟩ (fun L1 w2 hp2 => ?_)
  refine k2 _ _ ?_
  refine wp_ret ?_
  refine bodyPost_ret (v := FV (x * x)) ?_ rfl ?_
  · exact rc rF rfl (by kernel_rfl) (hp2.bound 1 rfl).2
  · exact ⟨rfl, hp2.bel⟩
set_option maxHeartbeats 4000000 in
theorem g1double {G : World → Prop} (K : FpK G) (x : F) (w : World) (hg : G w) : Calls Tryd.prog 90 #[FV x] w (Ret (FV (x + x)) w) := by
  have hp0 := Heap.start w
  go_enter Tryd.func90, Tryd.ntmps90
  refine wp_seq_k (fun K1 k1 => ?_)
  refine gs [.alloc (FC x), .alloc (FC 0)] [0, 1] [0, 0] (fun L => [FV x, pt (L.b 0) 0, pt (L.b 1) 0, undef, undef, undef]) (fun L => [(L.b 0, FC x), (L.b 1, FC 0)]) hp0 ⟨
    oB, oZ rF,
    trivial⟩ (fun L0 w1 hp1 => ?_)
  refine k1 _ _ ?_
  refine wp_seq_k (fun K2 k2 => ?_)
  refine gs [.det (FV x), .det (FV x), .det (FV (x + x)), .store (.base 1) 0 (FC (x + x)) (FC (x + x))] [0, 1, 2, 3] [0, 0, 3, 7] (fun L => [FV x, pt (L0.b 0) 0, pt (L0.b 1) 0, FV x, FV x, FV (x + x)]) (fun L => [((L0.b 0), FC x), ((L0.b 1), FC (x + x))]) hp1 ⟨
    oL 0 0 rF, oL 0 0 rF, oC K.stay hg (K.add x x), oT rF,
    trivial⟩ (fun L1 w2 hp2 => ?_)
  refine k2 _ _ ?_
  refine wp_ret ?_
  refine bodyPost_ret (v := FV (x + x)) ?_ rfl ?_
  · exact rc rF rfl (by kernel_rfl) (hp2.bound 1 rfl).2
  · exact ⟨rfl, hp2.bel⟩
set_option maxHeartbeats 4000000 in
theorem g1isInf {G : World → Prop} (K : FpK G) (a : Jc F) (w : World) (hg : G w) : Calls Tryd.prog 56 #[JV a] w (Ret (.bool (decide (a.z = 0))) w) := by
  have hp0 := Heap.start w
  go_enter Tryd.func56, Tryd.ntmps56
  refine wp_seq_k (fun K1 k1 => ?_)
  refine gs [.alloc (JC a), .det (.bool false)] [0, 1] [0, 0] (fun L => [JV a, pt (L.b 0) 0, .bool false] ++ U 4) (fun L => [(L.b 0, JC a)]) hp0 ⟨
    oB, oA,
    trivial⟩ (fun L0 w1 hp1 => ?_)
  refine k1 _ _ ?_
  refine wp_seq_k (fun K2 k2 => ?_)
  refine gs [.det (pt (L0.b 0) 12), .det (FV a.z), .det (FV 0), .det (.bool (decide (a.z = 0))), .det (.bool (decide (a.z = 0)))] [0, 1, 2, 3, 4] [0, 1, 0, 7, 15] (fun L => [JV a, pt (L0.b 0) 0, .bool (decide (a.z = 0)), pt (L0.b 0) 12, FV a.z, FV 0, .bool (decide (a.z = 0))]) (fun L => [((L0.b 0), JC a)]) hp1 ⟨
    oF fJ2, oL 0 12 rF, oD buildF0, oE (a := a.z) (b := 0) qF rfl, oA,
    trivial⟩ (fun L1 w2 hp2 => ?_)
  refine k2 _ _ ?_
  refine wp_ret ?_
  refine bodyPost_ret (v := .bool (decide (a.z = 0))) ?_ rfl ?_
  · exact res_t rfl (by kernel_rfl) _
  · exact ⟨rfl, hp2.bel⟩
set_option maxHeartbeats 4000000 in
theorem g1lift0 {G : World → Prop} (K : FpK G) (x y : F) (w : World) (hg : G w) : Calls Tryd.prog 34 #[GV ⟨x, y, true⟩] w (Ret (JV ⟨0, 0, 0⟩) w) := by
  have hp0 := Heap.start w
  go_enter Tryd.func34, Tryd.ntmps34
  refine wp_seq_k (fun K1 k1 => ?_)
  refine gs [.alloc (GC ⟨x, y, true⟩), .alloc (JC ⟨0, 0, 0⟩)] [0, 1] [0, 0] (fun L => [GV ⟨x, y, true⟩, pt (L.b 0) 0, pt (L.b 1) 0] ++ U 9) (fun L => [(L.b 0, GC ⟨x, y, true⟩), (L.b 1, JC ⟨0, 0, 0⟩)]) hp0 ⟨
    oB, oZ rJ,
    trivial⟩ (fun L0 w1 hp1 => ?_)
  refine k1 _ _ ?_
  refine wp_seq_k (fun K2 k2 => ?_)
  refine wp_seq_k (fun K3 k3 => ?_)
  refine gs [.det (pt (L0.b 0) 12), .det (.bool true)] [0, 1] [0, 1] (fun L => [GV ⟨x, y, true⟩, pt (L0.b 0) 0, pt (L0.b 1) 0, pt (L0.b 0) 12, .bool true] ++ U 7) (fun L => [((L0.b 0), GC ⟨x, y, true⟩), ((L0.b 1), JC ⟨0, 0, 0⟩)]) hp1 ⟨
    oF fG2, oL1 0 12 oneB,
    trivial⟩ (fun L1 w2 hp2 => ?_)
  refine k3 _ _ ?_
  refine wp_cond_true (by kernel_rfl) ?_
  refine wp_seq_k (fun K4 k4 => ?_)
  refine gs [.det (JV ⟨0, 0, 0⟩), .store (.base 1) 0 (JC ⟨0, 0, 0⟩) (JC ⟨0, 0, 0⟩)] [0, 1] [0, 1] (fun L => [GV ⟨x, y, true⟩, pt (L0.b 0) 0, pt (L0.b 1) 0, pt (L0.b 0) 12, .bool true, JV ⟨0, 0, 0⟩] ++ U 6) (fun L => [((L0.b 0), GC ⟨x, y, true⟩), ((L0.b 1), JC ⟨0, 0, 0⟩)]) hp2 ⟨
    oD buildJn, oT rJ,
    trivial⟩ (fun L2 w3 hp3 => ?_)
  refine k4 _ _ ?_
  refine wp_ret ?_
  refine bodyPost_ret (v := JV ⟨0, 0, 0⟩) ?_ rfl ?_
  · exact rc rJ rfl (by kernel_rfl) (hp3.bound 1 rfl).2
  · exact ⟨rfl, hp3.bel⟩
set_option maxHeartbeats 4000000 in
theorem g1lift1 {G : World → Prop} (K : FpK G) (x y : F) (w : World) (hg : G w) : Calls Tryd.prog 34 #[GV ⟨x, y, false⟩] w (Ret (JV ⟨x, y, 1⟩) w) := by
  have hp0 := Heap.start w
  go_enter Tryd.func34, Tryd.ntmps34
  refine wp_seq_k (fun K1 k1 => ?_)
  refine gs [.alloc (GC ⟨x, y, false⟩), .alloc (JC ⟨0, 0, 0⟩)] [0, 1] [0, 0] (fun L => [GV ⟨x, y, false⟩, pt (L.b 0) 0, pt (L.b 1) 0] ++ U 9) (fun L => [(L.b 0, GC ⟨x, y, false⟩), (L.b 1, JC ⟨0, 0, 0⟩)]) hp0 ⟨
    oB, oZ rJ,
    trivial⟩ (fun L0 w1 hp1 => ?_)
  refine k1 _ _ ?_
  refine wp_seq_k (fun K2 k2 => ?_)
  refine wp_seq_k (fun K3 k3 => ?_)
  refine gs [.det (pt (L0.b 0) 12), .det (.bool false)] [0, 1] [0, 1] (fun L => [GV ⟨x, y, false⟩, pt (L0.b 0) 0, pt (L0.b 1) 0, pt (L0.b 0) 12, .bool false] ++ U 7) (fun L => [((L0.b 0), GC ⟨x, y, false⟩), ((L0.b 1), JC ⟨0, 0, 0⟩)]) hp1 ⟨
    oF fG2, oL1 0 12 oneB,
    trivial⟩ (fun L1 w2 hp2 => ?_)
  refine k3 _ _ ?_
  refine wp_cond_false (by kernel_rfl) ?_
  refine skips ?_
  refine k2 _ _ ?_
  refine wp_seq_k (fun K4 k4 => ?_)
  refine dr [.det (pt (L0.b 0) 0), .det (FV x), .det (pt (L0.b 0) 6), .det (FV y), .det (FV 1), .det (JV ⟨x, y, 1⟩), .store (.base 1) 0 (JC ⟨x, y, 1⟩) (JC ⟨x, y, 1⟩)] [0, 1, 2, 3, 4, 5, 6] [0, 1, 0, 4, 0, 31, 63] (fun L => [GV ⟨x, y, false⟩, pt (L0.b 0) 0, pt (L0.b 1) 0, pt (L0.b 0) 12, .bool false, undef, pt (L0.b 0) 0, FV x, pt (L0.b 0) 6, FV y, FV 1, JV ⟨x, y, 1⟩]) (fun L => [((L0.b 0), GC ⟨x, y, false⟩), ((L0.b 1), JC ⟨x, y, 1⟩)]) hp2 ⟨
    oF fG0, oL 0 0 rF, oF fG1, oL 0 6 rF, oC K.stay hg K.of1, oD (buildJ012 x y 1), oT rJ,
    trivial⟩ (fun L2 w3 hp3 => ?_)
  refine k4 _ _ ?_
  refine wp_ret ?_
  refine bodyPost_ret (v := JV ⟨x, y, 1⟩) ?_ rfl ?_
  · exact rc rJ rfl (by kernel_rfl) (hp3.bound 1 rfl).2
  · exact ⟨rfl, hp3.bel⟩
theorem g1lift {G : World → Prop} (K : FpK G) (P : Pt F) (w : World) (hg : G w) : Calls Tryd.prog 34 #[GV (gp P)] w (Ret (JV (jlift P)) w) := by
  cases P with
  | inf => exact g1lift0 K 0 0 w hg
  | aff x y => exact g1lift1 K x y w hg
set_option maxHeartbeats 4000000 in
theorem g1twice {G : World → Prop} (K : FpK G) (a : Jc F) (w : World) (hg : G w) : Calls Tryd.prog 62 #[JV a] w (Ret (JV (jtwice a)) w) := by
  have hp0 := Heap.start w
  go_enter Tryd.func62, Tryd.ntmps62
  refine wp_seq_k (fun K1 k1 => ?_)
  refine gs [.alloc (JC a), .alloc (JC ⟨0, 0, 0⟩)] [0, 1] [0, 0] (fun L => [JV a, pt (L.b 0) 0, pt (L.b 1) 0] ++ U 49) (fun L => [(L.b 0, JC a), (L.b 1, JC ⟨0, 0, 0⟩)]) hp0 ⟨
    oB, oZ rJ,
    trivial⟩ (fun L0 w1 hp1 => ?_)
  refine k1 _ _ ?_
  refine wp_seq_k (fun K2 k2 => ?_)
  refine dr [.det (pt (L0.b 0) 0), .det (FV a.x), .det (FV (a.x * a.x)), .det (pt (L0.b 0) 6), .det (FV a.y), .det (FV (a.y * a.y)), .alloc (FC 0), .alloc (FC 0), .store (.new 6) 0 (FC (a.x * a.x)) (FC (a.x * a.x)), .store (.new 7) 0 (FC (a.y * a.y)) (FC (a.y * a.y))] [0, 1, 2, 3, 4, 5, 6, 7, 8, 9] [0, 1, 3, 0, 8, 31, 0, 0, 255, 511] (fun L => [JV a, pt (L0.b 0) 0, pt (L0.b 1) 0, pt (L.b 6) 0, pt (L.b 7) 0, undef, undef, undef, undef, undef, pt (L0.b 0) 0, FV a.x, FV (a.x * a.x), pt (L0.b 0) 6, FV a.y, FV (a.y * a.y)] ++ U 36) (fun L => [((L0.b 0), JC a), ((L0.b 1), JC ⟨0, 0, 0⟩), (L.b 6, FC (a.x * a.x)), (L.b 7, FC (a.y * a.y))]) hp1 ⟨
    oF fJ0, oL 0 0 rF, oC K.stay hg (g1square K a.x), oF fJ1, oL 0 6 rF, oC K.stay hg (g1square K a.y), oZ rF, oZ rF, oT rF, oT rF,
    trivial⟩ (fun L1 w2 hp2 => ?_)
  refine k2 _ _ ?_
  refine wp_seq_k (fun K3 k3 => ?_)
  refine dr [.det (FV (a.x * a.x)), .det (FV ((a.x * a.x) + (a.x * a.x))), .det (FV (a.x * a.x)), .det (FV (((a.x * a.x) + (a.x * a.x)) + (a.x * a.x))), .alloc (FC 0), .store (.new 4) 0 (FC (((a.x * a.x) + (a.x * a.x)) + (a.x * a.x))) (FC (((a.x * a.x) + (a.x * a.x)) + (a.x * a.x)))] [0, 1, 2, 3, 4, 5] [0, 1, 0, 7, 0, 31] (fun L => [JV a, pt (L0.b 0) 0, pt (L0.b 1) 0, pt (L1.b 6) 0, pt (L1.b 7) 0, pt (L.b 4) 0, undef, undef, undef, undef, pt (L0.b 0) 0, FV a.x, FV (a.x * a.x), pt (L0.b 0) 6, FV a.y, FV (a.y * a.y), FV (a.x * a.x), FV ((a.x * a.x) + (a.x * a.x)), FV (a.x * a.x), FV (((a.x * a.x) + (a.x * a.x)) + (a.x * a.x))] ++ U 32) (fun L => [((L0.b 0), JC a), ((L0.b 1), JC ⟨0, 0, 0⟩), ((L1.b 6), FC (a.x * a.x)), ((L1.b 7), FC (a.y * a.y)), (L.b 4, FC (((a.x * a.x) + (a.x * a.x)) + (a.x * a.x)))]) hp2 ⟨
    oL 2 0 rF, oC K.stay hg (g1double K (a.x * a.x)), oL 2 0 rF, oC K.stay hg (K.add ((a.x * a.x) + (a.x * a.x)) (a.x * a.x)), oZ rF, oT rF,
    trivial⟩ (fun L2 w3 hp3 => ?_)
  refine k3 _ _ ?_
  refine wp_seq_k (fun K4 k4 => ?_)
  refine gs [.det (pt (L0.b 0) 0), .det (FV a.x), .det (FV (a.y * a.y)), .det (FV (a.x * (a.y * a.y))), .det (FV ((a.x * (a.y * a.y)) + (a.x * (a.y * a.y)))), .det (FV (((a.x * (a.y * a.y)) + (a.x * (a.y * a.y))) + ((a.x * (a.y * a.y)) + (a.x * (a.y * a.y))))), .alloc (FC 0), .store (.new 6) 0 (FC (((a.x * (a.y * a.y)) + (a.x * (a.y * a.y))) + ((a.x * (a.y * a.y)) + (a.x * (a.y * a.y))))) (FC (((a.x * (a.y * a.y)) + (a.x * (a.y * a.y))) + ((a.x * (a.y * a.y)) + (a.x * (a.y * a.y)))))] [0, 1, 2, 3, 4, 5, 6, 7] [0, 1, 0, 7, 15, 31, 0, 127] (fun L => [JV a, pt (L0.b 0) 0, pt (L0.b 1) 0, pt (L1.b 6) 0, pt (L1.b 7) 0, pt (L2.b 4) 0, pt (L.b 6) 0, undef, undef, undef, pt (L0.b 0) 0, FV a.x, FV (a.x * a.x), pt (L0.b 0) 6, FV a.y, FV (a.y * a.y), FV (a.x * a.x), FV ((a.x * a.x) + (a.x * a.x)), FV (a.x * a.x), FV (((a.x * a.x) + (a.x * a.x)) + (a.x * a.x)), pt (L0.b 0) 0, FV a.x, FV (a.y * a.y), FV (a.x * (a.y * a.y)), FV ((a.x * (a.y * a.y)) + (a.x * (a.y * a.y))), FV (((a.x * (a.y * a.y)) + (a.x * (a.y * a.y))) + ((a.x * (a.y * a.y)) + (a.x * (a.y * a.y))))] ++ U 26) (fun L => [((L0.b 0), JC a), ((L0.b 1), JC ⟨0, 0, 0⟩), ((L1.b 6), FC (a.x * a.x)), ((L1.b 7), FC (a.y * a.y)), ((L2.b 4), FC (((a.x * a.x) + (a.x * a.x)) + (a.x * a.x))), (L.b 6, FC (((a.x * (a.y * a.y)) + (a.x * (a.y * a.y))) + ((a.x * (a.y * a.y)) + (a.x * (a.y * a.y)))))]) hp3 ⟨
    oF fJ0, oL 0 0 rF, oL 3 0 rF, oC K.stay hg (K.mul a.x (a.y * a.y)), oC K.stay hg (g1double K (a.x * (a.y * a.y))), oC K.stay hg (g1double K ((a.x * (a.y * a.y)) + (a.x * (a.y * a.y)))),
    oZ rF, oT rF,
    trivial⟩ (fun L3 w4 hp4 => ?_)
  refine k4 _ _ ?_
  refine wp_seq_k (fun K5 k5 => ?_)
  refine dr [.det (FV (((a.x * a.x) + (a.x * a.x)) + (a.x * a.x))), .det (FV ((((a.x * a.x) + (a.x * a.x)) + (a.x * a.x)) * (((a.x * a.x) + (a.x * a.x)) + (a.x * a.x)))), .det (FV (((a.x * (a.y * a.y)) + (a.x * (a.y * a.y))) + ((a.x * (a.y * a.y)) + (a.x * (a.y * a.y))))), .det (FV ((((a.x * (a.y * a.y)) + (a.x * (a.y * a.y))) + ((a.x * (a.y * a.y)) + (a.x * (a.y * a.y)))) + (((a.x * (a.y * a.y)) + (a.x * (a.y * a.y))) + ((a.x * (a.y * a.y)) + (a.x * (a.y * a.y)))))), .det (FV (((((a.x * a.x) + (a.x * a.x)) + (a.x * a.x)) * (((a.x * a.x) + (a.x * a.x)) + (a.x * a.x))) - ((((a.x * (a.y * a.y)) + (a.x * (a.y * a.y))) + ((a.x * (a.y * a.y)) + (a.x * (a.y * a.y)))) + (((a.x * (a.y * a.y)) + (a.x * (a.y * a.y))) + ((a.x * (a.y * a.y)) + (a.x * (a.y * a.y))))))), .alloc (FC 0), .store (.new 5) 0 (FC (((((a.x * a.x) + (a.x * a.x)) + (a.x * a.x)) * (((a.x * a.x) + (a.x * a.x)) + (a.x * a.x))) - ((((a.x * (a.y * a.y)) + (a.x * (a.y * a.y))) + ((a.x * (a.y * a.y)) + (a.x * (a.y * a.y)))) + (((a.x * (a.y * a.y)) + (a.x * (a.y * a.y))) + ((a.x * (a.y * a.y)) + (a.x * (a.y * a.y))))))) (FC (((((a.x * a.x) + (a.x * a.x)) + (a.x * a.x)) * (((a.x * a.x) + (a.x * a.x)) + (a.x * a.x))) - ((((a.x * (a.y * a.y)) + (a.x * (a.y * a.y))) + ((a.x * (a.y * a.y)) + (a.x * (a.y * a.y)))) + (((a.x * (a.y * a.y)) + (a.x * (a.y * a.y))) + ((a.x * (a.y * a.y)) + (a.x * (a.y * a.y)))))))] [0, 1, 2, 3, 4, 5, 6] [0, 1, 0, 7, 15, 0, 63] (fun L => [JV a, pt (L0.b 0) 0, pt (L0.b 1) 0, pt (L1.b 6) 0, pt (L1.b 7) 0, pt (L2.b 4) 0, pt (L3.b 6) 0, pt (L.b 5) 0, undef, undef, pt (L0.b 0) 0, FV a.x, FV (a.x * a.x), pt (L0.b 0) 6, FV a.y, FV (a.y * a.y), FV (a.x * a.x), FV ((a.x * a.x) + (a.x * a.x)), FV (a.x * a.x), FV (((a.x * a.x) + (a.x * a.x)) + (a.x * a.x)), pt (L0.b 0) 0, FV a.x, FV (a.y * a.y), FV (a.x * (a.y * a.y)), FV ((a.x * (a.y * a.y)) + (a.x * (a.y * a.y))), FV (((a.x * (a.y * a.y)) + (a.x * (a.y * a.y))) + ((a.x * (a.y * a.y)) + (a.x * (a.y * a.y)))), FV (((a.x * a.x) + (a.x * a.x)) + (a.x * a.x)), FV ((((a.x * a.x) + (a.x * a.x)) + (a.x * a.x)) * (((a.x * a.x) + (a.x * a.x)) + (a.x * a.x))), FV (((a.x * (a.y * a.y)) + (a.x * (a.y * a.y))) + ((a.x * (a.y * a.y)) + (a.x * (a.y * a.y)))), FV ((((a.x * (a.y * a.y)) + (a.x * (a.y * a.y))) + ((a.x * (a.y * a.y)) + (a.x * (a.y * a.y)))) + (((a.x * (a.y * a.y)) + (a.x * (a.y * a.y))) + ((a.x * (a.y * a.y)) + (a.x * (a.y * a.y))))), FV (((((a.x * a.x) + (a.x * a.x)) + (a.x * a.x)) * (((a.x * a.x) + (a.x * a.x)) + (a.x * a.x))) - ((((a.x * (a.y * a.y)) + (a.x * (a.y * a.y))) + ((a.x * (a.y * a.y)) + (a.x * (a.y * a.y)))) + (((a.x * (a.y * a.y)) + (a.x * (a.y * a.y))) + ((a.x * (a.y * a.y)) + (a.x * (a.y * a.y))))))] ++ U 21) (fun L => [((L0.b 0), JC a), ((L0.b 1), JC ⟨0, 0, 0⟩), ((L1.b 6), FC (a.x * a.x)), ((L1.b 7), FC (a.y * a.y)), ((L2.b 4), FC (((a.x * a.x) + (a.x * a.x)) + (a.x * a.x))), ((L3.b 6), FC (((a.x * (a.y * a.y)) + (a.x * (a.y * a.y))) + ((a.x * (a.y * a.y)) + (a.x * (a.y * a.y))))), (L.b 5, FC (((((a.x * a.x) + (a.x * a.x)) + (a.x * a.x)) * (((a.x * a.x) + (a.x * a.x)) + (a.x * a.x))) - ((((a.x * (a.y * a.y)) + (a.x * (a.y * a.y))) + ((a.x * (a.y * a.y)) + (a.x * (a.y * a.y)))) + (((a.x * (a.y * a.y)) + (a.x * (a.y * a.y))) + ((a.x * (a.y * a.y)) + (a.x * (a.y * a.y)))))))]) hp4 ⟨
    oL 4 0 rF, oC K.stay hg (g1square K (((a.x * a.x) + (a.x * a.x)) + (a.x * a.x))), oL 5 0 rF, oC K.stay hg (g1double K (((a.x * (a.y * a.y)) + (a.x * (a.y * a.y))) + ((a.x * (a.y * a.y)) + (a.x * (a.y * a.y))))),
    oC K.stay hg (K.sub ((((a.x * a.x) + (a.x * a.x)) + (a.x * a.x)) * (((a.x * a.x) + (a.x * a.x)) + (a.x * a.x))) ((((a.x * (a.y * a.y)) + (a.x * (a.y * a.y))) + ((a.x * (a.y * a.y)) + (a.x * (a.y * a.y)))) + (((a.x * (a.y * a.y)) + (a.x * (a.y * a.y))) + ((a.x * (a.y * a.y)) + (a.x * (a.y * a.y)))))),
    oZ rF, oT rF,
    trivial⟩ (fun L4 w5 hp5 => ?_)
  refine k5 _ _ ?_
  refine wp_seq_k (fun K6 k6 => ?_)
  refine gs [.det (FV (a.y * a.y)), .det (FV ((a.y * a.y) * (a.y * a.y))), .det (FV (((a.y * a.y) * (a.y * a.y)) + ((a.y * a.y) * (a.y * a.y)))), .det (FV ((((a.y * a.y) * (a.y * a.y)) + ((a.y * a.y) * (a.y * a.y))) + (((a.y * a.y) * (a.y * a.y)) + ((a.y * a.y) * (a.y * a.y))))), .det (FV (((((a.y * a.y) * (a.y * a.y)) + ((a.y * a.y) * (a.y * a.y))) + (((a.y * a.y) * (a.y * a.y)) + ((a.y * a.y) * (a.y * a.y)))) + ((((a.y * a.y) * (a.y * a.y)) + ((a.y * a.y) * (a.y * a.y))) + (((a.y * a.y) * (a.y * a.y)) + ((a.y * a.y) * (a.y * a.y)))))), .alloc (FC 0), .store (.new 5) 0 (FC (((((a.y * a.y) * (a.y * a.y)) + ((a.y * a.y) * (a.y * a.y))) + (((a.y * a.y) * (a.y * a.y)) + ((a.y * a.y) * (a.y * a.y)))) + ((((a.y * a.y) * (a.y * a.y)) + ((a.y * a.y) * (a.y * a.y))) + (((a.y * a.y) * (a.y * a.y)) + ((a.y * a.y) * (a.y * a.y)))))) (FC (((((a.y * a.y) * (a.y * a.y)) + ((a.y * a.y) * (a.y * a.y))) + (((a.y * a.y) * (a.y * a.y)) + ((a.y * a.y) * (a.y * a.y)))) + ((((a.y * a.y) * (a.y * a.y)) + ((a.y * a.y) * (a.y * a.y))) + (((a.y * a.y) * (a.y * a.y)) + ((a.y * a.y) * (a.y * a.y))))))] [0, 1, 2, 3, 4, 5, 6] [0, 1, 3, 7, 15, 0, 63] (fun L => [JV a, pt (L0.b 0) 0, pt (L0.b 1) 0, pt (L1.b 6) 0, pt (L1.b 7) 0, pt (L2.b 4) 0, pt (L3.b 6) 0, pt (L4.b 5) 0, pt (L.b 5) 0, undef, pt (L0.b 0) 0, FV a.x, FV (a.x * a.x), pt (L0.b 0) 6, FV a.y, FV (a.y * a.y), FV (a.x * a.x), FV ((a.x * a.x) + (a.x * a.x)), FV (a.x * a.x), FV (((a.x * a.x) + (a.x * a.x)) + (a.x * a.x)), pt (L0.b 0) 0, FV a.x, FV (a.y * a.y), FV (a.x * (a.y * a.y)), FV ((a.x * (a.y * a.y)) + (a.x * (a.y * a.y))), FV (((a.x * (a.y * a.y)) + (a.x * (a.y * a.y))) + ((a.x * (a.y * a.y)) + (a.x * (a.y * a.y)))), FV (((a.x * a.x) + (a.x * a.x)) + (a.x * a.x)), FV ((((a.x * a.x) + (a.x * a.x)) + (a.x * a.x)) * (((a.x * a.x) + (a.x * a.x)) + (a.x * a.x))), FV (((a.x * (a.y * a.y)) + (a.x * (a.y * a.y))) + ((a.x * (a.y * a.y)) + (a.x * (a.y * a.y)))), FV ((((a.x * (a.y * a.y)) + (a.x * (a.y * a.y))) + ((a.x * (a.y * a.y)) + (a.x * (a.y * a.y)))) + (((a.x * (a.y * a.y)) + (a.x * (a.y * a.y))) + ((a.x * (a.y * a.y)) + (a.x * (a.y * a.y))))), FV (((((a.x * a.x) + (a.x * a.x)) + (a.x * a.x)) * (((a.x * a.x) + (a.x * a.x)) + (a.x * a.x))) - ((((a.x * (a.y * a.y)) + (a.x * (a.y * a.y))) + ((a.x * (a.y * a.y)) + (a.x * (a.y * a.y)))) + (((a.x * (a.y * a.y)) + (a.x * (a.y * a.y))) + ((a.x * (a.y * a.y)) + (a.x * (a.y * a.y)))))), FV (a.y * a.y), FV ((a.y * a.y) * (a.y * a.y)), FV (((a.y * a.y) * (a.y * a.y)) + ((a.y * a.y) * (a.y * a.y))), FV ((((a.y * a.y) * (a.y * a.y)) + ((a.y * a.y) * (a.y * a.y))) + (((a.y * a.y) * (a.y * a.y)) + ((a.y * a.y) * (a.y * a.y)))), FV (((((a.y * a.y) * (a.y * a.y)) + ((a.y * a.y) * (a.y * a.y))) + (((a.y * a.y) * (a.y * a.y)) + ((a.y * a.y) * (a.y * a.y)))) + ((((a.y * a.y) * (a.y * a.y)) + ((a.y * a.y) * (a.y * a.y))) + (((a.y * a.y) * (a.y * a.y)) + ((a.y * a.y) * (a.y * a.y)))))] ++ U 16) (fun L => [((L0.b 0), JC a), ((L0.b 1), JC ⟨0, 0, 0⟩), ((L1.b 6), FC (a.x * a.x)), ((L1.b 7), FC (a.y * a.y)), ((L2.b 4), FC (((a.x * a.x) + (a.x * a.x)) + (a.x * a.x))), ((L3.b 6), FC (((a.x * (a.y * a.y)) + (a.x * (a.y * a.y))) + ((a.x * (a.y * a.y)) + (a.x * (a.y * a.y))))), ((L4.b 5), FC (((((a.x * a.x) + (a.x * a.x)) + (a.x * a.x)) * (((a.x * a.x) + (a.x * a.x)) + (a.x * a.x))) - ((((a.x * (a.y * a.y)) + (a.x * (a.y * a.y))) + ((a.x * (a.y * a.y)) + (a.x * (a.y * a.y)))) + (((a.x * (a.y * a.y)) + (a.x * (a.y * a.y))) + ((a.x * (a.y * a.y)) + (a.x * (a.y * a.y))))))), (L.b 5, FC (((((a.y * a.y) * (a.y * a.y)) + ((a.y * a.y) * (a.y * a.y))) + (((a.y * a.y) * (a.y * a.y)) + ((a.y * a.y) * (a.y * a.y)))) + ((((a.y * a.y) * (a.y * a.y)) + ((a.y * a.y) * (a.y * a.y))) + (((a.y * a.y) * (a.y * a.y)) + ((a.y * a.y) * (a.y * a.y))))))]) hp5 ⟨
    oL 3 0 rF, oC K.stay hg (g1square K (a.y * a.y)), oC K.stay hg (g1double K ((a.y * a.y) * (a.y * a.y))), oC K.stay hg (g1double K (((a.y * a.y) * (a.y * a.y)) + ((a.y * a.y) * (a.y * a.y)))),
    oC K.stay hg (g1double K ((((a.y * a.y) * (a.y * a.y)) + ((a.y * a.y) * (a.y * a.y))) + (((a.y * a.y) * (a.y * a.y)) + ((a.y * a.y) * (a.y * a.y))))), oZ rF,
    oT rF,
    trivial⟩ (fun L5 w6 hp6 => ?_)
  refine k6 _ _ ?_
  refine wp_seq_k (fun K7 k7 => ?_)
  refine dr [.det (FV (((a.x * a.x) + (a.x * a.x)) + (a.x * a.x))), .det (FV (((a.x * (a.y * a.y)) + (a.x * (a.y * a.y))) + ((a.x * (a.y * a.y)) + (a.x * (a.y * a.y))))), .det (FV (((((a.x * a.x) + (a.x * a.x)) + (a.x * a.x)) * (((a.x * a.x) + (a.x * a.x)) + (a.x * a.x))) - ((((a.x * (a.y * a.y)) + (a.x * (a.y * a.y))) + ((a.x * (a.y * a.y)) + (a.x * (a.y * a.y)))) + (((a.x * (a.y * a.y)) + (a.x * (a.y * a.y))) + ((a.x * (a.y * a.y)) + (a.x * (a.y * a.y))))))), .det (FV ((((a.x * (a.y * a.y)) + (a.x * (a.y * a.y))) + ((a.x * (a.y * a.y)) + (a.x * (a.y * a.y)))) - (((((a.x * a.x) + (a.x * a.x)) + (a.x * a.x)) * (((a.x * a.x) + (a.x * a.x)) + (a.x * a.x))) - ((((a.x * (a.y * a.y)) + (a.x * (a.y * a.y))) + ((a.x * (a.y * a.y)) + (a.x * (a.y * a.y)))) + (((a.x * (a.y * a.y)) + (a.x * (a.y * a.y))) + ((a.x * (a.y * a.y)) + (a.x * (a.y * a.y)))))))), .det (FV ((((a.x * a.x) + (a.x * a.x)) + (a.x * a.x)) * ((((a.x * (a.y * a.y)) + (a.x * (a.y * a.y))) + ((a.x * (a.y * a.y)) + (a.x * (a.y * a.y)))) - (((((a.x * a.x) + (a.x * a.x)) + (a.x * a.x)) * (((a.x * a.x) + (a.x * a.x)) + (a.x * a.x))) - ((((a.x * (a.y * a.y)) + (a.x * (a.y * a.y))) + ((a.x * (a.y * a.y)) + (a.x * (a.y * a.y)))) + (((a.x * (a.y * a.y)) + (a.x * (a.y * a.y))) + ((a.x * (a.y * a.y)) + (a.x * (a.y * a.y))))))))), .det (FV (((((a.y * a.y) * (a.y * a.y)) + ((a.y * a.y) * (a.y * a.y))) + (((a.y * a.y) * (a.y * a.y)) + ((a.y * a.y) * (a.y * a.y)))) + ((((a.y * a.y) * (a.y * a.y)) + ((a.y * a.y) * (a.y * a.y))) + (((a.y * a.y) * (a.y * a.y)) + ((a.y * a.y) * (a.y * a.y)))))), .det (FV (((((a.x * a.x) + (a.x * a.x)) + (a.x * a.x)) * ((((a.x * (a.y * a.y)) + (a.x * (a.y * a.y))) + ((a.x * (a.y * a.y)) + (a.x * (a.y * a.y)))) - (((((a.x * a.x) + (a.x * a.x)) + (a.x * a.x)) * (((a.x * a.x) + (a.x * a.x)) + (a.x * a.x))) - ((((a.x * (a.y * a.y)) + (a.x * (a.y * a.y))) + ((a.x * (a.y * a.y)) + (a.x * (a.y * a.y)))) + (((a.x * (a.y * a.y)) + (a.x * (a.y * a.y))) + ((a.x * (a.y * a.y)) + (a.x * (a.y * a.y)))))))) - (((((a.y * a.y) * (a.y * a.y)) + ((a.y * a.y) * (a.y * a.y))) + (((a.y * a.y) * (a.y * a.y)) + ((a.y * a.y) * (a.y * a.y)))) + ((((a.y * a.y) * (a.y * a.y)) + ((a.y * a.y) * (a.y * a.y))) + (((a.y * a.y) * (a.y * a.y)) + ((a.y * a.y) * (a.y * a.y))))))), .alloc (FC 0), .store (.new 7) 0 (FC (((((a.x * a.x) + (a.x * a.x)) + (a.x * a.x)) * ((((a.x * (a.y * a.y)) + (a.x * (a.y * a.y))) + ((a.x * (a.y * a.y)) + (a.x * (a.y * a.y)))) - (((((a.x * a.x) + (a.x * a.x)) + (a.x * a.x)) * (((a.x * a.x) + (a.x * a.x)) + (a.x * a.x))) - ((((a.x * (a.y * a.y)) + (a.x * (a.y * a.y))) + ((a.x * (a.y * a.y)) + (a.x * (a.y * a.y)))) + (((a.x * (a.y * a.y)) + (a.x * (a.y * a.y))) + ((a.x * (a.y * a.y)) + (a.x * (a.y * a.y)))))))) - (((((a.y * a.y) * (a.y * a.y)) + ((a.y * a.y) * (a.y * a.y))) + (((a.y * a.y) * (a.y * a.y)) + ((a.y * a.y) * (a.y * a.y)))) + ((((a.y * a.y) * (a.y * a.y)) + ((a.y * a.y) * (a.y * a.y))) + (((a.y * a.y) * (a.y * a.y)) + ((a.y * a.y) * (a.y * a.y))))))) (FC (((((a.x * a.x) + (a.x * a.x)) + (a.x * a.x)) * ((((a.x * (a.y * a.y)) + (a.x * (a.y * a.y))) + ((a.x * (a.y * a.y)) + (a.x * (a.y * a.y)))) - (((((a.x * a.x) + (a.x * a.x)) + (a.x * a.x)) * (((a.x * a.x) + (a.x * a.x)) + (a.x * a.x))) - ((((a.x * (a.y * a.y)) + (a.x * (a.y * a.y))) + ((a.x * (a.y * a.y)) + (a.x * (a.y * a.y)))) + (((a.x * (a.y * a.y)) + (a.x * (a.y * a.y))) + ((a.x * (a.y * a.y)) + (a.x * (a.y * a.y)))))))) - (((((a.y * a.y) * (a.y * a.y)) + ((a.y * a.y) * (a.y * a.y))) + (((a.y * a.y) * (a.y * a.y)) + ((a.y * a.y) * (a.y * a.y)))) + ((((a.y * a.y) * (a.y * a.y)) + ((a.y * a.y) * (a.y * a.y))) + (((a.y * a.y) * (a.y * a.y)) + ((a.y * a.y) * (a.y * a.y)))))))] [0, 1, 2, 3, 4, 5, 6, 7, 8] [0, 0, 0, 6, 15, 0, 63, 0, 255] (fun L => [JV a, pt (L0.b 0) 0, pt (L0.b 1) 0, pt (L1.b 6) 0, pt (L1.b 7) 0, pt (L2.b 4) 0, pt (L3.b 6) 0, pt (L4.b 5) 0, pt (L5.b 5) 0, pt (L.b 7) 0, pt (L0.b 0) 0, FV a.x, FV (a.x * a.x), pt (L0.b 0) 6, FV a.y, FV (a.y * a.y), FV (a.x * a.x), FV ((a.x * a.x) + (a.x * a.x)), FV (a.x * a.x), FV (((a.x * a.x) + (a.x * a.x)) + (a.x * a.x)), pt (L0.b 0) 0, FV a.x, FV (a.y * a.y), FV (a.x * (a.y * a.y)), FV ((a.x * (a.y * a.y)) + (a.x * (a.y * a.y))), FV (((a.x * (a.y * a.y)) + (a.x * (a.y * a.y))) + ((a.x * (a.y * a.y)) + (a.x * (a.y * a.y)))), FV (((a.x * a.x) + (a.x * a.x)) + (a.x * a.x)), FV ((((a.x * a.x) + (a.x * a.x)) + (a.x * a.x)) * (((a.x * a.x) + (a.x * a.x)) + (a.x * a.x))), FV (((a.x * (a.y * a.y)) + (a.x * (a.y * a.y))) + ((a.x * (a.y * a.y)) + (a.x * (a.y * a.y)))), FV ((((a.x * (a.y * a.y)) + (a.x * (a.y * a.y))) + ((a.x * (a.y * a.y)) + (a.x * (a.y * a.y)))) + (((a.x * (a.y * a.y)) + (a.x * (a.y * a.y))) + ((a.x * (a.y * a.y)) + (a.x * (a.y * a.y))))), FV (((((a.x * a.x) + (a.x * a.x)) + (a.x * a.x)) * (((a.x * a.x) + (a.x * a.x)) + (a.x * a.x))) - ((((a.x * (a.y * a.y)) + (a.x * (a.y * a.y))) + ((a.x * (a.y * a.y)) + (a.x * (a.y * a.y)))) + (((a.x * (a.y * a.y)) + (a.x * (a.y * a.y))) + ((a.x * (a.y * a.y)) + (a.x * (a.y * a.y)))))), FV (a.y * a.y), FV ((a.y * a.y) * (a.y * a.y)), FV (((a.y * a.y) * (a.y * a.y)) + ((a.y * a.y) * (a.y * a.y))), FV ((((a.y * a.y) * (a.y * a.y)) + ((a.y * a.y) * (a.y * a.y))) + (((a.y * a.y) * (a.y * a.y)) + ((a.y * a.y) * (a.y * a.y)))), FV (((((a.y * a.y) * (a.y * a.y)) + ((a.y * a.y) * (a.y * a.y))) + (((a.y * a.y) * (a.y * a.y)) + ((a.y * a.y) * (a.y * a.y)))) + ((((a.y * a.y) * (a.y * a.y)) + ((a.y * a.y) * (a.y * a.y))) + (((a.y * a.y) * (a.y * a.y)) + ((a.y * a.y) * (a.y * a.y))))), FV (((a.x * a.x) + (a.x * a.x)) + (a.x * a.x)), FV (((a.x * (a.y * a.y)) + (a.x * (a.y * a.y))) + ((a.x * (a.y * a.y)) + (a.x * (a.y * a.y)))), FV (((((a.x * a.x) + (a.x * a.x)) + (a.x * a.x)) * (((a.x * a.x) + (a.x * a.x)) + (a.x * a.x))) - ((((a.x * (a.y * a.y)) + (a.x * (a.y * a.y))) + ((a.x * (a.y * a.y)) + (a.x * (a.y * a.y)))) + (((a.x * (a.y * a.y)) + (a.x * (a.y * a.y))) + ((a.x * (a.y * a.y)) + (a.x * (a.y * a.y)))))), FV ((((a.x * (a.y * a.y)) + (a.x * (a.y * a.y))) + ((a.x * (a.y * a.y)) + (a.x * (a.y * a.y)))) - (((((a.x * a.x) + (a.x * a.x)) + (a.x * a.x)) * (((a.x * a.x) + (a.x * a.x)) + (a.x * a.x))) - ((((a.x * (a.y * a.y)) + (a.x * (a.y * a.y))) + ((a.x * (a.y * a.y)) + (a.x * (a.y * a.y)))) + (((a.x * (a.y * a.y)) + (a.x * (a.y * a.y))) + ((a.x * (a.y * a.y)) + (a.x * (a.y * a.y))))))), FV ((((a.x * a.x) + (a.x * a.x)) + (a.x * a.x)) * ((((a.x * (a.y * a.y)) + (a.x * (a.y * a.y))) + ((a.x * (a.y * a.y)) + (a.x * (a.y * a.y)))) - (((((a.x * a.x) + (a.x * a.x)) + (a.x * a.x)) * (((a.x * a.x) + (a.x * a.x)) + (a.x * a.x))) - ((((a.x * (a.y * a.y)) + (a.x * (a.y * a.y))) + ((a.x * (a.y * a.y)) + (a.x * (a.y * a.y)))) + (((a.x * (a.y * a.y)) + (a.x * (a.y * a.y))) + ((a.x * (a.y * a.y)) + (a.x * (a.y * a.y)))))))), FV (((((a.y * a.y) * (a.y * a.y)) + ((a.y * a.y) * (a.y * a.y))) + (((a.y * a.y) * (a.y * a.y)) + ((a.y * a.y) * (a.y * a.y)))) + ((((a.y * a.y) * (a.y * a.y)) + ((a.y * a.y) * (a.y * a.y))) + (((a.y * a.y) * (a.y * a.y)) + ((a.y * a.y) * (a.y * a.y))))), FV (((((a.x * a.x) + (a.x * a.x)) + (a.x * a.x)) * ((((a.x * (a.y * a.y)) + (a.x * (a.y * a.y))) + ((a.x * (a.y * a.y)) + (a.x * (a.y * a.y)))) - (((((a.x * a.x) + (a.x * a.x)) + (a.x * a.x)) * (((a.x * a.x) + (a.x * a.x)) + (a.x * a.x))) - ((((a.x * (a.y * a.y)) + (a.x * (a.y * a.y))) + ((a.x * (a.y * a.y)) + (a.x * (a.y * a.y)))) + (((a.x * (a.y * a.y)) + (a.x * (a.y * a.y))) + ((a.x * (a.y * a.y)) + (a.x * (a.y * a.y)))))))) - (((((a.y * a.y) * (a.y * a.y)) + ((a.y * a.y) * (a.y * a.y))) + (((a.y * a.y) * (a.y * a.y)) + ((a.y * a.y) * (a.y * a.y)))) + ((((a.y * a.y) * (a.y * a.y)) + ((a.y * a.y) * (a.y * a.y))) + (((a.y * a.y) * (a.y * a.y)) + ((a.y * a.y) * (a.y * a.y))))))] ++ U 9) (fun L => [((L0.b 0), JC a), ((L0.b 1), JC ⟨0, 0, 0⟩), ((L1.b 6), FC (a.x * a.x)), ((L1.b 7), FC (a.y * a.y)), ((L2.b 4), FC (((a.x * a.x) + (a.x * a.x)) + (a.x * a.x))), ((L3.b 6), FC (((a.x * (a.y * a.y)) + (a.x * (a.y * a.y))) + ((a.x * (a.y * a.y)) + (a.x * (a.y * a.y))))), ((L4.b 5), FC (((((a.x * a.x) + (a.x * a.x)) + (a.x * a.x)) * (((a.x * a.x) + (a.x * a.x)) + (a.x * a.x))) - ((((a.x * (a.y * a.y)) + (a.x * (a.y * a.y))) + ((a.x * (a.y * a.y)) + (a.x * (a.y * a.y)))) + (((a.x * (a.y * a.y)) + (a.x * (a.y * a.y))) + ((a.x * (a.y * a.y)) + (a.x * (a.y * a.y))))))), ((L5.b 5), FC (((((a.y * a.y) * (a.y * a.y)) + ((a.y * a.y) * (a.y * a.y))) + (((a.y * a.y) * (a.y * a.y)) + ((a.y * a.y) * (a.y * a.y)))) + ((((a.y * a.y) * (a.y * a.y)) + ((a.y * a.y) * (a.y * a.y))) + (((a.y * a.y) * (a.y * a.y)) + ((a.y * a.y) * (a.y * a.y)))))), (L.b 7, FC (((((a.x * a.x) + (a.x * a.x)) + (a.x * a.x)) * ((((a.x * (a.y * a.y)) + (a.x * (a.y * a.y))) + ((a.x * (a.y * a.y)) + (a.x * (a.y * a.y)))) - (((((a.x * a.x) + (a.x * a.x)) + (a.x * a.x)) * (((a.x * a.x) + (a.x * a.x)) + (a.x * a.x))) - ((((a.x * (a.y * a.y)) + (a.x * (a.y * a.y))) + ((a.x * (a.y * a.y)) + (a.x * (a.y * a.y)))) + (((a.x * (a.y * a.y)) + (a.x * (a.y * a.y))) + ((a.x * (a.y * a.y)) + (a.x * (a.y * a.y)))))))) - (((((a.y * a.y) * (a.y * a.y)) + ((a.y * a.y) * (a.y * a.y))) + (((a.y * a.y) * (a.y * a.y)) + ((a.y * a.y) * (a.y * a.y)))) + ((((a.y * a.y) * (a.y * a.y)) + ((a.y * a.y) * (a.y * a.y))) + (((a.y * a.y) * (a.y * a.y)) + ((a.y * a.y) * (a.y * a.y)))))))]) hp6 ⟨
    oL 4 0 rF, oL 5 0 rF, oL 6 0 rF, oC K.stay hg (K.sub (((a.x * (a.y * a.y)) + (a.x * (a.y * a.y))) + ((a.x * (a.y * a.y)) + (a.x * (a.y * a.y)))) (((((a.x * a.x) + (a.x * a.x)) + (a.x * a.x)) * (((a.x * a.x) + (a.x * a.x)) + (a.x * a.x))) - ((((a.x * (a.y * a.y)) + (a.x * (a.y * a.y))) + ((a.x * (a.y * a.y)) + (a.x * (a.y * a.y)))) + (((a.x * (a.y * a.y)) + (a.x * (a.y * a.y))) + ((a.x * (a.y * a.y)) + (a.x * (a.y * a.y))))))),
    oC K.stay hg (K.mul (((a.x * a.x) + (a.x * a.x)) + (a.x * a.x)) ((((a.x * (a.y * a.y)) + (a.x * (a.y * a.y))) + ((a.x * (a.y * a.y)) + (a.x * (a.y * a.y)))) - (((((a.x * a.x) + (a.x * a.x)) + (a.x * a.x)) * (((a.x * a.x) + (a.x * a.x)) + (a.x * a.x))) - ((((a.x * (a.y * a.y)) + (a.x * (a.y * a.y))) + ((a.x * (a.y * a.y)) + (a.x * (a.y * a.y)))) + (((a.x * (a.y * a.y)) + (a.x * (a.y * a.y))) + ((a.x * (a.y * a.y)) + (a.x * (a.y * a.y)))))))),
    oL 7 0 rF, oC K.stay hg (K.sub ((((a.x * a.x) + (a.x * a.x)) + (a.x * a.x)) * ((((a.x * (a.y * a.y)) + (a.x * (a.y * a.y))) + ((a.x * (a.y * a.y)) + (a.x * (a.y * a.y)))) - (((((a.x * a.x) + (a.x * a.x)) + (a.x * a.x)) * (((a.x * a.x) + (a.x * a.x)) + (a.x * a.x))) - ((((a.x * (a.y * a.y)) + (a.x * (a.y * a.y))) + ((a.x * (a.y * a.y)) + (a.x * (a.y * a.y)))) + (((a.x * (a.y * a.y)) + (a.x * (a.y * a.y))) + ((a.x * (a.y * a.y)) + (a.x * (a.y * a.y)))))))) (((((a.y * a.y) * (a.y * a.y)) + ((a.y * a.y) * (a.y * a.y))) + (((a.y * a.y) * (a.y * a.y)) + ((a.y * a.y) * (a.y * a.y)))) + ((((a.y * a.y) * (a.y * a.y)) + ((a.y * a.y) * (a.y * a.y))) + (((a.y * a.y) * (a.y * a.y)) + ((a.y * a.y) * (a.y * a.y)))))),
    oZ rF, oT rF,
    trivial⟩ (fun L6 w7 hp7 => ?_)
  refine k7 _ _ ?_
  refine wp_seq_k (fun K8 k8 => ?_)
  refine dr [.det (FV (((((a.x * a.x) + (a.x * a.x)) + (a.x * a.x)) * (((a.x * a.x) + (a.x * a.x)) + (a.x * a.x))) - ((((a.x * (a.y * a.y)) + (a.x * (a.y * a.y))) + ((a.x * (a.y * a.y)) + (a.x * (a.y * a.y)))) + (((a.x * (a.y * a.y)) + (a.x * (a.y * a.y))) + ((a.x * (a.y * a.y)) + (a.x * (a.y * a.y))))))), .det (FV (((((a.x * a.x) + (a.x * a.x)) + (a.x * a.x)) * ((((a.x * (a.y * a.y)) + (a.x * (a.y * a.y))) + ((a.x * (a.y * a.y)) + (a.x * (a.y * a.y)))) - (((((a.x * a.x) + (a.x * a.x)) + (a.x * a.x)) * (((a.x * a.x) + (a.x * a.x)) + (a.x * a.x))) - ((((a.x * (a.y * a.y)) + (a.x * (a.y * a.y))) + ((a.x * (a.y * a.y)) + (a.x * (a.y * a.y)))) + (((a.x * (a.y * a.y)) + (a.x * (a.y * a.y))) + ((a.x * (a.y * a.y)) + (a.x * (a.y * a.y)))))))) - (((((a.y * a.y) * (a.y * a.y)) + ((a.y * a.y) * (a.y * a.y))) + (((a.y * a.y) * (a.y * a.y)) + ((a.y * a.y) * (a.y * a.y)))) + ((((a.y * a.y) * (a.y * a.y)) + ((a.y * a.y) * (a.y * a.y))) + (((a.y * a.y) * (a.y * a.y)) + ((a.y * a.y) * (a.y * a.y))))))), .det (pt (L0.b 0) 6), .det (FV a.y), .det (pt (L0.b 0) 12), .det (FV a.z), .det (FV (a.y * a.z)), .det (FV ((a.y * a.z) + (a.y * a.z))), .det (JV ⟨(((((a.x * a.x) + (a.x * a.x)) + (a.x * a.x)) * (((a.x * a.x) + (a.x * a.x)) + (a.x * a.x))) - ((((a.x * (a.y * a.y)) + (a.x * (a.y * a.y))) + ((a.x * (a.y * a.y)) + (a.x * (a.y * a.y)))) + (((a.x * (a.y * a.y)) + (a.x * (a.y * a.y))) + ((a.x * (a.y * a.y)) + (a.x * (a.y * a.y)))))), (((((a.x * a.x) + (a.x * a.x)) + (a.x * a.x)) * ((((a.x * (a.y * a.y)) + (a.x * (a.y * a.y))) + ((a.x * (a.y * a.y)) + (a.x * (a.y * a.y)))) - (((((a.x * a.x) + (a.x * a.x)) + (a.x * a.x)) * (((a.x * a.x) + (a.x * a.x)) + (a.x * a.x))) - ((((a.x * (a.y * a.y)) + (a.x * (a.y * a.y))) + ((a.x * (a.y * a.y)) + (a.x * (a.y * a.y)))) + (((a.x * (a.y * a.y)) + (a.x * (a.y * a.y))) + ((a.x * (a.y * a.y)) + (a.x * (a.y * a.y)))))))) - (((((a.y * a.y) * (a.y * a.y)) + ((a.y * a.y) * (a.y * a.y))) + (((a.y * a.y) * (a.y * a.y)) + ((a.y * a.y) * (a.y * a.y)))) + ((((a.y * a.y) * (a.y * a.y)) + ((a.y * a.y) * (a.y * a.y))) + (((a.y * a.y) * (a.y * a.y)) + ((a.y * a.y) * (a.y * a.y)))))), ((a.y * a.z) + (a.y * a.z))⟩), .store (.base 1) 0 (JC ⟨(((((a.x * a.x) + (a.x * a.x)) + (a.x * a.x)) * (((a.x * a.x) + (a.x * a.x)) + (a.x * a.x))) - ((((a.x * (a.y * a.y)) + (a.x * (a.y * a.y))) + ((a.x * (a.y * a.y)) + (a.x * (a.y * a.y)))) + (((a.x * (a.y * a.y)) + (a.x * (a.y * a.y))) + ((a.x * (a.y * a.y)) + (a.x * (a.y * a.y)))))), (((((a.x * a.x) + (a.x * a.x)) + (a.x * a.x)) * ((((a.x * (a.y * a.y)) + (a.x * (a.y * a.y))) + ((a.x * (a.y * a.y)) + (a.x * (a.y * a.y)))) - (((((a.x * a.x) + (a.x * a.x)) + (a.x * a.x)) * (((a.x * a.x) + (a.x * a.x)) + (a.x * a.x))) - ((((a.x * (a.y * a.y)) + (a.x * (a.y * a.y))) + ((a.x * (a.y * a.y)) + (a.x * (a.y * a.y)))) + (((a.x * (a.y * a.y)) + (a.x * (a.y * a.y))) + ((a.x * (a.y * a.y)) + (a.x * (a.y * a.y)))))))) - (((((a.y * a.y) * (a.y * a.y)) + ((a.y * a.y) * (a.y * a.y))) + (((a.y * a.y) * (a.y * a.y)) + ((a.y * a.y) * (a.y * a.y)))) + ((((a.y * a.y) * (a.y * a.y)) + ((a.y * a.y) * (a.y * a.y))) + (((a.y * a.y) * (a.y * a.y)) + ((a.y * a.y) * (a.y * a.y)))))), ((a.y * a.z) + (a.y * a.z))⟩) (JC ⟨(((((a.x * a.x) + (a.x * a.x)) + (a.x * a.x)) * (((a.x * a.x) + (a.x * a.x)) + (a.x * a.x))) - ((((a.x * (a.y * a.y)) + (a.x * (a.y * a.y))) + ((a.x * (a.y * a.y)) + (a.x * (a.y * a.y)))) + (((a.x * (a.y * a.y)) + (a.x * (a.y * a.y))) + ((a.x * (a.y * a.y)) + (a.x * (a.y * a.y)))))), (((((a.x * a.x) + (a.x * a.x)) + (a.x * a.x)) * ((((a.x * (a.y * a.y)) + (a.x * (a.y * a.y))) + ((a.x * (a.y * a.y)) + (a.x * (a.y * a.y)))) - (((((a.x * a.x) + (a.x * a.x)) + (a.x * a.x)) * (((a.x * a.x) + (a.x * a.x)) + (a.x * a.x))) - ((((a.x * (a.y * a.y)) + (a.x * (a.y * a.y))) + ((a.x * (a.y * a.y)) + (a.x * (a.y * a.y)))) + (((a.x * (a.y * a.y)) + (a.x * (a.y * a.y))) + ((a.x * (a.y * a.y)) + (a.x * (a.y * a.y)))))))) - (((((a.y * a.y) * (a.y * a.y)) + ((a.y * a.y) * (a.y * a.y))) + (((a.y * a.y) * (a.y * a.y)) + ((a.y * a.y) * (a.y * a.y)))) + ((((a.y * a.y) * (a.y * a.y)) + ((a.y * a.y) * (a.y * a.y))) + (((a.y * a.y) * (a.y * a.y)) + ((a.y * a.y) * (a.y * a.y)))))), ((a.y * a.z) + (a.y * a.z))⟩)] [0, 1, 2, 3, 4, 5, 6, 7, 8, 9] [0, 0, 0, 4, 0, 16, 60, 124, 255, 511] (fun L => [JV a, pt (L0.b 0) 0, pt (L0.b 1) 0, pt (L1.b 6) 0, pt (L1.b 7) 0, pt (L2.b 4) 0, pt (L3.b 6) 0, pt (L4.b 5) 0, pt (L5.b 5) 0, pt (L6.b 7) 0, pt (L0.b 0) 0, FV a.x, FV (a.x * a.x), pt (L0.b 0) 6, FV a.y, FV (a.y * a.y), FV (a.x * a.x), FV ((a.x * a.x) + (a.x * a.x)), FV (a.x * a.x), FV (((a.x * a.x) + (a.x * a.x)) + (a.x * a.x)), pt (L0.b 0) 0, FV a.x, FV (a.y * a.y), FV (a.x * (a.y * a.y)), FV ((a.x * (a.y * a.y)) + (a.x * (a.y * a.y))), FV (((a.x * (a.y * a.y)) + (a.x * (a.y * a.y))) + ((a.x * (a.y * a.y)) + (a.x * (a.y * a.y)))), FV (((a.x * a.x) + (a.x * a.x)) + (a.x * a.x)), FV ((((a.x * a.x) + (a.x * a.x)) + (a.x * a.x)) * (((a.x * a.x) + (a.x * a.x)) + (a.x * a.x))), FV (((a.x * (a.y * a.y)) + (a.x * (a.y * a.y))) + ((a.x * (a.y * a.y)) + (a.x * (a.y * a.y)))), FV ((((a.x * (a.y * a.y)) + (a.x * (a.y * a.y))) + ((a.x * (a.y * a.y)) + (a.x * (a.y * a.y)))) + (((a.x * (a.y * a.y)) + (a.x * (a.y * a.y))) + ((a.x * (a.y * a.y)) + (a.x * (a.y * a.y))))), FV (((((a.x * a.x) + (a.x * a.x)) + (a.x * a.x)) * (((a.x * a.x) + (a.x * a.x)) + (a.x * a.x))) - ((((a.x * (a.y * a.y)) + (a.x * (a.y * a.y))) + ((a.x * (a.y * a.y)) + (a.x * (a.y * a.y)))) + (((a.x * (a.y * a.y)) + (a.x * (a.y * a.y))) + ((a.x * (a.y * a.y)) + (a.x * (a.y * a.y)))))), FV (a.y * a.y), FV ((a.y * a.y) * (a.y * a.y)), FV (((a.y * a.y) * (a.y * a.y)) + ((a.y * a.y) * (a.y * a.y))), FV ((((a.y * a.y) * (a.y * a.y)) + ((a.y * a.y) * (a.y * a.y))) + (((a.y * a.y) * (a.y * a.y)) + ((a.y * a.y) * (a.y * a.y)))), FV (((((a.y * a.y) * (a.y * a.y)) + ((a.y * a.y) * (a.y * a.y))) + (((a.y * a.y) * (a.y * a.y)) + ((a.y * a.y) * (a.y * a.y)))) + ((((a.y * a.y) * (a.y * a.y)) + ((a.y * a.y) * (a.y * a.y))) + (((a.y * a.y) * (a.y * a.y)) + ((a.y * a.y) * (a.y * a.y))))), FV (((a.x * a.x) + (a.x * a.x)) + (a.x * a.x)), FV (((a.x * (a.y * a.y)) + (a.x * (a.y * a.y))) + ((a.x * (a.y * a.y)) + (a.x * (a.y * a.y)))), FV (((((a.x * a.x) + (a.x * a.x)) + (a.x * a.x)) * (((a.x * a.x) + (a.x * a.x)) + (a.x * a.x))) - ((((a.x * (a.y * a.y)) + (a.x * (a.y * a.y))) + ((a.x * (a.y * a.y)) + (a.x * (a.y * a.y)))) + (((a.x * (a.y * a.y)) + (a.x * (a.y * a.y))) + ((a.x * (a.y * a.y)) + (a.x * (a.y * a.y)))))), FV ((((a.x * (a.y * a.y)) + (a.x * (a.y * a.y))) + ((a.x * (a.y * a.y)) + (a.x * (a.y * a.y)))) - (((((a.x * a.x) + (a.x * a.x)) + (a.x * a.x)) * (((a.x * a.x) + (a.x * a.x)) + (a.x * a.x))) - ((((a.x * (a.y * a.y)) + (a.x * (a.y * a.y))) + ((a.x * (a.y * a.y)) + (a.x * (a.y * a.y)))) + (((a.x * (a.y * a.y)) + (a.x * (a.y * a.y))) + ((a.x * (a.y * a.y)) + (a.x * (a.y * a.y))))))), FV ((((a.x * a.x) + (a.x * a.x)) + (a.x * a.x)) * ((((a.x * (a.y * a.y)) + (a.x * (a.y * a.y))) + ((a.x * (a.y * a.y)) + (a.x * (a.y * a.y)))) - (((((a.x * a.x) + (a.x * a.x)) + (a.x * a.x)) * (((a.x * a.x) + (a.x * a.x)) + (a.x * a.x))) - ((((a.x * (a.y * a.y)) + (a.x * (a.y * a.y))) + ((a.x * (a.y * a.y)) + (a.x * (a.y * a.y)))) + (((a.x * (a.y * a.y)) + (a.x * (a.y * a.y))) + ((a.x * (a.y * a.y)) + (a.x * (a.y * a.y)))))))), FV (((((a.y * a.y) * (a.y * a.y)) + ((a.y * a.y) * (a.y * a.y))) + (((a.y * a.y) * (a.y * a.y)) + ((a.y * a.y) * (a.y * a.y)))) + ((((a.y * a.y) * (a.y * a.y)) + ((a.y * a.y) * (a.y * a.y))) + (((a.y * a.y) * (a.y * a.y)) + ((a.y * a.y) * (a.y * a.y))))), FV (((((a.x * a.x) + (a.x * a.x)) + (a.x * a.x)) * ((((a.x * (a.y * a.y)) + (a.x * (a.y * a.y))) + ((a.x * (a.y * a.y)) + (a.x * (a.y * a.y)))) - (((((a.x * a.x) + (a.x * a.x)) + (a.x * a.x)) * (((a.x * a.x) + (a.x * a.x)) + (a.x * a.x))) - ((((a.x * (a.y * a.y)) + (a.x * (a.y * a.y))) + ((a.x * (a.y * a.y)) + (a.x * (a.y * a.y)))) + (((a.x * (a.y * a.y)) + (a.x * (a.y * a.y))) + ((a.x * (a.y * a.y)) + (a.x * (a.y * a.y)))))))) - (((((a.y * a.y) * (a.y * a.y)) + ((a.y * a.y) * (a.y * a.y))) + (((a.y * a.y) * (a.y * a.y)) + ((a.y * a.y) * (a.y * a.y)))) + ((((a.y * a.y) * (a.y * a.y)) + ((a.y * a.y) * (a.y * a.y))) + (((a.y * a.y) * (a.y * a.y)) + ((a.y * a.y) * (a.y * a.y)))))), FV (((((a.x * a.x) + (a.x * a.x)) + (a.x * a.x)) * (((a.x * a.x) + (a.x * a.x)) + (a.x * a.x))) - ((((a.x * (a.y * a.y)) + (a.x * (a.y * a.y))) + ((a.x * (a.y * a.y)) + (a.x * (a.y * a.y)))) + (((a.x * (a.y * a.y)) + (a.x * (a.y * a.y))) + ((a.x * (a.y * a.y)) + (a.x * (a.y * a.y)))))), FV (((((a.x * a.x) + (a.x * a.x)) + (a.x * a.x)) * ((((a.x * (a.y * a.y)) + (a.x * (a.y * a.y))) + ((a.x * (a.y * a.y)) + (a.x * (a.y * a.y)))) - (((((a.x * a.x) + (a.x * a.x)) + (a.x * a.x)) * (((a.x * a.x) + (a.x * a.x)) + (a.x * a.x))) - ((((a.x * (a.y * a.y)) + (a.x * (a.y * a.y))) + ((a.x * (a.y * a.y)) + (a.x * (a.y * a.y)))) + (((a.x * (a.y * a.y)) + (a.x * (a.y * a.y))) + ((a.x * (a.y * a.y)) + (a.x * (a.y * a.y)))))))) - (((((a.y * a.y) * (a.y * a.y)) + ((a.y * a.y) * (a.y * a.y))) + (((a.y * a.y) * (a.y * a.y)) + ((a.y * a.y) * (a.y * a.y)))) + ((((a.y * a.y) * (a.y * a.y)) + ((a.y * a.y) * (a.y * a.y))) + (((a.y * a.y) * (a.y * a.y)) + ((a.y * a.y) * (a.y * a.y)))))), pt (L0.b 0) 6, FV a.y, pt (L0.b 0) 12, FV a.z, FV (a.y * a.z), FV ((a.y * a.z) + (a.y * a.z)), JV ⟨(((((a.x * a.x) + (a.x * a.x)) + (a.x * a.x)) * (((a.x * a.x) + (a.x * a.x)) + (a.x * a.x))) - ((((a.x * (a.y * a.y)) + (a.x * (a.y * a.y))) + ((a.x * (a.y * a.y)) + (a.x * (a.y * a.y)))) + (((a.x * (a.y * a.y)) + (a.x * (a.y * a.y))) + ((a.x * (a.y * a.y)) + (a.x * (a.y * a.y)))))), (((((a.x * a.x) + (a.x * a.x)) + (a.x * a.x)) * ((((a.x * (a.y * a.y)) + (a.x * (a.y * a.y))) + ((a.x * (a.y * a.y)) + (a.x * (a.y * a.y)))) - (((((a.x * a.x) + (a.x * a.x)) + (a.x * a.x)) * (((a.x * a.x) + (a.x * a.x)) + (a.x * a.x))) - ((((a.x * (a.y * a.y)) + (a.x * (a.y * a.y))) + ((a.x * (a.y * a.y)) + (a.x * (a.y * a.y)))) + (((a.x * (a.y * a.y)) + (a.x * (a.y * a.y))) + ((a.x * (a.y * a.y)) + (a.x * (a.y * a.y)))))))) - (((((a.y * a.y) * (a.y * a.y)) + ((a.y * a.y) * (a.y * a.y))) + (((a.y * a.y) * (a.y * a.y)) + ((a.y * a.y) * (a.y * a.y)))) + ((((a.y * a.y) * (a.y * a.y)) + ((a.y * a.y) * (a.y * a.y))) + (((a.y * a.y) * (a.y * a.y)) + ((a.y * a.y) * (a.y * a.y)))))), ((a.y * a.z) + (a.y * a.z))⟩]) (fun L => [((L0.b 0), JC a), ((L0.b 1), JC ⟨(((((a.x * a.x) + (a.x * a.x)) + (a.x * a.x)) * (((a.x * a.x) + (a.x * a.x)) + (a.x * a.x))) - ((((a.x * (a.y * a.y)) + (a.x * (a.y * a.y))) + ((a.x * (a.y * a.y)) + (a.x * (a.y * a.y)))) + (((a.x * (a.y * a.y)) + (a.x * (a.y * a.y))) + ((a.x * (a.y * a.y)) + (a.x * (a.y * a.y)))))), (((((a.x * a.x) + (a.x * a.x)) + (a.x * a.x)) * ((((a.x * (a.y * a.y)) + (a.x * (a.y * a.y))) + ((a.x * (a.y * a.y)) + (a.x * (a.y * a.y)))) - (((((a.x * a.x) + (a.x * a.x)) + (a.x * a.x)) * (((a.x * a.x) + (a.x * a.x)) + (a.x * a.x))) - ((((a.x * (a.y * a.y)) + (a.x * (a.y * a.y))) + ((a.x * (a.y * a.y)) + (a.x * (a.y * a.y)))) + (((a.x * (a.y * a.y)) + (a.x * (a.y * a.y))) + ((a.x * (a.y * a.y)) + (a.x * (a.y * a.y)))))))) - (((((a.y * a.y) * (a.y * a.y)) + ((a.y * a.y) * (a.y * a.y))) + (((a.y * a.y) * (a.y * a.y)) + ((a.y * a.y) * (a.y * a.y)))) + ((((a.y * a.y) * (a.y * a.y)) + ((a.y * a.y) * (a.y * a.y))) + (((a.y * a.y) * (a.y * a.y)) + ((a.y * a.y) * (a.y * a.y)))))), ((a.y * a.z) + (a.y * a.z))⟩), ((L1.b 6), FC (a.x * a.x)), ((L1.b 7), FC (a.y * a.y)), ((L2.b 4), FC (((a.x * a.x) + (a.x * a.x)) + (a.x * a.x))), ((L3.b 6), FC (((a.x * (a.y * a.y)) + (a.x * (a.y * a.y))) + ((a.x * (a.y * a.y)) + (a.x * (a.y * a.y))))), ((L4.b 5), FC (((((a.x * a.x) + (a.x * a.x)) + (a.x * a.x)) * (((a.x * a.x) + (a.x * a.x)) + (a.x * a.x))) - ((((a.x * (a.y * a.y)) + (a.x * (a.y * a.y))) + ((a.x * (a.y * a.y)) + (a.x * (a.y * a.y)))) + (((a.x * (a.y * a.y)) + (a.x * (a.y * a.y))) + ((a.x * (a.y * a.y)) + (a.x * (a.y * a.y))))))), ((L5.b 5), FC (((((a.y * a.y) * (a.y * a.y)) + ((a.y * a.y) * (a.y * a.y))) + (((a.y * a.y) * (a.y * a.y)) + ((a.y * a.y) * (a.y * a.y)))) + ((((a.y * a.y) * (a.y * a.y)) + ((a.y * a.y) * (a.y * a.y))) + (((a.y * a.y) * (a.y * a.y)) + ((a.y * a.y) * (a.y * a.y)))))), ((L6.b 7), FC (((((a.x * a.x) + (a.x * a.x)) + (a.x * a.x)) * ((((a.x * (a.y * a.y)) + (a.x * (a.y * a.y))) + ((a.x * (a.y * a.y)) + (a.x * (a.y * a.y)))) - (((((a.x * a.x) + (a.x * a.x)) + (a.x * a.x)) * (((a.x * a.x) + (a.x * a.x)) + (a.x * a.x))) - ((((a.x * (a.y * a.y)) + (a.x * (a.y * a.y))) + ((a.x * (a.y * a.y)) + (a.x * (a.y * a.y)))) + (((a.x * (a.y * a.y)) + (a.x * (a.y * a.y))) + ((a.x * (a.y * a.y)) + (a.x * (a.y * a.y)))))))) - (((((a.y * a.y) * (a.y * a.y)) + ((a.y * a.y) * (a.y * a.y))) + (((a.y * a.y) * (a.y * a.y)) + ((a.y * a.y) * (a.y * a.y)))) + ((((a.y * a.y) * (a.y * a.y)) + ((a.y * a.y) * (a.y * a.y))) + (((a.y * a.y) * (a.y * a.y)) + ((a.y * a.y) * (a.y * a.y)))))))]) hp7 ⟨
    oL 6 0 rF, oL 8 0 rF, oF fJ1, oL 0 6 rF, oF fJ2, oL 0 12 rF, oC K.stay hg (K.mul a.y a.z), oC K.stay hg (g1double K (a.y * a.z)), oD (buildJ012 (((((a.x * a.x) + (a.x * a.x)) + (a.x * a.x)) * (((a.x * a.x) + (a.x * a.x)) + (a.x * a.x))) - ((((a.x * (a.y * a.y)) + (a.x * (a.y * a.y))) + ((a.x * (a.y * a.y)) + (a.x * (a.y * a.y)))) + (((a.x * (a.y * a.y)) + (a.x * (a.y * a.y))) + ((a.x * (a.y * a.y)) + (a.x * (a.y * a.y)))))) (((((a.x * a.x) + (a.x * a.x)) + (a.x * a.x)) * ((((a.x * (a.y * a.y)) + (a.x * (a.y * a.y))) + ((a.x * (a.y * a.y)) + (a.x * (a.y * a.y)))) - (((((a.x * a.x) + (a.x * a.x)) + (a.x * a.x)) * (((a.x * a.x) + (a.x * a.x)) + (a.x * a.x))) - ((((a.x * (a.y * a.y)) + (a.x * (a.y * a.y))) + ((a.x * (a.y * a.y)) + (a.x * (a.y * a.y)))) + (((a.x * (a.y * a.y)) + (a.x * (a.y * a.y))) + ((a.x * (a.y * a.y)) + (a.x * (a.y * a.y)))))))) - (((((a.y * a.y) * (a.y * a.y)) + ((a.y * a.y) * (a.y * a.y))) + (((a.y * a.y) * (a.y * a.y)) + ((a.y * a.y) * (a.y * a.y)))) + ((((a.y * a.y) * (a.y * a.y)) + ((a.y * a.y) * (a.y * a.y))) + (((a.y * a.y) * (a.y * a.y)) + ((a.y * a.y) * (a.y * a.y)))))) ((a.y * a.z) + (a.y * a.z))),
    oT rJ,
    trivial⟩ (fun L7 w8 hp8 => ?_)
  refine k8 _ _ ?_
  refine wp_ret ?_
  refine bodyPost_ret (v := JV ⟨(((((a.x * a.x) + (a.x * a.x)) + (a.x * a.x)) * (((a.x * a.x) + (a.x * a.x)) + (a.x * a.x))) - ((((a.x * (a.y * a.y)) + (a.x * (a.y * a.y))) + ((a.x * (a.y * a.y)) + (a.x * (a.y * a.y)))) + (((a.x * (a.y * a.y)) + (a.x * (a.y * a.y))) + ((a.x * (a.y * a.y)) + (a.x * (a.y * a.y)))))), (((((a.x * a.x) + (a.x * a.x)) + (a.x * a.x)) * ((((a.x * (a.y * a.y)) + (a.x * (a.y * a.y))) + ((a.x * (a.y * a.y)) + (a.x * (a.y * a.y)))) - (((((a.x * a.x) + (a.x * a.x)) + (a.x * a.x)) * (((a.x * a.x) + (a.x * a.x)) + (a.x * a.x))) - ((((a.x * (a.y * a.y)) + (a.x * (a.y * a.y))) + ((a.x * (a.y * a.y)) + (a.x * (a.y * a.y)))) + (((a.x * (a.y * a.y)) + (a.x * (a.y * a.y))) + ((a.x * (a.y * a.y)) + (a.x * (a.y * a.y)))))))) - (((((a.y * a.y) * (a.y * a.y)) + ((a.y * a.y) * (a.y * a.y))) + (((a.y * a.y) * (a.y * a.y)) + ((a.y * a.y) * (a.y * a.y)))) + ((((a.y * a.y) * (a.y * a.y)) + ((a.y * a.y) * (a.y * a.y))) + (((a.y * a.y) * (a.y * a.y)) + ((a.y * a.y) * (a.y * a.y)))))), ((a.y * a.z) + (a.y * a.z))⟩) ?_ rfl ?_
  · exact rc rJ rfl (by kernel_rfl) (hp8.bound 1 rfl).2
  · exact ⟨congrArg (fun z => Ending.returned (JV z)) (Jc.ext' rfl rfl rfl), hp8.bel⟩
set_option maxHeartbeats 4000000 in
theorem g1across {G : World → Prop} (K : FpK G) (a : Jc F) (s t : F) (w : World) (hg : G w) : Calls Tryd.prog 61 #[JV a, FV s, FV t] w (Ret (JV (jacross a s t)) w) := by
  have hp0 := Heap.start w
  go_enter Tryd.func61, Tryd.ntmps61
  refine wp_seq_k (fun K1 k1 => ?_)
  refine gs [.alloc (JC a), .alloc (FC s), .alloc (FC t), .alloc (JC ⟨0, 0, 0⟩)] [0, 1, 2, 3] [0, 0, 0, 0] (fun L => [JV a, FV s, FV t, pt (L.b 0) 0, pt (L.b 1) 0, pt (L.b 2) 0, pt (L.b 3) 0] ++ U 38) (fun L => [(L.b 0, JC a), (L.b 1, FC s), (L.b 2, FC t), (L.b 3, JC ⟨0, 0, 0⟩)]) hp0 ⟨
    oB, oB, oB, oZ rJ,
    trivial⟩ (fun L0 w1 hp1 => ?_)
  refine k1 _ _ ?_
  refine wp_seq_k (fun K2 k2 => ?_)
  refine gs [.det (FV s), .det (FV (s * s)), .alloc (FC 0), .store (.new 2) 0 (FC (s * s)) (FC (s * s))] [0, 1, 2, 3] [0, 1, 0, 7] (fun L => [JV a, FV s, FV t, pt (L0.b 0) 0, pt (L0.b 1) 0, pt (L0.b 2) 0, pt (L0.b 3) 0, pt (L.b 2) 0, undef, undef, undef, undef, FV s, FV (s * s)] ++ U 31) (fun L => [((L0.b 0), JC a), ((L0.b 1), FC s), ((L0.b 2), FC t), ((L0.b 3), JC ⟨0, 0, 0⟩), (L.b 2, FC (s * s))]) hp1 ⟨
    oL 1 0 rF, oC K.stay hg (g1square K s), oZ rF, oT rF,
    trivial⟩ (fun L1 w2 hp2 => ?_)
  refine k2 _ _ ?_
  refine wp_seq_k (fun K3 k3 => ?_)
  refine gs [.det (FV (s * s)), .det (FV s), .det (FV ((s * s) * s)), .alloc (FC 0), .store (.new 3) 0 (FC ((s * s) * s)) (FC ((s * s) * s))] [0, 1, 2, 3, 4] [0, 0, 3, 0, 15] (fun L => [JV a, FV s, FV t, pt (L0.b 0) 0, pt (L0.b 1) 0, pt (L0.b 2) 0, pt (L0.b 3) 0, pt (L1.b 2) 0, pt (L.b 3) 0, undef, undef, undef, FV s, FV (s * s), FV (s * s), FV s, FV ((s * s) * s)] ++ U 28) (fun L => [((L0.b 0), JC a), ((L0.b 1), FC s), ((L0.b 2), FC t), ((L0.b 3), JC ⟨0, 0, 0⟩), ((L1.b 2), FC (s * s)), (L.b 3, FC ((s * s) * s))]) hp2 ⟨
    oL 4 0 rF, oL 1 0 rF, oC K.stay hg (K.mul (s * s) s), oZ rF, oT rF,
    trivial⟩ (fun L2 w3 hp3 => ?_)
  refine k3 _ _ ?_
  refine wp_seq_k (fun K4 k4 => ?_)
  refine gs [.det (pt (L0.b 0) 0), .det (FV a.x), .det (FV (s * s)), .det (FV (a.x * (s * s))), .alloc (FC 0), .store (.new 4) 0 (FC (a.x * (s * s))) (FC (a.x * (s * s)))] [0, 1, 2, 3, 4, 5] [0, 1, 0, 7, 0, 31] (fun L => [JV a, FV s, FV t, pt (L0.b 0) 0, pt (L0.b 1) 0, pt (L0.b 2) 0, pt (L0.b 3) 0, pt (L1.b 2) 0, pt (L2.b 3) 0, pt (L.b 4) 0, undef, undef, FV s, FV (s * s), FV (s * s), FV s, FV ((s * s) * s), pt (L0.b 0) 0, FV a.x, FV (s * s), FV (a.x * (s * s))] ++ U 24) (fun L => [((L0.b 0), JC a), ((L0.b 1), FC s), ((L0.b 2), FC t), ((L0.b 3), JC ⟨0, 0, 0⟩), ((L1.b 2), FC (s * s)), ((L2.b 3), FC ((s * s) * s)), (L.b 4, FC (a.x * (s * s)))]) hp3 ⟨
    oF fJ0, oL 0 0 rF, oL 4 0 rF, oC K.stay hg (K.mul a.x (s * s)), oZ rF, oT rF,
    trivial⟩ (fun L3 w4 hp4 => ?_)
  refine k4 _ _ ?_
  refine wp_seq_k (fun K5 k5 => ?_)
  refine dr [.det (FV t), .det (FV (t * t)), .det (FV ((s * s) * s)), .det (FV ((t * t) - ((s * s) * s))), .det (FV (a.x * (s * s))), .det (FV ((a.x * (s * s)) + (a.x * (s * s)))), .det (FV (((t * t) - ((s * s) * s)) - ((a.x * (s * s)) + (a.x * (s * s))))), .alloc (FC 0), .store (.new 7) 0 (FC (((t * t) - ((s * s) * s)) - ((a.x * (s * s)) + (a.x * (s * s))))) (FC (((t * t) - ((s * s) * s)) - ((a.x * (s * s)) + (a.x * (s * s)))))] [0, 1, 2, 3, 4, 5, 6, 7, 8] [0, 1, 0, 7, 0, 31, 63, 0, 255] (fun L => [JV a, FV s, FV t, pt (L0.b 0) 0, pt (L0.b 1) 0, pt (L0.b 2) 0, pt (L0.b 3) 0, pt (L1.b 2) 0, pt (L2.b 3) 0, pt (L3.b 4) 0, pt (L.b 7) 0, undef, FV s, FV (s * s), FV (s * s), FV s, FV ((s * s) * s), pt (L0.b 0) 0, FV a.x, FV (s * s), FV (a.x * (s * s)), FV t, FV (t * t), FV ((s * s) * s), FV ((t * t) - ((s * s) * s)), FV (a.x * (s * s)), FV ((a.x * (s * s)) + (a.x * (s * s))), FV (((t * t) - ((s * s) * s)) - ((a.x * (s * s)) + (a.x * (s * s))))] ++ U 17) (fun L => [((L0.b 0), JC a), ((L0.b 1), FC s), ((L0.b 2), FC t), ((L0.b 3), JC ⟨0, 0, 0⟩), ((L1.b 2), FC (s * s)), ((L2.b 3), FC ((s * s) * s)), ((L3.b 4), FC (a.x * (s * s))), (L.b 7, FC (((t * t) - ((s * s) * s)) - ((a.x * (s * s)) + (a.x * (s * s)))))]) hp4 ⟨
    oL 2 0 rF, oC K.stay hg (g1square K t), oL 5 0 rF, oC K.stay hg (K.sub (t * t) ((s * s) * s)), oL 6 0 rF, oC K.stay hg (g1double K (a.x * (s * s))), oC K.stay hg (K.sub ((t * t) - ((s * s) * s)) ((a.x * (s * s)) + (a.x * (s * s)))),
    oZ rF, oT rF,
    trivial⟩ (fun L4 w5 hp5 => ?_)
  refine k5 _ _ ?_
  refine wp_seq_k (fun K6 k6 => ?_)
  refine dr [.det (FV t), .det (FV (a.x * (s * s))), .det (FV (((t * t) - ((s * s) * s)) - ((a.x * (s * s)) + (a.x * (s * s))))), .det (FV ((a.x * (s * s)) - (((t * t) - ((s * s) * s)) - ((a.x * (s * s)) + (a.x * (s * s)))))), .det (FV (t * ((a.x * (s * s)) - (((t * t) - ((s * s) * s)) - ((a.x * (s * s)) + (a.x * (s * s))))))), .det (pt (L0.b 0) 6), .det (FV a.y), .det (FV ((s * s) * s)), .det (FV (a.y * ((s * s) * s))), .det (FV ((t * ((a.x * (s * s)) - (((t * t) - ((s * s) * s)) - ((a.x * (s * s)) + (a.x * (s * s)))))) - (a.y * ((s * s) * s)))), .alloc (FC 0), .store (.new 10) 0 (FC ((t * ((a.x * (s * s)) - (((t * t) - ((s * s) * s)) - ((a.x * (s * s)) + (a.x * (s * s)))))) - (a.y * ((s * s) * s)))) (FC ((t * ((a.x * (s * s)) - (((t * t) - ((s * s) * s)) - ((a.x * (s * s)) + (a.x * (s * s)))))) - (a.y * ((s * s) * s))))] [0, 1, 2, 3, 4, 5, 6, 7, 8, 9, 10, 11] [0, 0, 0, 6, 15, 0, 32, 0, 255, 511, 0, 2047] (fun L => [JV a, FV s, FV t, pt (L0.b 0) 0, pt (L0.b 1) 0, pt (L0.b 2) 0, pt (L0.b 3) 0, pt (L1.b 2) 0, pt (L2.b 3) 0, pt (L3.b 4) 0, pt (L4.b 7) 0, pt (L.b 10) 0, FV s, FV (s * s), FV (s * s), FV s, FV ((s * s) * s), pt (L0.b 0) 0, FV a.x, FV (s * s), FV (a.x * (s * s)), FV t, FV (t * t), FV ((s * s) * s), FV ((t * t) - ((s * s) * s)), FV (a.x * (s * s)), FV ((a.x * (s * s)) + (a.x * (s * s))), FV (((t * t) - ((s * s) * s)) - ((a.x * (s * s)) + (a.x * (s * s)))), FV t, FV (a.x * (s * s)), FV (((t * t) - ((s * s) * s)) - ((a.x * (s * s)) + (a.x * (s * s)))), FV ((a.x * (s * s)) - (((t * t) - ((s * s) * s)) - ((a.x * (s * s)) + (a.x * (s * s))))), FV (t * ((a.x * (s * s)) - (((t * t) - ((s * s) * s)) - ((a.x * (s * s)) + (a.x * (s * s)))))), pt (L0.b 0) 6, FV a.y, FV ((s * s) * s), FV (a.y * ((s * s) * s)), FV ((t * ((a.x * (s * s)) - (((t * t) - ((s * s) * s)) - ((a.x * (s * s)) + (a.x * (s * s)))))) - (a.y * ((s * s) * s)))] ++ U 7) (fun L => [((L0.b 0), JC a), ((L0.b 1), FC s), ((L0.b 2), FC t), ((L0.b 3), JC ⟨0, 0, 0⟩), ((L1.b 2), FC (s * s)), ((L2.b 3), FC ((s * s) * s)), ((L3.b 4), FC (a.x * (s * s))), ((L4.b 7), FC (((t * t) - ((s * s) * s)) - ((a.x * (s * s)) + (a.x * (s * s))))), (L.b 10, FC ((t * ((a.x * (s * s)) - (((t * t) - ((s * s) * s)) - ((a.x * (s * s)) + (a.x * (s * s)))))) - (a.y * ((s * s) * s))))]) hp5 ⟨
    oL 2 0 rF, oL 6 0 rF, oL 7 0 rF, oC K.stay hg (K.sub (a.x * (s * s)) (((t * t) - ((s * s) * s)) - ((a.x * (s * s)) + (a.x * (s * s))))), oC K.stay hg (K.mul t ((a.x * (s * s)) - (((t * t) - ((s * s) * s)) - ((a.x * (s * s)) + (a.x * (s * s)))))),
    oF fJ1, oL 0 6 rF, oL 5 0 rF, oC K.stay hg (K.mul a.y ((s * s) * s)), oC K.stay hg (K.sub (t * ((a.x * (s * s)) - (((t * t) - ((s * s) * s)) - ((a.x * (s * s)) + (a.x * (s * s)))))) (a.y * ((s * s) * s))),
    oZ rF, oT rF,
    trivial⟩ (fun L5 w6 hp6 => ?_)
  refine k6 _ _ ?_
  refine wp_seq_k (fun K7 k7 => ?_)
  refine dr [.det (FV (((t * t) - ((s * s) * s)) - ((a.x * (s * s)) + (a.x * (s * s))))), .det (FV ((t * ((a.x * (s * s)) - (((t * t) - ((s * s) * s)) - ((a.x * (s * s)) + (a.x * (s * s)))))) - (a.y * ((s * s) * s)))), .det (pt (L0.b 0) 12), .det (FV a.z), .det (FV s), .det (FV (a.z * s)), .det (JV ⟨(((t * t) - ((s * s) * s)) - ((a.x * (s * s)) + (a.x * (s * s)))), ((t * ((a.x * (s * s)) - (((t * t) - ((s * s) * s)) - ((a.x * (s * s)) + (a.x * (s * s)))))) - (a.y * ((s * s) * s))), (a.z * s)⟩), .store (.base 3) 0 (JC ⟨(((t * t) - ((s * s) * s)) - ((a.x * (s * s)) + (a.x * (s * s)))), ((t * ((a.x * (s * s)) - (((t * t) - ((s * s) * s)) - ((a.x * (s * s)) + (a.x * (s * s)))))) - (a.y * ((s * s) * s))), (a.z * s)⟩) (JC ⟨(((t * t) - ((s * s) * s)) - ((a.x * (s * s)) + (a.x * (s * s)))), ((t * ((a.x * (s * s)) - (((t * t) - ((s * s) * s)) - ((a.x * (s * s)) + (a.x * (s * s)))))) - (a.y * ((s * s) * s))), (a.z * s)⟩)] [0, 1, 2, 3, 4, 5, 6, 7] [0, 0, 0, 4, 0, 28, 63, 127] (fun L => [JV a, FV s, FV t, pt (L0.b 0) 0, pt (L0.b 1) 0, pt (L0.b 2) 0, pt (L0.b 3) 0, pt (L1.b 2) 0, pt (L2.b 3) 0, pt (L3.b 4) 0, pt (L4.b 7) 0, pt (L5.b 10) 0, FV s, FV (s * s), FV (s * s), FV s, FV ((s * s) * s), pt (L0.b 0) 0, FV a.x, FV (s * s), FV (a.x * (s * s)), FV t, FV (t * t), FV ((s * s) * s), FV ((t * t) - ((s * s) * s)), FV (a.x * (s * s)), FV ((a.x * (s * s)) + (a.x * (s * s))), FV (((t * t) - ((s * s) * s)) - ((a.x * (s * s)) + (a.x * (s * s)))), FV t, FV (a.x * (s * s)), FV (((t * t) - ((s * s) * s)) - ((a.x * (s * s)) + (a.x * (s * s)))), FV ((a.x * (s * s)) - (((t * t) - ((s * s) * s)) - ((a.x * (s * s)) + (a.x * (s * s))))), FV (t * ((a.x * (s * s)) - (((t * t) - ((s * s) * s)) - ((a.x * (s * s)) + (a.x * (s * s)))))), pt (L0.b 0) 6, FV a.y, FV ((s * s) * s), FV (a.y * ((s * s) * s)), FV ((t * ((a.x * (s * s)) - (((t * t) - ((s * s) * s)) - ((a.x * (s * s)) + (a.x * (s * s)))))) - (a.y * ((s * s) * s))), FV (((t * t) - ((s * s) * s)) - ((a.x * (s * s)) + (a.x * (s * s)))), FV ((t * ((a.x * (s * s)) - (((t * t) - ((s * s) * s)) - ((a.x * (s * s)) + (a.x * (s * s)))))) - (a.y * ((s * s) * s))), pt (L0.b 0) 12, FV a.z, FV s, FV (a.z * s), JV ⟨(((t * t) - ((s * s) * s)) - ((a.x * (s * s)) + (a.x * (s * s)))), ((t * ((a.x * (s * s)) - (((t * t) - ((s * s) * s)) - ((a.x * (s * s)) + (a.x * (s * s)))))) - (a.y * ((s * s) * s))), (a.z * s)⟩]) (fun L => [((L0.b 0), JC a), ((L0.b 1), FC s), ((L0.b 2), FC t), ((L0.b 3), JC ⟨(((t * t) - ((s * s) * s)) - ((a.x * (s * s)) + (a.x * (s * s)))), ((t * ((a.x * (s * s)) - (((t * t) - ((s * s) * s)) - ((a.x * (s * s)) + (a.x * (s * s)))))) - (a.y * ((s * s) * s))), (a.z * s)⟩), ((L1.b 2), FC (s * s)), ((L2.b 3), FC ((s * s) * s)), ((L3.b 4), FC (a.x * (s * s))), ((L4.b 7), FC (((t * t) - ((s * s) * s)) - ((a.x * (s * s)) + (a.x * (s * s))))), ((L5.b 10), FC ((t * ((a.x * (s * s)) - (((t * t) - ((s * s) * s)) - ((a.x * (s * s)) + (a.x * (s * s)))))) - (a.y * ((s * s) * s))))]) hp6 ⟨
    oL 7 0 rF, oL 8 0 rF, oF fJ2, oL 0 12 rF, oL 1 0 rF, oC K.stay hg (K.mul a.z s), oD (buildJ012 (((t * t) - ((s * s) * s)) - ((a.x * (s * s)) + (a.x * (s * s)))) ((t * ((a.x * (s * s)) - (((t * t) - ((s * s) * s)) - ((a.x * (s * s)) + (a.x * (s * s)))))) - (a.y * ((s * s) * s))) (a.z * s)),
    oT rJ,
    trivial⟩ (fun L6 w7 hp7 => ?_)
  refine k7 _ _ ?_
  refine wp_ret ?_
  refine bodyPost_ret (v := JV ⟨(((t * t) - ((s * s) * s)) - ((a.x * (s * s)) + (a.x * (s * s)))), ((t * ((a.x * (s * s)) - (((t * t) - ((s * s) * s)) - ((a.x * (s * s)) + (a.x * (s * s)))))) - (a.y * ((s * s) * s))), (a.z * s)⟩) ?_ rfl ?_
  · exact rc rJ rfl (by kernel_rfl) (hp7.bound 3 rfl).2
  · exact ⟨congrArg (fun z => Ending.returned (JV z)) (Jc.ext' rfl rfl rfl), hp7.bel⟩
set_option maxHeartbeats 4000000 in
theorem g1plus0 {G : World → Prop} (K : FpK G) (a : Jc F) (w : World) (hg : G w) : Calls Tryd.prog 33 #[JV a, GV ⟨0, 0, true⟩] w (Ret (JV a) w) := by
  have hp0 := Heap.start w
  go_enter Tryd.func33, Tryd.ntmps33
  refine wp_seq_k (fun K1 k1 => ?_)
  refine gs [.alloc (JC a), .alloc (GC ⟨0, 0, true⟩), .alloc (JC ⟨0, 0, 0⟩)] [0, 1, 2] [0, 0, 0] (fun L => [JV a, GV ⟨0, 0, true⟩, pt (L.b 0) 0, pt (L.b 1) 0, pt (L.b 2) 0] ++ U 43) (fun L => [(L.b 0, JC a), (L.b 1, GC ⟨0, 0, true⟩), (L.b 2, JC ⟨0, 0, 0⟩)]) hp0 ⟨
    oB, oB, oZ rJ,
    trivial⟩ (fun L0 w1 hp1 => ?_)
  refine k1 _ _ ?_
  refine wp_seq_k (fun K2 k2 => ?_)
  refine wp_seq_k (fun K3 k3 => ?_)
  refine gs [.det (pt (L0.b 1) 12), .det (.bool true)] [0, 1] [0, 1] (fun L => [JV a, GV ⟨0, 0, true⟩, pt (L0.b 0) 0, pt (L0.b 1) 0, pt (L0.b 2) 0, undef, undef, undef, pt (L0.b 1) 12, .bool true] ++ U 38) (fun L => [((L0.b 0), JC a), ((L0.b 1), GC ⟨0, 0, true⟩), ((L0.b 2), JC ⟨0, 0, 0⟩)]) hp1 ⟨
    oF fG2, oL1 1 12 oneB,
    trivial⟩ (fun L1 w2 hp2 => ?_)
  refine k3 _ _ ?_
  refine wp_cond_true (by kernel_rfl) ?_
  refine wp_seq_k (fun K4 k4 => ?_)
  refine gs [.det (JV a), .store (.base 2) 0 (JC a) (JC a)] [0, 1] [0, 1] (fun L => [JV a, GV ⟨0, 0, true⟩, pt (L0.b 0) 0, pt (L0.b 1) 0, pt (L0.b 2) 0, undef, undef, undef, pt (L0.b 1) 12, .bool true, JV a] ++ U 37) (fun L => [((L0.b 0), JC a), ((L0.b 1), GC ⟨0, 0, true⟩), ((L0.b 2), JC a)]) hp2 ⟨
    oL 0 0 rJ, oT rJ,
    trivial⟩ (fun L2 w3 hp3 => ?_)
  refine k4 _ _ ?_
  refine wp_ret ?_
  refine bodyPost_ret (v := JV a) ?_ rfl ?_
  · exact rc rJ rfl (by kernel_rfl) (hp3.bound 2 rfl).2
  · exact ⟨rfl, hp3.bel⟩
set_option maxHeartbeats 4000000 in
theorem g1plus1 {G : World → Prop} (K : FpK G) (a : Jc F) (x y : F) (w : World) (hg : G w) (hz : a.z = 0) : Calls Tryd.prog 33 #[JV a, GV ⟨x, y, false⟩] w (Ret (JV ⟨x, y, 1⟩) w) := by
  have hp0 := Heap.start w
  go_enter Tryd.func33, Tryd.ntmps33
  refine wp_seq_k (fun K1 k1 => ?_)
  refine gs [.alloc (JC a), .alloc (GC ⟨x, y, false⟩), .alloc (JC ⟨0, 0, 0⟩)] [0, 1, 2] [0, 0, 0] (fun L => [JV a, GV ⟨x, y, false⟩, pt (L.b 0) 0, pt (L.b 1) 0, pt (L.b 2) 0] ++ U 43) (fun L => [(L.b 0, JC a), (L.b 1, GC ⟨x, y, false⟩), (L.b 2, JC ⟨0, 0, 0⟩)]) hp0 ⟨
    oB, oB, oZ rJ,
    trivial⟩ (fun L0 w1 hp1 => ?_)
  refine k1 _ _ ?_
  refine wp_seq_k (fun K2 k2 => ?_)
  refine wp_seq_k (fun K3 k3 => ?_)
  refine gs [.det (pt (L0.b 1) 12), .det (.bool false)] [0, 1] [0, 1] (fun L => [JV a, GV ⟨x, y, false⟩, pt (L0.b 0) 0, pt (L0.b 1) 0, pt (L0.b 2) 0, undef, undef, undef, pt (L0.b 1) 12, .bool false] ++ U 38) (fun L => [((L0.b 0), JC a), ((L0.b 1), GC ⟨x, y, false⟩), ((L0.b 2), JC ⟨0, 0, 0⟩)]) hp1 ⟨
    oF fG2, oL1 1 12 oneB,
    trivial⟩ (fun L1 w2 hp2 => ?_)
  refine k3 _ _ ?_
  refine wp_cond_false (by kernel_rfl) ?_
  refine skips ?_
  refine k2 _ _ ?_
  refine wp_seq_k (fun K4 k4 => ?_)
  refine wp_seq_k (fun K5 k5 => ?_)
  refine gs [.det (JV a), .det (.bool true)] [0, 1] [0, 1] (fun L => [JV a, GV ⟨x, y, false⟩, pt (L0.b 0) 0, pt (L0.b 1) 0, pt (L0.b 2) 0, undef, undef, undef, pt (L0.b 1) 12, .bool false, undef, JV a, .bool true] ++ U 35) (fun L => [((L0.b 0), JC a), ((L0.b 1), GC ⟨x, y, false⟩), ((L0.b 2), JC ⟨0, 0, 0⟩)]) hp2 ⟨
    oL 0 0 rJ, oH (v := .bool true) (vs := #[JV a]) (fun w hb _ => by have h := g1isInf K a w (K.stay hg hb); rw [decide_eq_true hz] at h; exact h),
    trivial⟩ (fun L2 w3 hp3 => ?_)
  refine k5 _ _ ?_
  refine wp_cond_true (by kernel_rfl) ?_
  refine wp_seq_k (fun K6 k6 => ?_)
  refine gs [.det (GV ⟨x, y, false⟩), .det (JV ⟨x, y, 1⟩), .store (.base 2) 0 (JC ⟨x, y, 1⟩) (JC ⟨x, y, 1⟩)] [0, 1, 2] [0, 1, 3] (fun L => [JV a, GV ⟨x, y, false⟩, pt (L0.b 0) 0, pt (L0.b 1) 0, pt (L0.b 2) 0, undef, undef, undef, pt (L0.b 1) 12, .bool false, undef, JV a, .bool true, GV ⟨x, y, false⟩, JV ⟨x, y, 1⟩] ++ U 33) (fun L => [((L0.b 0), JC a), ((L0.b 1), GC ⟨x, y, false⟩), ((L0.b 2), JC ⟨x, y, 1⟩)]) hp3 ⟨
    oL 1 0 rG, oH (v := JV ⟨x, y, 1⟩) (vs := #[GV ⟨x, y, false⟩]) (fun w hb _ => g1lift1 K _ _ w (K.stay hg hb)), oT rJ,
    trivial⟩ (fun L3 w4 hp4 => ?_)
  refine k6 _ _ ?_
  refine wp_ret ?_
  refine bodyPost_ret (v := JV ⟨x, y, 1⟩) ?_ rfl ?_
  · exact rc rJ rfl (by kernel_rfl) (hp4.bound 2 rfl).2
  · exact ⟨rfl, hp4.bel⟩
set_option maxHeartbeats 4000000 in
theorem g1plus2 {G : World → Prop} (K : FpK G) (a : Jc F) (x y : F) (w : World) (hg : G w) (hz : a.z ≠ 0) (hr : jrun a x ≠ 0) : Calls Tryd.prog 33 #[JV a, GV ⟨x, y, false⟩] w (Ret (JV (jacross a (jrun a x) (jrise a y))) w) := by
  have hp0 := Heap.start w
  go_enter Tryd.func33, Tryd.ntmps33
  refine wp_seq_k (fun K1 k1 => ?_)
  refine gs [.alloc (JC a), .alloc (GC ⟨x, y, false⟩), .alloc (JC ⟨0, 0, 0⟩)] [0, 1, 2] [0, 0, 0] (fun L => [JV a, GV ⟨x, y, false⟩, pt (L.b 0) 0, pt (L.b 1) 0, pt (L.b 2) 0] ++ U 43) (fun L => [(L.b 0, JC a), (L.b 1, GC ⟨x, y, false⟩), (L.b 2, JC ⟨0, 0, 0⟩)]) hp0 ⟨
    oB, oB, oZ rJ,
    trivial⟩ (fun L0 w1 hp1 => ?_)
  refine k1 _ _ ?_
  refine wp_seq_k (fun K2 k2 => ?_)
  refine wp_seq_k (fun K3 k3 => ?_)
  refine gs [.det (pt (L0.b 1) 12), .det (.bool false)] [0, 1] [0, 1] (fun L => [JV a, GV ⟨x, y, false⟩, pt (L0.b 0) 0, pt (L0.b 1) 0, pt (L0.b 2) 0, undef, undef, undef, pt (L0.b 1) 12, .bool false] ++ U 38) (fun L => [((L0.b 0), JC a), ((L0.b 1), GC ⟨x, y, false⟩), ((L0.b 2), JC ⟨0, 0, 0⟩)]) hp1 ⟨
    oF fG2, oL1 1 12 oneB,
    trivial⟩ (fun L1 w2 hp2 => ?_)
  refine k3 _ _ ?_
  refine wp_cond_false (by kernel_rfl) ?_
  refine skips ?_
  refine k2 _ _ ?_
  refine wp_seq_k (fun K4 k4 => ?_)
  refine wp_seq_k (fun K5 k5 => ?_)
  refine gs [.det (JV a), .det (.bool false)] [0, 1] [0, 1] (fun L => [JV a, GV ⟨x, y, false⟩, pt (L0.b 0) 0, pt (L0.b 1) 0, pt (L0.b 2) 0, undef, undef, undef, pt (L0.b 1) 12, .bool false, undef, JV a, .bool false] ++ U 35) (fun L => [((L0.b 0), JC a), ((L0.b 1), GC ⟨x, y, false⟩), ((L0.b 2), JC ⟨0, 0, 0⟩)]) hp2 ⟨
    oL 0 0 rJ, oH (v := .bool false) (vs := #[JV a]) (fun w hb _ => by have h := g1isInf K a w (K.stay hg hb); rw [decide_eq_false hz] at h; exact h),
    trivial⟩ (fun L2 w3 hp3 => ?_)
  refine k5 _ _ ?_
  refine wp_cond_false (by kernel_rfl) ?_
  refine skips ?_
  refine k4 _ _ ?_
  refine wp_seq_k (fun K6 k6 => ?_)
  refine gs [.det (pt (L0.b 0) 12), .det (FV a.z), .det (FV (a.z * a.z)), .alloc (FC 0), .store (.new 3) 0 (FC (a.z * a.z)) (FC (a.z * a.z))] [0, 1, 2, 3, 4] [0, 1, 3, 0, 15] (fun L => [JV a, GV ⟨x, y, false⟩, pt (L0.b 0) 0, pt (L0.b 1) 0, pt (L0.b 2) 0, pt (L.b 3) 0, undef, undef, pt (L0.b 1) 12, .bool false, undef, JV a, .bool false, undef, undef, pt (L0.b 0) 12, FV a.z, FV (a.z * a.z)] ++ U 30) (fun L => [((L0.b 0), JC a), ((L0.b 1), GC ⟨x, y, false⟩), ((L0.b 2), JC ⟨0, 0, 0⟩), (L.b 3, FC (a.z * a.z))]) hp3 ⟨
    oF fJ2, oL 0 12 rF, oC K.stay hg (g1square K a.z), oZ rF, oT rF,
    trivial⟩ (fun L3 w4 hp4 => ?_)
  refine k6 _ _ ?_
  refine wp_seq_k (fun K7 k7 => ?_)
  refine dr [.det (pt (L0.b 1) 0), .det (FV x), .det (FV (a.z * a.z)), .det (FV (x * (a.z * a.z))), .det (pt (L0.b 0) 0), .det (FV a.x), .det (FV ((x * (a.z * a.z)) - a.x)), .alloc (FC 0), .store (.new 7) 0 (FC ((x * (a.z * a.z)) - a.x)) (FC ((x * (a.z * a.z)) - a.x))] [0, 1, 2, 3, 4, 5, 6, 7, 8] [0, 1, 0, 7, 0, 16, 63, 0, 255] (fun L => [JV a, GV ⟨x, y, false⟩, pt (L0.b 0) 0, pt (L0.b 1) 0, pt (L0.b 2) 0, pt (L3.b 3) 0, pt (L.b 7) 0, undef, pt (L0.b 1) 12, .bool false, undef, JV a, .bool false, undef, undef, pt (L0.b 0) 12, FV a.z, FV (a.z * a.z), pt (L0.b 1) 0, FV x, FV (a.z * a.z), FV (x * (a.z * a.z)), pt (L0.b 0) 0, FV a.x, FV ((x * (a.z * a.z)) - a.x)] ++ U 23) (fun L => [((L0.b 0), JC a), ((L0.b 1), GC ⟨x, y, false⟩), ((L0.b 2), JC ⟨0, 0, 0⟩), ((L3.b 3), FC (a.z * a.z)), (L.b 7, FC ((x * (a.z * a.z)) - a.x))]) hp4 ⟨
    oF fG0, oL 1 0 rF, oL 3 0 rF, oC K.stay hg (K.mul x (a.z * a.z)), oF fJ0, oL 0 0 rF, oC K.stay hg (K.sub (x * (a.z * a.z)) a.x), oZ rF, oT rF,
    trivial⟩ (fun L4 w5 hp5 => ?_)
  refine k7 _ _ ?_
  refine wp_seq_k (fun K8 k8 => ?_)
  refine dr [.det (pt (L0.b 1) 6), .det (FV y), .det (FV (a.z * a.z)), .det (pt (L0.b 0) 12), .det (FV a.z), .det (FV ((a.z * a.z) * a.z)), .det (FV (y * ((a.z * a.z) * a.z))), .det (pt (L0.b 0) 6), .det (FV a.y), .det (FV ((y * ((a.z * a.z) * a.z)) - a.y)), .alloc (FC 0), .store (.new 10) 0 (FC ((y * ((a.z * a.z) * a.z)) - a.y)) (FC ((y * ((a.z * a.z) * a.z)) - a.y))] [0, 1, 2, 3, 4, 5, 6, 7, 8, 9, 10, 11] [0, 1, 0, 0, 8, 28, 63, 0, 128, 511, 0, 2047] (fun L => [JV a, GV ⟨x, y, false⟩, pt (L0.b 0) 0, pt (L0.b 1) 0, pt (L0.b 2) 0, pt (L3.b 3) 0, pt (L4.b 7) 0, pt (L.b 10) 0, pt (L0.b 1) 12, .bool false, undef, JV a, .bool false, undef, undef, pt (L0.b 0) 12, FV a.z, FV (a.z * a.z), pt (L0.b 1) 0, FV x, FV (a.z * a.z), FV (x * (a.z * a.z)), pt (L0.b 0) 0, FV a.x, FV ((x * (a.z * a.z)) - a.x), pt (L0.b 1) 6, FV y, FV (a.z * a.z), pt (L0.b 0) 12, FV a.z, FV ((a.z * a.z) * a.z), FV (y * ((a.z * a.z) * a.z)), pt (L0.b 0) 6, FV a.y, FV ((y * ((a.z * a.z) * a.z)) - a.y)] ++ U 13) (fun L => [((L0.b 0), JC a), ((L0.b 1), GC ⟨x, y, false⟩), ((L0.b 2), JC ⟨0, 0, 0⟩), ((L3.b 3), FC (a.z * a.z)), ((L4.b 7), FC ((x * (a.z * a.z)) - a.x)), (L.b 10, FC ((y * ((a.z * a.z) * a.z)) - a.y))]) hp5 ⟨
    oF fG1, oL 1 6 rF, oL 3 0 rF, oF fJ2, oL 0 12 rF, oC K.stay hg (K.mul (a.z * a.z) a.z), oC K.stay hg (K.mul y ((a.z * a.z) * a.z)), oF fJ1, oL 0 6 rF, oC K.stay hg (K.sub (y * ((a.z * a.z) * a.z)) a.y),
    oZ rF, oT rF,
    trivial⟩ (fun L5 w6 hp6 => ?_)
  refine k8 _ _ ?_
  refine wp_seq_k (fun K9 k9 => ?_)
  refine wp_seq_k (fun K10 k10 => ?_)
  refine gs [.det (FV ((x * (a.z * a.z)) - a.x)), .det (FV 0), .det (.bool true)] [0, 1, 2] [0, 0, 3] (fun L => [JV a, GV ⟨x, y, false⟩, pt (L0.b 0) 0, pt (L0.b 1) 0, pt (L0.b 2) 0, pt (L3.b 3) 0, pt (L4.b 7) 0, pt (L5.b 10) 0, pt (L0.b 1) 12, .bool false, undef, JV a, .bool false, undef, undef, pt (L0.b 0) 12, FV a.z, FV (a.z * a.z), pt (L0.b 1) 0, FV x, FV (a.z * a.z), FV (x * (a.z * a.z)), pt (L0.b 0) 0, FV a.x, FV ((x * (a.z * a.z)) - a.x), pt (L0.b 1) 6, FV y, FV (a.z * a.z), pt (L0.b 0) 12, FV a.z, FV ((a.z * a.z) * a.z), FV (y * ((a.z * a.z) * a.z)), pt (L0.b 0) 6, FV a.y, FV ((y * ((a.z * a.z) * a.z)) - a.y), FV ((x * (a.z * a.z)) - a.x), FV 0, .bool true] ++ U 10) (fun L => [((L0.b 0), JC a), ((L0.b 1), GC ⟨x, y, false⟩), ((L0.b 2), JC ⟨0, 0, 0⟩), ((L3.b 3), FC (a.z * a.z)), ((L4.b 7), FC ((x * (a.z * a.z)) - a.x)), ((L5.b 10), FC ((y * ((a.z * a.z) * a.z)) - a.y))]) hp6 ⟨
    oL 4 0 rF, oD buildF0, oU (a := ((x * (a.z * a.z)) - a.x)) (b := 0) qF (yes' hr),
    trivial⟩ (fun L6 w7 hp7 => ?_)
  refine k10 _ _ ?_
  refine wp_cond_true (by kernel_rfl) ?_
  refine wp_seq_k (fun K11 k11 => ?_)
  refine gs [.det (JV a), .det (FV ((x * (a.z * a.z)) - a.x)), .det (FV ((y * ((a.z * a.z) * a.z)) - a.y)), .det (JV (jacross a ((x * (a.z * a.z)) - a.x) ((y * ((a.z * a.z) * a.z)) - a.y))), .store (.base 2) 0 (JC (jacross a ((x * (a.z * a.z)) - a.x) ((y * ((a.z * a.z) * a.z)) - a.y))) (JC (jacross a ((x * (a.z * a.z)) - a.x) ((y * ((a.z * a.z) * a.z)) - a.y)))] [0, 1, 2, 3, 4] [0, 0, 0, 7, 15] (fun L => [JV a, GV ⟨x, y, false⟩, pt (L0.b 0) 0, pt (L0.b 1) 0, pt (L0.b 2) 0, pt (L3.b 3) 0, pt (L4.b 7) 0, pt (L5.b 10) 0, pt (L0.b 1) 12, .bool false, undef, JV a, .bool false, undef, undef, pt (L0.b 0) 12, FV a.z, FV (a.z * a.z), pt (L0.b 1) 0, FV x, FV (a.z * a.z), FV (x * (a.z * a.z)), pt (L0.b 0) 0, FV a.x, FV ((x * (a.z * a.z)) - a.x), pt (L0.b 1) 6, FV y, FV (a.z * a.z), pt (L0.b 0) 12, FV a.z, FV ((a.z * a.z) * a.z), FV (y * ((a.z * a.z) * a.z)), pt (L0.b 0) 6, FV a.y, FV ((y * ((a.z * a.z) * a.z)) - a.y), FV ((x * (a.z * a.z)) - a.x), FV 0, .bool true, JV a, FV ((x * (a.z * a.z)) - a.x), FV ((y * ((a.z * a.z) * a.z)) - a.y), JV (jacross a ((x * (a.z * a.z)) - a.x) ((y * ((a.z * a.z) * a.z)) - a.y))] ++ U 6) (fun L => [((L0.b 0), JC a), ((L0.b 1), GC ⟨x, y, false⟩), ((L0.b 2), JC (jacross a ((x * (a.z * a.z)) - a.x) ((y * ((a.z * a.z) * a.z)) - a.y))), ((L3.b 3), FC (a.z * a.z)), ((L4.b 7), FC ((x * (a.z * a.z)) - a.x)), ((L5.b 10), FC ((y * ((a.z * a.z) * a.z)) - a.y))]) hp7 ⟨
    oL 0 0 rJ, oL 4 0 rF, oL 5 0 rF, oC K.stay hg (g1across K a ((x * (a.z * a.z)) - a.x) ((y * ((a.z * a.z) * a.z)) - a.y)), oT rJ,
    trivial⟩ (fun L7 w8 hp8 => ?_)
  refine k11 _ _ ?_
  refine wp_ret ?_
  refine bodyPost_ret (v := JV (jacross a ((x * (a.z * a.z)) - a.x) ((y * ((a.z * a.z) * a.z)) - a.y))) ?_ rfl ?_
  · exact rc rJ rfl (by kernel_rfl) (hp8.bound 2 rfl).2
  · exact ⟨rfl, hp8.bel⟩
set_option maxHeartbeats 4000000 in
theorem g1plus3 {G : World → Prop} (K : FpK G) (a : Jc F) (x y : F) (w : World) (hg : G w) (hz : a.z ≠ 0) (hr : jrun a x = 0) (hs : jrise a y ≠ 0) : Calls Tryd.prog 33 #[JV a, GV ⟨x, y, false⟩] w (Ret (JV ⟨0, 0, 0⟩) w) := by
  have hp0 := Heap.start w
  go_enter Tryd.func33, Tryd.ntmps33
  refine wp_seq_k (fun K1 k1 => ?_)
  refine gs [.alloc (JC a), .alloc (GC ⟨x, y, false⟩), .alloc (JC ⟨0, 0, 0⟩)] [0, 1, 2] [0, 0, 0] (fun L => [JV a, GV ⟨x, y, false⟩, pt (L.b 0) 0, pt (L.b 1) 0, pt (L.b 2) 0] ++ U 43) (fun L => [(L.b 0, JC a), (L.b 1, GC ⟨x, y, false⟩), (L.b 2, JC ⟨0, 0, 0⟩)]) hp0 ⟨
    oB, oB, oZ rJ,
    trivial⟩ (fun L0 w1 hp1 => ?_)
  refine k1 _ _ ?_
  refine wp_seq_k (fun K2 k2 => ?_)
  refine wp_seq_k (fun K3 k3 => ?_)
  refine gs [.det (pt (L0.b 1) 12), .det (.bool false)] [0, 1] [0, 1] (fun L => [JV a, GV ⟨x, y, false⟩, pt (L0.b 0) 0, pt (L0.b 1) 0, pt (L0.b 2) 0, undef, undef, undef, pt (L0.b 1) 12, .bool false] ++ U 38) (fun L => [((L0.b 0), JC a), ((L0.b 1), GC ⟨x, y, false⟩), ((L0.b 2), JC ⟨0, 0, 0⟩)]) hp1 ⟨
    oF fG2, oL1 1 12 oneB,
    trivial⟩ (fun L1 w2 hp2 => ?_)
  refine k3 _ _ ?_
  refine wp_cond_false (by kernel_rfl) ?_
  refine skips ?_
  refine k2 _ _ ?_
  refine wp_seq_k (fun K4 k4 => ?_)
  refine wp_seq_k (fun K5 k5 => ?_)
  refine gs [.det (JV a), .det (.bool false)] [0, 1] [0, 1] (fun L => [JV a, GV ⟨x, y, false⟩, pt (L0.b 0) 0, pt (L0.b 1) 0, pt (L0.b 2) 0, undef, undef, undef, pt (L0.b 1) 12, .bool false, undef, JV a, .bool false] ++ U 35) (fun L => [((L0.b 0), JC a), ((L0.b 1), GC ⟨x, y, false⟩), ((L0.b 2), JC ⟨0, 0, 0⟩)]) hp2 ⟨
    oL 0 0 rJ, oH (v := .bool false) (vs := #[JV a]) (fun w hb _ => by have h := g1isInf K a w (K.stay hg hb); rw [decide_eq_false hz] at h; exact h),
    trivial⟩ (fun L2 w3 hp3 => ?_)
  refine k5 _ _ ?_
  refine wp_cond_false (by kernel_rfl) ?_
  refine skips ?_
  refine k4 _ _ ?_
  refine wp_seq_k (fun K6 k6 => ?_)
  refine gs [.det (pt (L0.b 0) 12), .det (FV a.z), .det (FV (a.z * a.z)), .alloc (FC 0), .store (.new 3) 0 (FC (a.z * a.z)) (FC (a.z * a.z))] [0, 1, 2, 3, 4] [0, 1, 3, 0, 15] (fun L => [JV a, GV ⟨x, y, false⟩, pt (L0.b 0) 0, pt (L0.b 1) 0, pt (L0.b 2) 0, pt (L.b 3) 0, undef, undef, pt (L0.b 1) 12, .bool false, undef, JV a, .bool false, undef, undef, pt (L0.b 0) 12, FV a.z, FV (a.z * a.z)] ++ U 30) (fun L => [((L0.b 0), JC a), ((L0.b 1), GC ⟨x, y, false⟩), ((L0.b 2), JC ⟨0, 0, 0⟩), (L.b 3, FC (a.z * a.z))]) hp3 ⟨
    oF fJ2, oL 0 12 rF, oC K.stay hg (g1square K a.z), oZ rF, oT rF,
    trivial⟩ (fun L3 w4 hp4 => ?_)
  refine k6 _ _ ?_
  refine wp_seq_k (fun K7 k7 => ?_)
  refine dr [.det (pt (L0.b 1) 0), .det (FV x), .det (FV (a.z * a.z)), .det (FV (x * (a.z * a.z))), .det (pt (L0.b 0) 0), .det (FV a.x), .det (FV ((x * (a.z * a.z)) - a.x)), .alloc (FC 0), .store (.new 7) 0 (FC ((x * (a.z * a.z)) - a.x)) (FC ((x * (a.z * a.z)) - a.x))] [0, 1, 2, 3, 4, 5, 6, 7, 8] [0, 1, 0, 7, 0, 16, 63, 0, 255] (fun L => [JV a, GV ⟨x, y, false⟩, pt (L0.b 0) 0, pt (L0.b 1) 0, pt (L0.b 2) 0, pt (L3.b 3) 0, pt (L.b 7) 0, undef, pt (L0.b 1) 12, .bool false, undef, JV a, .bool false, undef, undef, pt (L0.b 0) 12, FV a.z, FV (a.z * a.z), pt (L0.b 1) 0, FV x, FV (a.z * a.z), FV (x * (a.z * a.z)), pt (L0.b 0) 0, FV a.x, FV ((x * (a.z * a.z)) - a.x)] ++ U 23) (fun L => [((L0.b 0), JC a), ((L0.b 1), GC ⟨x, y, false⟩), ((L0.b 2), JC ⟨0, 0, 0⟩), ((L3.b 3), FC (a.z * a.z)), (L.b 7, FC ((x * (a.z * a.z)) - a.x))]) hp4 ⟨
    oF fG0, oL 1 0 rF, oL 3 0 rF, oC K.stay hg (K.mul x (a.z * a.z)), oF fJ0, oL 0 0 rF, oC K.stay hg (K.sub (x * (a.z * a.z)) a.x), oZ rF, oT rF,
    trivial⟩ (fun L4 w5 hp5 => ?_)
  refine k7 _ _ ?_
  refine wp_seq_k (fun K8 k8 => ?_)
  refine dr [.det (pt (L0.b 1) 6), .det (FV y), .det (FV (a.z * a.z)), .det (pt (L0.b 0) 12), .det (FV a.z), .det (FV ((a.z * a.z) * a.z)), .det (FV (y * ((a.z * a.z) * a.z))), .det (pt (L0.b 0) 6), .det (FV a.y), .det (FV ((y * ((a.z * a.z) * a.z)) - a.y)), .alloc (FC 0), .store (.new 10) 0 (FC ((y * ((a.z * a.z) * a.z)) - a.y)) (FC ((y * ((a.z * a.z) * a.z)) - a.y))] [0, 1, 2, 3, 4, 5, 6, 7, 8, 9, 10, 11] [0, 1, 0, 0, 8, 28, 63, 0, 128, 511, 0, 2047] (fun L => [JV a, GV ⟨x, y, false⟩, pt (L0.b 0) 0, pt (L0.b 1) 0, pt (L0.b 2) 0, pt (L3.b 3) 0, pt (L4.b 7) 0, pt (L.b 10) 0, pt (L0.b 1) 12, .bool false, undef, JV a, .bool false, undef, undef, pt (L0.b 0) 12, FV a.z, FV (a.z * a.z), pt (L0.b 1) 0, FV x, FV (a.z * a.z), FV (x * (a.z * a.z)), pt (L0.b 0) 0, FV a.x, FV ((x * (a.z * a.z)) - a.x), pt (L0.b 1) 6, FV y, FV (a.z * a.z), pt (L0.b 0) 12, FV a.z, FV ((a.z * a.z) * a.z), FV (y * ((a.z * a.z) * a.z)), pt (L0.b 0) 6, FV a.y, FV ((y * ((a.z * a.z) * a.z)) - a.y)] ++ U 13) (fun L => [((L0.b 0), JC a), ((L0.b 1), GC ⟨x, y, false⟩), ((L0.b 2), JC ⟨0, 0, 0⟩), ((L3.b 3), FC (a.z * a.z)), ((L4.b 7), FC ((x * (a.z * a.z)) - a.x)), (L.b 10, FC ((y * ((a.z * a.z) * a.z)) - a.y))]) hp5 ⟨
    oF fG1, oL 1 6 rF, oL 3 0 rF, oF fJ2, oL 0 12 rF, oC K.stay hg (K.mul (a.z * a.z) a.z), oC K.stay hg (K.mul y ((a.z * a.z) * a.z)), oF fJ1, oL 0 6 rF, oC K.stay hg (K.sub (y * ((a.z * a.z) * a.z)) a.y),
    oZ rF, oT rF,
    trivial⟩ (fun L5 w6 hp6 => ?_)
  refine k8 _ _ ?_
  refine wp_seq_k (fun K9 k9 => ?_)
  refine wp_seq_k (fun K10 k10 => ?_)
  refine gs [.det (FV ((x * (a.z * a.z)) - a.x)), .det (FV 0), .det (.bool false)] [0, 1, 2] [0, 0, 3] (fun L => [JV a, GV ⟨x, y, false⟩, pt (L0.b 0) 0, pt (L0.b 1) 0, pt (L0.b 2) 0, pt (L3.b 3) 0, pt (L4.b 7) 0, pt (L5.b 10) 0, pt (L0.b 1) 12, .bool false, undef, JV a, .bool false, undef, undef, pt (L0.b 0) 12, FV a.z, FV (a.z * a.z), pt (L0.b 1) 0, FV x, FV (a.z * a.z), FV (x * (a.z * a.z)), pt (L0.b 0) 0, FV a.x, FV ((x * (a.z * a.z)) - a.x), pt (L0.b 1) 6, FV y, FV (a.z * a.z), pt (L0.b 0) 12, FV a.z, FV ((a.z * a.z) * a.z), FV (y * ((a.z * a.z) * a.z)), pt (L0.b 0) 6, FV a.y, FV ((y * ((a.z * a.z) * a.z)) - a.y), FV ((x * (a.z * a.z)) - a.x), FV 0, .bool false] ++ U 10) (fun L => [((L0.b 0), JC a), ((L0.b 1), GC ⟨x, y, false⟩), ((L0.b 2), JC ⟨0, 0, 0⟩), ((L3.b 3), FC (a.z * a.z)), ((L4.b 7), FC ((x * (a.z * a.z)) - a.x)), ((L5.b 10), FC ((y * ((a.z * a.z) * a.z)) - a.y))]) hp6 ⟨
    oL 4 0 rF, oD buildF0, oU (a := ((x * (a.z * a.z)) - a.x)) (b := 0) qF (nay' hr),
    trivial⟩ (fun L6 w7 hp7 => ?_)
  refine k10 _ _ ?_
  refine wp_cond_false (by kernel_rfl) ?_
  refine skips ?_
  refine k9 _ _ ?_
  refine wp_seq_k (fun K11 k11 => ?_)
  refine wp_seq_k (fun K12 k12 => ?_)
  refine gs [.det (FV ((y * ((a.z * a.z) * a.z)) - a.y)), .det (FV 0), .det (.bool true)] [0, 1, 2] [0, 0, 3] (fun L => [JV a, GV ⟨x, y, false⟩, pt (L0.b 0) 0, pt (L0.b 1) 0, pt (L0.b 2) 0, pt (L3.b 3) 0, pt (L4.b 7) 0, pt (L5.b 10) 0, pt (L0.b 1) 12, .bool false, undef, JV a, .bool false, undef, undef, pt (L0.b 0) 12, FV a.z, FV (a.z * a.z), pt (L0.b 1) 0, FV x, FV (a.z * a.z), FV (x * (a.z * a.z)), pt (L0.b 0) 0, FV a.x, FV ((x * (a.z * a.z)) - a.x), pt (L0.b 1) 6, FV y, FV (a.z * a.z), pt (L0.b 0) 12, FV a.z, FV ((a.z * a.z) * a.z), FV (y * ((a.z * a.z) * a.z)), pt (L0.b 0) 6, FV a.y, FV ((y * ((a.z * a.z) * a.z)) - a.y), FV ((x * (a.z * a.z)) - a.x), FV 0, .bool false, undef, undef, undef, undef, FV ((y * ((a.z * a.z) * a.z)) - a.y), FV 0, .bool true, undef, undef, undef]) (fun L => [((L0.b 0), JC a), ((L0.b 1), GC ⟨x, y, false⟩), ((L0.b 2), JC ⟨0, 0, 0⟩), ((L3.b 3), FC (a.z * a.z)), ((L4.b 7), FC ((x * (a.z * a.z)) - a.x)), ((L5.b 10), FC ((y * ((a.z * a.z) * a.z)) - a.y))]) hp7 ⟨
    oL 5 0 rF, oD buildF0, oU (a := ((y * ((a.z * a.z) * a.z)) - a.y)) (b := 0) qF (yes' hs),
    trivial⟩ (fun L7 w8 hp8 => ?_)
  refine k12 _ _ ?_
  refine wp_cond_true (by kernel_rfl) ?_
  refine wp_seq_k (fun K13 k13 => ?_)
  refine gs [.det (JV ⟨0, 0, 0⟩), .store (.base 2) 0 (JC ⟨0, 0, 0⟩) (JC ⟨0, 0, 0⟩)] [0, 1] [0, 1] (fun L => [JV a, GV ⟨x, y, false⟩, pt (L0.b 0) 0, pt (L0.b 1) 0, pt (L0.b 2) 0, pt (L3.b 3) 0, pt (L4.b 7) 0, pt (L5.b 10) 0, pt (L0.b 1) 12, .bool false, undef, JV a, .bool false, undef, undef, pt (L0.b 0) 12, FV a.z, FV (a.z * a.z), pt (L0.b 1) 0, FV x, FV (a.z * a.z), FV (x * (a.z * a.z)), pt (L0.b 0) 0, FV a.x, FV ((x * (a.z * a.z)) - a.x), pt (L0.b 1) 6, FV y, FV (a.z * a.z), pt (L0.b 0) 12, FV a.z, FV ((a.z * a.z) * a.z), FV (y * ((a.z * a.z) * a.z)), pt (L0.b 0) 6, FV a.y, FV ((y * ((a.z * a.z) * a.z)) - a.y), FV ((x * (a.z * a.z)) - a.x), FV 0, .bool false, undef, undef, undef, undef, FV ((y * ((a.z * a.z) * a.z)) - a.y), FV 0, .bool true, JV ⟨0, 0, 0⟩, undef, undef]) (fun L => [((L0.b 0), JC a), ((L0.b 1), GC ⟨x, y, false⟩), ((L0.b 2), JC ⟨0, 0, 0⟩), ((L3.b 3), FC (a.z * a.z)), ((L4.b 7), FC ((x * (a.z * a.z)) - a.x)), ((L5.b 10), FC ((y * ((a.z * a.z) * a.z)) - a.y))]) hp8 ⟨
    oD buildJn, oT rJ,
    trivial⟩ (fun L8 w9 hp9 => ?_)
  refine k13 _ _ ?_
  refine wp_ret ?_
  refine bodyPost_ret (v := JV ⟨0, 0, 0⟩) ?_ rfl ?_
  · exact rc rJ rfl (by kernel_rfl) (hp9.bound 2 rfl).2
  · exact ⟨rfl, hp9.bel⟩
set_option maxHeartbeats 4000000 in
theorem g1plus4 {G : World → Prop} (K : FpK G) (a : Jc F) (x y : F) (w : World) (hg : G w) (hz : a.z ≠ 0) (hr : jrun a x = 0) (hs : jrise a y = 0) : Calls Tryd.prog 33 #[JV a, GV ⟨x, y, false⟩] w (Ret (JV (jtwice a)) w) := by
  have hp0 := Heap.start w
  go_enter Tryd.func33, Tryd.ntmps33
  refine wp_seq_k (fun K1 k1 => ?_)
  refine gs [.alloc (JC a), .alloc (GC ⟨x, y, false⟩), .alloc (JC ⟨0, 0, 0⟩)] [0, 1, 2] [0, 0, 0] (fun L => [JV a, GV ⟨x, y, false⟩, pt (L.b 0) 0, pt (L.b 1) 0, pt (L.b 2) 0] ++ U 43) (fun L => [(L.b 0, JC a), (L.b 1, GC ⟨x, y, false⟩), (L.b 2, JC ⟨0, 0, 0⟩)]) hp0 ⟨
    oB, oB, oZ rJ,
    trivial⟩ (fun L0 w1 hp1 => ?_)
  refine k1 _ _ ?_
  refine wp_seq_k (fun K2 k2 => ?_)
  refine wp_seq_k (fun K3 k3 => ?_)
  refine gs [.det (pt (L0.b 1) 12), .det (.bool false)] [0, 1] [0, 1] (fun L => [JV a, GV ⟨x, y, false⟩, pt (L0.b 0) 0, pt (L0.b 1) 0, pt (L0.b 2) 0, undef, undef, undef, pt (L0.b 1) 12, .bool false] ++ U 38) (fun L => [((L0.b 0), JC a), ((L0.b 1), GC ⟨x, y, false⟩), ((L0.b 2), JC ⟨0, 0, 0⟩)]) hp1 ⟨
    oF fG2, oL1 1 12 oneB,
    trivial⟩ (fun L1 w2 hp2 => ?_)
  refine k3 _ _ ?_
  refine wp_cond_false (by kernel_rfl) ?_
  refine skips ?_
  refine k2 _ _ ?_
  refine wp_seq_k (fun K4 k4 => ?_)
  refine wp_seq_k (fun K5 k5 => ?_)
  refine gs [.det (JV a), .det (.bool false)] [0, 1] [0, 1] (fun L => [JV a, GV ⟨x, y, false⟩, pt (L0.b 0) 0, pt (L0.b 1) 0, pt (L0.b 2) 0, undef, undef, undef, pt (L0.b 1) 12, .bool false, undef, JV a, .bool false] ++ U 35) (fun L => [((L0.b 0), JC a), ((L0.b 1), GC ⟨x, y, false⟩), ((L0.b 2), JC ⟨0, 0, 0⟩)]) hp2 ⟨
    oL 0 0 rJ, oH (v := .bool false) (vs := #[JV a]) (fun w hb _ => by have h := g1isInf K a w (K.stay hg hb); rw [decide_eq_false hz] at h; exact h),
    trivial⟩ (fun L2 w3 hp3 => ?_)
  refine k5 _ _ ?_
  refine wp_cond_false (by kernel_rfl) ?_
  refine skips ?_
  refine k4 _ _ ?_
  refine wp_seq_k (fun K6 k6 => ?_)
  refine gs [.det (pt (L0.b 0) 12), .det (FV a.z), .det (FV (a.z * a.z)), .alloc (FC 0), .store (.new 3) 0 (FC (a.z * a.z)) (FC (a.z * a.z))] [0, 1, 2, 3, 4] [0, 1, 3, 0, 15] (fun L => [JV a, GV ⟨x, y, false⟩, pt (L0.b 0) 0, pt (L0.b 1) 0, pt (L0.b 2) 0, pt (L.b 3) 0, undef, undef, pt (L0.b 1) 12, .bool false, undef, JV a, .bool false, undef, undef, pt (L0.b 0) 12, FV a.z, FV (a.z * a.z)] ++ U 30) (fun L => [((L0.b 0), JC a), ((L0.b 1), GC ⟨x, y, false⟩), ((L0.b 2), JC ⟨0, 0, 0⟩), (L.b 3, FC (a.z * a.z))]) hp3 ⟨
    oF fJ2, oL 0 12 rF, oC K.stay hg (g1square K a.z), oZ rF, oT rF,
    trivial⟩ (fun L3 w4 hp4 => ?_)
  refine k6 _ _ ?_
  refine wp_seq_k (fun K7 k7 => ?_)
  refine dr [.det (pt (L0.b 1) 0), .det (FV x), .det (FV (a.z * a.z)), .det (FV (x * (a.z * a.z))), .det (pt (L0.b 0) 0), .det (FV a.x), .det (FV ((x * (a.z * a.z)) - a.x)), .alloc (FC 0), .store (.new 7) 0 (FC ((x * (a.z * a.z)) - a.x)) (FC ((x * (a.z * a.z)) - a.x))] [0, 1, 2, 3, 4, 5, 6, 7, 8] [0, 1, 0, 7, 0, 16, 63, 0, 255] (fun L => [JV a, GV ⟨x, y, false⟩, pt (L0.b 0) 0, pt (L0.b 1) 0, pt (L0.b 2) 0, pt (L3.b 3) 0, pt (L.b 7) 0, undef, pt (L0.b 1) 12, .bool false, undef, JV a, .bool false, undef, undef, pt (L0.b 0) 12, FV a.z, FV (a.z * a.z), pt (L0.b 1) 0, FV x, FV (a.z * a.z), FV (x * (a.z * a.z)), pt (L0.b 0) 0, FV a.x, FV ((x * (a.z * a.z)) - a.x)] ++ U 23) (fun L => [((L0.b 0), JC a), ((L0.b 1), GC ⟨x, y, false⟩), ((L0.b 2), JC ⟨0, 0, 0⟩), ((L3.b 3), FC (a.z * a.z)), (L.b 7, FC ((x * (a.z * a.z)) - a.x))]) hp4 ⟨
    oF fG0, oL 1 0 rF, oL 3 0 rF, oC K.stay hg (K.mul x (a.z * a.z)), oF fJ0, oL 0 0 rF, oC K.stay hg (K.sub (x * (a.z * a.z)) a.x), oZ rF, oT rF,
    trivial⟩ (fun L4 w5 hp5 => ?_)
  refine k7 _ _ ?_
  refine wp_seq_k (fun K8 k8 => ?_)
  refine dr [.det (pt (L0.b 1) 6), .det (FV y), .det (FV (a.z * a.z)), .det (pt (L0.b 0) 12), .det (FV a.z), .det (FV ((a.z * a.z) * a.z)), .det (FV (y * ((a.z * a.z) * a.z))), .det (pt (L0.b 0) 6), .det (FV a.y), .det (FV ((y * ((a.z * a.z) * a.z)) - a.y)), .alloc (FC 0), .store (.new 10) 0 (FC ((y * ((a.z * a.z) * a.z)) - a.y)) (FC ((y * ((a.z * a.z) * a.z)) - a.y))] [0, 1, 2, 3, 4, 5, 6, 7, 8, 9, 10, 11] [0, 1, 0, 0, 8, 28, 63, 0, 128, 511, 0, 2047] (fun L => [JV a, GV ⟨x, y, false⟩, pt (L0.b 0) 0, pt (L0.b 1) 0, pt (L0.b 2) 0, pt (L3.b 3) 0, pt (L4.b 7) 0, pt (L.b 10) 0, pt (L0.b 1) 12, .bool false, undef, JV a, .bool false, undef, undef, pt (L0.b 0) 12, FV a.z, FV (a.z * a.z), pt (L0.b 1) 0, FV x, FV (a.z * a.z), FV (x * (a.z * a.z)), pt (L0.b 0) 0, FV a.x, FV ((x * (a.z * a.z)) - a.x), pt (L0.b 1) 6, FV y, FV (a.z * a.z), pt (L0.b 0) 12, FV a.z, FV ((a.z * a.z) * a.z), FV (y * ((a.z * a.z) * a.z)), pt (L0.b 0) 6, FV a.y, FV ((y * ((a.z * a.z) * a.z)) - a.y)] ++ U 13) (fun L => [((L0.b 0), JC a), ((L0.b 1), GC ⟨x, y, false⟩), ((L0.b 2), JC ⟨0, 0, 0⟩), ((L3.b 3), FC (a.z * a.z)), ((L4.b 7), FC ((x * (a.z * a.z)) - a.x)), (L.b 10, FC ((y * ((a.z * a.z) * a.z)) - a.y))]) hp5 ⟨
    oF fG1, oL 1 6 rF, oL 3 0 rF, oF fJ2, oL 0 12 rF, oC K.stay hg (K.mul (a.z * a.z) a.z), oC K.stay hg (K.mul y ((a.z * a.z) * a.z)), oF fJ1, oL 0 6 rF, oC K.stay hg (K.sub (y * ((a.z * a.z) * a.z)) a.y),
    oZ rF, oT rF,
    trivial⟩ (fun L5 w6 hp6 => ?_)
  refine k8 _ _ ?_
  refine wp_seq_k (fun K9 k9 => ?_)
  refine wp_seq_k (fun K10 k10 => ?_)
  refine gs [.det (FV ((x * (a.z * a.z)) - a.x)), .det (FV 0), .det (.bool false)] [0, 1, 2] [0, 0, 3] (fun L => [JV a, GV ⟨x, y, false⟩, pt (L0.b 0) 0, pt (L0.b 1) 0, pt (L0.b 2) 0, pt (L3.b 3) 0, pt (L4.b 7) 0, pt (L5.b 10) 0, pt (L0.b 1) 12, .bool false, undef, JV a, .bool false, undef, undef, pt (L0.b 0) 12, FV a.z, FV (a.z * a.z), pt (L0.b 1) 0, FV x, FV (a.z * a.z), FV (x * (a.z * a.z)), pt (L0.b 0) 0, FV a.x, FV ((x * (a.z * a.z)) - a.x), pt (L0.b 1) 6, FV y, FV (a.z * a.z), pt (L0.b 0) 12, FV a.z, FV ((a.z * a.z) * a.z), FV (y * ((a.z * a.z) * a.z)), pt (L0.b 0) 6, FV a.y, FV ((y * ((a.z * a.z) * a.z)) - a.y), FV ((x * (a.z * a.z)) - a.x), FV 0, .bool false] ++ U 10) (fun L => [((L0.b 0), JC a), ((L0.b 1), GC ⟨x, y, false⟩), ((L0.b 2), JC ⟨0, 0, 0⟩), ((L3.b 3), FC (a.z * a.z)), ((L4.b 7), FC ((x * (a.z * a.z)) - a.x)), ((L5.b 10), FC ((y * ((a.z * a.z) * a.z)) - a.y))]) hp6 ⟨
    oL 4 0 rF, oD buildF0, oU (a := ((x * (a.z * a.z)) - a.x)) (b := 0) qF (nay' hr),
    trivial⟩ (fun L6 w7 hp7 => ?_)
  refine k10 _ _ ?_
  refine wp_cond_false (by kernel_rfl) ?_
  refine skips ?_
  refine k9 _ _ ?_
  refine wp_seq_k (fun K11 k11 => ?_)
  refine wp_seq_k (fun K12 k12 => ?_)
  refine gs [.det (FV ((y * ((a.z * a.z) * a.z)) - a.y)), .det (FV 0), .det (.bool false)] [0, 1, 2] [0, 0, 3] (fun L => [JV a, GV ⟨x, y, false⟩, pt (L0.b 0) 0, pt (L0.b 1) 0, pt (L0.b 2) 0, pt (L3.b 3) 0, pt (L4.b 7) 0, pt (L5.b 10) 0, pt (L0.b 1) 12, .bool false, undef, JV a, .bool false, undef, undef, pt (L0.b 0) 12, FV a.z, FV (a.z * a.z), pt (L0.b 1) 0, FV x, FV (a.z * a.z), FV (x * (a.z * a.z)), pt (L0.b 0) 0, FV a.x, FV ((x * (a.z * a.z)) - a.x), pt (L0.b 1) 6, FV y, FV (a.z * a.z), pt (L0.b 0) 12, FV a.z, FV ((a.z * a.z) * a.z), FV (y * ((a.z * a.z) * a.z)), pt (L0.b 0) 6, FV a.y, FV ((y * ((a.z * a.z) * a.z)) - a.y), FV ((x * (a.z * a.z)) - a.x), FV 0, .bool false, undef, undef, undef, undef, FV ((y * ((a.z * a.z) * a.z)) - a.y), FV 0, .bool false, undef, undef, undef]) (fun L => [((L0.b 0), JC a), ((L0.b 1), GC ⟨x, y, false⟩), ((L0.b 2), JC ⟨0, 0, 0⟩), ((L3.b 3), FC (a.z * a.z)), ((L4.b 7), FC ((x * (a.z * a.z)) - a.x)), ((L5.b 10), FC ((y * ((a.z * a.z) * a.z)) - a.y))]) hp7 ⟨
    oL 5 0 rF, oD buildF0, oU (a := ((y * ((a.z * a.z) * a.z)) - a.y)) (b := 0) qF (nay' hs),
    trivial⟩ (fun L7 w8 hp8 => ?_)
  refine k12 _ _ ?_
  refine wp_cond_false (by kernel_rfl) ?_
  refine skips ?_
  refine k11 _ _ ?_
  refine wp_seq_k (fun K13 k13 => ?_)
  refine gs [.det (JV a), .det (JV (jtwice a)), .store (.base 2) 0 (JC (jtwice a)) (JC (jtwice a))] [0, 1, 2] [0, 1, 3] (fun L => [JV a, GV ⟨x, y, false⟩, pt (L0.b 0) 0, pt (L0.b 1) 0, pt (L0.b 2) 0, pt (L3.b 3) 0, pt (L4.b 7) 0, pt (L5.b 10) 0, pt (L0.b 1) 12, .bool false, undef, JV a, .bool false, undef, undef, pt (L0.b 0) 12, FV a.z, FV (a.z * a.z), pt (L0.b 1) 0, FV x, FV (a.z * a.z), FV (x * (a.z * a.z)), pt (L0.b 0) 0, FV a.x, FV ((x * (a.z * a.z)) - a.x), pt (L0.b 1) 6, FV y, FV (a.z * a.z), pt (L0.b 0) 12, FV a.z, FV ((a.z * a.z) * a.z), FV (y * ((a.z * a.z) * a.z)), pt (L0.b 0) 6, FV a.y, FV ((y * ((a.z * a.z) * a.z)) - a.y), FV ((x * (a.z * a.z)) - a.x), FV 0, .bool false, undef, undef, undef, undef, FV ((y * ((a.z * a.z) * a.z)) - a.y), FV 0, .bool false, undef, JV a, JV (jtwice a)]) (fun L => [((L0.b 0), JC a), ((L0.b 1), GC ⟨x, y, false⟩), ((L0.b 2), JC (jtwice a)), ((L3.b 3), FC (a.z * a.z)), ((L4.b 7), FC ((x * (a.z * a.z)) - a.x)), ((L5.b 10), FC ((y * ((a.z * a.z) * a.z)) - a.y))]) hp8 ⟨
    oL 0 0 rJ, oC K.stay hg (g1twice K a), oT rJ,
    trivial⟩ (fun L8 w9 hp9 => ?_)
  refine k13 _ _ ?_
  refine wp_ret ?_
  refine bodyPost_ret (v := JV (jtwice a)) ?_ rfl ?_
  · exact rc rJ rfl (by kernel_rfl) (hp9.bound 2 rfl).2
  · exact ⟨rfl, hp9.bel⟩
theorem g1plus {G : World → Prop} (K : FpK G) (a : Jc F) (P : Pt F) (w : World) (hg : G w) : Calls Tryd.prog 33 #[JV a, GV (gp P)] w (Ret (JV (jplus a P)) w) := by
  cases P with
  | inf => exact g1plus0 K a w hg
  | aff x y =>
    rw [jplus_aff]
    by_cases hz : a.z = 0
    · rw [if_pos hz]; exact g1plus1 K a x y w hg hz
    · rw [if_neg hz]
      by_cases hr : jrun a x = 0
      · rw [if_neg (fun h => h hr)]
        by_cases hs : jrise a y = 0
        · rw [if_neg (fun h => h hs)]; exact g1plus4 K a x y w hg hz hr hs
        · rw [if_pos hs]; exact g1plus3 K a x y w hg hz hr hs
      · rw [if_pos hr]; exact g1plus2 K a x y w hg hz hr
set_option maxHeartbeats 4000000 in
theorem g1drop1 {G : World → Prop} (K : FpK G) (a : Jc F) (w : World) (hg : G w) (hz : a.z ≠ 0) : Calls Tryd.prog 32 #[JV a] w (Ret (GV ⟨a.x * (finv a.z * finv a.z), a.y * (finv a.z * finv a.z * finv a.z), false⟩) w) := by
  have hp0 := Heap.start w
  go_enter Tryd.func32, Tryd.ntmps32
  refine wp_seq_k (fun K1 k1 => ?_)
  refine gs [.alloc (JC a), .alloc (GC ⟨0, 0, false⟩)] [0, 1] [0, 0] (fun L => [JV a, pt (L.b 0) 0, pt (L.b 1) 0] ++ U 25) (fun L => [(L.b 0, JC a), (L.b 1, GC ⟨0, 0, false⟩)]) hp0 ⟨
    oB, oZ rG,
    trivial⟩ (fun L0 w1 hp1 => ?_)
  refine k1 _ _ ?_
  refine wp_seq_k (fun K2 k2 => ?_)
  refine gs [.det (pt (L0.b 0) 12), .det (FV a.z), .det (.tuple #[FV (finv a.z), .int .i64 0]), .det (.tuple #[FV (finv a.z), .int .i64 0]), .det (FV (finv a.z)), .det (.int .i64 0), .alloc (FC 0), .store (.new 6) 0 (FC (finv a.z)) (FC (finv a.z)), .det (.int .i64 0)] [0, 1, 2, 3, 4, 5, 6, 7, 8] [0, 1, 3, 7, 15, 15, 0, 95, 255] (fun L => [JV a, pt (L0.b 0) 0, pt (L0.b 1) 0, pt (L.b 6) 0, .int .i64 0, undef, .tuple #[FV (finv a.z), .int .i64 0], pt (L0.b 0) 12, FV a.z, .tuple #[FV (finv a.z), .int .i64 0], FV (finv a.z), .int .i64 0] ++ U 16) (fun L => [((L0.b 0), JC a), ((L0.b 1), GC ⟨0, 0, false⟩), (L.b 6, FC (finv a.z))]) hp1 ⟨
    oF fJ2, oL 0 12 rF, oH (v := .tuple #[FV (finv a.z), .int .i64 0]) (vs := #[FV a.z]) (fun w hb _ => K.inv _ w (K.stay hg hb) hz), oM, oX, oX, oZ rF, oT rF, oA,
    trivial⟩ (fun L1 w2 hp2 => ?_)
  refine k2 _ _ ?_
  refine wp_seq_k (fun K3 k3 => ?_)
  refine wp_seq_k (fun K4 k4 => ?_)
  refine gs [.det (.int .i64 0), .det (.bool false)] [0, 1] [0, 1] (fun L => [JV a, pt (L0.b 0) 0, pt (L0.b 1) 0, pt (L1.b 6) 0, .int .i64 0, undef, .tuple #[FV (finv a.z), .int .i64 0], pt (L0.b 0) 12, FV a.z, .tuple #[FV (finv a.z), .int .i64 0], FV (finv a.z), .int .i64 0, .int .i64 0, .bool false] ++ U 14) (fun L => [((L0.b 0), JC a), ((L0.b 1), GC ⟨0, 0, false⟩), ((L1.b 6), FC (finv a.z))]) hp2 ⟨
    oM, oJ .i64 .i64 0 0 (h := fun w => (neqI _ _ _ _ w).trans rfl),
    trivial⟩ (fun L2 w3 hp3 => ?_)
  refine k4 _ _ ?_
  refine wp_cond_false (by kernel_rfl) ?_
  refine skips ?_
  refine k3 _ _ ?_
  refine wp_seq_k (fun K5 k5 => ?_)
  refine gs [.det (FV (finv a.z)), .det (FV ((finv a.z) * (finv a.z))), .alloc (FC 0), .store (.new 2) 0 (FC ((finv a.z) * (finv a.z))) (FC ((finv a.z) * (finv a.z)))] [0, 1, 2, 3] [0, 1, 0, 7] (fun L => [JV a, pt (L0.b 0) 0, pt (L0.b 1) 0, pt (L1.b 6) 0, .int .i64 0, pt (L.b 2) 0, .tuple #[FV (finv a.z), .int .i64 0], pt (L0.b 0) 12, FV a.z, .tuple #[FV (finv a.z), .int .i64 0], FV (finv a.z), .int .i64 0, .int .i64 0, .bool false, undef, FV (finv a.z), FV ((finv a.z) * (finv a.z))] ++ U 11) (fun L => [((L0.b 0), JC a), ((L0.b 1), GC ⟨0, 0, false⟩), ((L1.b 6), FC (finv a.z)), (L.b 2, FC ((finv a.z) * (finv a.z)))]) hp3 ⟨
    oL 2 0 rF, oC K.stay hg (g1square K (finv a.z)), oZ rF, oT rF,
    trivial⟩ (fun L3 w4 hp4 => ?_)
  refine k5 _ _ ?_
  refine wp_seq_k (fun K6 k6 => ?_)
  refine dr [.det (pt (L0.b 0) 0), .det (FV a.x), .det (FV ((finv a.z) * (finv a.z))), .det (FV (a.x * ((finv a.z) * (finv a.z)))), .det (pt (L0.b 0) 6), .det (FV a.y), .det (FV ((finv a.z) * (finv a.z))), .det (FV (finv a.z)), .det (FV (((finv a.z) * (finv a.z)) * (finv a.z))), .det (FV (a.y * (((finv a.z) * (finv a.z)) * (finv a.z)))), .det (GV ⟨(a.x * ((finv a.z) * (finv a.z))), (a.y * (((finv a.z) * (finv a.z)) * (finv a.z))), false⟩), .store (.base 1) 0 (GC ⟨(a.x * ((finv a.z) * (finv a.z))), (a.y * (((finv a.z) * (finv a.z)) * (finv a.z))), false⟩) (GC ⟨(a.x * ((finv a.z) * (finv a.z))), (a.y * (((finv a.z) * (finv a.z)) * (finv a.z))), false⟩)] [0, 1, 2, 3, 4, 5, 6, 7, 8, 9, 10, 11] [0, 1, 0, 7, 0, 16, 0, 0, 207, 511, 1023, 2047] (fun L => [JV a, pt (L0.b 0) 0, pt (L0.b 1) 0, pt (L1.b 6) 0, .int .i64 0, pt (L3.b 2) 0, .tuple #[FV (finv a.z), .int .i64 0], pt (L0.b 0) 12, FV a.z, .tuple #[FV (finv a.z), .int .i64 0], FV (finv a.z), .int .i64 0, .int .i64 0, .bool false, undef, FV (finv a.z), FV ((finv a.z) * (finv a.z)), pt (L0.b 0) 0, FV a.x, FV ((finv a.z) * (finv a.z)), FV (a.x * ((finv a.z) * (finv a.z))), pt (L0.b 0) 6, FV a.y, FV ((finv a.z) * (finv a.z)), FV (finv a.z), FV (((finv a.z) * (finv a.z)) * (finv a.z)), FV (a.y * (((finv a.z) * (finv a.z)) * (finv a.z))), GV ⟨(a.x * ((finv a.z) * (finv a.z))), (a.y * (((finv a.z) * (finv a.z)) * (finv a.z))), false⟩]) (fun L => [((L0.b 0), JC a), ((L0.b 1), GC ⟨(a.x * ((finv a.z) * (finv a.z))), (a.y * (((finv a.z) * (finv a.z)) * (finv a.z))), false⟩), ((L1.b 6), FC (finv a.z)), ((L3.b 2), FC ((finv a.z) * (finv a.z)))]) hp4 ⟨
    oF fJ0, oL 0 0 rF, oL 3 0 rF, oC K.stay hg (K.mul a.x ((finv a.z) * (finv a.z))), oF fJ1, oL 0 6 rF, oL 3 0 rF, oL 2 0 rF, oC K.stay hg (K.mul ((finv a.z) * (finv a.z)) (finv a.z)),
    oC K.stay hg (K.mul a.y (((finv a.z) * (finv a.z)) * (finv a.z))), oD (buildG01 (a.x * ((finv a.z) * (finv a.z))) (a.y * (((finv a.z) * (finv a.z)) * (finv a.z)))),
    oT rG,
    trivial⟩ (fun L4 w5 hp5 => ?_)
  refine k6 _ _ ?_
  refine wp_ret ?_
  refine bodyPost_ret (v := GV ⟨(a.x * ((finv a.z) * (finv a.z))), (a.y * (((finv a.z) * (finv a.z)) * (finv a.z))), false⟩) ?_ rfl ?_
  · exact rc rG rfl (by kernel_rfl) (hp5.bound 1 rfl).2
  · exact ⟨rfl, hp5.bel⟩
set_option maxHeartbeats 4000000 in
theorem g1drop0 {G : World → Prop} (K : FpK G) (x y : F) (w : World) (hg : G w) : Calls Tryd.prog 32 #[JV ⟨x, y, 0⟩] w (Ret (GV ⟨0, 0, true⟩) w) := by
  have hp0 := Heap.start w
  go_enter Tryd.func32, Tryd.ntmps32
  refine wp_seq_k (fun K1 k1 => ?_)
  refine gs [.alloc (JC ⟨x, y, 0⟩), .alloc (GC ⟨0, 0, false⟩)] [0, 1] [0, 0] (fun L => [JV ⟨x, y, 0⟩, pt (L.b 0) 0, pt (L.b 1) 0] ++ U 25) (fun L => [(L.b 0, JC ⟨x, y, 0⟩), (L.b 1, GC ⟨0, 0, false⟩)]) hp0 ⟨
    oB, oZ rG,
    trivial⟩ (fun L0 w1 hp1 => ?_)
  refine k1 _ _ ?_
  refine wp_seq_k (fun K2 k2 => ?_)
  refine gs [.det (pt (L0.b 0) 12), .det (FV 0), .det (.tuple #[FV 0, .int .i64 7]), .det (.tuple #[FV 0, .int .i64 7]), .det (FV 0), .det (.int .i64 7), .alloc (FC 0), .store (.new 6) 0 (FC 0) (FC 0), .det (.int .i64 7)] [0, 1, 2, 3, 4, 5, 6, 7, 8] [0, 1, 3, 7, 15, 15, 0, 95, 255] (fun L => [JV ⟨x, y, 0⟩, pt (L0.b 0) 0, pt (L0.b 1) 0, pt (L.b 6) 0, .int .i64 7, undef, .tuple #[FV 0, .int .i64 7], pt (L0.b 0) 12, FV 0, .tuple #[FV 0, .int .i64 7], FV 0, .int .i64 7] ++ U 16) (fun L => [((L0.b 0), JC ⟨x, y, 0⟩), ((L0.b 1), GC ⟨0, 0, false⟩), (L.b 6, FC 0)]) hp1 ⟨
    oF fJ2, oL 0 12 rF, oC K.stay hg K.inv0, oM, oX, oX, oZ rF, oT rF, oA,
    trivial⟩ (fun L1 w2 hp2 => ?_)
  refine k2 _ _ ?_
  refine wp_seq_k (fun K3 k3 => ?_)
  refine wp_seq_k (fun K4 k4 => ?_)
  refine gs [.det (.int .i64 7), .det (.bool true)] [0, 1] [0, 1] (fun L => [JV ⟨x, y, 0⟩, pt (L0.b 0) 0, pt (L0.b 1) 0, pt (L1.b 6) 0, .int .i64 7, undef, .tuple #[FV 0, .int .i64 7], pt (L0.b 0) 12, FV 0, .tuple #[FV 0, .int .i64 7], FV 0, .int .i64 7, .int .i64 7, .bool true] ++ U 14) (fun L => [((L0.b 0), JC ⟨x, y, 0⟩), ((L0.b 1), GC ⟨0, 0, false⟩), ((L1.b 6), FC 0)]) hp2 ⟨
    oM, oJ .i64 .i64 7 0 (h := fun w => (neqI _ _ _ _ w).trans rfl),
    trivial⟩ (fun L2 w3 hp3 => ?_)
  refine k4 _ _ ?_
  refine wp_cond_true (by kernel_rfl) ?_
  refine wp_seq_k (fun K5 k5 => ?_)
  refine gs [.det (GV ⟨0, 0, true⟩), .store (.base 1) 0 (GC ⟨0, 0, true⟩) (GC ⟨0, 0, true⟩)] [0, 1] [0, 1] (fun L => [JV ⟨x, y, 0⟩, pt (L0.b 0) 0, pt (L0.b 1) 0, pt (L1.b 6) 0, .int .i64 7, undef, .tuple #[FV 0, .int .i64 7], pt (L0.b 0) 12, FV 0, .tuple #[FV 0, .int .i64 7], FV 0, .int .i64 7, .int .i64 7, .bool true, GV ⟨0, 0, true⟩] ++ U 13) (fun L => [((L0.b 0), JC ⟨x, y, 0⟩), ((L0.b 1), GC ⟨0, 0, true⟩), ((L1.b 6), FC 0)]) hp3 ⟨
    oD (buildGi true), oT rG,
    trivial⟩ (fun L3 w4 hp4 => ?_)
  refine k5 _ _ ?_
  refine wp_ret ?_
  refine bodyPost_ret (v := GV ⟨0, 0, true⟩) ?_ rfl ?_
  · exact rc rG rfl (by kernel_rfl) (hp4.bound 1 rfl).2
  · exact ⟨rfl, hp4.bel⟩
theorem g1drop {G : World → Prop} (K : FpK G) (a : Jc F) (w : World) (hg : G w) : Calls Tryd.prog 32 #[JV a] w (Ret (GV (gp (jdrop finv a))) w) := by
  unfold jdrop
  by_cases hz : a.z = 0
  · rw [if_pos hz]
    obtain ⟨x, y, z⟩ := a
    have hz' : z = 0 := hz
    subst hz'
    exact g1drop0 K x y w hg
  · rw [if_neg hz]; exact g1drop1 K a w hg hz
set_option maxHeartbeats 4000000 in
theorem g1Neg1 {G : World → Prop} (K : FpK G) (x y : F) (i : Bool) (w : World) (hg : G w) : Calls Tryd.prog 14 #[GV ⟨x, y, i⟩] w (Ret (GV ⟨x, -y, i⟩) w) := by
  have hp0 := Heap.start w
  go_enter Tryd.func14, Tryd.ntmps14
  refine wp_seq_k (fun K1 k1 => ?_)
  refine gs [.alloc (GC ⟨x, y, i⟩), .alloc (GC ⟨0, 0, false⟩)] [0, 1] [0, 0] (fun L => [GV ⟨x, y, i⟩, pt (L.b 0) 0, pt (L.b 1) 0] ++ U 8) (fun L => [(L.b 0, GC ⟨x, y, i⟩), (L.b 1, GC ⟨0, 0, false⟩)]) hp0 ⟨
    oB, oZ rG,
    trivial⟩ (fun L0 w1 hp1 => ?_)
  refine k1 _ _ ?_
  refine wp_seq_k (fun K2 k2 => ?_)
  refine dr [.det (pt (L0.b 0) 0), .det (FV x), .det (pt (L0.b 0) 6), .det (FV y), .det (FV (-y)), .det (pt (L0.b 0) 12), .det (.bool i), .det (GV ⟨x, (-y), i⟩), .store (.base 1) 0 (GC ⟨x, (-y), i⟩) (GC ⟨x, (-y), i⟩)] [0, 1, 2, 3, 4, 5, 6, 7, 8] [0, 1, 0, 4, 12, 0, 32, 127, 255] (fun L => [GV ⟨x, y, i⟩, pt (L0.b 0) 0, pt (L0.b 1) 0, pt (L0.b 0) 0, FV x, pt (L0.b 0) 6, FV y, FV (-y), pt (L0.b 0) 12, .bool i, GV ⟨x, (-y), i⟩]) (fun L => [((L0.b 0), GC ⟨x, y, i⟩), ((L0.b 1), GC ⟨x, (-y), i⟩)]) hp1 ⟨
    oF fG0, oL 0 0 rF, oF fG1, oL 0 6 rF, oC K.stay hg (K.neg y), oF fG2, oL1 0 12 oneB, oD (buildG012 x (-y) i), oT rG,
    trivial⟩ (fun L1 w2 hp2 => ?_)
  refine k2 _ _ ?_
  refine wp_ret ?_
  refine bodyPost_ret (v := GV ⟨x, (-y), i⟩) ?_ rfl ?_
  · exact rc rG rfl (by kernel_rfl) (hp2.bound 1 rfl).2
  · exact ⟨rfl, hp2.bel⟩
theorem g1Neg {G : World → Prop} (K : FpK G) (P : Pt F) (w : World) (hg : G w) : Calls Tryd.prog 14 #[GV (gp P)] w (Ret (GV (gp (neg P))) w) := by
  cases P with
  | inf =>
    have h := g1Neg1 K 0 0 true w hg
    rw [show (-0 : F) = 0 from Rn.neg_zero] at h
    exact h
  | aff x y => exact g1Neg1 K x y false w hg
set_option maxHeartbeats 4000000 in
theorem g1Equal1 {G : World → Prop} (K : FpK G) (p q : G1p) (w : World) (hg : G w) : Calls Tryd.prog 18 #[GV p, GV q] w (Ret (.bool (decide (p = q))) w) := by
  have hp0 := Heap.start w
  go_enter Tryd.func18, Tryd.ntmps18
  refine wp_seq_k (fun K1 k1 => ?_)
  refine gs [.alloc (GC p), .alloc (GC q), .det (.bool false)] [0, 1, 2] [0, 0, 0] (fun L => [GV p, GV q, pt (L.b 0) 0, pt (L.b 1) 0, .bool false, undef, undef, undef]) (fun L => [(L.b 0, GC p), (L.b 1, GC q)]) hp0 ⟨
    oB, oB, oA,
    trivial⟩ (fun L0 w1 hp1 => ?_)
  refine k1 _ _ ?_
  refine wp_seq_k (fun K2 k2 => ?_)
  refine gs [.det (GV p), .det (GV q), .det (.bool (decide (p = q))), .det (.bool (decide (p = q)))] [0, 1, 2, 3] [0, 0, 3, 7] (fun L => [GV p, GV q, pt (L0.b 0) 0, pt (L0.b 1) 0, .bool (decide (p = q)), GV p, GV q, .bool (decide (p = q))]) (fun L => [((L0.b 0), GC p), ((L0.b 1), GC q)]) hp1 ⟨
    oL 0 0 rG, oL 1 0 rG, oE (a := p) (b := q) qG rfl, oA,
    trivial⟩ (fun L1 w2 hp2 => ?_)
  refine k2 _ _ ?_
  refine wp_ret ?_
  refine bodyPost_ret (v := .bool (decide (p = q))) ?_ rfl ?_
  · exact res_t rfl (by kernel_rfl) _
  · exact ⟨rfl, hp2.bel⟩
theorem g1Equal {G : World → Prop} (K : FpK G) (P Q : Pt F) (w : World) (hg : G w) : Calls Tryd.prog 18 #[GV (gp P), GV (gp Q)] w (Ret (.bool (decide (P = Q))) w) := by
  have h := g1Equal1 K (gp P) (gp Q) w hg
  rw [show decide (gp P = gp Q) = decide (P = Q) from decide_eq_decide.2 ⟨gp_inj, fun h => by rw [h]⟩] at h
  exact h
set_option maxHeartbeats 4000000 in
theorem g1One {G : World → Prop} (K : FpK G)  (w : World) (hg : G w) : Calls Tryd.prog 26 #[] w (Ret (GV (gp gen1)) w) := by
  have hp0 := Heap.start w
  go_enter Tryd.func26, Tryd.ntmps26
  refine wp_seq_k (fun K1 k1 => ?_)
  refine gs [.alloc (GC ⟨0, 0, false⟩)] [0] [0] (fun L => [pt (L.b 0) 0, undef, undef, undef]) (fun L => [(L.b 0, GC ⟨0, 0, false⟩)]) hp0 ⟨
    oZ rG,
    trivial⟩ (fun L0 w1 hp1 => ?_)
  refine k1 _ _ ?_
  refine wp_seq_k (fun K2 k2 => ?_)
  refine gs [.det (FV g1x), .det (FV g1y), .det (GV ⟨g1x, g1y, false⟩), .store (.base 0) 0 (GC ⟨g1x, g1y, false⟩) (GC ⟨g1x, g1y, false⟩)] [0, 1, 2, 3] [0, 0, 3, 7] (fun L => [pt (L0.b 0) 0, FV g1x, FV g1y, GV ⟨g1x, g1y, false⟩]) (fun L => [((L0.b 0), GC ⟨g1x, g1y, false⟩)]) hp1 ⟨
    oD buildFg1x, oD buildFg1y, oD (buildG01 g1x g1y), oT rG,
    trivial⟩ (fun L1 w2 hp2 => ?_)
  refine k2 _ _ ?_
  refine wp_ret ?_
  refine bodyPost_ret (v := GV ⟨g1x, g1y, false⟩) ?_ rfl ?_
  · exact rc rG rfl (by kernel_rfl) (hp2.bound 0 rfl).2
  · exact ⟨rfl, hp2.bel⟩
set_option maxHeartbeats 4000000 in
theorem g1AddJ {G : World → Prop} (K : FpK G) (P Q : Pt F) (w : World) (hg : G w) : Calls Tryd.prog 12 #[GV (gp P), GV (gp Q)] w (Ret (GV (gp (jdrop finv (jplus (jlift P) Q)))) w) := by
  have hp0 := Heap.start w
  go_enter Tryd.func12, Tryd.ntmps12
  refine wp_seq_k (fun K1 k1 => ?_)
  refine gs [.alloc (GC (gp P)), .alloc (GC (gp Q)), .alloc (GC ⟨0, 0, false⟩)] [0, 1, 2] [0, 0, 0] (fun L => [GV (gp P), GV (gp Q), pt (L.b 0) 0, pt (L.b 1) 0, pt (L.b 2) 0] ++ U 5) (fun L => [(L.b 0, GC (gp P)), (L.b 1, GC (gp Q)), (L.b 2, GC ⟨0, 0, false⟩)]) hp0 ⟨
    oB, oB, oZ rG,
    trivial⟩ (fun L0 w1 hp1 => ?_)
  refine k1 _ _ ?_
  refine wp_seq_k (fun K2 k2 => ?_)
  refine dr [.det (GV (gp P)), .det (JV (jlift P)), .det (GV (gp Q)), .det (JV (jplus (jlift P) Q)), .det (GV (gp (jdrop finv (jplus (jlift P) Q)))), .store (.base 2) 0 (GC (gp (jdrop finv (jplus (jlift P) Q)))) (GC (gp (jdrop finv (jplus (jlift P) Q))))] [0, 1, 2, 3, 4, 5] [0, 1, 0, 7, 15, 31] (fun L => [GV (gp P), GV (gp Q), pt (L0.b 0) 0, pt (L0.b 1) 0, pt (L0.b 2) 0, GV (gp P), JV (jlift P), GV (gp Q), JV (jplus (jlift P) Q), GV (gp (jdrop finv (jplus (jlift P) Q)))]) (fun L => [((L0.b 0), GC (gp P)), ((L0.b 1), GC (gp Q)), ((L0.b 2), GC (gp (jdrop finv (jplus (jlift P) Q))))]) hp1 ⟨
    oL 0 0 rG, oC K.stay hg (g1lift K P), oL 1 0 rG, oC K.stay hg (g1plus K (jlift P) Q), oC K.stay hg (g1drop K (jplus (jlift P) Q)), oT rG,
    trivial⟩ (fun L1 w2 hp2 => ?_)
  refine k2 _ _ ?_
  refine wp_ret ?_
  refine bodyPost_ret (v := GV (gp (jdrop finv (jplus (jlift P) Q)))) ?_ rfl ?_
  · exact rc rG rfl (by kernel_rfl) (hp2.bound 2 rfl).2
  · exact ⟨rfl, hp2.bel⟩
theorem g1Add {G : World → Prop} (K : FpK G) (P Q : Pt F) (w : World) (hg : G w) (hP : On (4 : F) P) (hQ : On (4 : F) Q) : Calls Tryd.prog 12 #[GV (gp P), GV (gp Q)] w (Ret (GV (gp (add finv P Q))) w) := by
  have h := g1AddJ K P Q w hg
  rw [JRep.drop crv1 (JRep.plus crv1 hP hQ (JRep.lift crv1 P))] at h
  exact h
end Go.Proofs.YtoehglidlakahaaDoor.fpn
