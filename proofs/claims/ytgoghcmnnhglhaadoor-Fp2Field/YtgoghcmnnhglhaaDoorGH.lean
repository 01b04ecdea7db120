/- LF II. -/
import Derived.Test.YtgoghcmnnhglhaaDoorRows
import Derived.Test.YtgoghcmnnhglhaaDoorGD
import Derived.Test.YtgoghcmnnhglhaaDoorGE
import Derived.Test.YtgoghcmnnhglhaaDoorGF
import Derived.Test.YtgoghcmnnhglhaaDoorGB
import Derived.ProofKit
import Derived.LaidMore
import Derived.OpenShut
import Derived.Stop.Joined
import Derived.Test.YtgoghcmnnhglhaaDoorGG
/- What arrays of limbs and pairs of them that come in give the walks; what the listed package variables hold. -/
namespace Go.Proofs.YtgoghcmnnhglhaaDoor.fpn
open Go.ChangeShapes Go.WideShapes Go.ChangeAt Go.WideElems Go.RowKit
set_option linter.unusedVariables false

/-- Cells that are read as a number of the base field are six limbs. -/
theorem row6 {H : Type} {enc : TypeId × Value → H} {W : World} {base : Nat} {spare : Nat → Bool} {held : Bool} {fuel : Nat} {cs : List Value} {x : DataW H × List MemPlace}
    (h : DataW.trod enc Tryd.prog W base spare held fuel 24 cs = some x) : ∃ f : Nat → Int, cs = QC f ∧ Rg f 6 := by
  obtain ⟨xs, m, _, _, hlen, hn, hel⟩ := DataW.trod_array Tryd.underlying24 h
  rw [cellsFr] at hlen
  rw [cells64] at hel
  obtain ⟨c0, c1, c2, c3, c4, c5, rfl⟩ := list6 cs hlen
  match xs, hn with
  | [y0, y1, y2, y3, y4, y5], _ =>
    obtain ⟨x0, e0, rfl, w0⟩ := DataW.trod_int Tryd.underlying22 (show DataW.trod _ Tryd.prog W _ _ _ m 22 _ = some y0 from hel 0 (by decide))
    obtain ⟨x1, e1, rfl, w1⟩ := DataW.trod_int Tryd.underlying22 (show DataW.trod _ Tryd.prog W _ _ _ m 22 _ = some y1 from hel 1 (by decide))
    obtain ⟨x2, e2, rfl, w2⟩ := DataW.trod_int Tryd.underlying22 (show DataW.trod _ Tryd.prog W _ _ _ m 22 _ = some y2 from hel 2 (by decide))
    obtain ⟨x3, e3, rfl, w3⟩ := DataW.trod_int Tryd.underlying22 (show DataW.trod _ Tryd.prog W _ _ _ m 22 _ = some y3 from hel 3 (by decide))
    obtain ⟨x4, e4, rfl, w4⟩ := DataW.trod_int Tryd.underlying22 (show DataW.trod _ Tryd.prog W _ _ _ m 22 _ = some y4 from hel 4 (by decide))
    obtain ⟨x5, e5, rfl, w5⟩ := DataW.trod_int Tryd.underlying22 (show DataW.trod _ Tryd.prog W _ _ _ m 22 _ = some y5 from hel 5 (by decide))
    simp at e0 e1 e2 e3 e4 e5
    subst e0 e1 e2 e3 e4 e5
    refine ⟨hexa x0 x1 x2 x3 x4 x5, rfl, fun i hi => ?_⟩
    have b0 := bounds_u64 w0
    have b1 := bounds_u64 w1
    have b2 := bounds_u64 w2
    have b3 := bounds_u64 w3
    have b4 := bounds_u64 w4
    have b5 := bounds_u64 w5
    rw [B64_eq]
    rcases (show i = 0 ∨ i = 1 ∨ i = 2 ∨ i = 3 ∨ i = 4 ∨ i = 5 by omega) with rfl | rfl | rfl | rfl | rfl | rfl <;> simp only [hexa] <;> omega

theorem cut2 {α : Type} {cs : List α} {n : Nat} (h : cs.length = 2 * n) : cs = (cs.drop (0 * n)).take n ++ (cs.drop (1 * n)).take n := by
  rw [Nat.zero_mul, Nat.one_mul, List.drop_zero, List.take_of_length_le (l := cs.drop n) (by rw [List.length_drop]; omega), List.take_append_drop]

theorem cells2 : Tryd.prog.cellsOf 26 = 12 := by kernel_rfl
theorem under2 : Tryd.prog.underlying 26 = some (.array 2 24) := Tryd.underlying26

theorem row12 {H : Type} {enc : TypeId × Value → H} {W : World} {base : Nat} {spare : Nat → Bool} {held : Bool} {fuel : Nat} {cs : List Value} {x : DataW H × List MemPlace}
    (h : DataW.trod enc Tryd.prog W base spare held fuel 26 cs = some x) : ∃ f g : Nat → Int, cs = QC2 f g ∧ Rg f 6 ∧ Rg g 6 := by
  obtain ⟨xs, m, _, _, hlen, hn, hel⟩ := DataW.trod_array under2 h
  rw [cells2] at hlen
  rw [cellsFr] at hel
  match xs, hn with
  | [y0, y1], _ =>
    obtain ⟨f, hf, rf⟩ := row6 (show _ = some y0 from hel 0 (by decide))
    obtain ⟨g, hg, rg⟩ := row6 (show _ = some y1 from hel 1 (by decide))
    refine ⟨f, g, ?_, rf, rg⟩
    rw [cut2 (n := 6) hlen, hf, hg]; rfl

theorem open_fp2 {H : Type} {enc : TypeId × Value → H} {W : World} {base : Nat} {v : Value} {d : DataW H} {p : List MemPlace}
    (hv : Value.okWide Tryd.prog W .any base 26 v) (h0 : DataW.Trod enc Tryd.prog W 0 (fun _ => true) true 26 v d p) :
    ∃ f g : Nat → Int, v = QV2 f g ∧ Rg f 6 ∧ Rg g 6 := by
  obtain ⟨cs, rfl, hsz, _⟩ : ∃ cs, v = .agg cs ∧ cs.size = Tryd.prog.cellsOf 26 ∧ Row.okWide Tryd.prog W .any base 26 cs := by
    simpa [Value.okWide, Tryd.underlying26] using hv
  obtain ⟨l⟩ := cs
  obtain ⟨fuel, hf⟩ := h0
  obtain ⟨f, g, e, rf, rg⟩ := row12 hf
  exact ⟨f, g, congrArg (fun l : List Value => Value.agg l.toArray) e, rf, rg⟩

def laid2 : List (String × DataW Unit) := Rows.fp2AllRow.laid
def nHalf : String := ((laid2.map (·.1))[0]?).getD Rows.fp2AllRow.func
def nSquare : String := ((laid2.map (·.1))[1]?).getD Rows.fp2AllRow.func
def nHalf2 : String := ((laid2.map (·.1))[2]?).getD Rows.fp2AllRow.func
theorem gHalf : Tryd.prog.globalNamed nHalf = some 0 := by kernel_rfl
theorem gSquare : Tryd.prog.globalNamed nSquare = some 1 := by kernel_rfl
theorem gHalf2 : Tryd.prog.globalNamed nHalf2 = some 2 := by kernel_rfl
theorem tHalf : (Tryd.prog.globals[0]?).map (·.type) = some 24 := by kernel_rfl
theorem tSquare : (Tryd.prog.globals[1]?).map (·.type) = some 24 := by kernel_rfl
theorem tHalf2 : (Tryd.prog.globals[2]?).map (·.type) = some 24 := by kernel_rfl

theorem door_met (os : Os) (args : Array Value) : laidMetH Tryd.prog laid2 ((World.doorLaid Tryd.prog 400 os).forCall (fun _ _ => 0) ⟨#[], args, []⟩).memory :=
  laidMetH_of_parts3 (fuel := 8) (laidMet_of_run' 8 (by kernel_rfl) (by kernel_rfl)) (by kernel_rfl) (by kernel_rfl)

theorem arr6_at {W : World} {g : Nat} {n : String} {cs : Array Value} {fuel : Nat} {p : List MemPlace} (f : Nat → Int) (hg : Tryd.prog.globalNamed n = some g) (hv : World.var? Tryd.prog W n = some cs)
    (hd : DataW.trod (fun _ => ()) Tryd.prog W 0 (fun _ => true) false fuel 24 cs.toList = some (.agg [.lit (.int .u64 (f 0)), .lit (.int .u64 (f 1)), .lit (.int .u64 (f 2)), .lit (.int .u64 (f 3)), .lit (.int .u64 (f 4)), .lit (.int .u64 (f 5))], p)) : At W (some ⟨g, 0, none⟩) 6 f := by
  obtain ⟨xs, m, _, hx, hlen, hn, hel⟩ := DataW.trod_array Tryd.underlying24 hd
  rw [cellsFr] at hlen
  rw [cells64] at hel
  obtain ⟨l⟩ := cs
  obtain ⟨c0, c1, c2, c3, c4, c5, rfl⟩ := list6 l hlen
  match xs, hn with
  | [y0, y1, y2, y3, y4, y5], _ =>
    obtain ⟨x0, e0, rfl, w0⟩ := DataW.trod_int Tryd.underlying22 (show DataW.trod _ Tryd.prog W 0 _ _ m 22 _ = some y0 from hel 0 (by decide))
    obtain ⟨x1, e1, rfl, w1⟩ := DataW.trod_int Tryd.underlying22 (show DataW.trod _ Tryd.prog W 0 _ _ m 22 _ = some y1 from hel 1 (by decide))
    obtain ⟨x2, e2, rfl, w2⟩ := DataW.trod_int Tryd.underlying22 (show DataW.trod _ Tryd.prog W 0 _ _ m 22 _ = some y2 from hel 2 (by decide))
    obtain ⟨x3, e3, rfl, w3⟩ := DataW.trod_int Tryd.underlying22 (show DataW.trod _ Tryd.prog W 0 _ _ m 22 _ = some y3 from hel 3 (by decide))
    obtain ⟨x4, e4, rfl, w4⟩ := DataW.trod_int Tryd.underlying22 (show DataW.trod _ Tryd.prog W 0 _ _ m 22 _ = some y4 from hel 4 (by decide))
    obtain ⟨x5, e5, rfl, w5⟩ := DataW.trod_int Tryd.underlying22 (show DataW.trod _ Tryd.prog W 0 _ _ m 22 _ = some y5 from hel 5 (by decide))
    simp at e0 e1 e2 e3 e4 e5 hx
    obtain ⟨⟨rfl, rfl, rfl, rfl, rfl, rfl⟩, _⟩ := hx
    subst e0 e1 e2 e3 e4 e5
    refine fun _ => ⟨g, 0, rfl, fun j hj => ?_⟩
    have k := World.var?_cell hg hv j
    rw [Nat.zero_add, k]
    rcases (show j = 0 ∨ j = 1 ∨ j = 2 ∨ j = 3 ∨ j = 4 ∨ j = 5 by omega) with rfl | rfl | rfl | rfl | rfl | rfl <;> rfl

/-- (P + 1) / 2, its limbs. -/
def h2L : Nat → Int
  | 0 => 15924587544893707606
  | 1 => 1105070755758604287
  | 2 => 12941209323636816658
  | 3 => 12843041017062132063
  | 4 => 2706051889235351147
  | 5 => 936899308823769933
  | _ => 0
theorem h2L_lb : ∀ j, j < 6 → h2L j = lb hf.val j := by decide +kernel

/-- What the packages' variables hold. -/
def G2 (w : World) : Prop := Gl w ∧ At w (some ⟨2, 0, none⟩) 6 h2L
theorem G2.stay {w x : World} (h : G2 w) (b : Below w.heap.size w x) : G2 x := ⟨h.1.stay b, AtK.below h.2 b⟩
theorem G2.half (w : World) (h : G2 w) : w.rangeAt 2 0 (FC hf) := fun j v hv => by
  obtain ⟨b, off, e, hc⟩ := h.2 (by decide)
  obtain ⟨rfl, rfl⟩ : 2 = b ∧ 0 = off := by simpa using e
  have hj : j < 6 := by
    have := (List.getElem?_eq_some_iff.1 hv).1
    rw [FC_len] at this; exact this
  rw [hc j hj, h2L_lb j hj]
  rcases (show j = 0 ∨ j = 1 ∨ j = 2 ∨ j = 3 ∨ j = 4 ∨ j = 5 by omega) with rfl | rfl | rfl | rfl | rfl | rfl <;> exact hv

theorem FpOk.over {G G' : World → Prop} (K : FpOk G) (h : ∀ w, G' w → G w) (s : ∀ {w x : World}, G' w → Below w.heap.size w x → G' x) : FpOk G' where
  stay := s
  add := fun f g w k => K.add f g w (h w k)
  sub := fun f g w k => K.sub f g w (h w k)
  mul := fun f g w k => K.mul f g w (h w k)
  neg := fun f w k => K.neg f w (h w k)
  of := fun x w k => K.of x w (h w k)
  inv0 := fun f w k => K.inv0 f w (h w k)
  inv := fun f w k => K.inv f w (h w k)
  pow := fun f p n c g E w k => K.pow f p n c g E w (h w k)
  may := fun f w k => K.may f w (h w k)
  great := fun f w k => K.great f w (h w k)
  sqrtNo := fun f w k => K.sqrtNo f w (h w k)
  sqrtYes := fun f w k => K.sqrtYes f w (h w k)
theorem fpK2 : FpK G2 := fpK (fpOk.over (fun _ h => h.1) (fun h b => h.stay b))

theorem of_laid {W : World} (h : laidMetH Tryd.prog laid2 W) : G2 W := by
  rw [MakeChecks.laidMetH_plain _ _ _ (by kernel_rfl)] at h
  obtain ⟨ps, ⟨g0, t0, cs0, f0, p0, q0, hg0, ht0, hv0, hd0, ⟨g1, t1, cs1, f1, p1, q1, hg1, ht1, hv1, hd1, ⟨g2, t2, cs2, f2, p2, q2, hg2, ht2, hv2, hd2, _, _⟩, _⟩, _⟩, _, _⟩ := h
  obtain rfl := Option.some.inj (gHalf.symm.trans hg0)
  obtain rfl := Option.some.inj (gSquare.symm.trans hg1)
  obtain rfl := Option.some.inj (gHalf2.symm.trans hg2)
  obtain rfl := Option.some.inj (tHalf.symm.trans ht0)
  obtain rfl := Option.some.inj (tSquare.symm.trans ht1)
  obtain rfl := Option.some.inj (tHalf2.symm.trans ht2)
  exact ⟨⟨arr6_at hL hg0 hv0 hd0, arr6_at cL hg1 hv1 hd1⟩, arr6_at h2L hg2 hv2 hd2⟩
end Go.Proofs.YtgoghcmnnhglhaaDoor.fpn

/- Does fp2 do anything? Yes. -/
namespace Go.Proofs.YtgoghcmnnhglhaaDoor.fpn
open Go.RowKit Pl
set_option linter.unusedVariables false
set_option linter.unusedSimpArgs false
set_option maxRecDepth 4000

theorem fp2MayP {G : World → Prop} (K : FpK G) (x : F2) (w : World) (hg : G w) : Calls Tryd.prog 9 #[PV x] w (Ret (.bool true) w) :=
  fp2May K (lb x.c0.val) (lb x.c1.val) w hg (lb_rg _ _) (lb_rg _ _) (lt_RI _) (lt_RI _)
theorem ref5MayP (R : RefK) (x : F2) (w : World) : Calls Tryd.prog 8 #[PV x] w (Ret (.bool true) w) :=
  ref5May2 R (lb x.c0.val) (lb x.c1.val) w (lb_rg _ _) (lb_rg _ _) (lt_RI _) (lt_RI _)
namespace F2
def m1' : F2 := -1
def nu : F2 := -uu
theorem nu_mul : uu * nu = 1 := by kernel_rfl
theorem uu_ne : uu ≠ 0 := fun h => absurd (congrArg (fun x : F2 => x.c1.val) h) (by decide +kernel)
theorem uu_great : uu.great = false := by decide +kernel
theorem uu_conj : uu.conj = nu := by kernel_rfl
theorem uu_inv : uu.inv = nu := by
  have h := inv_mul uu_ne
  have e : nu * (uu * uu.inv) = uu.inv := by rw [mul_assoc', mul_comm' nu uu, nu_mul, one_mul']
  rw [h, mul_one'] at e
  exact e.symm
end F2
theorem bg1 {G : World → Prop} (K : FpK G) (w : World) (hg : G w) : Calls Tryd.prog 16 #[PV ⟨1, 0⟩] w (Ret (PV F2.m1') w) := fp2Neg K 1 w hg
theorem bg2 {G : World → Prop} (K : FpK G) (w : World) (hg : G w) (hH : ∀ w, G w → w.rangeAt 2 0 (FC hf)) : Calls Tryd.prog 24 #[PV F2.m1'] w (Ret (.tuple #[PV ⟨0, 1⟩, .bool true]) w) := by
  have h := fp2Sqrt K F2.m1' w hg hH
  rw [F2.sq2_of (a := F2.m1') (r := F2.uu) F2.uu_sq F2.uu_great, F2.is2_of (a := F2.m1') (r := F2.uu) F2.uu_sq] at h
  exact h
theorem bg3 {G : World → Prop} (K : FpK G) (w : World) (hg : G w) : Calls Tryd.prog 10 #[PV ⟨0, 1⟩] w (Ret (.tuple #[PV F2.nu, .int .i64 0]) w) := by
  have h := fp2Inv K F2.uu w hg (F2.norm_ne F2.uu_ne)
  rw [F2.uu_inv] at h
  exact h
theorem bg4 {G : World → Prop} (K : FpK G) (w : World) (hg : G w) : Calls Tryd.prog 18 #[PV ⟨0, 1⟩, PV ⟨0, 1⟩] w (Ret (PV F2.m1') w) := by
  have h := fp2Mul K F2.uu F2.uu w hg
  rw [F2.uu_sq] at h
  exact h
theorem bg5 {G : World → Prop} (K : FpK G) (w : World) (hg : G w) : Calls Tryd.prog 16 #[PV ⟨0, 1⟩] w (Ret (PV F2.nu) w) := fp2Neg K F2.uu w hg
theorem bg6 {G : World → Prop} (K : FpK G) (w : World) (hg : G w) : Calls Tryd.prog 20 #[PV ⟨0, 1⟩] w (Ret (PV F2.nu) w) := by
  have h := fp2Conj K F2.uu w hg
  rw [F2.uu_conj] at h
  exact h
set_option maxHeartbeats 4000000 in
theorem begun5 {G : World → Prop} (K : FpK G)  (w : World) (hg : G w) (hH : ∀ w, G w → w.rangeAt 2 0 (FC hf)) : Calls Tryd.prog 7 #[] w (Ret (.bool true) w) := by
  have hp0 := Heap.start w
  go_enter Tryd.func7, Tryd.ntmps7
  refine wp_seq_k (fun K1 k1 => ?_)
  refine goes (ks := [.det (.bool false)]) (T := [0]) (nt := 56) (nh := 0) (H := []) (A := fun L => [.bool false, undef, undef, undef, undef, undef, undef, undef, undef, undef, undef, undef, undef, undef, undef, undef, undef, undef, undef, undef, undef, undef, undef, undef, undef, undef, undef, undef, undef, undef, undef, undef, undef, undef, undef, undef, undef, undef, undef, undef, undef, undef, undef, undef, undef, undef, undef, undef, undef, undef, undef, undef, undef, undef, undef, undef]) (H' := fun L => []) (by kernel_rfl) rfl rfl rfl (fun L => by kernel_rfl) (fun L => by kernel_rfl) hp0 ⟨
    ob_assign (fun _ => rfl) rfl rfl (fun _ => by kernel_rfl),
    trivial⟩ (fun L0 w1 hp1 => ?_)
  refine k1 _ _ ?_
  refine wp_seq_k (fun K2 k2 => ?_)
  refine goes (ks := [.det (FV 0), .det (FV 1), .det (PV ⟨0, 1⟩), .alloc (PC 0), .store (.new 3) 0 (PC ⟨0, 1⟩) (PC ⟨0, 1⟩)]) (T := [0, 0, 3, 0, 15]) (nt := 56) (nh := 0) (H := []) (A := fun L => [.bool false, .pointer (some ⟨L.b 3, 0, none⟩), undef, undef, undef, undef, undef, FV 0, FV 1, PV ⟨0, 1⟩, undef, undef, undef, undef, undef, undef, undef, undef, undef, undef, undef, undef, undef, undef, undef, undef, undef, undef, undef, undef, undef, undef, undef, undef, undef, undef, undef, undef, undef, undef, undef, undef, undef, undef, undef, undef, undef, undef, undef, undef, undef, undef, undef, undef, undef, undef]) (H' := fun L => [(L.b 3, PC ⟨0, 1⟩)]) (by kernel_rfl) rfl rfl rfl (fun L => by kernel_rfl) (fun L => by kernel_rfl) hp1 ⟨
    ob_build (qs := #[]) (fun _ => rfl) rfl rfl (fun _ => by kernel_rfl) buildF0,
    ob_build (qs := #[(0, .int .u64 1)]) (fun _ => rfl) rfl rfl (fun _ => by kernel_rfl) buildF1,
    ob_build (qs := #[(0, FV 0), (1, FV 1)]) (fun _ => rfl) rfl rfl (fun _ => by kernel_rfl) (buildP _ _),
    ob_alloc (v := PV 0) (fun _ => rfl) rfl rfl zeroP rfl,
    ob_store (old := PC 0) (fun _ => rfl) rfl rfl (fun _ => by kernel_rfl) (fun _ => by kernel_rfl) rfl (sizePC _) (PC_one _) (le_len (PC_len _) (PC_len _) (by decide)) (splice_all ((PC_len _).trans (PC_len _).symm)).symm,
    trivial⟩ (fun L1 w2 hp2 => ?_)
  refine k2 _ _ ?_
  refine wp_seq_k (fun K3 k3 => ?_)
  refine goes (ks := [.det (FV 1), .det (PV ⟨1, 0⟩), .det (PV F2.m1'), .alloc (PC 0), .store (.new 3) 0 (PC F2.m1') (PC F2.m1')]) (T := [0, 1, 3, 0, 15]) (nt := 56) (nh := 1) (H := [((L1.b 3), PC ⟨0, 1⟩)]) (A := fun L => [.bool false, .pointer (some ⟨(L1.b 3), 0, none⟩), .pointer (some ⟨L.b 3, 0, none⟩), undef, undef, undef, undef, FV 0, FV 1, PV ⟨0, 1⟩, FV 1, PV ⟨1, 0⟩, PV F2.m1', undef, undef, undef, undef, undef, undef, undef, undef, undef, undef, undef, undef, undef, undef, undef, undef, undef, undef, undef, undef, undef, undef, undef, undef, undef, undef, undef, undef, undef, undef, undef, undef, undef, undef, undef, undef, undef, undef, undef, undef, undef, undef, undef]) (H' := fun L => [((L1.b 3), PC ⟨0, 1⟩), (L.b 3, PC F2.m1')]) (by kernel_rfl) rfl rfl rfl (fun L => by kernel_rfl) (fun L => by kernel_rfl) hp2 ⟨
    ob_build (qs := #[(0, .int .u64 1)]) (fun _ => rfl) rfl rfl (fun _ => by kernel_rfl) buildF1,
    ob_build (qs := #[(0, FV 1)]) (fun _ => rfl) rfl rfl (fun _ => by kernel_rfl) (buildPa _),
    ob_call (vs := #[PV ⟨1, 0⟩]) (by kernel_rfl) (by kernel_rfl) (fun _ => rfl) rfl rfl (fun _ => by kernel_rfl) (fun w hb _ => bg1 K w (K.stay hg hb)),
    ob_alloc (v := PV 0) (fun _ => rfl) rfl rfl zeroP rfl,
    ob_store (old := PC 0) (fun _ => rfl) rfl rfl (fun _ => by kernel_rfl) (fun _ => by kernel_rfl) rfl (sizePC _) (PC_one _) (le_len (PC_len _) (PC_len _) (by decide)) (splice_all ((PC_len _).trans (PC_len _).symm)).symm,
    trivial⟩ (fun L2 w3 hp3 => ?_)
  refine k3 _ _ ?_
  refine wp_seq_k (fun K4 k4 => ?_)
  refine goes (ks := [.det (PV F2.m1'), .det (.tuple #[PV ⟨0, 1⟩, .bool true]), .det (.tuple #[PV ⟨0, 1⟩, .bool true]), .det (PV ⟨0, 1⟩), .det (.bool true), .alloc (PC 0), .store (.new 5) 0 (PC ⟨0, 1⟩) (PC ⟨0, 1⟩), .det (.bool true)]) (T := [0, 1, 3, 7, 7, 0, 47, 127]) (nt := 56) (nh := 2) (H := [((L1.b 3), PC ⟨0, 1⟩), ((L2.b 3), PC F2.m1')]) (A := fun L => [.bool false, .pointer (some ⟨(L1.b 3), 0, none⟩), .pointer (some ⟨(L2.b 3), 0, none⟩), .pointer (some ⟨L.b 5, 0, none⟩), .bool true, undef, undef, FV 0, FV 1, PV ⟨0, 1⟩, FV 1, PV ⟨1, 0⟩, PV F2.m1', .tuple #[PV ⟨0, 1⟩, .bool true], PV F2.m1', .tuple #[PV ⟨0, 1⟩, .bool true], PV ⟨0, 1⟩, .bool true, undef, undef, undef, undef, undef, undef, undef, undef, undef, undef, undef, undef, undef, undef, undef, undef, undef, undef, undef, undef, undef, undef, undef, undef, undef, undef, undef, undef, undef, undef, undef, undef, undef, undef, undef, undef, undef, undef]) (H' := fun L => [((L1.b 3), PC ⟨0, 1⟩), ((L2.b 3), PC F2.m1'), (L.b 5, PC ⟨0, 1⟩)]) (by kernel_rfl) rfl rfl rfl (fun L => by kernel_rfl) (fun L => by kernel_rfl) hp3 ⟨
    ob_load (b := (L2.b 3)) (off := 0) (cs := PC F2.m1') (by kernel_rfl) (fun _ => rfl) rfl rfl (fun _ => by kernel_rfl) (fun _ _ hs => (seen_at (k := 1) hs rfl).cells) Tryd.underlying26 rfl (sizePC _),
    ob_call (vs := #[PV F2.m1']) (by kernel_rfl) (by kernel_rfl) (fun _ => rfl) rfl rfl (fun _ => by kernel_rfl) (fun w hb _ => bg2 K w (K.stay hg hb) hH),
    ob_move (fun _ => rfl) rfl rfl (fun _ => by kernel_rfl),
    ob_extract (vs := #[PV ⟨0, 1⟩, .bool true]) (fun _ => rfl) rfl rfl (fun _ => by kernel_rfl) rfl,
    ob_extract (vs := #[PV ⟨0, 1⟩, .bool true]) (fun _ => rfl) rfl rfl (fun _ => by kernel_rfl) rfl,
    ob_alloc (v := PV 0) (fun _ => rfl) rfl rfl zeroP rfl,
    ob_store (old := PC 0) (fun _ => rfl) rfl rfl (fun _ => by kernel_rfl) (fun _ => by kernel_rfl) rfl (sizePC _) (PC_one _) (le_len (PC_len _) (PC_len _) (by decide)) (splice_all ((PC_len _).trans (PC_len _).symm)).symm,
    ob_assign (fun _ => rfl) rfl rfl (fun _ => by kernel_rfl),
    trivial⟩ (fun L3 w4 hp4 => ?_)
  refine k4 _ _ ?_
  refine wp_seq_k (fun K5 k5 => ?_)
  refine goes (ks := [.det (PV ⟨0, 1⟩), .det (.tuple #[PV F2.nu, .int .i64 0]), .det (.tuple #[PV F2.nu, .int .i64 0]), .det (PV F2.nu), .det (.int .i64 0), .alloc (PC 0), .store (.new 5) 0 (PC F2.nu) (PC F2.nu), .det (.int .i64 0)]) (T := [0, 1, 3, 7, 7, 0, 47, 127]) (nt := 56) (nh := 3) (H := [((L1.b 3), PC ⟨0, 1⟩), ((L2.b 3), PC F2.m1'), ((L3.b 5), PC ⟨0, 1⟩)]) (A := fun L => [.bool false, .pointer (some ⟨(L1.b 3), 0, none⟩), .pointer (some ⟨(L2.b 3), 0, none⟩), .pointer (some ⟨(L3.b 5), 0, none⟩), .bool true, .pointer (some ⟨L.b 5, 0, none⟩), .int .i64 0, FV 0, FV 1, PV ⟨0, 1⟩, FV 1, PV ⟨1, 0⟩, PV F2.m1', .tuple #[PV ⟨0, 1⟩, .bool true], PV F2.m1', .tuple #[PV ⟨0, 1⟩, .bool true], PV ⟨0, 1⟩, .bool true, .tuple #[PV F2.nu, .int .i64 0], PV ⟨0, 1⟩, .tuple #[PV F2.nu, .int .i64 0], PV F2.nu, .int .i64 0, undef, undef, undef, undef, undef, undef, undef, undef, undef, undef, undef, undef, undef, undef, undef, undef, undef, undef, undef, undef, undef, undef, undef, undef, undef, undef, undef, undef, undef, undef, undef, undef, undef]) (H' := fun L => [((L1.b 3), PC ⟨0, 1⟩), ((L2.b 3), PC F2.m1'), ((L3.b 5), PC ⟨0, 1⟩), (L.b 5, PC F2.nu)]) (by kernel_rfl) rfl rfl rfl (fun L => by kernel_rfl) (fun L => by kernel_rfl) hp4 ⟨
    ob_load (b := (L1.b 3)) (off := 0) (cs := PC ⟨0, 1⟩) (by kernel_rfl) (fun _ => rfl) rfl rfl (fun _ => by kernel_rfl) (fun _ _ hs => (seen_at (k := 0) hs rfl).cells) Tryd.underlying26 rfl (sizePC _),
    ob_call (vs := #[PV ⟨0, 1⟩]) (by kernel_rfl) (by kernel_rfl) (fun _ => rfl) rfl rfl (fun _ => by kernel_rfl) (fun w hb _ => bg3 K w (K.stay hg hb)),
    ob_move (fun _ => rfl) rfl rfl (fun _ => by kernel_rfl),
    ob_extract (vs := #[PV F2.nu, .int .i64 0]) (fun _ => rfl) rfl rfl (fun _ => by kernel_rfl) rfl,
    ob_extract (vs := #[PV F2.nu, .int .i64 0]) (fun _ => rfl) rfl rfl (fun _ => by kernel_rfl) rfl,
    ob_alloc (v := PV 0) (fun _ => rfl) rfl rfl zeroP rfl,
    ob_store (old := PC 0) (fun _ => rfl) rfl rfl (fun _ => by kernel_rfl) (fun _ => by kernel_rfl) rfl (sizePC _) (PC_one _) (le_len (PC_len _) (PC_len _) (by decide)) (splice_all ((PC_len _).trans (PC_len _).symm)).symm,
    ob_assign (fun _ => rfl) rfl rfl (fun _ => by kernel_rfl),
    trivial⟩ (fun L4 w5 hp5 => ?_)
  refine k5 _ _ ?_
  refine wp_seq_k (fun K6 k6 => ?_)
  refine draws (by kernel_rfl) (ks := [.det (PV ⟨0, 1⟩), .det (PV ⟨0, 1⟩), .det (PV F2.m1'), .det (PV F2.m1'), .det (.bool true), .det (.bool true), .det (.bool true), .det (.bool true), .det (.bool true), .det (PV ⟨0, 1⟩), .det (PV ⟨0, 1⟩), .det (.bool true), .det (.bool true), .det (.bool true), .det (.int .i64 0), .det (.bool true), .det (.bool true), .det (.bool true), .det (PV F2.nu), .det (PV ⟨0, 1⟩), .det (PV F2.nu), .det (.bool true), .det (.bool true), .det (.bool true), .det (PV ⟨0, 1⟩), .det (.bool true), .det (.bool true), .det (.bool true), .det (PV ⟨0, 1⟩), .det (PV F2.nu), .det (PV F2.nu), .det (.bool true), .det (.bool true), .det (.bool true)]) (T := [0, 0, 3, 0, 15, 31, 63, 127, 255, 511, 511, 2047, 4095, 8191, 16383, 32767, 65535, 131071, 262143, 262143, 786431, 2097151, 4194303, 8388607, 16777215, 33554431, 67108863, 134217727, 268435455, 536870911, 268435455, 2147483647, 4294967295, 8589934591]) (nt := 56) (nh := 4) (H := [((L1.b 3), PC ⟨0, 1⟩), ((L2.b 3), PC F2.m1'), ((L3.b 5), PC ⟨0, 1⟩), ((L4.b 5), PC F2.nu)]) (A := fun L => [.bool true, .pointer (some ⟨(L1.b 3), 0, none⟩), .pointer (some ⟨(L2.b 3), 0, none⟩), .pointer (some ⟨(L3.b 5), 0, none⟩), .bool true, .pointer (some ⟨(L4.b 5), 0, none⟩), .int .i64 0, FV 0, FV 1, PV ⟨0, 1⟩, FV 1, PV ⟨1, 0⟩, PV F2.m1', .tuple #[PV ⟨0, 1⟩, .bool true], PV F2.m1', .tuple #[PV ⟨0, 1⟩, .bool true], PV ⟨0, 1⟩, .bool true, .tuple #[PV F2.nu, .int .i64 0], PV ⟨0, 1⟩, .tuple #[PV F2.nu, .int .i64 0], PV F2.nu, .int .i64 0, PV ⟨0, 1⟩, PV ⟨0, 1⟩, PV F2.m1', PV F2.m1', .bool true, .bool true, .bool true, .bool true, .bool true, PV ⟨0, 1⟩, PV ⟨0, 1⟩, .bool true, .bool true, .bool true, .int .i64 0, .bool true, .bool true, .bool true, PV F2.nu, PV ⟨0, 1⟩, PV F2.nu, .bool true, .bool true, .bool true, PV ⟨0, 1⟩, .bool true, .bool true, .bool true, PV ⟨0, 1⟩, PV F2.nu, PV F2.nu, .bool true, .bool true]) (H' := fun L => [((L1.b 3), PC ⟨0, 1⟩), ((L2.b 3), PC F2.m1'), ((L3.b 5), PC ⟨0, 1⟩), ((L4.b 5), PC F2.nu)]) (by kernel_rfl) rfl rfl rfl (fun L => by kernel_rfl) (fun L => by kernel_rfl) hp5 ⟨
    ob_load (b := (L1.b 3)) (off := 0) (cs := PC ⟨0, 1⟩) (by kernel_rfl) (fun _ => rfl) rfl rfl (fun _ => by kernel_rfl) (fun _ _ hs => (seen_at (k := 0) hs rfl).cells) Tryd.underlying26 rfl (sizePC _),
    ob_load (b := (L1.b 3)) (off := 0) (cs := PC ⟨0, 1⟩) (by kernel_rfl) (fun _ => rfl) rfl rfl (fun _ => by kernel_rfl) (fun _ _ hs => (seen_at (k := 0) hs rfl).cells) Tryd.underlying26 rfl (sizePC _),
    ob_call (vs := #[PV ⟨0, 1⟩, PV ⟨0, 1⟩]) (by kernel_rfl) (by kernel_rfl) (fun _ => rfl) rfl rfl (fun _ => by kernel_rfl) (fun w hb _ => bg4 K w (K.stay hg hb)),
    ob_load (b := (L2.b 3)) (off := 0) (cs := PC F2.m1') (by kernel_rfl) (fun _ => rfl) rfl rfl (fun _ => by kernel_rfl) (fun _ _ hs => (seen_at (k := 1) hs rfl).cells) Tryd.underlying26 rfl (sizePC _),
    ob_eq (u := PV F2.m1') (v := PV F2.m1') (fun _ => rfl) rfl rfl (fun _ => by kernel_rfl) (fun _ => by kernel_rfl) (fun w => guardP _ _ _ _ _ w) (fun w => (eqlP _ _ w).trans (by rw [decide_eq_true (rfl)]; try rfl)),
    ob_move (fun _ => rfl) rfl rfl (fun _ => by kernel_rfl),
    ob_move (fun _ => by kernel_rfl) rfl rfl (fun _ => by kernel_rfl),
    ob_pickT (fun _ => rfl) rfl rfl (fun _ => by kernel_rfl) (fun _ => by kernel_rfl),
    ob_move (fun _ => rfl) rfl rfl (fun _ => by kernel_rfl),
    ob_load (b := (L3.b 5)) (off := 0) (cs := PC ⟨0, 1⟩) (by kernel_rfl) (fun _ => by kernel_rfl) rfl rfl (fun _ => by kernel_rfl) (fun _ _ hs => (seen_at (k := 2) hs rfl).cells) Tryd.underlying26 rfl (sizePC _),
    ob_load (b := (L1.b 3)) (off := 0) (cs := PC ⟨0, 1⟩) (by kernel_rfl) (fun _ => by kernel_rfl) rfl rfl (fun _ => by kernel_rfl) (fun _ _ hs => (seen_at (k := 0) hs rfl).cells) Tryd.underlying26 rfl (sizePC _),
    ob_eq (u := PV ⟨0, 1⟩) (v := PV ⟨0, 1⟩) (fun _ => by kernel_rfl) rfl rfl (fun _ => by kernel_rfl) (fun _ => by kernel_rfl) (fun w => guardP _ _ _ _ _ w) (fun w => (eqlP _ _ w).trans (by rw [decide_eq_true (rfl)]; try rfl)),
    ob_pickT (fun _ => rfl) rfl rfl (fun _ => by kernel_rfl) (fun _ => by kernel_rfl),
    ob_move (fun _ => rfl) rfl rfl (fun _ => by kernel_rfl),
    ob_move (fun _ => by kernel_rfl) rfl rfl (fun _ => by kernel_rfl),
    ob_eq (u := .int .i64 0) (v := .int .i64 0) (fun _ => by kernel_rfl) rfl rfl (fun _ => by kernel_rfl) (fun _ => by kernel_rfl) (fun w => guardI _ _ _ _ _ _ _ _ w) (fun w => (eqlI _ _ _ _ w).trans rfl),
    ob_pickT (fun _ => rfl) rfl rfl (fun _ => by kernel_rfl) (fun _ => by kernel_rfl),
    ob_move (fun _ => rfl) rfl rfl (fun _ => by kernel_rfl),
    ob_load (b := (L4.b 5)) (off := 0) (cs := PC F2.nu) (by kernel_rfl) (fun _ => by kernel_rfl) rfl rfl (fun _ => by kernel_rfl) (fun _ _ hs => (seen_at (k := 3) hs rfl).cells) Tryd.underlying26 rfl (sizePC _),
    ob_load (b := (L1.b 3)) (off := 0) (cs := PC ⟨0, 1⟩) (by kernel_rfl) (fun _ => by kernel_rfl) rfl rfl (fun _ => by kernel_rfl) (fun _ _ hs => (seen_at (k := 0) hs rfl).cells) Tryd.underlying26 rfl (sizePC _),
    ob_call (vs := #[PV ⟨0, 1⟩]) (by kernel_rfl) (by kernel_rfl) (fun _ => by kernel_rfl) rfl rfl (fun _ => by kernel_rfl) (fun w hb _ => bg5 K w (K.stay hg hb)),
    ob_eq (u := PV F2.nu) (v := PV F2.nu) (fun _ => by kernel_rfl) rfl rfl (fun _ => by kernel_rfl) (fun _ => by kernel_rfl) (fun w => guardP _ _ _ _ _ w) (fun w => (eqlP _ _ w).trans (by rw [decide_eq_true (rfl)]; try rfl)),
    ob_pickT (fun _ => rfl) rfl rfl (fun _ => by kernel_rfl) (fun _ => by kernel_rfl),
    ob_move (fun _ => rfl) rfl rfl (fun _ => by kernel_rfl),
    ob_load (b := (L1.b 3)) (off := 0) (cs := PC ⟨0, 1⟩) (by kernel_rfl) (fun _ => by kernel_rfl) rfl rfl (fun _ => by kernel_rfl) (fun _ _ hs => (seen_at (k := 0) hs rfl).cells) Tryd.underlying26 rfl (sizePC _),
    ob_call (vs := #[PV ⟨0, 1⟩]) (by kernel_rfl) (by kernel_rfl) (fun _ => by kernel_rfl) rfl rfl (fun _ => by kernel_rfl) (fun w hb _ => fp2MayP K _ w (K.stay hg hb)),
    ob_pickT (fun _ => rfl) rfl rfl (fun _ => by kernel_rfl) (fun _ => by kernel_rfl),
    ob_move (fun _ => rfl) rfl rfl (fun _ => by kernel_rfl),
    ob_load (b := (L1.b 3)) (off := 0) (cs := PC ⟨0, 1⟩) (by kernel_rfl) (fun _ => by kernel_rfl) rfl rfl (fun _ => by kernel_rfl) (fun _ _ hs => (seen_at (k := 0) hs rfl).cells) Tryd.underlying26 rfl (sizePC _),
    ob_call (vs := #[PV ⟨0, 1⟩]) (by kernel_rfl) (by kernel_rfl) (fun _ => by kernel_rfl) rfl rfl (fun _ => by kernel_rfl) (fun w hb _ => bg6 K w (K.stay hg hb)),
    ob_load (b := (L4.b 5)) (off := 0) (cs := PC F2.nu) (by kernel_rfl) (fun _ => by kernel_rfl) rfl rfl (fun _ => by kernel_rfl) (fun _ _ hs => (seen_at (k := 3) hs rfl).cells) Tryd.underlying26 rfl (sizePC _),
    ob_eq (u := PV F2.nu) (v := PV F2.nu) (fun _ => by kernel_rfl) rfl rfl (fun _ => by kernel_rfl) (fun _ => by kernel_rfl) (fun w => guardP _ _ _ _ _ w) (fun w => (eqlP _ _ w).trans (by rw [decide_eq_true (rfl)]; try rfl)),
    ob_pickT (fun _ => rfl) rfl rfl (fun _ => by kernel_rfl) (fun _ => by kernel_rfl),
    ob_assign (fun _ => rfl) rfl rfl (fun _ => by kernel_rfl),
    trivial⟩ (fun L5 w6 hp6 => ?_)
  refine k6 _ _ ?_
  refine wp_ret ?_
  exact bodyPost_ret (v := .bool true) (res_t rfl (by kernel_rfl) _) rfl ⟨rfl, hp6.bel⟩
end Go.Proofs.YtgoghcmnnhglhaaDoor.fpn
