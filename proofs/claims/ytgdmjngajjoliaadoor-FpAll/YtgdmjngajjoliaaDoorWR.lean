/- What the document's halves answers. -/
import Derived.Test.YtgdmjngajjoliaaDoorWN
import Derived.Deep.RegionHeld3
namespace Go.Proofs.YtgdmjngajjoliaaDoor
open Go.RowKit
set_option linter.unusedVariables false

/-- append(s, x...), s a slice of the call's own, x of at least one: at a step of a region that draws its order. -/
theorem step_append_lim {P : Program} {w : World} {ops : Array Oper} {o : Oper} {a : Act} {K : Act → World → Prop} {Q : Exit → Act → World → Prop} {E : Prop} (k : IntKind) (hgd : o.guard = none) (s x : Operand) (t : TypeId)
    (ho : o.op = .call { callee := .builtin .append, args := #[s, x], argTypes := #[t, t] }) (B e : TypeId) (i : TypeInfo) (ht : P.underlying t = some (.slice e)) (hi : P.info? e = some i) (hz : i.zero = some (.int k 0)) (hsize : i.size = 1) (hby : i.bytes ≤ 8)
    (v : Value) (n : Nat) (f : Nat → Int) (hs : a.eval s = v) (hown : Own w B e k v n f) (ps : Option Addr) (ns cs : Nat) (fs : Nat → Int) (hx : a.eval x = .slice ps ns cs) (hat : AtK k w ps ns fs) (h0 : 0 < ns) (hle : n + ns ≤ 2000000) (hB : B ≤ w.heap.size)
    (hK : ∀ v' w', Own w' B e k v' (n + ns) (cat f n fs) → Below B w w' → K (a.put o.dst v') w') : if Region.wanted o (yielded ops a.tmps) = true then Oper.wp P o a w K Q else E := by
  have hw : Region.wanted o (yielded ops a.tmps) = true := by simp [Region.wanted, hgd]
  rw [if_pos hw]
  obtain ⟨b, off, rfl, hc⟩ := hat h0
  refine wp_append_own w s x t ho B e i (.int k 0) 1 i.bytes ht hi hz hsize rfl rfl (by decide) v n _ hs hown ⟨b, off, none⟩ ns cs ((List.range ns).map fun j => .int k (fs j)) hx (by simp) ?_ (fun u hu => by simp at hu; obtain ⟨j, _, rfl⟩ := hu; rfl) (by unfold maxLen; omega) (by have := Nat.mul_le_mul hle hby; omega) hB ?_
  · intro j u hj
    rw [add_addr]
    by_cases hlt : j < ns
    · simp [hlt] at hj
      rw [← hj]; exact hc j hlt
    · simp [List.getElem?_eq_none (show (List.range ns).length ≤ j by simpa using hlt)] at hj
  · intro v' w' h1 h2 _
    refine hK v' w' ?_ ((Below.refl _ _).grown h2 hB (ownBlock_ge hown))
    rw [cat_list] at h1
    exact h1

/-- Half limb j. -/
def hf (f : Nat → Int) (j : Nat) : Int := if j % 2 = 0 then f (j / 2) % 4294967296 else f (j / 2) / 4294967296
/-- Two numbers. -/
def duo (x y : Int) : Nat → Int := fun j => if j = 0 then x else y
theorem at_duo (w : World) (x y : Int) (t : TypeId) : At (w.alloc (.cells #[.int .u64 x, .int .u64 y] t)) (some ⟨w.heap.size, 0, none⟩) 2 (duo x y) := fun _ => ⟨w.heap.size, 0, rfl, fun j hj => by
  rcases (show j = 0 ∨ j = 1 by omega) with rfl | rfl <;> simp [duo]⟩

theorem halves_any (p : Option Addr) (n cap : Nat) (f : Nat → Int) (w : World) (hc : At w p n f) (rf : Rg f n) (hN : n ≤ 10000) :
    Calls Tryd.prog 50 #[.slice p n cap] w fun e w' => ∃ p' c', e = .returned (.slice p' (2 * n) c') ∧ Below w.heap.size w w' ∧ At w' p' (2 * n) (hf f) ∧ 2 * n ≤ c' ∧ c' ≤ 9223372036854775807 := by
  obtain ⟨i0, hi0, hz0, hz1, hz2⟩ := info_parts info64
  have q8 : i0.bytes ≤ 8 := by omega
  clear hz2
  go_enter Tryd.func50, Tryd.ntmps50
  go_wp2
  go_loopw [3, 4] (fun v i wr => ∃ k : Nat, k ≤ n ∧ i = .int .i64 k ∧ Own wr w.heap.size 22 .u64 v (2 * k) (hf f) ∧ Below w.heap.size w wr) (fun _ i _ => n - (intOf i).toNat)
  case atStart => exact ⟨0, Nat.zero_le _, rfl, Own.nil _ _ _ _ _, Below.refl _ _⟩
  case round =>
    obtain ⟨k, hk, rfl, ho, hbel⟩ := hrel
    by_cases hlt : k < n
    · obtain ⟨b, off, rfl, hbl, hcell⟩ := hc.lt (by omega)
      have hc1 : wr.cell? ⟨b, off + k, none⟩ = some (.int .u64 (f k)) := (hbel.cell (p := ⟨b, off + k, none⟩) hbl).trans (hcell k hlt)
      have r := rf k hlt
      have hand : bits BinOp.and IntKind.u64 (f k) 4294967295 = f k % 4294967296 := and_low32 _ r.1 (by rw [B64_eq] at r; exact r.2)
      have HB1 : Hid (∀ o, Below w.heap.size w (wr.alloc o).drew) := fun o => (Below.up hbel (Nat.le_refl _) (below_one wr o)).drew
      have HO1 : Hid (∀ o, Own (wr.alloc o).drew w.heap.size 22 .u64 u3 (2 * k) (hf f)) := fun o => ho.below (below_one wr o).drew
      have HS1 : Hid (∀ o, w.heap.size ≤ (wr.alloc o).drew.heap.size) := fun o => ((Below.up hbel (Nat.le_refl _) (below_one wr o)).drew).size
      have hne := World.new_ne wr ⟨b, off + k, none⟩ hc1
      have b1 : (0 : Int) ≤ (k : Int) := by omega
      have b2 : (k : Int) < (n : Int) := by omega
      have q1 : 2 * k + 2 ≤ 2000000 := by omega
      clear hcell ho
      go_wp2
      go_region_held3 (fun w' => w'.cell? ⟨b, off + k, none⟩ = some (.int .u64 (f k))) (first | go_keep | (exact (Below.cell hb2 (p := ⟨b, off + k, none⟩) hbl).trans (by go_keep))) ((refine step_append_lim .u64 (by rfl) (.tmp 11) (.tmp 22) 30 (by rfl) w.heap.size 22 i0 Tryd.underlying30 hi0 hz0 hz1 q8 _ (2 * k) (hf f) (by rfl) (HO1.out _) (some ⟨wr.heap.size, 0, none⟩) 2 2 (duo (f k % 4294967296) (f k / 4294967296)) (by rfl) (at_duo _ _ _ _) (by decide) q1 (HS1.out _) ?_; intro v' w2 ho2 hb2))
      have ho3 : Own w2 w.heap.size 22 .u64 v' (2 * (k + 1)) (hf f) := by
        rw [show 2 * (k + 1) = 2 * k + 2 by omega]
        refine ho2.congr fun j hj => ?_
        by_cases c : j < 2 * k
        · rw [cat_lo c]
        · rw [cat_hi (by omega)]
          rcases (show j = 2 * k ∨ j = 2 * k + 1 by omega) with rfl | rfl
          · rw [Nat.sub_self]; unfold hf duo; rw [if_pos rfl, if_pos (by omega), show 2 * k / 2 = k by omega]
          · rw [show 2 * k + 1 - 2 * k = 1 by omega]; unfold hf duo; rw [if_neg (by decide), if_neg (by omega), show (2 * k + 1) / 2 = k by omega]
      have HO : Hid _ := ho3
      have HB : Hid _ := (HB1.out _).trans hb2
      clear ho2 ho3 hb2
      go_wp2
      go_roundw
      case rel => exact ⟨k + 1, by omega, by go_num, HO.out, HB.out⟩
      case measure => simp [intOf]; omega
    · have e : n = k := by omega
      subst e
      obtain ⟨p', c', rfl, k1, k2, k3⟩ := ho.slice
      clear ho
      go_wp2
      go_ret
      exact ⟨p', c', rfl, hbel, k3, k1, k2⟩
end Go.Proofs.YtgdmjngajjoliaaDoor
