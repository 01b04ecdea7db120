/- A plain region in pieces; a scope whose label is met a few times. No program is named here. -/
import Derived.Test.YtklddcicfeakfaaPX
import Derived.Test.YtklddcicfeakfaaPT
import Derived.Test.YtklddcicfeakfaaMem
namespace Go.Proofs.Ytklddcicfeakfaa.Pl
open Go Go.RowKit
set_option linter.unusedVariables false
set_option linter.unusedSimpArgs false

def edge (j : Nat) : Edge := ⟨j, .data⟩
/-- The operations anew: each behind all that stand before it. -/
def renum (n : Nat) : List Oper → List Oper
  | [] => []
  | o :: r => { o with after := ((List.range n).map edge).toArray } :: renum (n + 1) r
theorem renum_len : ∀ (l : List Oper) (n : Nat), (renum n l).length = l.length
  | [], _ => rfl
  | _ :: r, n => congrArg (· + 1) (renum_len r (n + 1))
theorem renum_at : ∀ (l : List Oper) (n k : Nat) (o : Oper), l[k]? = some o → (renum n l)[k]? = some { o with after := ((List.range (n + k)).map edge).toArray }
  | [], _, _, _, h => by simp at h
  | p :: r, n, 0, o, h => by
    obtain rfl : p = o := by simpa using h
    rfl
  | p :: r, n, k + 1, o, h => by
    have := renum_at r (n + 1) k o (by simpa using h)
    rw [show n + 1 + k = n + (k + 1) by omega] at this
    exact this
theorem wp_after {P : Program} {Q : Exit → Act → World → Prop} (o : Oper) (x : Array Edge) (a : Act) (w : World) (K : Act → World → Prop) : ({ o with after := x } : Oper).wp P a w K Q = o.wp P a w K Q := rfl
theorem asks_after {P : Program} (o : Oper) (x : Array Edge) (a : Act) (w : World) : ({ o with after := x } : Oper).asks P a w = o.asks P a w := rfl
section
variable {P : Program} {ks : List Kind} {T : List Nat} {a0 : Act} {B : Nat} {w0 W0 : World} {H : List (Nat × List Value)} {Q : Exit → Act → World → Prop}
/-- The first operations of a list, by their plan. -/
theorem piece {opsX : Array Oper} {l1 l2 : List Oper} {nt nh : Nat} (hg : l1.all (fun o => o.guard.isNone) = true) (hc : chk (renum 0 l1).toArray ks T nt nh = true) (hnt : nt = a0.tmps.size) (hnh : nh = H.length) (hHp : Heap B w0 W0 H) (hob : AllOb P (renum 0 l1).toArray ks T a0 B w0 H 0 (renum 0 l1))
    (hQ : ∀ L w, Heap B w0 w (heapF ks H L) → ((List.range ks.length).all (fun s => !isStore ks s) = true → AnyF ks L w (List.range ks.length)) → wpList P opsX Q l2 { tmps := ((List.range a0.tmps.size).map (slotF (renum 0 l1).toArray ks a0 L)).toArray, defers := a0.defers } w) :
    wpList P opsX Q (l1 ++ l2) a0 W0 := by
  have hsz : (renum 0 l1).toArray.size = l1.length := by simp [renum_len]
  have main : ∀ (m k : Nat) (listed : Array Bool) (a : Act) (w : World) (L : Lt), k + m = l1.length → (∀ j, listed.getD j false = decide (j < k)) → Inv (renum 0 l1).toArray ks T a0 B w0 W0 H L listed a w → wpList P opsX Q (l1.drop k ++ l2) a w := by
    intro m
    induction m with
    | zero =>
      intro k listed a w L hk hl I
      obtain ⟨ha, hh, hy⟩ := done hc hHp.le (Heap.bounds hHp) hHp.nd I (fun i hi => by rw [hl]; rw [hsz] at hi; simp; omega)
      rw [List.drop_of_length_le (by omega), List.nil_append, ha]
      exact hQ L w hh hy
    | succ m ih =>
      intro k listed a w L hk hl I
      have hlt : k < l1.length := by omega
      have hlt' : k < (renum 0 l1).toArray.size := by rw [hsz]; exact hlt
      have hil : k < listed.size := by rw [I.sz]; exact hlt'
      have hr : k ∈ Region.ready .any (renum 0 l1).toArray listed := mem_ready.2 ⟨by have := hl k; simp [hil] at this ⊢; exact this, (renum 0 l1).toArray[k], Array.getElem?_eq_getElem hlt', fun e he hb => by
        have hb' := (stat hc (Array.getElem?_eq_getElem hlt')).back e.on (by
          unfold aft; rw [Array.getElem?_eq_getElem hlt']
          simp only [Option.map_some, Option.getD_some, List.mem_map, List.mem_filter]
          exact ⟨e, ⟨by simpa using he, hb⟩, rfl⟩)
        rw [hl]; simpa using hb'⟩
      have hs := step (Q := Q) hc hnt hnh hob hHp.le (Heap.bounds hHp) hHp.nd I hr
      have hs2 := wpOp_mono (fun a' w' ⟨L', I'⟩ => ih (k + 1) _ a' w' L' (by omega) (fun j => by
        rw [ls_get hil]
        split
        · rename_i e; subst e; simp
        · rw [hl]; by_cases h : j < k <;> simp [h] <;> omega) I') hs
      have hgk : l1[k].guard = none := by
        have := List.all_eq_true.1 hg l1[k] (List.getElem_mem hlt)
        simpa using this
      rw [List.drop_eq_getElem_cons hlt, List.cons_append]
      have hat := renum_at l1 0 k l1[k] (List.getElem?_eq_getElem hlt)
      have hat' : (renum 0 l1).toArray[k]? = some { l1[k] with after := ((List.range (0 + k)).map edge).toArray } := by simpa using hat
      unfold wpOp at hs2
      simp only [hat', Region.wanted, hgk, if_true] at hs2
      unfold wpList
      simp only [Region.wanted, hgk, if_true]
      exact hs2
  have h0 := main l1.length 0 (Array.replicate (renum 0 l1).toArray.size false) a0 W0 ⟨fun _ => undef, fun _ => 0⟩ (by omega) (fun j => by
    rw [decide_eq_false (by omega : ¬ j < 0)]
    simp only [Array.getD_eq_getD_getElem?, Array.getElem?_replicate]
    split <;> rfl) (Inv.start hHp (Below.refl _ _) rfl _)
  simpa using h0
/-- The next k operations of a list, by their plan. -/
theorem gsC {opsX : Array Oper} {l : List Oper} {nt : Nat} (k : Nat) (ks : List Kind) (N T : List Nat) (A : Lt → (Nat → Value) → List Value) (H' : Lt → List (Nat × List Value)) (hHp : Heap B w0 W0 H) (hob : AllOb2 P (renum 0 (l.take k)).toArray ks T a0 B w0 H N (renum 0 (l.take k)) ks)
    (hQ : ∀ L d w, Heap B w0 w (H' L) → ((List.range ks.length).all (fun s => !isStore ks s) = true → AnyF ks L w (List.range ks.length)) → wpList P opsX Q (l.drop k) { tmps := (A L d).toArray, defers := [] } w) (hnt : nt = a0.tmps.size := by exact rfl) (hg : (l.take k).all (fun o => o.guard.isNone) = true := by kernel_rfl) (hc : chk (renum 0 (l.take k)).toArray ks T nt H.length = true := by kernel_rfl) (hdf : a0.defers = [] := by exact rfl)
    (hA : ∀ L, (List.range nt).map (slotF (renum 0 (l.take k)).toArray ks a0 L) = A L (slotF (renum 0 (l.take k)).toArray ks a0 L) := by intro _; kernel_rfl) (hF : ∀ L, heapF ks H L = H' L := by intro _; kernel_rfl) (hN : N = List.range' 0 (renum 0 (l.take k)).length := by kernel_rfl) :
    wpList P opsX Q l a0 W0 := by
  have := piece (P := P) (opsX := opsX) (l1 := l.take k) (l2 := l.drop k) (Q := Q) hg hc hnt rfl hHp (AllOb2.to _ _ _ _ hN (fun j _ => by simp [kd]) hob) (fun L w h ha => by
    rw [← hnt, hA L, hdf]
    exact hQ L _ w (hF L ▸ h) ha)
  rwa [List.take_append_drop] at this
/-- One operation, by hand. -/
theorem oneL {opsX : Array Oper} {l r : List Oper} {o : Oper} {a : Act} {w : World} (hl : l = o :: r) (hg : o.guard = none) (h : o.wp P a w (wpList P opsX Q r) Q) : wpList P opsX Q l a w := by
  subst hl
  exact wpList_plain hg fun K hK => Oper.wp_mono hK h
/-- A store of one cell, by hand. -/
theorem wp_store1 {t : TypeId} {o : Oper} {x y : Operand} {a : Act} {w : World} {K : Act → World → Prop} {b off : Nat} {v : Value} {cs new : List Value} (hO : OneT P t) (ho : o.op = .store t x y) (hx : a.eval x = .pointer (some ⟨b, off, none⟩)) (hy : a.eval y = v) (hvc : v.cells = #[v]) (h1 : v.oneCell' = true) (hb : Box w b cs) (hle : off + 1 ≤ cs.length) (hsp : new = splice cs off [v]) (hd : o.dst = none)
    (h : ∀ w', Wr b w w' → Box w' b new → K a w') : o.wp P a w K Q := by
  have ht : w.there b off 1 := fun j hj => by
    have := hb.free (off + j) (by omega)
    simpa using this
  have hrun := run_storeVar1 (P := P) w b off t v hvc ht hO.size h1
  have this : (execOp a.eval o).run P w = .ok .skip (w.setCells b off [v]) := by
    unfold execOp
    simp [ho, hx, hy, Sem.run_bind, Instr.storeAt, Instr.sureAddr, hrun]
  unfold Oper.wp
  rw [this]
  simp only [Oper.upon, hd, Act.put]
  exact h _ (Wr.set b [v] off w) (by rw [hsp]; exact Box.set hb hle)
/-- What holds at the label, so many rounds ahead of the end. -/
def Rnd (P : Program) (Q : Exit → Act → World → Prop) (l : Nat) (rest : Code) : Nat → Act → World → Prop
  | 0 => fun _ _ => False
  | n + 1 => fun a w => rest.wp P (Exit.jump l (Rnd P Q l rest n) Q) a w
theorem least {p : Nat → Prop} : ∀ n, p n → ∃ m, p m ∧ ∀ k, p k → m ≤ k := by
  intro n
  induction n using Nat.strongRecOn with
  | _ n ih =>
    intro hn
    by_cases h : ∃ k, k < n ∧ p k
    · obtain ⟨k, hk, hp⟩ := h
      exact ih k hk hp
    · exact ⟨n, hn, fun k hk => by
        rcases Nat.lt_or_ge k n with h1 | h1
        · exact absurd ⟨k, h1, hk⟩ h
        · exact h1⟩
theorem scope_rounds {a : Act} {w : World} {c rest : Code} (l n : Nat) (hf : findLabel c l = some (.seq .skip rest)) (first : ∀ K : Exit → Act → World → Prop, (∀ e a w, Exit.jump l (Rnd P Q l rest n) Q e a w → K e a w) → c.wp P K a w) : (Code.scope c).wp P Q a w := by
  classical
  let M : Act → World → Nat := fun a w => if h : ∃ n, Rnd P Q l rest n a w then (least (p := fun n => Rnd P Q l rest n a w) h.choose h.choose_spec).choose else 0
  have hM : ∀ n a w, Rnd P Q l rest n a w → Rnd P Q l rest (M a w) a w ∧ M a w ≤ n := fun n a w h => by
    have he : ∃ n, Rnd P Q l rest n a w := ⟨n, h⟩
    have e : M a w = (least (p := fun n => Rnd P Q l rest n a w) he.choose he.choose_spec).choose := dif_pos he
    have := (least (p := fun n => Rnd P Q l rest n a w) he.choose he.choose_spec).choose_spec
    rw [e]
    exact ⟨this.1, this.2 n h⟩
  refine wp_scope_goto l (fun a w => ∃ n, Rnd P Q l rest n a w) M hf (fun a w ⟨n, h⟩ => ?_) (fun _ => wp_mono (first _ fun _ _ _ h => h) (fun e a w q => ?_))
  · have h1 := (hM n a w h).1
    cases hm : M a w with
    | zero => rw [hm] at h1; exact h1.elim
    | succ m =>
      rw [hm] at h1
      refine wp_mono h1 (fun e a' w' q => ?_)
      cases e <;> first | exact q | exact ⟨q.1, ⟨m, q.2⟩, Nat.lt_succ_of_le (hM m a' w' q.2).2⟩
  · cases e <;> first | exact q | exact ⟨q.1, n, q.2⟩
theorem rnd_k {rest : Code} {l n : Nat} {a : Act} {w : World} (h : ∀ K : Exit → Act → World → Prop, (∀ e a w, Exit.jump l (Rnd P Q l rest n) Q e a w → K e a w) → rest.wp P K a w) : Rnd P Q l rest (n + 1) a w := h _ fun _ _ _ h => h
theorem then_goto {K : Act → World → Prop} {l : Nat} {a : Act} {w : World} (h : Q (.goto l) a w) : Exit.then K Q (.goto l) a w := h
theorem jump_in {l : Nat} {J : Act → World → Prop} {a : Act} {w : World} (h : J a w) : Exit.jump l J Q (.goto l) a w := ⟨rfl, h⟩
theorem Heap.one {b : Nat} {cs : List Value} {x : World} (h : Below B w0 x) (hB : B ≤ b) (hle : B ≤ x.heap.size) (hx : Box x b cs) : Heap B w0 x [(b, cs)] :=
  ⟨h, fun p hp => (by obtain rfl : p = (b, cs) := by simpa using hp
                      exact ⟨hB, hx⟩), by simp, hle⟩
/-- One box turned. -/
theorem Heap.turn {b1 b2 : Nat} {c1 c2 d2 : List Value} {w x : World} (h : Heap B w0 w [(b1, c1), (b2, c2)]) (hw : Wr b2 w x) (hx : Box x b2 d2) : Heap B w0 x [(b1, c1), (b2, d2)] := by
  have hne : b1 ≠ b2 := by have := h.nd; simp at this; exact this
  refine ⟨h.bel.trans (hw.below (h.bound 1 rfl).1), fun p hp => ?_, h.nd, by rw [hw.size]; exact h.le⟩
  rcases List.mem_cons.1 hp with rfl | hp
  · exact ⟨(h.bound 0 rfl).1, (h.bound 0 rfl).2.wr hw hne⟩
  · obtain rfl : p = (b2, d2) := by simpa using hp
    exact ⟨(h.bound 1 rfl).1, hx⟩
/-- Memory behind an operation that left the boxes below a block as they were. -/
theorem Heap.under {B C : Nat} {w0 w x : World} {H : List (Nat × List Value)} (h : Heap B w0 w H) (hB : B ≤ C) (hb : Below C w x) (hH : ∀ b ∈ H.map (·.1), b < C) : Heap B w0 x H :=
  ⟨h.bel.trans (hb.mono hB), fun p hp => ⟨(h.box p hp).1, (h.box p hp).2.below hb (hH p.1 (List.mem_map.2 ⟨p, hp, rfl⟩))⟩, h.nd, Nat.le_trans h.le hb.size⟩
end
end Go.Proofs.Ytklddcicfeakfaa.Pl
