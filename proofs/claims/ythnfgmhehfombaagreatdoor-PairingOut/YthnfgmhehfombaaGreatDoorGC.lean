/- Texts laid together. -/
import Derived.OrdersHeld
import Derived.Below
import Derived.Deep.MidRow
import Derived.Laws.NewBlocks
import Derived.LoopN
import Derived.Test.YthnfgmhehfombaaGreatDoorGA
import Derived.Great.BuildSlice
import Derived.Laws.Slices
set_option linter.unusedVariables false
set_option linter.unusedSimpArgs false
/- The plan of a region: what each of its operations yields, told once, whatever the order of evaluation. No program is named here. -/
namespace Go.Proofs.YthnfgmhehfombaaGreatDoor.Pl
open Go Go.RowKit
structure Box (w:World) (b:Nat) (cs:List Value):Prop where
 lt:b<w.heap.size
 cells:w.rangeAt b 0 cs
 free:w.there b 0 cs.length
structure Wr (b:Nat) (w x:World):Prop where
 os:x.os=w.os
 tape:x.tape=w.tape
 output:x.output=w.output
 size:x.heap.size=w.heap.size
 block:∀ k,k≠b→x.heap[k]?=w.heap[k]?
theorem Wr.below {b B:Nat} {w x:World} (h:Wr b w x) (hB:B≤b):Below B w x :=
 ⟨h.os,h.tape,h.output,by rw [h.size];exact Nat.le_refl _,fun k hk=>h.block k (by omega)⟩
theorem Wr.set (b:Nat):∀ (vs:List Value) (o:Nat) (w:World),Wr b w (w.setCells b o vs)
 | [],o,w=>⟨rfl,rfl,rfl,rfl,fun _ _=>rfl⟩
 | v :: r,o,w=>by
  have h:=Wr.set b r (o+1) (w.setCell ⟨b,o,none⟩ v)
  rw [World.setCells]
  exact ⟨h.os,h.tape,h.output,by rw [h.size];simp [World.setCell],fun k hk=>(h.block k hk).trans (Below.heap_setCell _ _ _ _ (by simpa using hk))⟩
theorem Box.keep {w x : World} {b : Nat} {cs : List Value} (h : Box w b cs) (hs : w.heap.size ≤ x.heap.size) (hb : x.heap[b]? = w.heap[b]?) : Box x b cs :=
  ⟨Nat.lt_of_lt_of_le h.lt hs, fun j v hv => (World.cell?_of_block (w := w) (a := ⟨b, 0 + j, none⟩) hb).trans (h.cells j v hv),
   fun j hj => ⟨by rw [World.cell?_of_block (w := w) (a := ⟨b, 0 + j, none⟩) hb]; exact (h.free j hj).1, by rw [World.frozen?_of_block (w := w) (a := ⟨b, 0 + j, none⟩) hb]; exact (h.free j hj).2⟩⟩
theorem Box.below {w x:World} {b B:Nat} {cs:List Value} (h:Box w b cs) (k:Below B w x) (hB:b<B):Box x b cs:=h.keep k.size (k.block b hB)
theorem Box.up {w x:World} {b:Nat} {cs:List Value} (h:Box w b cs) (k:Below w.heap.size w x):Box x b cs:=h.below k h.lt
theorem Box.wr {w x:World} {b b':Nat} {cs:List Value} (h:Box w b cs) (k:Wr b' w x) (hne:b≠b'):Box x b cs:=h.keep (by rw [k.size];exact Nat.le_refl _) (k.block b hne)
theorem Box.new (w:World) (cs:List Value) (t:TypeId):Box (w.alloc (.cells cs.toArray t)) w.heap.size cs:=by
 have hh:(w.alloc (.cells cs.toArray t)).heap[w.heap.size]?=some (.cells cs.toArray t):=by
  show (w.heap.push _)[w.heap.size]?=_
  simp
 refine ⟨by rw [World.size_alloc];omega,fun j v hv=>?_,fun j hj=>⟨?_,?_⟩⟩
 ·unfold World.cell?
  simp only [hh,Nat.zero_add]
  simpa using hv
 ·unfold World.cell?
  simp only [hh,Nat.zero_add]
  simp [hj]
 ·unfold World.frozen?
  simp only [hh]
  simp
def splice (old:List Value) (off:Nat) (cs:List Value):List Value:=old.take off++cs++old.drop (off+cs.length)
theorem Box.set {w:World} {b off:Nat} {old cs:List Value} (h:Box w b old) (hl:off+cs.length≤old.length):Box (w.setCells b off cs) b (splice old off cs):=by
 have hwr:=Wr.set b cs off w
 have hlen:(splice old off cs).length=old.length:=by unfold splice;simp;omega
 have ht:w.there b off cs.length:=fun j hj=>by have:=h.free (off+j) (by omega);simpa using this
 refine ⟨by rw [hwr.size];exact h.lt,fun j v hv=>?_,?_⟩
 ·by_cases h1:j<off
  ·have e:(splice old off cs)[j]?=old[j]?:=by
    unfold splice
    rw [List.append_assoc,List.getElem?_append_left (by simp;omega),List.getElem?_take_of_lt h1]
   rw [World.cell?_setCells_out b cs off w ⟨b,0+j,none⟩ (fun _ _=>.inl (by show 0+j<off;omega))]
   exact h.cells j v (e▸hv)
  ·by_cases h2:j<off+cs.length
   ·obtain ⟨k,rfl⟩:∃ k,j=off+k:=⟨j-off,by omega⟩
    have e:(splice old off cs)[off+k]?=cs[k]?:=by
     unfold splice
     rw [List.append_assoc,List.getElem?_append_right (by simp;omega),List.getElem?_append_left (by simp;omega)]
     congr 1;simp;omega
    have:=World.rangeAt_setCells_same w b off cs ht k v (e▸hv)
    simpa using this
   ·have e:(splice old off cs)[j]?=old[j]?:=by
     unfold splice
     rw [List.getElem?_append_right (by simp;omega),List.getElem?_drop]
     congr 1;simp;omega
    rw [World.cell?_setCells_out b cs off w ⟨b,0+j,none⟩ (fun _ _=>.inr (by show off+cs.length≤0+j;omega))]
    exact h.cells j v (e▸hv)
 ·rw [hlen];exact World.there_setCells h.free b off cs
theorem splice_all {old cs:List Value} (h:cs.length=old.length):splice old 0 cs=cs:=by
 unfold splice;simp [h]
inductive Loc where
 | base (k:Nat)
 | new (j:Nat)
 deriving DecidableEq
inductive Kind where
 | det (v:Value)
 | detB (k:Nat) (v:Nat→Value)
 | detV (k:Nat) (v:Value→Value)
 | any (C:Value→World→Prop)
 | alloc (cs:List Value)
 | store (l:Loc) (off:Nat) (cs new:List Value)
structure Lt where
 v:Nat→Value
 b:Nat→Nat
def Lt.setV (L:Lt) (i:Nat) (x:Value):Lt:=⟨fun j=>if j=i then x else L.v j,L.b⟩
def Lt.setB (L:Lt) (i:Nat) (x:Nat):Lt:=⟨L.v,fun j=>if j=i then x else L.b j⟩
def yields (cs:List Value) (b:Nat):Value:=match cs with
 | .int .u8 _ :: _=>.slice (some ⟨b,0,none⟩) cs.length cs.length
 | _=>.pointer (some ⟨b,0,none⟩)
def kd (ks:List Kind) (j:Nat):Kind:=ks.getD j (.det undef)
def val (ks:List Kind) (L:Lt) (j:Nat):Value :=
 match kd ks j with
 | .det v=>v
 | .detB k v=>v (L.b k)
 | .detV k v=>v (L.v k)
 | .any _=>L.v j
 | .alloc cs=>yields cs (L.b j)
 | .store ..=>undef
def own (ops:Array Oper) (t:Nat):Option Nat:=(List.range ops.size).find? fun j=>((ops[j]?).bind (·.dst)) == some t
def aft (ops:Array Oper) (i:Nat):List Nat:=((ops[i]?).map fun o=>(o.after.toList.filter (Region.binds .any)).map (·.on)).getD []
def bef (T:List Nat) (i j:Nat):Bool:=(T.getD i 0).testBit j
def isStore (ks:List Kind) (j:Nat):Bool:=match kd ks j with | .store ..=>true | _=>false
def storesTo (ks:List Kind) (l:Loc) (j:Nat):Bool:=match kd ks j with | .store l' _ _ _=>l' == l | _=>false
def st (ks:List Kind) (l:Loc):Option Nat:=(List.range ks.length).find? (storesTo ks l)
def newOf (ks:List Kind) (s:Nat) (cs:List Value):List Value:=match kd ks s with | .store _ _ _ new=>new | _=>cs
def isAlloc (ks:List Kind) (j:Nat):Bool:=match kd ks j with | .alloc _=>true | _=>false
def isNewS (ks:List Kind) (j:Nat):Bool:=match kd ks j with | .store (.new _) _ _ _=>true | _=>false
def noAny (ks:List Kind):Bool:=ks.all fun | .any _=>false | _=>true
def early (T:List Nat) (ks:List Kind) (i:Nat):Bool:=(List.range ks.length).all fun s=>!isStore ks s || (bef T s i || (isNewS ks s && noAny ks))
def rd (ops:Array Oper) (ks:List Kind) (T:List Nat) (a0:Act) (L:Lt) (i:Nat):Operand→Value
 | .tmp t=>match own ops t with
  | none=>a0.tmps.getD t undef
  | some j=>if bef T i j then val ks L j else a0.tmps.getD t undef
 | .const v=>v
 | .global g=>.pointer (some ⟨g,0,none⟩)
 | .func f=>.func (.func f) #[] #[]
def wantedR (ks:List Kind) (L:Lt) (o:Oper):Bool :=
 match o.guard with
 | none=>true
 | some (g,want)=>(match val ks L g with | .bool b=>some b | _=>none) == some want
def chkOp (ops:Array Oper) (ks:List Kind) (T:List Nat) (nt nh:Nat) (i:Nat) (o:Oper):Bool :=
 (match o.dst with | some d=>own ops d == some i && decide (d<nt) | none=>true) &&
 (o.looksAt ops).all (fun t=>match own ops t with | none=>true | some j=>j == i || bef T i j || bef T j i) &&
 (match o.op with | .select ..=>false | _=>true) &&
 (match o.guard with | some (g,_)=>bef T i g && ((ops[g]?).bind (·.dst)).isSome | none=>true) &&
 (match kd ks i with
  | .store l _ _ _=>o.guard.isNone && o.dst.isNone && st ks l == some i && (match l with | .new j=>bef T i j && isAlloc ks j | .base k=>decide (k<nh))
  | .detB k _=>bef T i k && isAlloc ks k && !isStore ks i
  | .detV k _=>bef T i k && (match kd ks k with | .any _=>true | _=>false)
  | .any _=>o.dst.isSome
  | .alloc _=>o.dst.isSome
  | .det _=>true) &&
 (aft ops i).all (fun j=>decide (j<i)) &&
 (List.range i).all (fun j=>!bef T i j || (aft ops i).any fun k=>k == j || bef T k j) &&
 decide ((T.getD i 0)<2^i)
def chk (ops:Array Oper) (ks:List Kind) (T:List Nat) (nt nh:Nat):Bool :=
 decide (ks.length=ops.size) && decide (T.length=ops.size) && (List.range ops.size).all fun i=>match ops[i]? with | some o=>chkOp ops ks T nt nh i o | none=>false
structure Heap (B:Nat) (w0 w:World) (H:List (Nat × List Value)):Prop where
 bel:Below B w0 w
 box:∀ p∈H,B≤p.1∧Box w p.1 p.2
 nd:(H.map (·.1)).Nodup
 le:B≤w.heap.size
structure Seen (ks:List Kind) (T:List Nat) (B:Nat) (w0:World) (H:List (Nat × List Value)) (L:Lt) (i:Nat) (w:World):Prop where
 bel:Below B w0 w
 le:B≤w.heap.size
 base:∀ p∈H,Box w p.1 p.2
 any:∀ j C,kd ks j=.any C→bef T i j=true→C (L.v j) w
def Runs (P:Program) (r:Result Next) (R:Value→World→Prop):Prop :=
 match r with
 | .ok (.value v) w'=>R v w'
 | .ok (.enter f args) w'=>Calls P f args w' fun e w''=>∃ v,e=.returned v∧R v w''
 | _=>False
theorem Runs.upon {P:Program} {o:Oper} {a:Act} {next:Act→World→Prop} {Q:Exit→Act→World→Prop} {r:Result Next} {R:Value→World→Prop}
  (h:Runs P r R) (hn:∀ v w',R v w'→next (a.put o.dst v) w'):o.upon P a next Q r:=by
 cases r with
 | ok n w' =>
  cases n<;>simp only [Runs] at h<;>first | exact h.elim | skip
  ·exact hn _ _ h
  ·refine Calls.mono h fun e w'' he=>?_
   obtain ⟨v,rfl,hr⟩:=he
   exact hn _ _ hr
 | halt x w'=>simp [Runs] at h
def cur (ks:List Kind) (listed:Array Bool) (l:Loc) (cs:List Value):List Value :=
 match st ks l with
 | some s=>if listed.getD s false then newOf ks s cs else cs
 | none=>cs
def addr (H:List (Nat × List Value)) (L:Lt):Loc→Nat
 | .base k=>(H.getD k (0,[])).1
 | .new j=>L.b j
def oldOf (ks:List Kind) (H:List (Nat × List Value)):Loc→List Value
 | .base k=>(H.getD k (0,[])).2
 | .new j=>match kd ks j with | .alloc cs=>cs | _=>[]
def Ob (P:Program) (ops:Array Oper) (ks:List Kind) (T:List Nat) (a0:Act) (B:Nat) (w0:World) (H:List (Nat × List Value)) (i:Nat) (o:Oper):Prop :=
 ∀ (L:Lt) (w:World),(early T ks i=true→Seen ks T B w0 H L i w) →
  if wantedR ks L o=true then
   match kd ks i with
   | .det _ | .detB .. | .detV ..=>Runs P ((execOp (rd ops ks T a0 L i) o).run P w) (fun v w'=>v=val ks L i∧Below w.heap.size w w')
   | .any C=>(∀ v w x,C v w→Below w.heap.size w x→C v x)∧Runs P ((execOp (rd ops ks T a0 L i) o).run P w) (fun v w'=>C v w'∧Below w.heap.size w w')
   | .alloc cs=>∃ ty,(execOp (rd ops ks T a0 L i) o).run P w=.ok (.value (yields cs w.heap.size)) (w.alloc (.cells cs.toArray ty))
   | .store l off cs new=>off+cs.length≤(oldOf ks H l).length∧new=splice (oldOf ks H l) off cs∧(w.there (addr H L l) off cs.length→(execOp (rd ops ks T a0 L i) o).run P w=.ok .skip (w.setCells (addr H L l) off cs))
  else kd ks i=.det undef
def AllOb (P:Program) (ops:Array Oper) (ks:List Kind) (T:List Nat) (a0:Act) (B:Nat) (w0:World) (H:List (Nat × List Value)):Nat→List Oper→Prop
 | _,[]=>True
 | i,o :: r=>Ob P ops ks T a0 B w0 H i o∧AllOb P ops ks T a0 B w0 H (i+1) r
theorem AllOb.at {P:Program} {ops:Array Oper} {ks:List Kind} {T:List Nat} {a0:Act} {B:Nat} {w0:World} {H:List (Nat × List Value)} :
  ∀ (l:List Oper) (i j:Nat) (o:Oper),AllOb P ops ks T a0 B w0 H i l→l[j]?=some o→Ob P ops ks T a0 B w0 H (i+j) o
 | [],_,_,_,_,h=>by simp at h
 | x :: r,i,0,o,h,hj=>by simp at hj;subst hj;exact h.1
 | x :: r,i,j+1,o,h,hj=>by
  have:=AllOb.at r (i+1) j o h.2 (by simpa using hj)
  rwa [show i+1+j=i+(j+1) by omega] at this
end Go.Proofs.YthnfgmhehfombaaGreatDoor.Pl
/- A region goes by its plan, in whatever order. No program is named here. -/
namespace Go.Proofs.YthnfgmhehfombaaGreatDoor.Pl
open Go Go.RowKit
section
variable {P:Program} {ops:Array Oper} {ks:List Kind} {T:List Nat} {a0:Act} {B:Nat} {w0 W0:World} {H:List (Nat × List Value)} {Q:Exit→Act→World→Prop}
def slot (ops:Array Oper) (ks:List Kind) (a0:Act) (L:Lt) (listed:Array Bool) (t:Nat):Value :=
 match own ops t with
 | none=>a0.tmps.getD t undef
 | some j=>if listed.getD j false then val ks L j else a0.tmps.getD t undef
structure FrameI (ops:Array Oper) (ks:List Kind) (a0:Act) (L:Lt) (listed:Array Bool) (a:Act):Prop where
 df:a.defers=a0.defers
 ts:a.tmps.size=a0.tmps.size
 fr:∀ t,a.tmps.getD t undef=slot ops ks a0 L listed t
structure MemI (ks:List Kind) (B:Nat) (w0 W0:World) (H:List (Nat × List Value)) (L:Lt) (listed:Array Bool) (w:World):Prop where
 bl:Below B w0 w
 le:W0.heap.size≤w.heap.size
 hb:∀ k p,H[k]?=some p→Box w p.1 (cur ks listed (.base k) p.2)
 hn:∀ j cs,kd ks j=.alloc cs→listed.getD j false=true→W0.heap.size≤L.b j∧Box w (L.b j) (cur ks listed (.new j) cs)
 ij:∀ j k,isAlloc ks j=true→isAlloc ks k=true→listed.getD j false=true→listed.getD k false=true→L.b j=L.b k→j=k
 an:(∀ s,isStore ks s=true→listed.getD s false=false)→∀ j C,kd ks j=.any C→listed.getD j false=true→C (L.v j) w
 sb:∀ j C,kd ks j=.any C→listed.getD j false=true→∀ v w x,C v w→Below w.heap.size w x→C v x
structure Inv (ops:Array Oper) (ks:List Kind) (T:List Nat) (a0:Act) (B:Nat) (w0 W0:World) (H:List (Nat × List Value)) (L:Lt) (listed:Array Bool) (a:Act) (w:World):Prop where
 sz:listed.size=ops.size
 cl:∀ i,listed.getD i false=true→∀ j,bef T i j=true→listed.getD j false=true
 F:FrameI ops ks a0 L listed a
 M:MemI ks B w0 W0 H L listed w
theorem ls_get {listed:Array Bool} {i:Nat} (hi:i<listed.size) (j:Nat):(listed.setIfInBounds i true).getD j false=if j=i then true else listed.getD j false:=by
 by_cases h:j=i
 ·subst h;rw [if_pos rfl];simp [hi]
 ·rw [if_neg h,getD_set_ne false (fun e=>h e.symm)]
theorem own_spec {t j:Nat} (h:own ops t=some j):j<ops.size∧(ops[j]?).bind (·.dst)=some t:=by
 have h1:=List.find?_some h
 have h2:=List.mem_of_find?_eq_some h
 exact ⟨by simpa using h2,by simpa using h1⟩
theorem chk_at {nt nh:Nat} (h:chk ops ks T nt nh=true) {i:Nat} {o:Oper} (ho:ops[i]?=some o):chkOp ops ks T nt nh i o=true:=by
 unfold chk at h
 simp only [Bool.and_eq_true,decide_eq_true_eq,List.all_eq_true,List.mem_range] at h
 have:=h.2 i (by have:=(Array.getElem?_eq_some_iff.1 ho).1;exact this)
 rw [ho] at this
 exact this
theorem chk_len {nt nh:Nat} (h:chk ops ks T nt nh=true):ks.length=ops.size:=by
 unfold chk at h
 simp only [Bool.and_eq_true,decide_eq_true_eq] at h
 exact h.1.1
structure Stat (ops:Array Oper) (ks:List Kind) (T:List Nat) (nt nh i:Nat) (o:Oper):Prop where
 dst:∀ d,o.dst=some d→own ops d=some i∧d<nt
 looks:∀ t∈o.looksAt ops,∀ j,own ops t=some j→j=i∨bef T i j=true∨bef T j i=true
 sel:∀ cs b,o.op≠.select cs b
 grd:∀ g want,o.guard=some (g,want)→bef T i g=true∧∃ d,(ops[g]?).bind (·.dst)=some d
 sto:∀ l off cs new,kd ks i=.store l off cs new→o.guard=none∧o.dst=none∧st ks l=some i∧(∀ j,l=.new j→bef T i j=true∧isAlloc ks j=true)∧(∀ k,l=.base k→k<nh)
 dB:∀ k v,kd ks i=.detB k v→bef T i k=true
 dV:∀ k v,kd ks i=.detV k v→bef T i k=true
 any:∀ C,kd ks i=.any C→∃ d,o.dst=some d
 all:∀ cs,kd ks i=.alloc cs→∃ d,o.dst=some d
 back:∀ j∈aft ops i,j<i
 tab:∀ j,bef T i j=true→∃ k∈aft ops i,k=j∨bef T k j=true
theorem stat {nt nh:Nat} (h:chk ops ks T nt nh=true) {i:Nat} {o:Oper} (ho:ops[i]?=some o):Stat ops ks T nt nh i o:=by
 have c:=chk_at h ho
 unfold chkOp at c
 simp only [Bool.and_eq_true] at c
 obtain ⟨⟨⟨⟨⟨⟨⟨h1,h2⟩,h3⟩,h4⟩,h5⟩,h6⟩,h7⟩,h8⟩:=c
 refine ⟨fun d hd=>?_,fun t ht j hj=>?_,fun cs b hs=>?_,fun g want hg=>?_,fun l off cs new hk=>?_,fun k v hk=>?_,fun k v hk=>?_,fun C hk=>?_,fun cs hk=>?_,fun j hj=>?_,fun j hj=>?_⟩
 ·simp only [hd,Bool.and_eq_true,beq_iff_eq,decide_eq_true_eq] at h1;exact h1
 ·have:=List.all_eq_true.1 h2 t ht
  rw [hj] at this
  simp only [Bool.or_eq_true,beq_iff_eq] at this
  rcases this with (a | a) | a
  ·exact .inl a
  ·exact .inr (.inl a)
  ·exact .inr (.inr a)
 ·simp [hs] at h3
 ·simp only [hg,Bool.and_eq_true] at h4
  exact ⟨h4.1,Option.isSome_iff_exists.1 h4.2⟩
 ·simp only [hk,Bool.and_eq_true,beq_iff_eq,Option.isNone_iff_eq_none] at h5
  obtain ⟨⟨⟨a,b⟩,c⟩,d⟩:=h5
  refine ⟨a,b,c,fun j e=>?_,fun k e=>?_⟩
  ·subst e;simpa using d
  ·subst e;simpa using d
 ·simp only [hk,Bool.and_eq_true] at h5;exact h5.1.1
 ·simp only [hk,Bool.and_eq_true] at h5;exact h5.1
 ·simp only [hk] at h5;exact Option.isSome_iff_exists.1 h5
 ·simp only [hk] at h5;exact Option.isSome_iff_exists.1 h5
 ·have:=List.all_eq_true.1 h6 j hj
  simpa using this
 ·have hlt:j<i:=by
   unfold bef at hj
   by_cases hge:j<i
   ·exact hge
   ·have h9:T.getD i 0<2^j:=Nat.lt_of_lt_of_le (by simpa using h8) (Nat.pow_le_pow_right (by decide) (by omega))
    rw [Nat.testBit_lt_two_pow h9] at hj
    cases hj
  have:=List.all_eq_true.1 h7 j (by simpa using hlt)
  simp only [hj,Bool.not_true,Bool.false_or,List.any_eq_true,Bool.or_eq_true,beq_iff_eq] at this
  exact this
theorem kd_lt {j:Nat} (h:kd ks j≠.det undef):j<ks.length:=by
 unfold kd at h
 by_cases hj:j<ks.length
 ·exact hj
 ·simp [List.getD,List.getElem?_eq_none (Nat.le_of_not_lt hj)] at h
theorem isStore_lt {j:Nat} (h:isStore ks j=true):j<ks.length:=kd_lt fun e=>by simp [isStore,e] at h
theorem st_spec {l:Loc} {s:Nat} (h:st ks l=some s):∃ off cs new,kd ks s=.store l off cs new:=by
 have h1:=List.find?_some h
 unfold storesTo at h1
 cases hk:kd ks s with
 | store l' off cs new=>rw [hk] at h1;have:=of_decide_eq_true h1;subst this;exact ⟨off,cs,new,rfl⟩
 | _=>rw [hk] at h1;simp at h1
theorem FrameI.next {nt nh:Nat} {L L':Lt} {listed:Array Bool} {a:Act} {i:Nat} {o:Oper} {v:Value} (F:FrameI ops ks a0 L listed a) (S:Stat ops ks T nt nh i o) (hnt:nt=a0.tmps.size) (ho:ops[i]?=some o)
  (hi:i<listed.size) (hv:∀ d,o.dst=some d→v=val ks L' i) (hL:∀ j,j≠i→listed.getD j false=true→val ks L' j=val ks L j) :
  FrameI ops ks a0 L' (listed.setIfInBounds i true) (a.put o.dst v):=by
 refine ⟨?_,?_,fun t=>?_⟩
 ·cases h:o.dst<;>simp [Act.put,F.df]
 ·cases h:o.dst<;>simp [Act.put,F.ts]
 ·have main:∀ d,o.dst≠some d→(a.tmps.getD d undef=slot ops ks a0 L' (listed.setIfInBounds i true) d):=fun d hd=>by
   rw [F.fr d]
   unfold slot
   cases hw:own ops d with
   | none=>rfl
   | some j =>
    simp only
    have hj:=(own_spec hw).2
    have hne:j≠i:=fun e=>by subst e;rw [ho] at hj;exact hd hj
    rw [ls_get hi,if_neg hne]
    by_cases hl:listed.getD j false=true
    ·rw [if_pos hl,if_pos hl,hL j hne hl]
    ·rw [if_neg hl,if_neg hl]
  cases h:o.dst with
  | none=>exact main t (by rw [h];simp)
  | some d =>
   obtain ⟨hw,hd⟩:=S.dst d h
   by_cases e:t=d
   ·subst e
    unfold slot
    simp only [hw]
    rw [ls_get hi,if_pos rfl,if_pos rfl,← hv t h]
    have:t<a.tmps.size:=by rw [F.ts,← hnt];exact hd
    simp [Act.put,this]
   ·have:=main t (by rw [h];simpa using fun e'=>e e'.symm)
    rw [← this]
    simp [Act.put,Array.getElem?_setIfInBounds_ne (fun e'=>e e'.symm)]
theorem cur_same {listed:Array Bool} {i:Nat} {l:Loc} {cs:List Value} (hi:i<listed.size) (h:st ks l≠some i):cur ks (listed.setIfInBounds i true) l cs=cur ks listed l cs:=by
 unfold cur
 cases hs:st ks l with
 | none=>rfl
 | some s =>
  have hne:s≠i:=fun e=>h (by rw [hs,e])
  have e:(listed.setIfInBounds i true).getD s false=listed.getD s false:=by rw [ls_get hi,if_neg hne]
  simp only [e]
theorem st_ne {i:Nat} (h:isStore ks i=false) (l:Loc):st ks l≠some i:=fun e=>by
 obtain ⟨off,cs,new,hk⟩:=st_spec e
 simp [isStore,hk] at h
theorem MemI.quiet {L:Lt} {listed:Array Bool} {w w':World} {i:Nat} (M:MemI ks B w0 W0 H L listed w) (hi:i<listed.size) (hB:B≤W0.heap.size) (hb:Below w.heap.size w w')
  (hs:isStore ks i=false) (ha:isAlloc ks i=false) (hy:∀ C,kd ks i≠.any C):MemI ks B w0 W0 H L (listed.setIfInBounds i true) w':=by
 have hne:∀ j cs,kd ks j=.alloc cs→j≠i:=fun j cs h e=>by subst e;simp [isAlloc,h] at ha
 have hne':∀ j C,kd ks j=.any C→j≠i:=fun j C h e=>by subst e;exact hy C h
 refine ⟨M.bl.trans (hb.mono (Nat.le_trans hB M.le)),Nat.le_trans M.le hb.size,fun k p hp=>?_,fun j cs hk hl=>?_,fun j k hj hk hlj hlk=>?_,fun hno j C hk hl=>?_,fun j C hk hl=>?_⟩
 ·rw [cur_same hi (st_ne hs _)];exact (M.hb k p hp).up hb
 ·rw [ls_get hi,if_neg (hne j cs hk)] at hl
  rw [cur_same hi (st_ne hs _)]
  exact ⟨(M.hn j cs hk hl).1,(M.hn j cs hk hl).2.up hb⟩
 ·have nj:j≠i:=fun e=>by subst e;rw [hj] at ha;cases ha
  have nk:k≠i:=fun e=>by subst e;rw [hk] at ha;cases ha
  rw [ls_get hi,if_neg nj] at hlj
  rw [ls_get hi,if_neg nk] at hlk
  exact M.ij j k hj hk hlj hlk
 ·rw [ls_get hi,if_neg (hne' j C hk)] at hl
  refine M.sb j C hk hl _ w w' (M.an (fun s hs'=>?_) j C hk hl) hb
  have:=hno s hs'
  rw [ls_get hi] at this
  split at this
  ·cases this
  ·exact this
 ·rw [ls_get hi,if_neg (hne' j C hk)] at hl
  exact M.sb j C hk hl
theorem MemI.letter {L:Lt} {listed:Array Bool} {w w':World} {i:Nat} {C:Value→World→Prop} {v:Value} (M:MemI ks B w0 W0 H L listed w) (hi:i<listed.size) (hun:listed.getD i false=false) (hB:B≤W0.heap.size) (hb:Below w.heap.size w w')
  (hk:kd ks i=.any C) (hC:C v w') (hS:∀ v w x,C v w→Below w.heap.size w x→C v x):MemI ks B w0 W0 H (L.setV i v) (listed.setIfInBounds i true) w':=by
 have hs:isStore ks i=false:=by simp [isStore,hk]
 have ha:isAlloc ks i=false:=by simp [isAlloc,hk]
 have hne:∀ j cs,kd ks j=.alloc cs→j≠i:=fun j cs h e=>by subst e;simp [isAlloc,h] at ha
 refine ⟨M.bl.trans (hb.mono (Nat.le_trans hB M.le)),Nat.le_trans M.le hb.size,fun k p hp=>?_,fun j cs hk hl=>?_,fun j k hj hkk hlj hlk=>?_,fun hno j D hj hl=>?_,fun j D hj hl=>?_⟩
 ·rw [cur_same hi (st_ne hs _)];exact (M.hb k p hp).up hb
 ·rw [ls_get hi,if_neg (hne j cs hk)] at hl
  rw [cur_same hi (st_ne hs _)]
  exact ⟨(M.hn j cs hk hl).1,(M.hn j cs hk hl).2.up hb⟩
 ·have nj:j≠i:=fun e=>by subst e;rw [hj] at ha;cases ha
  have nk:k≠i:=fun e=>by subst e;rw [hkk] at ha;cases ha
  rw [ls_get hi,if_neg nj] at hlj
  rw [ls_get hi,if_neg nk] at hlk
  exact M.ij j k hj hkk hlj hlk
 ·by_cases e:j=i
  ·subst e
   rw [hk] at hj;cases hj
   show C (if j=j then v else L.v j) w'
   rw [if_pos rfl];exact hC
  ·rw [ls_get hi,if_neg e] at hl
   show D (if j=i then v else L.v j) w'
   rw [if_neg e]
   refine M.sb j D hj hl _ w w' (M.an (fun s hs'=>?_) j D hj hl) hb
   have:=hno s hs'
   rw [ls_get hi] at this
   split at this
   ·cases this
   ·exact this
 ·by_cases e:j=i
  ·subst e
   rw [hk] at hj;cases hj
   exact hS
  ·rw [ls_get hi,if_neg e] at hl
   exact M.sb j D hj hl
theorem MemI.made {L:Lt} {listed:Array Bool} {w:World} {i:Nat} {cs:List Value} {ty:TypeId} (M:MemI ks B w0 W0 H L listed w) (hi:i<listed.size) (hun:listed.getD i false=false) (hB:B≤W0.heap.size)
  (hk:kd ks i=.alloc cs) (hsn:∀ s,st ks (.new i)=some s→listed.getD s false=false):MemI ks B w0 W0 H (L.setB i w.heap.size) (listed.setIfInBounds i true) (w.alloc (.cells cs.toArray ty)):=by
 have hs:isStore ks i=false:=by simp [isStore,hk]
 have hy:∀ j C,kd ks j=.any C→j≠i:=fun j C h e=>by subst e;rw [hk] at h;cases h
 have hb:Below w.heap.size w (w.alloc (.cells cs.toArray ty)):=(Below.refl _ _).alloc (Nat.le_refl _) _
 refine ⟨M.bl.trans (hb.mono (Nat.le_trans hB M.le)),Nat.le_trans M.le hb.size,fun k p hp=>?_,fun j ds hj hl=>?_,fun j k hj hkk hlj hlk=>?_,fun hno j D hj hl=>?_,fun j D hj hl=>?_⟩
 ·rw [cur_same hi (st_ne hs _)];exact (M.hb k p hp).up hb
 ·by_cases e:j=i
  ·subst e
   rw [hk] at hj;cases hj
   have hbb:(L.setB j w.heap.size).b j=w.heap.size:=by unfold Lt.setB;simp
   rw [hbb,cur_same hi (st_ne hs _)]
   refine ⟨M.le,?_⟩
   have:cur ks listed (.new j) cs=cs:=by
    unfold cur
    cases h:st ks (.new j) with
    | none=>rfl
    | some s=>simp [hsn s h]
   rw [this]
   exact Box.new w cs ty
  ·rw [ls_get hi,if_neg e] at hl
   have hbb:(L.setB i w.heap.size).b j=L.b j:=by unfold Lt.setB;simp [e]
   rw [hbb,cur_same hi (st_ne hs _)]
   exact ⟨(M.hn j ds hj hl).1,(M.hn j ds hj hl).2.up hb⟩
 ·have old:∀ j,isAlloc ks j=true→listed.getD j false=true→L.b j<w.heap.size:=fun j h hl=>by
   unfold isAlloc at h
   split at h
   ·rename_i ds hd;exact (M.hn j ds hd hl).2.lt
   ·cases h
  by_cases e:j=i
  ·by_cases e':k=i
   ·intro _;rw [e,e']
   ·subst e
    rw [ls_get hi,if_neg e'] at hlk
    have h1:(L.setB j w.heap.size).b j=w.heap.size:=by unfold Lt.setB;simp
    have h2:(L.setB j w.heap.size).b k=L.b k:=by unfold Lt.setB;simp [e']
    rw [h1,h2]
    intro h;have:=old k hkk hlk;omega
  ·rw [ls_get hi,if_neg e] at hlj
   have h1:(L.setB i w.heap.size).b j=L.b j:=by unfold Lt.setB;simp [e]
   by_cases e':k=i
   ·subst e'
    have h2:(L.setB k w.heap.size).b k=w.heap.size:=by unfold Lt.setB;simp
    rw [h1,h2]
    intro h;have:=old j hj hlj;omega
   ·rw [ls_get hi,if_neg e'] at hlk
    have h2:(L.setB i w.heap.size).b k=L.b k:=by unfold Lt.setB;simp [e']
    rw [h1,h2]
    exact M.ij j k hj hkk hlj hlk
 ·have e:=hy j D hj
  rw [ls_get hi,if_neg e] at hl
  refine M.sb j D hj hl _ w _ (M.an (fun s hs'=>?_) j D hj hl) hb
  have:=hno s hs'
  rw [ls_get hi] at this
  split at this
  ·cases this
  ·exact this
 ·rw [ls_get hi,if_neg (hy j D hj)] at hl
  exact M.sb j D hj hl
theorem mem_nodup {H:List (Nat × List Value)} (hnd:(H.map (·.1)).Nodup) {j k:Nat} {p q:Nat × List Value} (hj:H[j]?=some p) (hk:H[k]?=some q) (hne:j≠k):p.1≠q.1:=fun e=>by
 have h1:(H.map (·.1))[j]?=some p.1:=by simp [hj]
 have h2:(H.map (·.1))[k]?=some q.1:=by simp [hk]
 obtain ⟨hj',ej⟩:=List.getElem?_eq_some_iff.1 h1
 obtain ⟨hk',ek⟩:=List.getElem?_eq_some_iff.1 h2
 have pw:=List.pairwise_iff_getElem.1 hnd
 rcases Nat.lt_or_gt_of_ne hne with h | h
 ·exact pw j k hj' hk' h (by rw [ej,ek,e])
 ·exact pw k j hk' hj' h (by rw [ej,ek,e])
theorem MemI.stored {L:Lt} {listed:Array Bool} {w:World} {i off:Nat} {l:Loc} {cs new:List Value} (M:MemI ks B w0 W0 H L listed w) (hi:i<listed.size) (hun:listed.getD i false=false)
  (hk:kd ks i=.store l off cs new) (hst:st ks l=some i) (hnew:∀ j,l=.new j→listed.getD j false=true∧isAlloc ks j=true) (hbase:∀ k,l=.base k→k<H.length)
  (hB:B≤W0.heap.size) (hH:∀ p∈H,B≤p.1∧p.1<W0.heap.size) (hnd:(H.map (·.1)).Nodup)
  (hlen:off+cs.length≤(oldOf ks H l).length) (hsp:new=splice (oldOf ks H l) off cs) :
  MemI ks B w0 W0 H L (listed.setIfInBounds i true) (w.setCells (addr H L l) off cs):=by
 have hwr:=Wr.set (addr H L l) cs off w
 have ha:isAlloc ks i=false:=by simp [isAlloc,hk]
 have hcur:∀ x,cur ks listed l x=x:=fun x=>by unfold cur;simp [hst,hun]
 have hcur':∀ x,cur ks (listed.setIfInBounds i true) l x=new:=fun x=>by
  unfold cur newOf;simp only [hst];rw [if_pos (by rw [ls_get hi,if_pos rfl])];simp [hk]
 have hoth:∀ l',l'≠l→st ks l'≠some i:=fun l' hne e=>by
  obtain ⟨o',c',n',hk'⟩:=st_spec e
  rw [hk] at hk';cases hk';exact hne rfl
 have hbox:Box w (addr H L l) (oldOf ks H l)∧B≤addr H L l:=by
  cases l with
  | base k =>
   have hk':=hbase k rfl
   have hp:H[k]?=some (H.getD k (0,[])):=by simp [List.getD,List.getElem?_eq_getElem hk']
   have:=M.hb k _ hp
   rw [hcur] at this
   exact ⟨this,(hH _ (List.mem_of_getElem? hp)).1⟩
  | new j =>
   obtain ⟨hl,hal⟩:=hnew j rfl
   unfold isAlloc at hal
   split at hal
   ·rename_i ds hd
    have:=M.hn j ds hd hl
    rw [hcur] at this
    refine ⟨?_,Nat.le_trans hB this.1⟩
    simp only [oldOf,hd,addr]
    exact this.2
   ·cases hal
 have hnewbox:Box (w.setCells (addr H L l) off cs) (addr H L l) new:=hsp▸Box.set hbox.1 hlen
 have hlt:∀ j,listed.getD j false=true→j≠i:=fun j h e=>by subst e;rw [hun] at h;cases h
 have hlk:∀ j cs',kd ks j=.alloc cs'→(listed.setIfInBounds i true).getD j false=true→listed.getD j false=true:=fun j cs' hj h=>by
  have:j≠i:=fun e=>by subst e;simp [isAlloc,hj] at ha
  rwa [ls_get hi,if_neg this] at h
 refine ⟨M.bl.trans (hwr.below hbox.2),by rw [hwr.size];exact M.le,fun k p hp=>?_,fun j ds hj hl=>?_,fun j k hj hkk hlj hlkk=>?_,fun hno=>?_,fun j D hj hl=>?_⟩
 ·by_cases e:l=.base k
  ·subst e
   rw [hcur']
   have:addr H L (.base k)=p.1:=by simp [addr,List.getD,hp]
   rw [this] at hnewbox ⊢
   exact hnewbox
  ·rw [cur_same hi (hoth _ (fun e'=>e e'.symm))]
   refine (M.hb k p hp).wr hwr ?_
   cases l with
   | base k' =>
    have hk':=hbase k' rfl
    have hp':H[k']?=some (H.getD k' (0,[])):=by simp [List.getD,List.getElem?_eq_getElem hk']
    exact mem_nodup hnd hp hp' (fun e'=>e (by rw [e']))
   | new j =>
    obtain ⟨hl,hal⟩:=hnew j rfl
    unfold isAlloc at hal
    split at hal
    ·rename_i ds hd
     have h1:=(M.hn j ds hd hl).1
     have h2:=(hH p (List.mem_of_getElem? hp)).2
     show p.1≠L.b j
     omega
    ·cases hal
 ·have hl':=hlk j ds hj hl
  by_cases e:l=.new j
  ·subst e
   rw [hcur']
   exact ⟨(M.hn j ds hj hl').1,hnewbox⟩
  ·rw [cur_same hi (hoth _ (fun e'=>e e'.symm))]
   refine ⟨(M.hn j ds hj hl').1,(M.hn j ds hj hl').2.wr hwr ?_⟩
   cases l with
   | base k' =>
    have hk':=hbase k' rfl
    have hp':H[k']?=some (H.getD k' (0,[])):=by simp [List.getD,List.getElem?_eq_getElem hk']
    have h1:=(M.hn j ds hj hl').1
    have h2:=(hH _ (List.mem_of_getElem? hp')).2
    show L.b j≠(H.getD k' (0,[])).1
    omega
   | new j' =>
    obtain ⟨hll,hal⟩:=hnew j' rfl
    intro h
    have:=M.ij j j' (by simp [isAlloc,hj]) hal hl' hll h
    exact e (by rw [this])
 ·have nj:j≠i:=fun e=>by subst e;rw [hj] at ha;cases ha
  have nk:k≠i:=fun e=>by subst e;rw [hkk] at ha;cases ha
  rw [ls_get hi,if_neg nj] at hlj
  rw [ls_get hi,if_neg nk] at hlkk
  exact M.ij j k hj hkk hlj hlkk
 ·have:=hno i (by simp [isStore,hk])
  rw [ls_get hi,if_pos rfl] at this
  cases this
 ·have:j≠i:=fun e=>by subst e;rw [hk] at hj;cases hj
  rw [ls_get hi,if_neg this] at hl
  exact M.sb j D hj hl
end
end Go.Proofs.YthnfgmhehfombaaGreatDoor.Pl
/- A region goes by its plan: the step, the end, the law. No program is named here. -/
namespace Go.Proofs.YthnfgmhehfombaaGreatDoor.Pl
open Go Go.RowKit
section
variable {P:Program} {ops:Array Oper} {ks:List Kind} {T:List Nat} {a0:Act} {B:Nat} {w0 W0:World} {H:List (Nat × List Value)} {Q:Exit→Act→World→Prop}
theorem listed_of_bef {nt nh:Nat} {L:Lt} {listed:Array Bool} {a:Act} {w:World} (I:Inv ops ks T a0 B w0 W0 H L listed a w) {i:Nat} {o:Oper} (S:Stat ops ks T nt nh i o) (hall:∀ j∈aft ops i,listed.getD j false=true) :
  ∀ j,bef T i j=true→listed.getD j false=true:=fun j hj=>by
 obtain ⟨k,hk,h⟩:=S.tab j hj
 rcases h with rfl | h
 ·exact hall _ hk
 ·exact I.cl k (hall _ hk) j h
theorem eval_rd {nt nh:Nat} {L:Lt} {listed:Array Bool} {a:Act} {w:World} (I:Inv ops ks T a0 B w0 W0 H L listed a w) {i:Nat} {o:Oper} (S:Stat ops ks T nt nh i o) (hun:listed.getD i false=false)
  (hbef:∀ j,bef T i j=true→listed.getD j false=true):∀ x∈o.op.operands,a.eval x=rd ops ks T a0 L i x:=fun x hx=>by
 cases x with
 | tmp t =>
  have ht:t∈o.looksAt ops:=List.mem_append_left _ (List.mem_filterMap.2 ⟨.tmp t,by simpa using hx,rfl⟩)
  show a.tmps.getD t undef=_
  rw [I.F.fr t]
  unfold slot
  simp only [rd]
  cases hw:own ops t with
  | none=>simp only
  | some j =>
   simp only
   by_cases hb:bef T i j=true
   ·rw [if_pos (hbef j hb),if_pos hb]
   ·rw [if_neg hb]
    rcases S.looks t ht j hw with e | e | e
    ·subst e;rw [if_neg (by rw [hun];simp)]
    ·exact absurd e hb
    ·rw [if_neg (fun h=>by have:=I.cl j h i e;rw [hun] at this;cases this)]
 | _=>rfl
theorem wanted_rd {nt nh:Nat} {L:Lt} {listed:Array Bool} {a:Act} {w:World} (hc:chk ops ks T nt nh=true) (hnt:nt=a0.tmps.size) (I:Inv ops ks T a0 B w0 W0 H L listed a w) {i:Nat} {o:Oper} (S:Stat ops ks T nt nh i o)
  (hbef:∀ j,bef T i j=true→listed.getD j false=true):Region.wanted o (yielded ops a.tmps)=wantedR ks L o:=by
 unfold Region.wanted wantedR
 cases hg:o.guard with
 | none=>rfl
 | some gw =>
  obtain ⟨g,want⟩:=gw
  obtain ⟨hb,d,hd⟩:=S.grd g want hg
  have hl:=hbef g hb
  obtain ⟨og,hog,hdd⟩:∃ og,ops[g]?=some og∧og.dst=some d:=by
   cases h:ops[g]? with
   | none=>simp [h] at hd
   | some og=>exact ⟨og,rfl,by simpa [h] using hd⟩
  obtain ⟨hw,hdl⟩:=(stat hc hog).dst d hdd
  have hv:a.tmps[d]?=some (val ks L g):=by
   have h1:=I.F.fr d
   unfold slot at h1
   rw [hw] at h1
   simp only [hl,if_true] at h1
   have hlt:d<a.tmps.size:=by rw [I.F.ts,← hnt];exact hdl
   rw [← h1]
   simp [hlt]
  simp only [yielded,hd,Option.bind_some,hv]
  cases val ks L g<;>rfl
theorem no_stores {nt nh:Nat} {L:Lt} {listed:Array Bool} {a:Act} {w:World} (I:Inv ops ks T a0 B w0 W0 H L listed a w) {i:Nat} (hun:listed.getD i false=false) (he:early T ks i=true) :
  ∀ s,isStore ks s=true→(isNewS ks s && noAny ks)=false→listed.getD s false=false:=fun s hs hn=>by
 have h:=List.all_eq_true.1 he s (by simpa using isStore_lt hs)
 simp only [hs,hn,Bool.not_true,Bool.false_or,Bool.or_false] at h
 cases hl:listed.getD s false with
 | false=>rfl
 | true=>have:=I.cl s hl i h;rw [hun] at this;cases this
theorem noAny_no {j:Nat} {C:Value→World→Prop} (h:kd ks j=.any C):noAny ks=false:=by
 have hj:j<ks.length:=kd_lt fun e=>by rw [h] at e;cases e
 cases e:noAny ks with
 | false=>rfl
 | true =>
  have hm:ks[j]=.any C:=by
   unfold kd at h
   rwa [List.getD_eq_getElem?_getD,List.getElem?_eq_getElem hj,Option.getD_some] at h
  have:=List.all_eq_true.1 e _ (List.getElem_mem hj)
  rw [hm] at this
  cases this
theorem cur_none {listed:Array Bool} {l:Loc} {cs:List Value} (h:∀ s,isStore ks s=true→listed.getD s false=false):cur ks listed l cs=cs:=by
 unfold cur
 cases hs:st ks l with
 | none=>rfl
 | some s =>
  obtain ⟨off,ds,new,hk⟩:=st_spec hs
  simp [h s (by simp [isStore,hk])]
theorem seen {nt nh:Nat} {L:Lt} {listed:Array Bool} {a:Act} {w:World} (I:Inv ops ks T a0 B w0 W0 H L listed a w) {i:Nat} (hun:listed.getD i false=false) (hB:B≤W0.heap.size)
  (hbef:∀ j,bef T i j=true→listed.getD j false=true) (he:early T ks i=true):Seen ks T B w0 H L i w:=by
 have hno:=no_stores (nt:=nt) (nh:=nh) I hun he
 refine ⟨I.M.bl,Nat.le_trans hB I.M.le,fun p hp=>?_,fun j C hk hb=>I.M.an (fun s hs=>hno s hs (by rw [noAny_no hk,Bool.and_false])) j C hk (hbef j hb)⟩
 obtain ⟨k,hk⟩:=List.getElem?_of_mem hp
 have:=I.M.hb k p hk
 have hc:cur ks listed (.base k) p.2=p.2:=by
  unfold cur
  cases hs:st ks (.base k) with
  | none=>rfl
  | some s =>
   obtain ⟨off,ds,new,hkk⟩:=st_spec hs
   simp [hno s (by simp [isStore,hkk]) (by simp [isNewS,hkk])]
 rwa [hc] at this
theorem cl_next {nt nh:Nat} {L:Lt} {listed:Array Bool} {a:Act} {w:World} (I:Inv ops ks T a0 B w0 W0 H L listed a w) {i:Nat} (hi:i<listed.size) (hbef:∀ j,bef T i j=true→listed.getD j false=true) :
  ∀ k,(listed.setIfInBounds i true).getD k false=true→∀ j,bef T k j=true→(listed.setIfInBounds i true).getD j false=true:=fun k hk j hj=>by
 rw [ls_get hi] at hk ⊢
 split
 ·rfl
 ·split at hk
  ·rename_i e;subst e;exact hbef j hj
  ·exact I.cl k hk j hj
theorem val_setB {nt nh:Nat} {L:Lt} {i x:Nat} {j:Nat} {o:Oper} (S:Stat ops ks T nt nh j o) (hji:j≠i) (hb:bef T j i=false):val ks (L.setB i x) j=val ks L j:=by
 unfold val
 cases hk:kd ks j with
 | detB k v =>
  have h1:=S.dB k v hk
  have:k≠i:=fun e=>by subst e;rw [hb] at h1;cases h1
  simp only [Lt.setB,if_neg this]
 | alloc cs=>simp only [Lt.setB,if_neg hji]
 | _=>rfl
theorem val_setV {nt nh:Nat} {L:Lt} {i:Nat} {x:Value} {j:Nat} {o:Oper} (S:Stat ops ks T nt nh j o) (hji:j≠i) (hb:bef T j i=false):val ks (L.setV i x) j=val ks L j:=by
 unfold val
 cases hk:kd ks j with
 | detV k v =>
  have h1:=S.dV k v hk
  have:k≠i:=fun e=>by subst e;rw [hb] at h1;cases h1
  simp only [Lt.setV,if_neg this]
 | any C=>simp only [Lt.setV,if_neg hji]
 | _=>rfl
theorem step {nt nh:Nat} (hc:chk ops ks T nt nh=true) (hnt:nt=a0.tmps.size) (hnh:nh=H.length) (hob:AllOb P ops ks T a0 B w0 H 0 ops.toList)
  (hB:B≤W0.heap.size) (hH:∀ p∈H,B≤p.1∧p.1<W0.heap.size) (hnd:(H.map (·.1)).Nodup)
  {L:Lt} {listed:Array Bool} {a:Act} {w:World} {i:Nat} (I:Inv ops ks T a0 B w0 W0 H L listed a w) (hr:i∈Region.ready .any ops listed) :
  wpOp P ops Q i (fun a' w'=>∃ L',Inv ops ks T a0 B w0 W0 H L' (listed.setIfInBounds i true) a' w') a w:=by
 obtain ⟨hut,o,ho,hall⟩:=mem_ready.1 hr
 have hio:i<ops.size:=(Array.getElem?_eq_some_iff.1 ho).1
 have hi:i<listed.size:=by rw [I.sz];exact hio
 have hun:listed.getD i false=false:=by simp [hi] at hut ⊢;exact hut
 have S:=stat hc ho
 have hall':∀ j∈aft ops i,listed.getD j false=true:=fun j hj=>by
  unfold aft at hj
  rw [ho] at hj
  simp only [Option.map_some,Option.getD_some,List.mem_map,List.mem_filter] at hj
  obtain ⟨e,⟨he,hb⟩,rfl⟩:=hj
  exact hall e (by simpa using he) hb
 have hbef:=listed_of_bef I S hall'
 have hex:execOp a.eval o=execOp (rd ops ks T a0 L i) o:=execOp_congr o S.sel (eval_rd I S hun hbef)
 have hw:=wanted_rd hc hnt I S hbef
 have hsn:=seen (nt:=nt) (nh:=nh) I hun hB hbef
 have ob:Ob P ops ks T a0 B w0 H i o:=by
  have:=AllOb.at ops.toList 0 i o hob (by simpa using ho)
  rwa [Nat.zero_add] at this
 have ob:=ob L w hsn
 have sz':(listed.setIfInBounds i true).size=ops.size:=by simp [I.sz]
 have cl':=cl_next (nt:=nt) (nh:=nh) I hi hbef
 have hnb:∀ j,j≠i→listed.getD j false=true→bef T j i=false:=fun j _ hl=>by
  cases h:bef T j i with
  | false=>rfl
  | true=>have:=I.cl j hl i h;rw [hun] at this;cases this
 have hst:∀ j,listed.getD j false=true→∃ oj,ops[j]?=some oj:=fun j hl=>by
  have:j<ops.size:=by
   rw [← I.sz]
   by_cases h:j<listed.size
   ·exact h
   ·simp [Array.getElem?_eq_none (Nat.le_of_not_lt h)] at hl
  exact ⟨ops[j],Array.getElem?_eq_getElem this⟩
 unfold wpOp
 simp only [ho,hw]
 by_cases hwt:wantedR ks L o=true
 ·rw [if_pos hwt] at ob ⊢
  refine .inl ?_
  unfold Oper.wp
  rw [hex]
  cases hk:kd ks i with
  | det v =>
   rw [hk] at ob
   refine Runs.upon ob fun u w' ⟨hu,hb⟩=>⟨L,sz',cl',?_,?_⟩
   ·exact I.F.next S hnt ho hi (fun d _=>hu) (fun j _ _=>rfl)
   ·exact I.M.quiet hi hB hb (by simp [isStore,hk]) (by simp [isAlloc,hk]) (fun C=>by rw [hk];simp)
  | detB k v =>
   rw [hk] at ob
   refine Runs.upon ob fun u w' ⟨hu,hb⟩=>⟨L,sz',cl',?_,?_⟩
   ·exact I.F.next S hnt ho hi (fun d _=>hu) (fun j _ _=>rfl)
   ·exact I.M.quiet hi hB hb (by simp [isStore,hk]) (by simp [isAlloc,hk]) (fun C=>by rw [hk];simp)
  | detV k v =>
   rw [hk] at ob
   refine Runs.upon ob fun u w' ⟨hu,hb⟩=>⟨L,sz',cl',?_,?_⟩
   ·exact I.F.next S hnt ho hi (fun d _=>hu) (fun j _ _=>rfl)
   ·exact I.M.quiet hi hB hb (by simp [isStore,hk]) (by simp [isAlloc,hk]) (fun C=>by rw [hk];simp)
  | any C =>
   rw [hk] at ob
   refine Runs.upon ob.2 fun u w' ⟨hu,hb⟩=>⟨L.setV i u,sz',cl',?_,?_⟩
   ·refine I.F.next S hnt ho hi (fun d _=>?_) (fun j hj hl=>?_)
    ·unfold val;rw [hk];simp [Lt.setV]
    ·obtain ⟨oj,hoj⟩:=hst j hl
     exact val_setV (stat hc hoj) hj (hnb j hj hl)
   ·exact I.M.letter hi hun hB hb hk hu ob.1
  | alloc cs =>
   rw [hk] at ob
   obtain ⟨ty,hrun⟩:=ob
   rw [hrun]
   refine ⟨L.setB i w.heap.size,sz',cl',?_,?_⟩
   ·refine I.F.next S hnt ho hi (fun d _=>?_) (fun j hj hl=>?_)
    ·unfold val;rw [hk];simp [Lt.setB]
    ·obtain ⟨oj,hoj⟩:=hst j hl
     exact val_setB (stat hc hoj) hj (hnb j hj hl)
   ·refine I.M.made hi hun hB hk fun s hs=>?_
    obtain ⟨off,ds,new,hks⟩:=st_spec hs
    cases hl:listed.getD s false with
    | false=>rfl
    | true =>
     obtain ⟨os,hos⟩:=hst s hl
     have:=(stat hc hos).sto _ _ _ _ hks
     have:=I.cl s hl i (this.2.2.2.1 i rfl).1
     rw [hun] at this;cases this
  | store l off cs new =>
   rw [hk] at ob
   obtain ⟨hlen,hsp,hrun⟩:=ob
   obtain ⟨hgd,hdn,hsl,hnw,hbs⟩:=S.sto _ _ _ _ hk
   have hnew:∀ j,l=.new j→listed.getD j false=true∧isAlloc ks j=true:=fun j e=>⟨hbef j (hnw j e).1,(hnw j e).2⟩
   have hM:=I.M.stored hi hun hk hsl hnew (fun k e=>by rw [← hnh];exact hbs k e) hB hH hnd hlen hsp
   have hth:w.there (addr H L l) off cs.length:=by
    have hcur:∀ x,cur ks listed l x=x:=fun x=>by unfold cur;simp [hsl,hun]
    have hbox:Box w (addr H L l) (oldOf ks H l):=by
     cases l with
     | base k =>
      have hk':k<H.length:=by rw [← hnh];exact hbs k rfl
      have hp:H[k]?=some (H.getD k (0,[])):=by simp [List.getD,List.getElem?_eq_getElem hk']
      have:=I.M.hb k _ hp
      rw [hcur] at this
      exact this
     | new j =>
      obtain ⟨hl,hal⟩:=hnew j rfl
      unfold isAlloc at hal
      split at hal
      ·rename_i ds hd
       have:=I.M.hn j ds hd hl
       rw [hcur] at this
       simp only [oldOf,hd,addr]
       exact this.2
      ·cases hal
    intro j hj
    have:=hbox.free (off+j) (by omega)
    simpa using this
   rw [hrun hth]
   refine ⟨L,sz',cl',?_,hM⟩
   exact I.F.next S hnt ho hi (fun d hd=>by rw [hdn] at hd;cases hd) (fun j _ _=>rfl)
 ·have hwf:wantedR ks L o=false:=by simpa using hwt
  rw [if_neg hwt] at ob
  simp only [hwf,Bool.false_eq_true,if_false]
  refine ⟨L,sz',cl',?_,?_⟩
  ·refine I.F.next S hnt ho hi (fun d _=>?_) (fun j _ _=>rfl)
   unfold val;rw [ob]
  ·exact I.M.quiet hi hB (Below.refl _ _) (by simp [isStore,ob]) (by simp [isAlloc,ob]) (fun C=>by rw [ob];simp)
def slotF (ops:Array Oper) (ks:List Kind) (a0:Act) (L:Lt) (t:Nat):Value :=
 match own ops t with
 | none=>a0.tmps.getD t undef
 | some j=>val ks L j
def curF (ks:List Kind) (l:Loc) (cs:List Value):List Value :=
 match st ks l with
 | some s=>newOf ks s cs
 | none=>cs
def baseF (ks:List Kind):Nat→List (Nat × List Value)→List (Nat × List Value)
 | _,[]=>[]
 | k,p :: r=>(p.1,curF ks (.base k) p.2) :: baseF ks (k+1) r
def newF (ks:List Kind) (L:Lt):List Nat→List (Nat × List Value)
 | []=>[]
 | j :: r=>match kd ks j with
  | .alloc cs=>(L.b j,curF ks (.new j) cs) :: newF ks L r
  | _=>newF ks L r
def heapF (ks:List Kind) (H:List (Nat × List Value)) (L:Lt):List (Nat × List Value):=baseF ks 0 H++newF ks L (List.range ks.length)
def AnyF (ks:List Kind) (L:Lt) (w:World):List Nat→Prop
 | []=>True
 | j :: r=>match kd ks j with
  | .any C=>C (L.v j) w∧AnyF ks L w r
  | _=>AnyF ks L w r
theorem mem_baseF {ks:List Kind}:∀ (H:List (Nat × List Value)) (k:Nat) (p:Nat × List Value),p∈baseF ks k H→∃ j q,H[j]?=some q∧p=(q.1,curF ks (.base (k+j)) q.2)
 | [],k,p,h=>by simp [baseF] at h
 | q :: r,k,p,h=>by
  simp only [baseF,List.mem_cons] at h
  rcases h with h | h
  ·exact ⟨0,q,rfl,h⟩
  ·obtain ⟨j,q',h1,h2⟩:=mem_baseF r (k+1) p h
   exact ⟨j+1,q',by simpa using h1,by rw [h2,show k+1+j=k+(j+1) by omega]⟩
theorem map_baseF {ks:List Kind}:∀ (H:List (Nat × List Value)) (k:Nat),(baseF ks k H).map (·.1)=H.map (·.1)
 | [],k=>rfl
 | q :: r,k=>by simp [baseF,map_baseF r (k+1)]
theorem mem_newF {ks:List Kind} {L:Lt}:∀ (l:List Nat) (p:Nat × List Value),p∈newF ks L l→∃ j cs,j∈l∧kd ks j=.alloc cs∧p=(L.b j,curF ks (.new j) cs)
 | [],p,h=>by simp [newF] at h
 | j :: r,p,h=>by
  unfold newF at h
  split at h
  ·rename_i cs hk
   simp only [List.mem_cons] at h
   rcases h with h | h
   ·exact ⟨j,cs,by simp,hk,h⟩
   ·obtain ⟨j',cs',h1,h2,h3⟩:=mem_newF r p h
    exact ⟨j',cs',by simp [h1],h2,h3⟩
  ·obtain ⟨j',cs',h1,h2,h3⟩:=mem_newF r p h
   exact ⟨j',cs',by simp [h1],h2,h3⟩
theorem nodup_newF {ks:List Kind} {L:Lt} (hij:∀ j k,isAlloc ks j=true→isAlloc ks k=true→L.b j=L.b k→j=k):∀ (l:List Nat),l.Nodup→((newF ks L l).map (·.1)).Nodup
 | [],_=>by simp [newF]
 | j :: r,h=>by
  have hr:=nodup_newF hij r (List.nodup_cons.1 h).2
  unfold newF
  split
  ·rename_i cs hk
   simp only [List.map_cons,List.nodup_cons]
   refine ⟨fun hm=>?_,hr⟩
   obtain ⟨p,hp,he⟩:=List.mem_map.1 hm
   obtain ⟨j',cs',h1,h2,rfl⟩:=mem_newF r p hp
   have:=hij j j' (by simp [isAlloc,hk]) (by simp [isAlloc,h2]) he.symm
   subst this
   exact (List.nodup_cons.1 h).1 h1
  ·exact hr
theorem done {nt nh:Nat} {L:Lt} {listed:Array Bool} {a:Act} {w:World} (hc:chk ops ks T nt nh=true) (hB:B≤W0.heap.size) (hH:∀ p∈H,B≤p.1∧p.1<W0.heap.size) (hnd:(H.map (·.1)).Nodup)
  (I:Inv ops ks T a0 B w0 W0 H L listed a w) (hall:∀ i,i<ops.size→listed.getD i false=true) :
  a={ tmps:=((List.range a0.tmps.size).map (slotF ops ks a0 L)).toArray,defers:=a0.defers }∧Heap B w0 w (heapF ks H L)∧((List.range ks.length).all (fun s=>!isStore ks s)=true→AnyF ks L w (List.range ks.length)):=by
 have hkl:=chk_len hc
 have hsl:∀ l s,st ks l=some s→listed.getD s false=true:=fun l s hs=>by
  obtain ⟨off,cs,new,hk⟩:=st_spec hs
  exact hall s (by rw [← hkl];exact isStore_lt (by simp [isStore,hk]))
 have hcur:∀ l cs,cur ks listed l cs=curF ks l cs:=fun l cs=>by
  unfold cur curF
  cases hs:st ks l with
  | none=>rfl
  | some s=>simp only [hsl l s hs,if_true]
 have hal:∀ j cs,kd ks j=.alloc cs→listed.getD j false=true:=fun j cs hk=>hall j (by rw [← hkl];exact kd_lt (fun e=>by rw [hk] at e;cases e))
 have hal':∀ j,isAlloc ks j=true→listed.getD j false=true:=fun j h=>by
  unfold isAlloc at h
  split at h
  ·rename_i cs hk;exact hal j cs hk
  ·cases h
 refine ⟨?_,⟨I.M.bl,fun p hp=>?_,?_,Nat.le_trans hB I.M.le⟩,fun hno=>?_⟩
 ·obtain ⟨tm,df⟩:=a
  have h1:df=a0.defers:=I.F.df
  have h2:tm.size=a0.tmps.size:=I.F.ts
  subst h1
  congr 1
  apply Array.ext
  ·simp [h2]
  ·intro t h3 h4
   have h5:=I.F.fr t
   have e1:tm.getD t undef=tm[t]:=by simp [h3]
   have e2:slot ops ks a0 L listed t=slotF ops ks a0 L t:=by
    unfold slot slotF
    cases hw:own ops t with
    | none=>rfl
    | some j=>simp only [hall j (own_spec hw).1,if_true]
   have h6:tm[t]=slotF ops ks a0 L t:=by rw [← e1,← e2];exact h5
   rw [h6]
   simp
 ·rcases List.mem_append.1 hp with hp | hp
  ·obtain ⟨j,q,hq,rfl⟩:=mem_baseF H 0 p hp
   have:=I.M.hb j q hq
   rw [hcur] at this
   rw [Nat.zero_add]
   exact ⟨(hH q (List.mem_of_getElem? hq)).1,this⟩
  ·obtain ⟨j,cs,_,hk,rfl⟩:=mem_newF _ p hp
   have:=I.M.hn j cs hk (hal j cs hk)
   rw [hcur] at this
   exact ⟨Nat.le_trans hB this.1,this.2⟩
 ·rw [heapF,List.map_append,map_baseF]
  refine List.nodup_append.2 ⟨hnd,nodup_newF (fun j k hj hk he=>I.M.ij j k hj hk (hal' j hj) (hal' k hk) he) _ List.nodup_range,?_⟩
  intro x hx y hy e
  subst e
  obtain ⟨p,hp,rfl⟩:=List.mem_map.1 hx
  obtain ⟨q,hq,he⟩:=List.mem_map.1 hy
  obtain ⟨j,cs,_,hk,rfl⟩:=mem_newF _ q hq
  have h1:=(hH p hp).2
  have h2:=(I.M.hn j cs hk (hal j cs hk)).1
  simp only at he
  omega
 ·have hns:∀ s,isStore ks s=true→listed.getD s false=false:=fun s hs=>by
   have:=List.all_eq_true.1 hno s (by simpa using isStore_lt hs)
   rw [hs] at this;cases this
  have:∀ l:List Nat,AnyF ks L w l:=fun l=>by
   induction l with
   | nil=>trivial
   | cons j r ih =>
    unfold AnyF
    split
    ·rename_i C hk
     exact ⟨I.M.an hns j C hk (hall j (by rw [← hkl];exact kd_lt (fun e=>by rw [hk] at e;cases e))),ih⟩
    ·exact ih
  exact this _
theorem Inv.start (hHp:Heap B w0 W0 H) {w:World} (hw:Below W0.heap.size W0 w) (hf:w.heap=W0.heap) (L:Lt) :
  Inv ops ks T a0 B w0 W0 H L (Array.replicate ops.size false) a0 w:=by
 have hno:∀ j,(Array.replicate ops.size false).getD j false=false:=fun j=>by
  by_cases h:j<ops.size
  ·simp [h]
  ·simp [Array.getElem?_eq_none,h]
 refine ⟨by simp,fun i hi=>(by rw [hno] at hi;cases hi),⟨rfl,rfl,fun t=>?_⟩,⟨hHp.bel.trans (hw.mono hHp.le),hw.size,fun k p hp=>?_,fun j cs _ hl=>(by rw [hno] at hl;cases hl),fun j k _ _ hl=>(by rw [hno] at hl;cases hl),fun _ j C _ hl=>(by rw [hno] at hl;cases hl),fun j C _ hl=>(by rw [hno] at hl;cases hl)⟩⟩
 ·unfold slot
  cases own ops t with
  | none=>rfl
  | some j=>simp only [hno,Bool.false_eq_true,if_false]
 ·rw [cur_none (fun s _=>hno s)]
  exact (hHp.box p (List.mem_of_getElem? hp)).2.up hw
theorem Heap.bounds (h:Heap B w0 W0 H):∀ p∈H,B≤p.1∧p.1<W0.heap.size:=fun p hp=>⟨(h.box p hp).1,(h.box p hp).2.lt⟩
theorem drawn {id nt nh:Nat} (hm:P.follows .mixedOrders=true) (hc:chk ops ks T nt nh=true) (hnt:nt=a0.tmps.size) (hnh:nh=H.length) (hHp:Heap B w0 W0 H) (hob:AllOb P ops ks T a0 B w0 H 0 ops.toList)
  (hQ:∀ L w,Heap B w0 w (heapF ks H L)→((List.range ks.length).all (fun s=>!isStore ks s)=true→AnyF ks L w (List.range ks.length))→Q .normal { tmps:=((List.range a0.tmps.size).map (slotF ops ks a0 L)).toArray,defers:=a0.defers } w) :
  (Code.region id ops true).wp P Q a0 W0:=by
 refine wp_region_any hm ?_
 have main:∀ (fuel:Nat) (listed:Array Bool) (a:Act) (w:World) (L:Lt),Inv ops ks T a0 B w0 W0 H L listed a w→((List.range ops.size).filter fun i=>!listed.getD i false).length≤fuel→wpAny P .any ops Q fuel listed a w:=by
  have fin:∀ (listed:Array Bool) (a:Act) (w:World) (L:Lt),Inv ops ks T a0 B w0 W0 H L listed a w→Region.ready .any ops listed=[]→Q .normal a w:=fun listed a w L I hr=>by
   have hall:∀ n,∀ i,i≤n→i<ops.size→listed.getD i false=true:=by
    intro n
    induction n with
    | zero =>
     intro i hi hlt
     obtain rfl:i=0:=by omega
     cases hl:listed.getD 0 false with
     | true=>rfl
     | false =>
      have:(0:Nat)∈Region.ready .any ops listed:=mem_ready.2 ⟨by simp [I.sz,hlt] at hl ⊢;exact hl,ops[0],Array.getElem?_eq_getElem hlt,fun e he hb=>by
       have:=(stat hc (Array.getElem?_eq_getElem hlt)).back e.on (by
        unfold aft;rw [Array.getElem?_eq_getElem hlt]
        simp only [Option.map_some,Option.getD_some,List.mem_map,List.mem_filter]
        exact ⟨e,⟨by simpa using he,hb⟩,rfl⟩)
       omega⟩
      rw [hr] at this;cases this
    | succ n ih =>
     intro i hi hlt
     by_cases h:i≤n
     ·exact ih i h hlt
     ·obtain rfl:i=n+1:=by omega
      cases hl:listed.getD (n+1) false with
      | true=>rfl
      | false =>
       have:(n+1)∈Region.ready .any ops listed:=mem_ready.2 ⟨by simp [I.sz,hlt] at hl ⊢;exact hl,ops[n+1],Array.getElem?_eq_getElem hlt,fun e he hb=>by
        have hb':=(stat hc (Array.getElem?_eq_getElem hlt)).back e.on (by
         unfold aft;rw [Array.getElem?_eq_getElem hlt]
         simp only [Option.map_some,Option.getD_some,List.mem_map,List.mem_filter]
         exact ⟨e,⟨by simpa using he,hb⟩,rfl⟩)
        exact ih e.on (by omega) (by omega)⟩
       rw [hr] at this;cases this
   obtain ⟨ha,hh,hy⟩:=done hc hHp.le (Heap.bounds hHp) hHp.nd I (fun i hi=>hall i i (Nat.le_refl _) hi)
   rw [ha]
   exact hQ L w hh hy
  intro fuel
  induction fuel with
  | zero =>
   intro listed a w L I hf
   have hr:Region.ready .any ops listed=[]:=by
    cases h:Region.ready .any ops listed with
    | nil=>rfl
    | cons x xs =>
     have hx:x∈Region.ready .any ops listed:=by rw [h];simp
     obtain ⟨h0,o,ho,_⟩:=mem_ready.1 hx
     have hlt:=(Array.getElem?_eq_some_iff.1 ho).1
     have hz:=List.length_eq_zero_iff.1 (Nat.le_zero.1 hf)
     have:x∈(List.range ops.size).filter fun i=>!listed.getD i false:=List.mem_filter.2 ⟨by simpa using hlt,by simp [I.sz,hlt] at h0 ⊢;exact h0⟩
     rw [hz] at this;cases this
   exact ⟨hr,fin listed a w L I hr⟩
  | succ fuel ih =>
   intro listed a w L I hf
   refine ⟨fin listed a w L I,fun i hi=>?_⟩
   refine wpOp_mono (fun a' w' ⟨L',I'⟩=>ih _ a' w' L' I' ?_) (step hc hnt hnh hob hHp.le (Heap.bounds hHp) hHp.nd I hi)
   obtain ⟨h0,o,ho,_⟩:=mem_ready.1 hi
   have hlt:=(Array.getElem?_eq_some_iff.1 ho).1
   have hil:i<listed.size:=by rw [I.sz];exact hlt
   have e:((List.range ops.size).filter fun j=>!(listed.setIfInBounds i true).getD j false)=((List.range ops.size).filter fun j=>!listed.getD j false).filter (fun j=>j != i):=by
    rw [List.filter_filter]
    congr 1
    funext j
    rw [ls_get hil]
    by_cases h:j=i<;>simp [h]
   rw [e]
   have hm:i∈(List.range ops.size).filter fun j=>!listed.getD j false:=List.mem_filter.2 ⟨by simpa using hlt,by simp [hil] at h0 ⊢;exact h0⟩
   have:(((List.range ops.size).filter fun j=>!listed.getD j false).filter (fun j=>j != i)).length<((List.range ops.size).filter fun j=>!listed.getD j false).length:=by
    refine List.length_filter_lt_length_iff_exists.2 ⟨i,hm,by simp⟩
   omega
 refine main _ _ _ _ ⟨fun _=>undef,fun _=>0⟩ (Inv.start hHp (Below.refl _ _).drew rfl _) ?_
 exact Nat.le_trans (List.length_filter_le _ _) (by simp)
theorem plain {id nt nh:Nat} (hc:chk ops ks T nt nh=true) (hnt:nt=a0.tmps.size) (hnh:nh=H.length) (hHp:Heap B w0 W0 H) (hob:AllOb P ops ks T a0 B w0 H 0 ops.toList)
  (hQ:∀ L w,Heap B w0 w (heapF ks H L)→((List.range ks.length).all (fun s=>!isStore ks s)=true→AnyF ks L w (List.range ks.length))→Q .normal { tmps:=((List.range a0.tmps.size).map (slotF ops ks a0 L)).toArray,defers:=a0.defers } w) :
  (Code.region id ops false).wp P Q a0 W0:=by
 refine wp_region ?_
 have main:∀ (m k:Nat) (listed:Array Bool) (a:Act) (w:World) (L:Lt),k+m=ops.size→(∀ j,listed.getD j false=decide (j<k))→Inv ops ks T a0 B w0 W0 H L listed a w→wpOps P ops Q (List.range' k m) a w:=by
  intro m
  induction m with
  | zero =>
   intro k listed a w L hk hl I
   obtain ⟨ha,hh,hy⟩:=done hc hHp.le (Heap.bounds hHp) hHp.nd I (fun i hi=>by rw [hl];simp;omega)
   show Q .normal a w
   rw [ha]
   exact hQ L w hh hy
  | succ m ih =>
   intro k listed a w L hk hl I
   rw [List.range'_succ,wpOps_cons]
   have hlt:k<ops.size:=by omega
   have hil:k<listed.size:=by rw [I.sz];exact hlt
   have hr:k∈Region.ready .any ops listed:=mem_ready.2 ⟨by have:=hl k;simp [hil] at this ⊢;exact this,ops[k],Array.getElem?_eq_getElem hlt,fun e he hb=>by
    have hb':=(stat hc (Array.getElem?_eq_getElem hlt)).back e.on (by
     unfold aft;rw [Array.getElem?_eq_getElem hlt]
     simp only [Option.map_some,Option.getD_some,List.mem_map,List.mem_filter]
     exact ⟨e,⟨by simpa using he,hb⟩,rfl⟩)
    rw [hl];simpa using hb'⟩
   refine wpOp_mono (fun a' w' ⟨L',I'⟩=>ih (k+1) _ a' w' L' (by omega) (fun j=>?_) I') (step hc hnt hnh hob hHp.le (Heap.bounds hHp) hHp.nd I hr)
   rw [ls_get hil]
   split
   ·rename_i e;subst e;simp
   ·rw [hl];by_cases h:j<k<;>simp [h]<;>omega
 rw [List.range_eq_range']
 exact main ops.size 0 _ a0 W0 ⟨fun _=>undef,fun _=>0⟩ (by omega) (fun j=>by
  by_cases h:j<ops.size
  ·simp [h]
  ·simp [Array.getElem?_eq_none,h]) (Inv.start hHp (Below.refl _ _) rfl _)
end
end Go.Proofs.YthnfgmhehfombaaGreatDoor.Pl
/- What is to be shown of one operation, kind by kind. No program is named here. -/
namespace Go.Proofs.YthnfgmhehfombaaGreatDoor.Pl
open Go Go.RowKit
section
variable {P:Program} {ops:Array Oper} {ks:List Kind} {T:List Nat} {a0:Act} {B:Nat} {w0:World} {H:List (Nat × List Value)} {i:Nat} {o:Oper}
theorem ob_det {v:Value} (hw:∀ L,wantedR ks L o=true) (hk:kd ks i=.det v)
  (h:∀ L w,(early T ks i=true→Seen ks T B w0 H L i w)→Runs P ((execOp (rd ops ks T a0 L i) o).run P w) (fun u w'=>u=v∧Below w.heap.size w w')):Ob P ops ks T a0 B w0 H i o:=fun L w hs=>by
 rw [if_pos (hw L),hk]
 have hv:val ks L i=v:=by unfold val;rw [hk]
 simp only [hv]
 exact h L w hs
theorem ob_skip (hw:∀ L,wantedR ks L o=false) (hk:kd ks i=.det undef):Ob P ops ks T a0 B w0 H i o:=fun L w hs=>by
 rw [if_neg (by rw [hw L];simp)];exact hk
theorem ob_pure {v:Value} (hw:∀ L,wantedR ks L o=true) (hk:kd ks i=.det v)
  (h:∀ L w,(execOp (rd ops ks T a0 L i) o).run P w=.ok (.value v) w):Ob P ops ks T a0 B w0 H i o :=
 ob_det hw hk fun L w _=>by rw [h L w];exact ⟨rfl,Below.refl _ _⟩
theorem ob_move {v:Value} {x:Operand} (hw:∀ L,wantedR ks L o=true) (hk:kd ks i=.det v) (ho:o.op=.move x) (hx:∀ L,rd ops ks T a0 L i x=v):Ob P ops ks T a0 B w0 H i o :=
 ob_pure hw hk fun L w=>by unfold execOp;simp only [ho,hx L];rfl
theorem ob_assign {v:Value} {x:Operand} (hw:∀ L,wantedR ks L o=true) (hk:kd ks i=.det v) (ho:o.op=.assign x) (hx:∀ L,rd ops ks T a0 L i x=v):Ob P ops ks T a0 B w0 H i o :=
 ob_pure hw hk fun L w=>by unfold execOp;simp only [ho,hx L];rfl
theorem ob_build {v:Value} {t:TypeId} {ps:Array (Nat × Operand)} {qs:Array (Nat × Value)} (hw:∀ L,wantedR ks L o=true) (hk:kd ks i=.det v) (ho:o.op=.build t ps) (hx:∀ L,(ps.map fun p=>(p.1,rd ops ks T a0 L i p.2))=qs)
  (h:∀ w,(Instr.build t qs).run P w=.ok v w):Ob P ops ks T a0 B w0 H i o :=
 ob_pure hw hk fun L w=>by
  have e:(ps.map fun (x:Nat × Operand)=>match x with | (i_1,x)=>(i_1,rd ops ks T a0 L i x))=qs:=hx L
  unfold execOp
  simp only [ho,e,Sem.run_bind,h w]
  rfl
theorem ob_load {t:TypeId} {x:Operand} {b off:Nat} {cs:List Value} {d:TypeDesc} (he:early T ks i=true) (hw:∀ L,wantedR ks L o=true) (hk:kd ks i=.det (.agg cs.toArray)) (ho:o.op=.load t x)
  (hx:∀ L,rd ops ks T a0 L i x=.pointer (some ⟨b,off,none⟩)) (hr:∀ L w,Seen ks T B w0 H L i w→w.rangeAt b off cs)
  (hu:P.underlying t=some d) (hd:d.isRow=true) (hi:(P.info? t).map (·.size)=some cs.length):Ob P ops ks T a0 B w0 H i o :=
 ob_det hw hk fun L w hs=>by
  have:(execOp (rd ops ks T a0 L i) o).run P w=.ok (.value (.agg cs.toArray)) w:=by
   unfold execOp
   simp only [ho,hx L,Sem.run_bind,run_loadAt_mid w b off t cs d (hr L w (hs he)) hu hd hi]
   rfl
  rw [this]
  exact ⟨rfl,Below.refl _ _⟩
theorem seen_at {L:Lt} {w:World} {k b:Nat} {cs:List Value} (hs:Seen ks T B w0 H L i w) (hk:H[k]?=some (b,cs)):Box w b cs:=hs.base (b,cs) (List.mem_of_getElem? hk)
def plainF (P : Program) (f : FuncId) : Bool := match P.funcs[f]? with | some fn => !(fn.name == "runtime.NumGoroutine") && fn.body.isSome | none => false
theorem run_enter {f:FuncId} (hf:plainF P f=true) (args:Array Value) (w:World):(invoke (.fn (.func f) #[]) args).run P w=.ok (.enter f args) w:=by
 unfold plainF at hf
 cases h:P.funcs[f]? with
 | none=>simp [h] at hf
 | some fn =>
  simp only [h,Bool.and_eq_true,Bool.not_eq_true'] at hf
  obtain ⟨h1,h2⟩:=hf
  have h3:fn.body.isNone=false:=by cases hb:fn.body<;>simp_all
  have h4 : ¬ fn.name = "runtime.NumGoroutine" := by simpa using h1
  have h5:¬ fn.body=none:=by intro e;rw [e] at h2;cases h2
  simp [invoke,callFunc,Sem.run_bind,h]
  rw [if_neg h4,if_neg h5]
theorem ob_call {v:Value} {f:FuncId} {xs:Array Operand} {ts:Array TypeId} {vs:Array Value} (hf:plainF P f=true) (he:early T ks i=true) (hw:∀ L,wantedR ks L o=true) (hk:kd ks i=.det v) (ho:o.op=.call { callee:=.value (.func f),args:=xs,argTypes:=ts })
  (hx:∀ L,xs.map (rd ops ks T a0 L i)=vs) (h:∀ w,Below B w0 w→B≤w.heap.size→Calls P f vs w fun e w'=>e=.returned v∧Below w.heap.size w w'):Ob P ops ks T a0 B w0 H i o :=
 ob_det hw hk fun L w hs=>by
  have:(execOp (rd ops ks T a0 L i) o).run P w=.ok (.enter f vs) w:=by
   unfold execOp
   simp only [ho,resolve,hx L,Deferred.ofValue,rd,Sem.run_bind,Sem.run_pure,Result.andThen_ok,Array.empty_append,run_enter hf]
  rw [this]
  exact Calls.mono (h w (hs he).bel (hs he).le) fun e w' ⟨h1,h2⟩=>⟨v,h1,rfl,h2⟩
theorem ob_callS {v:Value} {f:FuncId} {xs:Array Operand} {ts:Array TypeId} {vs:Lt→Array Value} (hf:plainF P f=true) (he:early T ks i=true) (hw:∀ L,wantedR ks L o=true) (hk:kd ks i=.det v) (ho:o.op=.call { callee:=.value (.func f),args:=xs,argTypes:=ts })
  (hx:∀ L,xs.map (rd ops ks T a0 L i)=vs L) (h:∀ L w,Seen ks T B w0 H L i w→Calls P f (vs L) w fun e w'=>e=.returned v∧Below w.heap.size w w'):Ob P ops ks T a0 B w0 H i o :=
 ob_det hw hk fun L w hs=>by
  have:(execOp (rd ops ks T a0 L i) o).run P w=.ok (.enter f (vs L)) w:=by
   unfold execOp
   simp only [ho,resolve,hx L,Deferred.ofValue,rd,Sem.run_bind,Sem.run_pure,Result.andThen_ok,Array.empty_append,run_enter hf]
  rw [this]
  exact Calls.mono (h L w (hs he)) fun e w' ⟨h1,h2⟩=>⟨v,h1,rfl,h2⟩
theorem ob_any {C:Value→World→Prop} {f:FuncId} {xs:Array Operand} {ts:Array TypeId} {vs:Lt→Array Value} (hf:plainF P f=true) (he:early T ks i=true) (hw:∀ L,wantedR ks L o=true) (hk:kd ks i=.any C) (ho:o.op=.call { callee:=.value (.func f),args:=xs,argTypes:=ts })
  (hx:∀ L,xs.map (rd ops ks T a0 L i)=vs L) (hC:∀ v w x,C v w→Below w.heap.size w x→C v x) (h:∀ L w,Seen ks T B w0 H L i w→Calls P f (vs L) w fun e w'=>∃ v,e=.returned v∧C v w'∧Below w.heap.size w w'):Ob P ops ks T a0 B w0 H i o:=fun L w hs=>by
 rw [if_pos (hw L),hk]
 refine ⟨hC,?_⟩
 have:(execOp (rd ops ks T a0 L i) o).run P w=.ok (.enter f (vs L)) w:=by
  unfold execOp
  simp only [ho,resolve,hx L,Deferred.ofValue,rd,Sem.run_bind,Sem.run_pure,Result.andThen_ok,Array.empty_append,run_enter hf]
 rw [this]
 exact h L w (hs he)
theorem info_zero {t:TypeId} {v:Value} (hz:(P.info? t).bind (·.zero)=some v) (w:World):(zeroValue t).run P w=.ok v w:=by
 cases h:P.info? t with
 | none=>simp [h] at hz
 | some inf =>
  simp [h] at hz
  simp [zeroValue,typeInfo,Sem.run_bind,h,hz]
theorem run_newVar (w:World) (t:TypeId) (v:Value):(newVar t v).run P w=.ok ⟨w.heap.size,0,none⟩ (w.alloc (.cells v.cells t)):=rfl
theorem ob_alloc {t:TypeId} {cs:List Value} {v:Value} (hw:∀ L,wantedR ks L o=true) (hk:kd ks i=.alloc cs) (ho:o.op=.alloc t) (hz:(P.info? t).bind (·.zero)=some v) (hc:v.cells=cs.toArray) (hy:∀ b,yields cs b=.pointer (some ⟨b,0,none⟩)):Ob P ops ks T a0 B w0 H i o:=fun L w hs=>by
 rw [if_pos (hw L),hk]
 refine ⟨t,?_⟩
 rw [hy]
 unfold execOp
 simp [ho,Instr.alloc,Sem.run_bind,info_zero hz w,run_newVar,hc]
theorem ob_store {t:TypeId} {x y:Operand} {l:Loc} {off:Nat} {cs new old:List Value} (hw:∀ L,wantedR ks L o=true) (hk:kd ks i=.store l off cs new) (ho:o.op=.store t x y)
  (hx:∀ L,rd ops ks T a0 L i x=.pointer (some ⟨addr H L l,off,none⟩)) (hy:∀ L,rd ops ks T a0 L i y=.agg cs.toArray) (hold:oldOf ks H l=old)
  (hi:(P.info? t).map (·.size)=some cs.length) (h1:∀ v∈cs,v.oneCell'=true) (hlen:off+cs.length≤old.length) (hsp:new=splice old off cs):Ob P ops ks T a0 B w0 H i o:=fun L w hs=>by
 rw [if_pos (hw L),hk]
 subst hold
 refine ⟨hlen,hsp,fun ht=>?_⟩
 have hrun:=run_storeAt_mid (P:=P) w (addr H L l) off t cs.toArray (by simpa using ht) (by simpa using hi) (all_oneCell_toArray h1)
 unfold execOp
 simp [ho,hx L,hy L,Sem.run_bind,hrun]
theorem ob_eq {t t':TypeId} {x y:Operand} {u v:Value} {b:Bool} (hw:∀ L,wantedR ks L o=true) (hk:kd ks i=.det (.bool b)) (ho:o.op=.binOp .eql t x y t')
  (hx:∀ L,rd ops ks T a0 L i x=u) (hy:∀ L,rd ops ks T a0 L i y=v) (hg:∀ w,(eqGuard .eql t x y u v).run P w=.ok () w) (h:∀ w,(binOp .eql t u v).run P w=.ok (.bool b) w):Ob P ops ks T a0 B w0 H i o :=
 ob_pure hw hk fun L w=>by unfold execOp;simp [ho,hx L,hy L,Sem.run_bind,hg w,h w]
theorem ob_ne {t t':TypeId} {x y:Operand} {u v:Value} {b:Bool} (hw:∀ L,wantedR ks L o=true) (hk:kd ks i=.det (.bool b)) (ho:o.op=.binOp .neq t x y t')
  (hx:∀ L,rd ops ks T a0 L i x=u) (hy:∀ L,rd ops ks T a0 L i y=v) (hg:∀ w,(eqGuard .neq t x y u v).run P w=.ok () w) (h:∀ w,(binOp .neq t u v).run P w=.ok (.bool b) w):Ob P ops ks T a0 B w0 H i o :=
 ob_pure hw hk fun L w=>by unfold execOp;simp [ho,hx L,hy L,Sem.run_bind,hg w,h w]
theorem ob_bin {op:BinOp} {t t':TypeId} {x y:Operand} {u v r:Value} (hw:∀ L,wantedR ks L o=true) (hk:kd ks i=.det r) (ho:o.op=.binOp op t x y t')
  (hx:∀ L,rd ops ks T a0 L i x=u) (hy:∀ L,rd ops ks T a0 L i y=v) (hg:∀ w,(eqGuard op t x y u v).run P w=.ok () w) (h:∀ w,(binOp op t u v).run P w=.ok r w):Ob P ops ks T a0 B w0 H i o :=
 ob_pure hw hk fun L w=>by unfold execOp;simp [ho,hx L,hy L,Sem.run_bind,hg w,h w]
/-! ### A value that is built of parts -/
theorem foldl_set (cs:List Value):∀ (Z:Array Value) (off k:Nat),off+k+cs.length≤Z.size →
  (cs.zipIdx k).foldl (fun (zs:Array Value) (x:Value × Nat)=>zs.setIfInBounds (off+x.2) x.1) Z=(splice Z.toList (off+k) cs).toArray:=by
 induction cs with
 | nil=>intro Z off k h;simp [splice]
 | cons c r ih =>
  intro Z off k h
  simp only [List.length_cons] at h
  rw [List.zipIdx_cons,List.foldl_cons,ih _ off (k+1) (by simp;omega)]
  congr 1
  unfold splice
  apply List.ext_getElem?
  intro n
  simp only [List.length_cons,Array.toList_setIfInBounds,List.append_assoc,List.getElem?_append,List.getElem?_take,List.getElem?_drop,List.length_take,List.length_set,List.getElem?_set,Array.length_toList,List.cons_append,List.length_append,List.length_drop]
  grind
theorem fill_cons {place:Nat→Option (Nat × Nat)} {Z cs:List Value} {k off sz:Nat} {rest:List (Nat × Value)} (hp:place k=some (off,sz)) (hl:cs.length=sz) (hb:off+sz≤Z.length) :
  Instr.fill place Z.toArray ((k,.agg cs.toArray) :: rest)=Instr.fill place (splice Z off cs).toArray rest:=by
 have h1:(Value.agg cs.toArray).cells=cs.toArray:=rfl
 rw [Instr.fill]
 simp only [hp,h1,List.size_toArray,hl,ne_eq,not_true_eq_false,decide_false,Bool.false_or,decide_eq_true_eq]
 rw [if_neg (by omega)]
 have:=foldl_set cs Z.toArray off 0 (by simp;omega)
 rw [Nat.add_zero] at this
 rw [← this]
 simp
theorem run_build_array {t e:TypeId} {n sz:Nat} {Z:List Value} {ps:Array (Nat × Value)} {cs:List Value} (hu:P.underlying t=some (.array n e)) (hs:(P.info? e).map (·.size)=some sz) (hz:(P.info? t).bind (·.zero)=some (.agg Z.toArray))
  (hf:Instr.fill (fun i=>some (i*sz,sz)) Z.toArray ps.toList=some cs.toArray) (w:World):(Instr.build t ps).run P w=.ok (.agg cs.toArray) w:=by
 obtain ⟨inf,hinf,hsz⟩:∃ inf,P.info? e=some inf∧inf.size=sz:=by
  cases h:P.info? e with
  | none=>simp [h] at hs
  | some inf=>exact ⟨inf,rfl,by simpa [h] using hs⟩
 have hc:(Value.agg Z.toArray).cells=Z.toArray:=rfl
 unfold Instr.build
 simp [Sem.run_bind,info_zero hz w,run_underlying hu w,sizeOf,typeInfo,hinf,hsz,hc,hf]
end
end Go.Proofs.YthnfgmhehfombaaGreatDoor.Pl
/- A region goes by its plan, what is left written out; a function's results. No program is named here. -/
namespace Go.Proofs.YthnfgmhehfombaaGreatDoor.Pl
open Go Go.RowKit
section
variable {P:Program} {ops:Array Oper} {ks:List Kind} {T:List Nat} {a0:Act} {B:Nat} {w0 W0:World} {H:List (Nat × List Value)} {Q:Exit→Act→World→Prop}
theorem Heap.start (w:World):Heap w.heap.size w w []:=⟨Below.refl _ _,fun p hp=>(by cases hp),List.nodup_nil,Nat.le_refl _⟩
theorem Heap.bound {b:Nat} {cs:List Value} (h:Heap B w0 W0 H) (k:Nat) (hk:H[k]?=some (b,cs)):B≤b∧Box W0 b cs:=h.box (b,cs) (List.mem_of_getElem? hk)
theorem draws {id nt nh:Nat} {A:Lt→List Value} {H':Lt→List (Nat × List Value)} (hm:P.follows .mixedOrders=true) (hc:chk ops ks T nt nh=true) (hnt:nt=a0.tmps.size) (hnh:nh=H.length) (hdf:a0.defers=[])
  (hA:∀ L,(List.range nt).map (slotF ops ks a0 L)=A L) (hF:∀ L,heapF ks H L=H' L) (hHp:Heap B w0 W0 H) (hob:AllOb P ops ks T a0 B w0 H 0 ops.toList)
  (hQ:∀ L w,Heap B w0 w (H' L)→Q .normal { tmps:=(A L).toArray,defers:=[] } w) :
  (Code.region id ops true).wp P Q a0 W0 :=
 drawn hm hc hnt hnh hHp hob fun L w h _=>by
  rw [← hnt,hA L,hdf]
  exact hQ L w (hF L▸h)
theorem goes {id nt nh:Nat} {A:Lt→List Value} {H':Lt→List (Nat × List Value)} (hc:chk ops ks T nt nh=true) (hnt:nt=a0.tmps.size) (hnh:nh=H.length) (hdf:a0.defers=[])
  (hA:∀ L,(List.range nt).map (slotF ops ks a0 L)=A L) (hF:∀ L,heapF ks H L=H' L) (hHp:Heap B w0 W0 H) (hob:AllOb P ops ks T a0 B w0 H 0 ops.toList)
  (hQ:∀ L w,Heap B w0 w (H' L)→Q .normal { tmps:=(A L).toArray,defers:=[] } w) :
  (Code.region id ops false).wp P Q a0 W0 :=
 plain hc hnt hnh hHp hob fun L w h _=>by
  rw [← hnt,hA L,hdf]
  exact hQ L w (hF L▸h)
theorem then_exit {K:Act→World→Prop} {id:Nat} {a:Act} {w:World} (h:Q (.exit id) a w):Exit.then K Q (.exit id) a w:=h
theorem then_normal {K:Act→World→Prop} {a:Act} {w:World} (h:K a w):Exit.then K Q .normal a w:=h
theorem block_normal {id:Nat} {a:Act} {w:World} (h:Q .normal a w):Exit.inBlock id Q .normal a w:=h
theorem exit_in {id:Nat} {a:Act} {w:World} (h:Q .normal a w):Exit.inBlock id Q (.exit id) a w:=by simp only [Exit.inBlock,if_true];exact h
theorem rounds_k {c:Code} {n:Nat} {a:Act} {w:World} (h:∀ K:Exit→Act→World→Prop,(∀ e a w,Exit.then (Code.rounds P c Q n) Q e a w→K e a w)→c.wp P K a w):Code.rounds P c Q (n+1) a w:=h _ fun _ _ _ h=>h
theorem wp_block_k {c:Code} {id:Nat} {a:Act} {w:World} (h:∀ K:Exit→Act→World→Prop,(∀ e a w,Exit.inBlock id Q e a w→K e a w)→c.wp P K a w):(Code.block id c).wp P Q a w:=wp_block (h _ fun _ _ _ h=>h)
theorem skips {a:Act} {w:World} (h:Q .normal a w):Code.skip.wp P Q a w:=wp_skip h
theorem res_t {fn:Func} {t:Nat} {tmps:Array Value} {v:Value} (hr:fn.results=#[.tmp t]) (ht:tmps.getD t undef=v) (w:World):(results fn tmps).run P w=.ok v w:=by
 unfold results
 simp only [hr]
 simp [Sem.run_bind,ht]
 simpa using ht
theorem res_c {fn:Func} {t b:Nat} {ty:TypeId} {tmps:Array Value} {cs:List Value} {d:TypeDesc} {w:World} (hr:fn.results=#[.cell t ty]) (ht:tmps.getD t undef=.pointer (some ⟨b,0,none⟩)) (hb:Box w b cs)
  (hu:P.underlying ty=some d) (hd:d.isRow=true) (hi:(P.info? ty).map (·.size)=some cs.length):(results fn tmps).run P w=.ok (.agg cs.toArray) w:=by
 have ht2:tmps[t]?.getD undef=.pointer (some ⟨b,0,none⟩):=by simpa using ht
 have hl:=run_loadVar_mid w b 0 ty cs d hb.cells hu hd hi
 unfold results
 simp only [hr]
 simp [Sem.run_bind,ht2,asAddr,hl]
theorem res_ct {fn:Func} {t b t':Nat} {ty:TypeId} {tmps:Array Value} {cs:List Value} {d:TypeDesc} {v:Value} {w:World} (hr:fn.results=#[.cell t ty,.tmp t']) (ht:tmps.getD t undef=.pointer (some ⟨b,0,none⟩)) (ht':tmps.getD t' undef=v) (hb:Box w b cs)
  (hu:P.underlying ty=some d) (hd:d.isRow=true) (hi:(P.info? ty).map (·.size)=some cs.length):(results fn tmps).run P w=.ok (.tuple #[.agg cs.toArray,v]) w:=by
 have ht2:tmps[t]?.getD undef=.pointer (some ⟨b,0,none⟩):=by simpa using ht
 have ht3:tmps[t']?.getD undef=v:=by simpa using ht'
 have hl:=run_loadVar_mid w b 0 ty cs d hb.cells hu hd hi
 unfold results
 simp only [hr]
 simp [Sem.run_bind,ht2,ht3,asAddr,hl]
end
end Go.Proofs.YthnfgmhehfombaaGreatDoor.Pl
/- What is to be shown of one operation, shortly told: what can be reckoned out is reckoned out. No program is named here. -/
namespace Go.Proofs.YthnfgmhehfombaaGreatDoor.Pl
open Go Go.RowKit
def U (n:Nat):List Value:=List.replicate n undef
abbrev pt (b off:Nat):Value:=.pointer (some ⟨b,off,none⟩)
abbrev Lt.p (L:Lt) (i:Nat):Value:=.pointer (some ⟨L.b i,0,none⟩)
def D (d:Nat→Value) (k n:Nat):List Value:=(List.range' k n).map d
structure RowT (P:Program) (t:TypeId) (n:Nat) (Z:List Value):Prop where
 und:∃ d,P.underlying t=some d∧d.isRow=true
 size:(P.info? t).map (·.size)=some n
 zero:(P.info? t).bind (·.zero)=some (.agg Z.toArray)
structure ArrT (P:Program) (t:TypeId) (n sz:Nat):Prop where
 und:∃ e,P.underlying t=some (.array n e)∧(P.info? e).map (·.size)=some sz
structure EqT (P:Program) (t:TypeId) {α:Type} [DecidableEq α] (V:α→Value):Prop where
 grd:∀ (op:BinOp) (x y:Operand) (a b:α) (w:World),(eqGuard op t x y (V a) (V b)).run P w=.ok () w
 eql:∀ (a b:α) (w:World),(binOp .eql t (V a) (V b)).run P w=.ok (.bool (decide (a=b))) w
 neq:∀ (a b:α) (w:World),(binOp .neq t (V a) (V b)).run P w=.ok (.bool (!decide (a=b))) w
def idx (p q:Value) (n sz:Nat):Option Value :=
 match p,q with
 | .pointer (some ⟨b,off,none⟩),.int .i64 (.ofNat k)=>if Nat.blt k n then some (.pointer (some ⟨b,off+k*sz,none⟩)) else none
 | _,_=>none
def part? (p:Value) (n:Nat):Option Value:=match p with | .tuple vs=>vs[n]? | _=>none
def pick? (c x y:Value):Option Value:=match c with | .bool true=>some x | .bool false=>some y | _=>none
def not? (c:Value):Option Value:=match c with | .bool b=>some (.bool (!b)) | _=>none
theorem guardJ {P:Program} (op:BinOp) (t:TypeId) (x y:Operand) (k k':IntKind) (m n:Int) (w:World):(eqGuard op t x y (.int k m) (.int k' n)).run P w=.ok () w:=by
 unfold eqGuard
 cases op<;>simp [Sem.run_bind]
section
variable {P:Program} {ops:Array Oper} {ks:List Kind} {T:List Nat} {a0:Act} {B:Nat} {w0:World} {H:List (Nat × List Value)} {i:Nat} {o:Oper}
structure Obl (P:Program) (ops:Array Oper) (ks:List Kind) (T:List Nat) (a0:Act) (B:Nat) (w0:World) (H:List (Nat × List Value)) (i:Nat) (o:Oper):Prop where
 ob:Ob P ops ks T a0 B w0 H i o
theorem oS (hw:∀ L,wantedR ks L o=false:=by intro _;kernel_rfl) (hk:kd ks i=.det undef):Obl P ops ks T a0 B w0 H i o:=⟨ob_skip hw hk⟩
theorem oM {v:Value} {x:Operand} (hw:∀ L,wantedR ks L o=true:=by intro _;kernel_rfl) (ho:o.op=.move x:=by exact rfl) (hx:∀ L,rd ops ks T a0 L i x=v:=by intro _;kernel_rfl) (hk:kd ks i=.det v):Obl P ops ks T a0 B w0 H i o:=⟨ob_move hw hk ho hx⟩
theorem oA {v:Value} {x:Operand} (hw:∀ L,wantedR ks L o=true:=by intro _;kernel_rfl) (ho:o.op=.assign x:=by exact rfl) (hx:∀ L,rd ops ks T a0 L i x=v:=by intro _;kernel_rfl) (hk:kd ks i=.det v):Obl P ops ks T a0 B w0 H i o:=⟨ob_assign hw hk ho hx⟩
theorem oX {v:Value} {t:Operand} {n:Nat} (hw:∀ L,wantedR ks L o=true:=by intro _;kernel_rfl) (ho:o.op=.extract t n:=by exact rfl) (hx:∀ L,part? (rd ops ks T a0 L i t) n=some v:=by intro _;kernel_rfl) (hk:kd ks i=.det v):Obl P ops ks T a0 B w0 H i o:=⟨ob_pure hw hk fun L w=>by
  have h:=hx L
  unfold execOp
  simp only [ho]
  cases hv:rd ops ks T a0 L i t<;>rw [hv] at h<;>simp only [part?] at h<;>try (cases h;done)
  simp only [Instr.extract,h];rfl⟩
theorem oP {v:Value} {c x y:Operand} (hw:∀ L,wantedR ks L o=true:=by intro _;kernel_rfl) (ho:o.op=.pick c x y:=by exact rfl) (hx:∀ L,pick? (rd ops ks T a0 L i c) (rd ops ks T a0 L i x) (rd ops ks T a0 L i y)=some v:=by intro _;kernel_rfl) (hk:kd ks i=.det v):Obl P ops ks T a0 B w0 H i o:=⟨ob_pure hw hk fun L w=>by
  have h:=hx L
  unfold execOp
  simp only [ho]
  cases hv:rd ops ks T a0 L i c<;>rw [hv] at h<;>simp only [pick?] at h<;>try (cases h;done)
  rename_i b
  cases b<;>simp only [Option.some.injEq] at h<;>simp only [h]<;>rfl⟩
theorem oN {v:Value} {t:TypeId} {x:Operand} (hw:∀ L,wantedR ks L o=true:=by intro _;kernel_rfl) (ho:o.op=.unOp .not t x:=by exact rfl) (hx:∀ L,not? (rd ops ks T a0 L i x)=some v:=by intro _;kernel_rfl) (hk:kd ks i=.det v):Obl P ops ks T a0 B w0 H i o:=⟨ob_pure hw hk fun L w=>by
  have h:=hx L
  unfold execOp
  simp only [ho]
  cases hv:rd ops ks T a0 L i x<;>rw [hv] at h<;>simp only [not?] at h<;>try (cases h;done)
  simp only [Option.some.injEq] at h
  subst h;rfl⟩
theorem oD {v:Value} {t:TypeId} {ps:Array (Nat × Operand)} {qs:Array (Nat × Value)} (h:∀ w,(Instr.build t qs).run P w=.ok v w) (hw:∀ L,wantedR ks L o=true:=by intro _;kernel_rfl) (ho:o.op=.build t ps:=by exact rfl) (hx:∀ L,(ps.map fun p=>(p.1,rd ops ks T a0 L i p.2))=qs:=by intro _;kernel_rfl) (hk:kd ks i=.det v):Obl P ops ks T a0 B w0 H i o:=⟨ob_build hw hk ho hx h⟩
theorem idx_some {p q v:Value} {n sz:Nat} (h:idx p q n sz=some v):∃ b off k,p=.pointer (some ⟨b,off,none⟩)∧q=.int .i64 (Int.ofNat k)∧k<n∧v=.pointer (some ⟨b,off+k*sz,none⟩):=by
 unfold idx at h
 split at h
 ·rename_i b off k
  cases hb:Nat.blt k n with
  | false=>rw [hb] at h;cases h
  | true =>
   rw [hb,if_pos rfl,Option.some.injEq] at h
   exact ⟨b,off,k,rfl,rfl,Eq.mp Nat.blt_eq hb,h.symm⟩
 ·cases h
theorem oI {v:Value} {t:TypeId} {x ix:Operand} {n sz:Nat} (hA:ArrT P t n sz) (hw:∀ L,wantedR ks L o=true:=by intro _;kernel_rfl) (ho:o.op=.indexAddr t x ix:=by exact rfl)
  (hx:∀ L,idx (rd ops ks T a0 L i x) (rd ops ks T a0 L i ix) n sz=some v:=by intro _;kernel_rfl) (hk:kd ks i=.det v):Obl P ops ks T a0 B w0 H i o:=⟨ob_pure hw hk fun L w=>by
  obtain ⟨b,off,k,h1,h2,hkn,rfl⟩:=idx_some (hx L)
  obtain ⟨e,hu,hs⟩:=hA.und
  have hkn':(0:Int)≤(k:Int)∧(k:Int)<(n:Int):=⟨by omega,by omega⟩
  obtain ⟨inf,hinf,hsz⟩:∃ inf,P.info? e=some inf∧inf.size=sz:=by
   cases h:P.info? e with
   | none=>simp [h] at hs
   | some inf=>exact ⟨inf,rfl,by simpa [h] using hs⟩
  unfold execOp
  simp [ho,h1,h2,Instr.indexAt,asIntOf,Sem.run_bind,Go.underlying,hu,Instr.sureAddr,hkn',sizeOf,typeInfo,hinf,hsz,Addr.add_mid]
  intro hh;omega⟩
theorem box_cut {w:World} {b off n:Nat} {cs box:List Value} (h:Box w b box) (hp:(box.drop off).take n=cs):w.rangeAt b off cs:=fun j v hv=>by
 subst hp
 rw [List.getElem?_take] at hv
 split at hv
 ·rw [List.getElem?_drop] at hv
  have:=h.cells (off+j) v hv
  simpa using this
 ·cases hv
theorem oL {t:TypeId} {x:Operand} {cs box Z:List Value} {b n:Nat} (k off:Nat) (hR:RowT P t n Z) (he:early T ks i=true:=by kernel_rfl) (hw:∀ L,wantedR ks L o=true:=by intro _;kernel_rfl) (ho:o.op=.load t x:=by exact rfl)
  (hb:H[k]?=some (b,box):=by exact rfl) (hx:∀ L,rd ops ks T a0 L i x=.pointer (some ⟨b,off,none⟩):=by intro _;kernel_rfl) (hp:(box.drop off).take n=cs:=by kernel_rfl) (hl:cs.length=n:=by kernel_rfl) (hk:kd ks i=.det (.agg cs.toArray)):Obl P ops ks T a0 B w0 H i o:=by
 obtain ⟨d,hu,hd⟩:=hR.und
 exact ⟨ob_load he hw hk ho hx (fun L w hs=>box_cut (seen_at hs hb) hp) hu hd (by rw [hl];exact hR.size)⟩
theorem oG {t:TypeId} {x:Operand} {cs Z:List Value} {b off n:Nat} (hR:RowT P t n Z) (hr:∀ L w,Seen ks T B w0 H L i w→w.rangeAt b off cs) (he:early T ks i=true:=by kernel_rfl) (hw:∀ L,wantedR ks L o=true:=by intro _;kernel_rfl) (ho:o.op=.load t x:=by exact rfl)
  (hx:∀ L,rd ops ks T a0 L i x=.pointer (some ⟨b,off,none⟩):=by intro _;kernel_rfl) (hl:cs.length=n:=by kernel_rfl) (hk:kd ks i=.det (.agg cs.toArray)):Obl P ops ks T a0 B w0 H i o:=by
 obtain ⟨d,hu,hd⟩:=hR.und
 exact ⟨ob_load he hw hk ho hx hr hu hd (by rw [hl];exact hR.size)⟩
theorem oT {t:TypeId} {x y:Operand} {l:Loc} {off n:Nat} {cs new Z:List Value} (hR:RowT P t n Z) (hw:∀ L,wantedR ks L o=true:=by intro _;kernel_rfl) (ho:o.op=.store t x y:=by exact rfl)
  (hx:∀ L,rd ops ks T a0 L i x=.pointer (some ⟨addr H L l,off,none⟩):=by intro _;kernel_rfl) (hy:∀ L,rd ops ks T a0 L i y=.agg cs.toArray:=by intro _;kernel_rfl) (hl:cs.length=n:=by kernel_rfl) (h1:cs.all (fun v=>v.oneCell')=true:=by kernel_rfl)
  (hle:Nat.ble (off+cs.length) (oldOf ks H l).length=true:=by kernel_rfl) (hsp:new=splice (oldOf ks H l) off cs:=by kernel_rfl) (hk:kd ks i=.store l off cs new):Obl P ops ks T a0 B w0 H i o:=⟨ob_store hw hk ho hx hy rfl (by rw [hl];exact hR.size) (fun v hv=>List.all_eq_true.1 h1 v hv) (Nat.le_of_ble_eq_true hle) hsp⟩
theorem oB {t:TypeId} {cs:List Value} {x:Operand} (hw:∀ L,wantedR ks L o=true:=by intro _;kernel_rfl) (ho:o.op=.box t x:=by exact rfl) (hx:∀ L,(rd ops ks T a0 L i x).cells=cs.toArray:=by intro _;kernel_rfl) (hk:kd ks i=.alloc cs) (hy:∀ b,yields cs b=.pointer (some ⟨b,0,none⟩):=by intro _;kernel_rfl):Obl P ops ks T a0 B w0 H i o:=⟨fun L w hs=>by
 rw [if_pos (hw L),hk]
 refine ⟨t,?_⟩
 rw [hy]
 unfold execOp
 simp [ho,Instr.box,Sem.run_bind,run_newVar,hx L]⟩
theorem oZ {t:TypeId} {n:Nat} {cs Z:List Value} (hR:RowT P t n Z) (hw:∀ L,wantedR ks L o=true:=by intro _;kernel_rfl) (ho:o.op=.alloc t:=by exact rfl) (hz:Z=cs:=by kernel_rfl) (hk:kd ks i=.alloc cs) (hy:∀ b,yields cs b=.pointer (some ⟨b,0,none⟩):=by intro _;kernel_rfl):Obl P ops ks T a0 B w0 H i o:=⟨ob_alloc hw hk ho hR.zero (by rw [hz];rfl) hy⟩
theorem oC {v:Value} {f:FuncId} {xs:Array Operand} {ts:Array TypeId} {vs:Array Value} {G:World→Prop} (st:∀ {w x:World},G w→Below w.heap.size w x→G x) (hg:G w0) (h:∀ w,G w→Calls P f vs w fun e w'=>e=.returned v∧Below w.heap.size w w')
  (hf:plainF P f=true:=by kernel_rfl) (he:early T ks i=true:=by kernel_rfl) (hw:∀ L,wantedR ks L o=true:=by intro _;kernel_rfl) (ho:o.op=.call { callee:=.value (.func f),args:=xs,argTypes:=ts }:=by exact rfl)
  (hx:∀ L,xs.map (rd ops ks T a0 L i)=vs:=by intro _;kernel_rfl) (hk:kd ks i=.det v):Obl P ops ks T a0 w0.heap.size w0 H i o:=⟨ob_call hf he hw hk ho hx fun w hb _=>h w (st hg hb)⟩
theorem oR {v:Value} {f:FuncId} {xs:Array Operand} {ts:Array TypeId} {vs:Array Value} (h:∀ w,Calls P f vs w fun e w'=>e=.returned v∧Below w.heap.size w w')
  (hf:plainF P f=true:=by kernel_rfl) (he:early T ks i=true:=by kernel_rfl) (hw:∀ L,wantedR ks L o=true:=by intro _;kernel_rfl) (ho:o.op=.call { callee:=.value (.func f),args:=xs,argTypes:=ts }:=by exact rfl)
  (hx:∀ L,xs.map (rd ops ks T a0 L i)=vs:=by intro _;kernel_rfl) (hk:kd ks i=.det v):Obl P ops ks T a0 B w0 H i o:=⟨ob_call hf he hw hk ho hx fun w _ _=>h w⟩
theorem oH {v:Value} {f:FuncId} {xs:Array Operand} {ts:Array TypeId} {vs:Array Value} (h:∀ w,Below B w0 w→B≤w.heap.size→Calls P f vs w fun e w'=>e=.returned v∧Below w.heap.size w w')
  (hf:plainF P f=true:=by kernel_rfl) (he:early T ks i=true:=by kernel_rfl) (hw:∀ L,wantedR ks L o=true:=by intro _;kernel_rfl) (ho:o.op=.call { callee:=.value (.func f),args:=xs,argTypes:=ts }:=by exact rfl)
  (hx:∀ L,xs.map (rd ops ks T a0 L i)=vs:=by intro _;kernel_rfl) (hk:kd ks i=.det v):Obl P ops ks T a0 B w0 H i o:=⟨ob_call hf he hw hk ho hx h⟩
theorem oCS {v:Value} {f:FuncId} {xs:Array Operand} {ts:Array TypeId} (vs:Lt→Array Value) (h:∀ L w,Seen ks T B w0 H L i w→Calls P f (vs L) w fun e w'=>e=.returned v∧Below w.heap.size w w')
  (hf:plainF P f=true:=by kernel_rfl) (he:early T ks i=true:=by kernel_rfl) (hw:∀ L,wantedR ks L o=true:=by intro _;kernel_rfl) (ho:o.op=.call { callee:=.value (.func f),args:=xs,argTypes:=ts }:=by exact rfl)
  (hx:∀ L,xs.map (rd ops ks T a0 L i)=vs L:=by intro _;kernel_rfl) (hk:kd ks i=.det v):Obl P ops ks T a0 B w0 H i o:=⟨ob_callS hf he hw hk ho hx h⟩
theorem oY {C:Value→World→Prop} {f:FuncId} {xs:Array Operand} {ts:Array TypeId} (vs:Lt→Array Value) (hC:∀ v w x,C v w→Below w.heap.size w x→C v x) (h:∀ L w,Seen ks T B w0 H L i w→Calls P f (vs L) w fun e w'=>∃ v,e=.returned v∧C v w'∧Below w.heap.size w w')
  (hf:plainF P f=true:=by kernel_rfl) (he:early T ks i=true:=by kernel_rfl) (hw:∀ L,wantedR ks L o=true:=by intro _;kernel_rfl) (ho:o.op=.call { callee:=.value (.func f),args:=xs,argTypes:=ts }:=by exact rfl)
  (hx:∀ L,xs.map (rd ops ks T a0 L i)=vs L:=by intro _;kernel_rfl) (hk:kd ks i=.any C):Obl P ops ks T a0 B w0 H i o:=⟨ob_any hf he hw hk ho hx hC h⟩
theorem oW {op:BinOp} {t t':TypeId} {x y:Operand} {u v r:Value} (hg:∀ w,(eqGuard op t x y u v).run P w=.ok () w) (h:∀ w,(binOp op t u v).run P w=.ok r w) (hw:∀ L,wantedR ks L o=true:=by intro _;kernel_rfl) (ho:o.op=.binOp op t x y t':=by exact rfl)
  (hx:∀ L,rd ops ks T a0 L i x=u:=by intro _;kernel_rfl) (hy:∀ L,rd ops ks T a0 L i y=v:=by intro _;kernel_rfl) (hk:kd ks i=.det r):Obl P ops ks T a0 B w0 H i o:=⟨ob_bin hw hk ho hx hy hg h⟩
theorem oE {α:Type} [DecidableEq α] {V:α→Value} {t t':TypeId} {x y:Operand} {a b:α} {r:Bool} (hE:EqT P t V) (h:decide (a=b)=r) (hw:∀ L,wantedR ks L o=true:=by intro _;kernel_rfl) (ho:o.op=.binOp .eql t x y t':=by exact rfl)
  (hx:∀ L,rd ops ks T a0 L i x=V a:=by intro _;kernel_rfl) (hy:∀ L,rd ops ks T a0 L i y=V b:=by intro _;kernel_rfl) (hk:kd ks i=.det (.bool r)):Obl P ops ks T a0 B w0 H i o:=⟨ob_eq hw hk ho hx hy (fun w=>hE.grd _ _ _ _ _ w) (fun w=>by rw [hE.eql,h])⟩
theorem oU {α:Type} [DecidableEq α] {V:α→Value} {t t':TypeId} {x y:Operand} {a b:α} {r:Bool} (hE:EqT P t V) (h:(!decide (a=b))=r) (hw:∀ L,wantedR ks L o=true:=by intro _;kernel_rfl) (ho:o.op=.binOp .neq t x y t':=by exact rfl)
  (hx:∀ L,rd ops ks T a0 L i x=V a:=by intro _;kernel_rfl) (hy:∀ L,rd ops ks T a0 L i y=V b:=by intro _;kernel_rfl) (hk:kd ks i=.det (.bool r)):Obl P ops ks T a0 B w0 H i o:=⟨ob_ne hw hk ho hx hy (fun w=>hE.grd _ _ _ _ _ w) (fun w=>by rw [hE.neq,h])⟩
theorem yes {α:Type} [DecidableEq α] {a b:α} (h:a=b):decide (a=b)=true:=decide_eq_true h
theorem nay {α:Type} [DecidableEq α] {a b:α} (h:a≠b):decide (a=b)=false:=decide_eq_false h
theorem yes' {α:Type} [DecidableEq α] {a b:α} (h:a≠b):(!decide (a=b))=true:=by rw [decide_eq_false h];rfl
theorem nay' {α:Type} [DecidableEq α] {a b:α} (h:a=b):(!decide (a=b))=false:=by rw [decide_eq_true h];rfl
theorem oJ {op:BinOp} {t t':TypeId} {x y:Operand} {r:Value} (k k':IntKind) (m n:Int) (hw:∀ L,wantedR ks L o=true:=by intro _;kernel_rfl) (ho:o.op=.binOp op t x y t':=by exact rfl)
  (hx:∀ L,rd ops ks T a0 L i x=.int k m:=by intro _;kernel_rfl) (hy:∀ L,rd ops ks T a0 L i y=.int k' n:=by intro _;kernel_rfl) (h:∀ w,(binOp op t (.int k m) (.int k' n)).run P w=.ok r w:=by intro _;rfl) (hk:kd ks i=.det r):Obl P ops ks T a0 B w0 H i o:=⟨ob_bin hw hk ho hx hy (fun w=>guardJ _ _ _ _ _ _ _ _ w) h⟩
def AllOb2 (P:Program) (ops:Array Oper) (ks:List Kind) (T:List Nat) (a0:Act) (B:Nat) (w0:World) (H:List (Nat × List Value)):List Nat→List Oper→List Kind→Prop
 | _,[],_=>True
 | i :: n,o :: r,k :: s=>(kd ks i=k→Obl P ops ks T a0 B w0 H i o)∧AllOb2 P ops ks T a0 B w0 H n r s
 | _,_,_=>False
theorem AllOb2.to:∀ (l:List Oper) (n:Nat) (N:List Nat) (K:List Kind),N=List.range' n l.length→(∀ j,j<l.length→K.getD j (.det undef)=kd ks (n+j))→AllOb2 P ops ks T a0 B w0 H N l K→AllOb P ops ks T a0 B w0 H n l
 | [],_,_,_,_,_,_=>trivial
 | o :: r,n,N,K,hN,hK,h=>by
  rw [List.length_cons,List.range'_succ] at hN
  subst hN
  cases K with
  | nil=>exact h.elim
  | cons k s =>
   refine ⟨(h.1 ((hK 0 (by simp)).symm)).ob,AllOb2.to r (n+1) _ s rfl (fun j hj=>?_) h.2⟩
   have:=hK (j+1) (by simp;omega)
   rw [show n+1+j=n+(j+1) by omega,← this]
   rfl
theorem dr {id nt:Nat} {W0:World} {Q:Exit→Act→World→Prop} (ks:List Kind) (N T:List Nat) (A:Lt→List Value) (H':Lt→List (Nat × List Value)) (hHp:Heap B w0 W0 H) (hob:AllOb2 P ops ks T a0 B w0 H N ops.toList ks)
  (hQ:∀ L w,Heap B w0 w (H' L)→Q .normal { tmps:=(A L).toArray,defers:=[] } w) (hm:P.follows .mixedOrders=true:=by kernel_rfl) (hnt:nt=a0.tmps.size:=by exact rfl) (hc:chk ops ks T nt H.length=true:=by kernel_rfl) (hdf:a0.defers=[]:=by exact rfl)
  (hA:∀ L,(List.range nt).map (slotF ops ks a0 L)=A L:=by intro _;kernel_rfl) (hF:∀ L,heapF ks H L=H' L:=by intro _;kernel_rfl) (hN:N=List.range' 0 ops.toList.length:=by kernel_rfl) :
  (Code.region id ops true).wp P Q a0 W0:=draws hm hc hnt rfl hdf hA hF hHp (AllOb2.to _ 0 N ks hN (fun j _=>by rw [Nat.zero_add];rfl) hob) hQ
theorem gs {id nt:Nat} {W0:World} {Q:Exit→Act→World→Prop} (ks:List Kind) (N T:List Nat) (A:Lt→List Value) (H':Lt→List (Nat × List Value)) (hHp:Heap B w0 W0 H) (hob:AllOb2 P ops ks T a0 B w0 H N ops.toList ks)
  (hQ:∀ L w,Heap B w0 w (H' L)→Q .normal { tmps:=(A L).toArray,defers:=[] } w) (hnt:nt=a0.tmps.size:=by exact rfl) (hc:chk ops ks T nt H.length=true:=by kernel_rfl) (hdf:a0.defers=[]:=by exact rfl)
  (hA:∀ L,(List.range nt).map (slotF ops ks a0 L)=A L:=by intro _;kernel_rfl) (hF:∀ L,heapF ks H L=H' L:=by intro _;kernel_rfl) (hN:N=List.range' 0 ops.toList.length:=by kernel_rfl) :
  (Code.region id ops false).wp P Q a0 W0:=goes hc hnt rfl hdf hA hF hHp (AllOb2.to _ 0 N ks hN (fun j _=>by rw [Nat.zero_add];rfl) hob) hQ
theorem drD {id nt:Nat} {W0:World} {Q:Exit→Act→World→Prop} (ks:List Kind) (N T:List Nat) (A:Lt→(Nat→Value)→List Value) (H':Lt→List (Nat × List Value)) (hHp:Heap B w0 W0 H) (hob:AllOb2 P ops ks T a0 B w0 H N ops.toList ks)
  (hQ:∀ L d w,Heap B w0 w (H' L)→Q .normal { tmps:=(A L d).toArray,defers:=[] } w) (hm:P.follows .mixedOrders=true:=by kernel_rfl) (hnt:nt=a0.tmps.size:=by exact rfl) (hc:chk ops ks T nt H.length=true:=by kernel_rfl) (hdf:a0.defers=[]:=by exact rfl)
  (hA:∀ L,(List.range nt).map (slotF ops ks a0 L)=A L (slotF ops ks a0 L):=by intro _;kernel_rfl) (hF:∀ L,heapF ks H L=H' L:=by intro _;kernel_rfl) (hN:N=List.range' 0 ops.toList.length:=by kernel_rfl) :
  (Code.region id ops true).wp P Q a0 W0:=dr ks N T (fun L=>A L (slotF ops ks a0 L)) H' hHp hob (fun L w h=>hQ L _ w h) hm hnt hc hdf hA hF hN
theorem gsD {id nt:Nat} {W0:World} {Q:Exit→Act→World→Prop} (ks:List Kind) (N T:List Nat) (A:Lt→(Nat→Value)→List Value) (H':Lt→List (Nat × List Value)) (hHp:Heap B w0 W0 H) (hob:AllOb2 P ops ks T a0 B w0 H N ops.toList ks)
  (hQ:∀ L d w,Heap B w0 w (H' L)→Q .normal { tmps:=(A L d).toArray,defers:=[] } w) (hnt:nt=a0.tmps.size:=by exact rfl) (hc:chk ops ks T nt H.length=true:=by kernel_rfl) (hdf:a0.defers=[]:=by exact rfl)
  (hA:∀ L,(List.range nt).map (slotF ops ks a0 L)=A L (slotF ops ks a0 L):=by intro _;kernel_rfl) (hF:∀ L,heapF ks H L=H' L:=by intro _;kernel_rfl) (hN:N=List.range' 0 ops.toList.length:=by kernel_rfl) :
  (Code.region id ops false).wp P Q a0 W0:=gs ks N T (fun L=>A L (slotF ops ks a0 L)) H' hHp hob (fun L w h=>hQ L _ w h) hnt hc hdf hA hF hN
theorem cond_t {Q:Exit→Act→World→Prop} {a:Act} {w:World} {c:Operand} {x y:Code} {b:Bool} (hb:b=true) (h:x.wp P Q a w) (hc:a.eval c=.bool b:=by kernel_rfl):(Code.cond c x y).wp P Q a w:=wp_cond_true (hc.trans (by rw [hb])) h
theorem cond_f {Q:Exit→Act→World→Prop} {a:Act} {w:World} {c:Operand} {x y:Code} {b:Bool} (hb:b=false) (h:y.wp P Q a w) (hc:a.eval c=.bool b:=by kernel_rfl):(Code.cond c x y).wp P Q a w:=wp_cond_false (hc.trans (by rw [hb])) h
theorem of_not_t {p:Prop} [Decidable p] (h:(!decide p)=true):¬p:=fun e=>by rw [decide_eq_true e] at h;cases h
theorem of_not_f {p:Prop} [Decidable p] (h:(!decide p)=false):p:=Classical.byContradiction fun e=>by rw [decide_eq_false e] at h;cases h
theorem rc {fn:Func} {t b n:Nat} {ty:TypeId} {tmps:Array Value} {cs Z:List Value} {w:World} (hR:RowT P ty n Z) (hr:fn.results=#[.cell t ty]) (ht:tmps.getD t undef=.pointer (some ⟨b,0,none⟩)) (hb:Box w b cs) (hl:cs.length=n:=by kernel_rfl):(results fn tmps).run P w=.ok (.agg cs.toArray) w:=by
 obtain ⟨d,hu,hd⟩:=hR.und
 exact res_c hr ht hb hu hd (by rw [hl];exact hR.size)
theorem rct {fn:Func} {t b t' n:Nat} {ty:TypeId} {tmps:Array Value} {cs Z:List Value} {v:Value} {w:World} (hR:RowT P ty n Z) (hr:fn.results=#[.cell t ty,.tmp t']) (ht:tmps.getD t undef=.pointer (some ⟨b,0,none⟩)) (ht':tmps.getD t' undef=v) (hb:Box w b cs) (hl:cs.length=n:=by kernel_rfl):(results fn tmps).run P w=.ok (.tuple #[.agg cs.toArray,v]) w:=by
 obtain ⟨d,hu,hd⟩:=hR.und
 exact res_ct hr ht ht' hb hu hd (by rw [hl];exact hR.size)
end
end Go.Proofs.YthnfgmhehfombaaGreatDoor.Pl
/- A part of an array's value, and what is known of one operation of it. No program is named here. -/
namespace Go.Proofs.YthnfgmhehfombaaGreatDoor.Pl
open Go Go.RowKit
structure ArrV (P:Program) (t:TypeId) (n sz:Nat):Prop where
 und:∃ e,P.underlying t=some (.array n e)∧(∀ w,(isAgg e).run P w=.ok true w)∧(∀ w,(sizeOf e).run P w=.ok sz w)
section
variable {P:Program} {ops:Array Oper} {ks:List Kind} {T:List Nat} {a0:Act} {B:Nat} {w0:World} {H:List (Nat × List Value)} {i:Nat} {o:Oper}
theorem index_part {t:TypeId} {n sz:Nat} {cs ds:List Value} (hA:ArrV P t n sz) (k:Nat) (hkn:k<n) (hp:(cs.drop (k*sz)).take sz=ds) (w:World) :
  (Instr.index t (.agg cs.toArray) (.int .i64 (k:Int))).run P w=.ok (.agg ds.toArray) w:=by
 obtain ⟨e,hu,ha,hs⟩:=hA.und
 have hkn':(0:Int)≤(k:Int)∧(k:Int)<(n:Int):=⟨by omega,by omega⟩
 simp [Instr.index,asIntOf,Sem.run_bind,run_underlying hu,hkn',part,ha,hs,hkn]
 rw [hp]
theorem oV {t:TypeId} {x ix:Operand} {n sz:Nat} {cs ds:List Value} (k:Nat) (hA:ArrV P t n sz) (hw:∀ L,wantedR ks L o=true:=by intro _;kernel_rfl) (ho:o.op=.index t x ix:=by exact rfl)
  (hx:∀ L,rd ops ks T a0 L i x=.agg cs.toArray:=by intro _;kernel_rfl) (hi:∀ L,rd ops ks T a0 L i ix=.int .i64 (k:Int):=by intro _;kernel_rfl) (hkn:Nat.blt k n=true:=by kernel_rfl) (hp:(cs.drop (k*sz)).take sz=ds:=by kernel_rfl) (hk:kd ks i=.det (.agg ds.toArray)):Obl P ops ks T a0 B w0 H i o:=⟨ob_pure hw hk fun L w=>by
  unfold execOp
  simp only [ho,hx L,hi L,Sem.run_bind,index_part hA k (Eq.mp Nat.blt_eq hkn) hp w]
  rfl⟩
end
end Go.Proofs.YthnfgmhehfombaaGreatDoor.Pl
/- New slices, letters that are kept, in a plan. No program is named here. -/
namespace Go.Proofs.YthnfgmhehfombaaGreatDoor.Pl
open Go Go.RowKit
section
variable {P:Program} {ops:Array Oper} {ks:List Kind} {T:List Nat} {a0:Act} {B:Nat} {w0 W0:World} {H:List (Nat × List Value)} {i:Nat} {o:Oper}
def isOne (x:Int) (v:Value) (w:World):Prop:=∃ k:Nat,v=.slice (some ⟨k,0,none⟩) 1 1∧AtK .u64 w (some ⟨k,0,none⟩) 1 (fun _=>x)
theorem isOne.stay {x:Int} {v:Value} {w y:World} (h:isOne x v w) (hb:Below w.heap.size w y):isOne x v y:=by
 obtain ⟨k,e,h⟩:=h
 exact ⟨k,e,AtK.below h hb⟩
theorem run_one {t e:TypeId} {x:Int} (hu:P.underlying t=some (.slice e)) (hs:(P.info? e).map (·.size)=some 1) (hz:(P.info? e).bind (·.zero)=some (.int .u64 0)) (w:World) :
  (Instr.buildSlice t 1 #[(0,.int .u64 x)]).run P w=.ok (.slice (some ⟨w.heap.size,0,none⟩) 1 1) (w.alloc (.cells #[.int .u64 x] e)):=by
 cases hi:P.info? e with
 | none=>simp [hi] at hs
 | some ie =>
  simp [hi] at hs hz
  exact run_buildSlice w t e 1 _ _ ie _ hu hi hz (by rw [hs];decide) (by rw [hs];decide) (by rw [hs];kernel_rfl)
theorem oS1 {t e:TypeId} {x:Operand} {n:Int} (hu:P.underlying t=some (.slice e)) (hs:(P.info? e).map (·.size)=some 1) (hz:(P.info? e).bind (·.zero)=some (.int .u64 0)) (hw:∀ L,wantedR ks L o=true:=by intro _;kernel_rfl) (ho:o.op=.buildSlice t 1 #[(0,x)]:=by exact rfl)
  (hx:∀ L,rd ops ks T a0 L i x=.int .u64 n:=by intro _;kernel_rfl) (hk:kd ks i=.any (isOne n)):Obl P ops ks T a0 B w0 H i o:=⟨fun L w hsn=>by
 rw [if_pos (hw L),hk]
 refine ⟨fun v w x h hb=>h.stay hb,?_⟩
 have:(execOp (rd ops ks T a0 L i) o).run P w=.ok (.value (.slice (some ⟨w.heap.size,0,none⟩) 1 1)) (w.alloc (.cells #[.int .u64 n] e)):=by
  unfold execOp
  have h1:(#[((0:Nat),x)].map fun p=>(p.1,rd ops ks T a0 L i p.2))=#[(0,.int .u64 n)]:=by simp [hx L]
  simp only [ho,h1,Sem.run_bind,run_one hu hs hz]
  rfl
 rw [this]
 refine ⟨⟨w.heap.size,rfl,fun _=>⟨w.heap.size,0,rfl,fun j hj=>?_⟩⟩,(Below.refl _ _).alloc (Nat.le_refl _) _⟩
 obtain rfl:j=0:=by omega
 exact (Box.new w [.int .u64 n] e).cells 0 _ rfl⟩
theorem AnyF.at {ks:List Kind} {L:Lt} {w:World} {j:Nat} {C:Value→World→Prop}:∀ {l:List Nat},AnyF ks L w l→l.contains j=true→kd ks j=.any C→C (L.v j) w
 | [],_,h,_=>by simp at h
 | k :: r,ha,h,hk=>by
  unfold AnyF at ha
  by_cases e:j=k
  ·subst e
   rw [hk] at ha
   exact ha.1
  ·have h':r.contains j=true:=by simpa [e] using h
   split at ha
   ·exact AnyF.at ha.2 h' hk
   ·exact AnyF.at ha h' hk
theorem add64 (t:TypeId) (m n:Nat) (h:m+n<18446744073709551616) (w:World):(binOp .add t (.int .u64 (m:Int)) (.int .u64 (n:Int))).run P w=.ok (.int .u64 ((m+n:Nat):Int)) w:=by
 have e:IntKind.u64.wrap ((m:Int)+(n:Int))=((m+n:Nat):Int):=by unfold IntKind.wrap;simp [IntKind.bits,IntKind.signed];omega
 simp only [binOp,Op.intArith,e];simp [Sem.run_bind,e]
end
end Go.Proofs.YthnfgmhehfombaaGreatDoor.Pl
/- Fields, single cells, slices, new rows, in a plan. No program is named here. -/
namespace Go.Proofs.YthnfgmhehfombaaGreatDoor.Pl
open Go Go.RowKit
section
variable {P:Program} {ops:Array Oper} {ks:List Kind} {T:List Nat} {a0:Act} {B:Nat} {w0 W0:World} {H:List (Nat × List Value)} {i:Nat} {o:Oper}
theorem size_of {e:TypeId} {sz:Nat} (hs:(P.info? e).map (·.size)=some sz) (w:World):(sizeOf e).run P w=.ok sz w:=by
 cases h:P.info? e with
 | none=>simp [h] at hs
 | some inf =>
  have:inf.size=sz:=by simpa [h] using hs
  simp [sizeOf,typeInfo,Sem.run_bind,h,this]
structure FldT (P:Program) (t:TypeId) (k off n:Nat):Prop where
 und:∃ fs f,P.underlying t=some (.struct fs)∧fs[k]?=some f∧f.offset=off∧(P.info? f.type).map (·.size)=some (n+1)
def fld? (p:Value) (off:Nat):Option Value:=match p with | .pointer (some ⟨b,o,none⟩)=>some (.pointer (some ⟨b,o+off,none⟩)) | _=>none
theorem fld_some {p v:Value} {off:Nat} (h:fld? p off=some v):∃ b o,p=.pointer (some ⟨b,o,none⟩)∧v=.pointer (some ⟨b,o+off,none⟩):=by
 unfold fld? at h
 split at h
 ·rename_i b o
  exact ⟨b,o,rfl,(Option.some.inj h).symm⟩
 ·cases h
theorem oF {v:Value} {t:TypeId} {x:Operand} {k off n:Nat} (hF:FldT P t k off n) (hw:∀ L,wantedR ks L o=true:=by intro _;kernel_rfl) (ho:o.op=.fieldAddr t x k:=by exact rfl)
  (hx:∀ L,fld? (rd ops ks T a0 L i x) off=some v:=by intro _;kernel_rfl) (hk:kd ks i=.det v):Obl P ops ks T a0 B w0 H i o:=⟨ob_pure hw hk fun L w=>by
  obtain ⟨b,o',h1,rfl⟩:=fld_some (hx L)
  obtain ⟨fs,f,hu,hf,rfl,hs⟩:=hF.und
  unfold execOp
  simp [ho,h1,Instr.fieldAt,Sem.run_bind,run_underlying hu,hf,Instr.sureAddr,fieldPlace,size_of hs,Addr.add_mid]⟩
theorem oFv {v:Value} {t:TypeId} {x:Operand} {k off n:Nat} {cs:List Value} (hF:FldT P t k off 0) (ha:∀ fs f,P.underlying t=some (.struct fs)→fs[k]?=some f→∀ w,(isAgg f.type).run P w=.ok false w) (hw:∀ L,wantedR ks L o=true:=by intro _;kernel_rfl) (ho:o.op=.field t x k:=by exact rfl)
  (hx:∀ L,rd ops ks T a0 L i x=.agg cs.toArray:=by intro _;kernel_rfl) (hv:cs[off]?=some v:=by kernel_rfl) (hk:kd ks i=.det v):Obl P ops ks T a0 B w0 H i o:=⟨ob_pure hw hk fun L w=>by
  obtain ⟨fs,f,hu,hf,rfl,hs⟩:=hF.und
  unfold execOp
  simp [ho,hx L,Instr.field,Sem.run_bind,run_underlying hu,hf,asAgg,part,ha fs f hu hf,hv]⟩
structure OneT (P:Program) (t:TypeId):Prop where
 agg:∀ w,(isAgg t).run P w=.ok false w
 size:(P.info? t).map (·.size)=some 1
theorem run_load1 {t:TypeId} (hO:OneT P t) {w:World} {b off:Nat} {v:Value} (hc:w.cell? ⟨b,off,none⟩=some v):(Instr.loadAt t (.pointer (some ⟨b,off,none⟩))).run P w=.ok v w:=by
 simp [Instr.loadAt,Instr.sureAddr,loadVar,Sem.run_bind,hO.agg w,hc]
theorem oL1 {t:TypeId} {x:Operand} {v:Value} {box:List Value} {b:Nat} (k off:Nat) (hO:OneT P t) (he:early T ks i=true:=by kernel_rfl) (hw:∀ L,wantedR ks L o=true:=by intro _;kernel_rfl) (ho:o.op=.load t x:=by exact rfl)
  (hb:H[k]?=some (b,box):=by exact rfl) (hx:∀ L,rd ops ks T a0 L i x=.pointer (some ⟨b,off,none⟩):=by intro _;kernel_rfl) (hv:box[off]?=some v:=by kernel_rfl) (hk:kd ks i=.det v):Obl P ops ks T a0 B w0 H i o:=⟨ob_det hw hk fun L w hs=>by
  have hc:=(seen_at (hs he) hb).cells off v hv
  rw [Nat.zero_add] at hc
  have:(execOp (rd ops ks T a0 L i) o).run P w=.ok (.value v) w:=by
   unfold execOp
   simp only [ho,hx L,Sem.run_bind,run_load1 hO hc]
   rfl
  rw [this]
  exact ⟨rfl,Below.refl _ _⟩⟩
theorem range_up {w x:World} {b off:Nat} {c:Value} {cs:List Value} (h:w.rangeAt b off (c :: cs)) (k:Below w.heap.size w x):x.rangeAt b off (c :: cs):=by
 have hlt:b<w.heap.size:=by
  have h0:=h 0 c rfl
  unfold World.cell? at h0
  cases hb:w.heap[b]? with
  | none=>simp [hb] at h0
  | some o=>exact (Array.getElem?_eq_some_iff.1 hb).1
 intro j v hv
 have:=h j v hv
 rwa [World.cell?_of_block (w:=w) (a:=⟨b,off+j,none⟩) (k.block b hlt)]
theorem oLW {t:TypeId} {x:Operand} {cs Z:List Value} {n:Nat} (hR:RowT P t n Z) (hr:∀ L w,Seen ks T B w0 H L i w→∃ b off,rd ops ks T a0 L i x=.pointer (some ⟨b,off,none⟩)∧w.rangeAt b off cs) (he:early T ks i=true:=by kernel_rfl) (hw:∀ L,wantedR ks L o=true:=by intro _;kernel_rfl) (ho:o.op=.load t x:=by exact rfl)
  (hl:cs.length=n:=by kernel_rfl) (hk:kd ks i=.det (.agg cs.toArray)):Obl P ops ks T a0 B w0 H i o:=⟨ob_det hw hk fun L w hs=>by
  obtain ⟨d,hu,hd⟩:=hR.und
  obtain ⟨b,off,hx,hc⟩:=hr L w (hs he)
  have:(execOp (rd ops ks T a0 L i) o).run P w=.ok (.value (.agg cs.toArray)) w:=by
   unfold execOp
   simp only [ho,hx,Sem.run_bind,run_loadAt_mid w b off t cs d hc hu hd (by rw [hl];exact hR.size)]
   rfl
  rw [this]
  exact ⟨rfl,Below.refl _ _⟩⟩
theorem oIS {t e:TypeId} {x ix:Operand} {b off n c sz:Nat} (k:Nat) (hu:P.underlying t=some (.slice e)) (hs:(P.info? e).map (·.size)=some sz) (hkn:k<n) (hw:∀ L,wantedR ks L o=true:=by intro _;kernel_rfl) (ho:o.op=.indexAddr t x ix:=by exact rfl)
  (hx:∀ L,rd ops ks T a0 L i x=.slice (some ⟨b,off,none⟩) n c:=by intro _;kernel_rfl) (hi:∀ L,rd ops ks T a0 L i ix=.int .i64 (k:Int):=by intro _;kernel_rfl) (hk:kd ks i=.det (.pointer (some ⟨b,off+k*sz,none⟩))):Obl P ops ks T a0 B w0 H i o:=⟨ob_pure hw hk fun L w=>by
  have hkn':(0:Int)≤(k:Int)∧(k:Int)<(n:Int):=⟨by omega,by omega⟩
  unfold execOp
  simp [ho,hx L,hi L,Instr.indexAt,asIntOf,Sem.run_bind,run_underlying hu,hkn',hkn,size_of hs,Addr.add_mid]⟩
theorem oSA {t e:TypeId} {x:Operand} {b n sz:Nat} (hu:P.underlying t=some (.array n e)) (hs:(P.info? e).map (·.size)=some sz) (hn:n≠0) (hw:∀ L,wantedR ks L o=true:=by intro _;kernel_rfl) (ho:o.op=.slice t x none none none:=by exact rfl)
  (hx:∀ L,rd ops ks T a0 L i x=.pointer (some ⟨b,0,none⟩):=by intro _;kernel_rfl) (hk:kd ks i=.det (.slice (some ⟨b,0,none⟩) n n)):Obl P ops ks T a0 B w0 H i o:=⟨ob_pure hw hk fun L w=>by
  unfold execOp
  simp [ho,hx L,Instr.sliceAt,Instr.sliceBounds,Sem.run_bind,run_underlying hu,Instr.sureAddr,size_of hs,hn,Addr.add_mid]⟩
def isRow1 (cs:List Value) (v:Value) (w:World):Prop:=∃ k:Nat,v=.slice (some ⟨k,0,none⟩) 1 1∧w.rangeAt k 0 cs
theorem run_row1 {t e:TypeId} {cs:List Value} {sz:Nat} {Z:List Value} (hu:P.underlying t=some (.slice e)) (hR:RowT P e sz Z) (hsz:sz≠0) (h24:sz≤1000) (hl:cs.length=sz) (hZ:Z.length=sz) (w:World) :
  (Instr.buildSlice t 1 #[(0,.agg cs.toArray)]).run P w=.ok (.slice (some ⟨w.heap.size,0,none⟩) 1 1) (w.alloc (.cells cs.toArray e)):=by
 have hs:=hR.size
 have hz:=hR.zero
 cases hi:P.info? e with
 | none=>simp [hi] at hs
 | some ie =>
  simp [hi] at hs hz
  refine run_buildSlice w t e 1 _ _ ie _ hu hi hz (by rw [hs];omega) (by rw [hs];omega) ?_
  have hc:(Value.agg Z.toArray).cells=Z.toArray:=rfl
  rw [hs,hc,Nat.one_mul]
  have e1:((Array.range sz).map fun j=>Z.toArray[j%Z.toArray.size]!)=Z.toArray:=by
   apply Array.ext
   ·simp [hZ]
   ·intro j h1 h2
    have hj:j<sz:=by simpa using h1
    have hj':j<Z.length:=by omega
    simp [hZ,Nat.mod_eq_of_lt hj,List.getElem?_eq_getElem hj']
  rw [e1,fill_cons (off:=0) (sz:=sz) (by simp) hl (by omega)]
  have:splice Z 0 cs=cs:=splice_all (by omega)
  rw [this];rfl
theorem oS2 {t e:TypeId} {x:Operand} {cs Z:List Value} {sz:Nat} {c:Value} {r:List Value} (hu:P.underlying t=some (.slice e)) (hR:RowT P e sz Z) (hcr:cs=c :: r:=by exact rfl) (hsz:sz≠0:=by decide) (h24:sz≤1000:=by decide) (hl:cs.length=sz:=by kernel_rfl) (hZ:Z.length=sz:=by kernel_rfl) (hw:∀ L,wantedR ks L o=true:=by intro _;kernel_rfl) (ho:o.op=.buildSlice t 1 #[(0,x)]:=by exact rfl)
  (hx:∀ L,rd ops ks T a0 L i x=.agg cs.toArray:=by intro _;kernel_rfl) (hk:kd ks i=.any (isRow1 cs)):Obl P ops ks T a0 B w0 H i o:=⟨fun L w hsn=>by
 rw [if_pos (hw L),hk]
 refine ⟨fun v w x h hb=>?_,?_⟩
 ·obtain ⟨k,e,h⟩:=h
  subst hcr
  exact ⟨k,e,range_up h hb⟩
 have:(execOp (rd ops ks T a0 L i) o).run P w=.ok (.value (.slice (some ⟨w.heap.size,0,none⟩) 1 1)) (w.alloc (.cells cs.toArray e)):=by
  unfold execOp
  have h1:(#[((0:Nat),x)].map fun p=>(p.1,rd ops ks T a0 L i p.2))=#[(0,.agg cs.toArray)]:=by simp [hx L]
  simp only [ho,h1,Sem.run_bind,run_row1 hu hR hsz h24 hl hZ]
  rfl
 rw [this]
 exact ⟨⟨w.heap.size,rfl,(Box.new w cs e).cells⟩,(Below.refl _ _).alloc (Nat.le_refl _) _⟩⟩
theorem Heap.sub {H':List (Nat × List Value)} (h:Heap B w0 W0 H) (hs:List.Sublist H' H):Heap B w0 W0 H' :=
 ⟨h.bel,fun p hp=>h.box p (hs.subset hp),h.nd.sublist (hs.map _),h.le⟩
end
end Go.Proofs.YthnfgmhehfombaaGreatDoor.Pl
/- A region whose last operations come behind all the others, one behind the other. No program is named here. -/
namespace Go.Proofs.YthnfgmhehfombaaGreatDoor.Pl
open Go Go.RowKit
section
variable {P:Program} {ops:Array Oper} {ks:List Kind} {T:List Nat} {a0:Act} {B:Nat} {w0 W0:World} {H:List (Nat × List Value)} {Q:Exit→Act→World→Prop}
theorem step2 {nt nh:Nat} (hc:chk ops ks T nt nh=true) (hnt:nt=a0.tmps.size) (hnh:nh=H.length)
  (hB:B≤W0.heap.size) (hH:∀ p∈H,B≤p.1∧p.1<W0.heap.size) (hnd:(H.map (·.1)).Nodup)
  {L:Lt} {listed:Array Bool} {a:Act} {w:World} {i:Nat} (I:Inv ops ks T a0 B w0 W0 H L listed a w) (hr:i∈Region.ready .any ops listed) (hobi:∀ o,ops[i]?=some o→Ob P ops ks T a0 B w0 H i o) :
  wpOp P ops Q i (fun a' w'=>∃ L',Inv ops ks T a0 B w0 W0 H L' (listed.setIfInBounds i true) a' w') a w:=by
 obtain ⟨hut,o,ho,hall⟩:=mem_ready.1 hr
 have hio:i<ops.size:=(Array.getElem?_eq_some_iff.1 ho).1
 have hi:i<listed.size:=by rw [I.sz];exact hio
 have hun:listed.getD i false=false:=by simp [hi] at hut ⊢;exact hut
 have S:=stat hc ho
 have hall':∀ j∈aft ops i,listed.getD j false=true:=fun j hj=>by
  unfold aft at hj
  rw [ho] at hj
  simp only [Option.map_some,Option.getD_some,List.mem_map,List.mem_filter] at hj
  obtain ⟨e,⟨he,hb⟩,rfl⟩:=hj
  exact hall e (by simpa using he) hb
 have hbef:=listed_of_bef I S hall'
 have hex:execOp a.eval o=execOp (rd ops ks T a0 L i) o:=execOp_congr o S.sel (eval_rd I S hun hbef)
 have hw:=wanted_rd hc hnt I S hbef
 have hsn:=seen (nt:=nt) (nh:=nh) I hun hB hbef
 have ob:=hobi o ho
 have ob:=ob L w hsn
 have sz':(listed.setIfInBounds i true).size=ops.size:=by simp [I.sz]
 have cl':=cl_next (nt:=nt) (nh:=nh) I hi hbef
 have hnb:∀ j,j≠i→listed.getD j false=true→bef T j i=false:=fun j _ hl=>by
  cases h:bef T j i with
  | false=>rfl
  | true=>have:=I.cl j hl i h;rw [hun] at this;cases this
 have hst:∀ j,listed.getD j false=true→∃ oj,ops[j]?=some oj:=fun j hl=>by
  have:j<ops.size:=by
   rw [← I.sz]
   by_cases h:j<listed.size
   ·exact h
   ·simp [Array.getElem?_eq_none (Nat.le_of_not_lt h)] at hl
  exact ⟨ops[j],Array.getElem?_eq_getElem this⟩
 unfold wpOp
 simp only [ho,hw]
 by_cases hwt:wantedR ks L o=true
 ·rw [if_pos hwt] at ob ⊢
  refine .inl ?_
  unfold Oper.wp
  rw [hex]
  cases hk:kd ks i with
  | det v =>
   rw [hk] at ob
   refine Runs.upon ob fun u w' ⟨hu,hb⟩=>⟨L,sz',cl',?_,?_⟩
   ·exact I.F.next S hnt ho hi (fun d _=>hu) (fun j _ _=>rfl)
   ·exact I.M.quiet hi hB hb (by simp [isStore,hk]) (by simp [isAlloc,hk]) (fun C=>by rw [hk];simp)
  | detB k v =>
   rw [hk] at ob
   refine Runs.upon ob fun u w' ⟨hu,hb⟩=>⟨L,sz',cl',?_,?_⟩
   ·exact I.F.next S hnt ho hi (fun d _=>hu) (fun j _ _=>rfl)
   ·exact I.M.quiet hi hB hb (by simp [isStore,hk]) (by simp [isAlloc,hk]) (fun C=>by rw [hk];simp)
  | detV k v =>
   rw [hk] at ob
   refine Runs.upon ob fun u w' ⟨hu,hb⟩=>⟨L,sz',cl',?_,?_⟩
   ·exact I.F.next S hnt ho hi (fun d _=>hu) (fun j _ _=>rfl)
   ·exact I.M.quiet hi hB hb (by simp [isStore,hk]) (by simp [isAlloc,hk]) (fun C=>by rw [hk];simp)
  | any C =>
   rw [hk] at ob
   refine Runs.upon ob.2 fun u w' ⟨hu,hb⟩=>⟨L.setV i u,sz',cl',?_,?_⟩
   ·refine I.F.next S hnt ho hi (fun d _=>?_) (fun j hj hl=>?_)
    ·unfold val;rw [hk];simp [Lt.setV]
    ·obtain ⟨oj,hoj⟩:=hst j hl
     exact val_setV (stat hc hoj) hj (hnb j hj hl)
   ·exact I.M.letter hi hun hB hb hk hu ob.1
  | alloc cs =>
   rw [hk] at ob
   obtain ⟨ty,hrun⟩:=ob
   rw [hrun]
   refine ⟨L.setB i w.heap.size,sz',cl',?_,?_⟩
   ·refine I.F.next S hnt ho hi (fun d _=>?_) (fun j hj hl=>?_)
    ·unfold val;rw [hk];simp [Lt.setB]
    ·obtain ⟨oj,hoj⟩:=hst j hl
     exact val_setB (stat hc hoj) hj (hnb j hj hl)
   ·refine I.M.made hi hun hB hk fun s hs=>?_
    obtain ⟨off,ds,new,hks⟩:=st_spec hs
    cases hl:listed.getD s false with
    | false=>rfl
    | true =>
     obtain ⟨os,hos⟩:=hst s hl
     have:=(stat hc hos).sto _ _ _ _ hks
     have:=I.cl s hl i (this.2.2.2.1 i rfl).1
     rw [hun] at this;cases this
  | store l off cs new =>
   rw [hk] at ob
   obtain ⟨hlen,hsp,hrun⟩:=ob
   obtain ⟨hgd,hdn,hsl,hnw,hbs⟩:=S.sto _ _ _ _ hk
   have hnew:∀ j,l=.new j→listed.getD j false=true∧isAlloc ks j=true:=fun j e=>⟨hbef j (hnw j e).1,(hnw j e).2⟩
   have hM:=I.M.stored hi hun hk hsl hnew (fun k e=>by rw [← hnh];exact hbs k e) hB hH hnd hlen hsp
   have hth:w.there (addr H L l) off cs.length:=by
    have hcur:∀ x,cur ks listed l x=x:=fun x=>by unfold cur;simp [hsl,hun]
    have hbox:Box w (addr H L l) (oldOf ks H l):=by
     cases l with
     | base k =>
      have hk':k<H.length:=by rw [← hnh];exact hbs k rfl
      have hp:H[k]?=some (H.getD k (0,[])):=by simp [List.getD,List.getElem?_eq_getElem hk']
      have:=I.M.hb k _ hp
      rw [hcur] at this
      exact this
     | new j =>
      obtain ⟨hl,hal⟩:=hnew j rfl
      unfold isAlloc at hal
      split at hal
      ·rename_i ds hd
       have:=I.M.hn j ds hd hl
       rw [hcur] at this
       simp only [oldOf,hd,addr]
       exact this.2
      ·cases hal
    intro j hj
    have:=hbox.free (off+j) (by omega)
    simpa using this
   rw [hrun hth]
   refine ⟨L,sz',cl',?_,hM⟩
   exact I.F.next S hnt ho hi (fun d hd=>by rw [hdn] at hd;cases hd) (fun j _ _=>rfl)
 ·have hwf:wantedR ks L o=false:=by simpa using hwt
  rw [if_neg hwt] at ob
  simp only [hwf,Bool.false_eq_true,if_false]
  refine ⟨L,sz',cl',?_,?_⟩
  ·refine I.F.next S hnt ho hi (fun d _=>?_) (fun j _ _=>rfl)
   unfold val;rw [ob]
  ·exact I.M.quiet hi hB (Below.refl _ _) (by simp [isStore,ob]) (by simp [isAlloc,ob]) (fun C=>by rw [ob];simp)
theorem aft_mem {i:Nat} {o:Oper} (ho:ops[i]?=some o) {e:Edge} (he:e∈o.after) (hb:Region.binds .any e=true):e.on∈aft ops i:=by
 unfold aft
 rw [ho]
 simp only [Option.map_some,Option.getD_some,List.mem_map,List.mem_filter]
 exact ⟨e,⟨by simpa using he,hb⟩,rfl⟩
theorem ready_aft {listed:Array Bool} {i j:Nat} (hr:i∈Region.ready .any ops listed) (hj:j∈aft ops i):listed.getD j false=true:=by
 obtain ⟨_,o,ho,hall⟩:=mem_ready.1 hr
 unfold aft at hj
 rw [ho] at hj
 simp only [Option.map_some,Option.getD_some,List.mem_map,List.mem_filter] at hj
 obtain ⟨e,⟨he,hb⟩,rfl⟩:=hj
 exact hall e (by simpa using he) hb
theorem ready_un {listed:Array Bool} {i:Nat} (hs:listed.size=ops.size) (hr:i∈Region.ready .any ops listed):i<ops.size∧listed.getD i false=false:=by
 obtain ⟨h0,o,ho,_⟩:=mem_ready.1 hr
 have hlt:=(Array.getElem?_eq_some_iff.1 ho).1
 exact ⟨hlt,by simp [hs,hlt] at h0 ⊢;exact h0⟩
theorem ready_of {listed:Array Bool} {i:Nat} (hs:listed.size=ops.size) (hlt:i<ops.size) (hu:listed.getD i false=false) (hall:∀ j∈aft ops i,listed.getD j false=true):i∈Region.ready .any ops listed :=
 mem_ready.2 ⟨by simp [hs,hlt] at hu ⊢;exact hu,ops[i],Array.getElem?_eq_getElem hlt,fun e he hb=>hall e.on (aft_mem (Array.getElem?_eq_getElem hlt) he hb)⟩
theorem seq_tail {nt nh k:Nat} (hc:chk ops ks T nt nh=true) (hdir:∀ i,k<i→i<ops.size→(i-1)∈aft ops i) :
  ∀ (m j fuel:Nat) (listed:Array Bool) (a:Act) (w:World),j+m=ops.size→k≤j→m≤fuel→listed.size=ops.size→(∀ i,listed.getD i false=decide (i<j))→wpOps P ops Q (List.range' j m) a w→wpAny P .any ops Q fuel listed a w
 | 0,j,fuel,listed,a,w,hj,hk,hf,hs,hl,h=>by
  have hr:Region.ready .any ops listed=[]:=by
   cases h:Region.ready .any ops listed with
   | nil=>rfl
   | cons x xs =>
    have hx:x∈Region.ready .any ops listed:=by rw [h];simp
    obtain ⟨h1,h2⟩:=ready_un hs hx
    rw [hl] at h2
    simp at h2
    omega
  cases fuel with
  | zero=>exact ⟨hr,h⟩
  | succ f=>exact ⟨fun _=>h,fun i hi=>by rw [hr] at hi;cases hi⟩
 | m+1,j,0,listed,a,w,hj,hk,hf,hs,hl,h=>by omega
 | m+1,j,f+1,listed,a,w,hj,hk,hf,hs,hl,h=>by
  have hlt:j<ops.size:=by omega
  have hjr:j∈Region.ready .any ops listed:=ready_of hs hlt (by rw [hl];simp) fun x hx=>by
   have:=(stat hc (Array.getElem?_eq_getElem hlt)).back x hx
   rw [hl];simpa using this
  refine ⟨fun he=>(by rw [he] at hjr;cases hjr),fun i hi=>?_⟩
  obtain ⟨h1,h2⟩:=ready_un hs hi
  have hij:i=j:=by
   rw [hl] at h2
   have h3:j≤i:=by simpa using h2
   rcases Nat.lt_or_ge j i with c | c
   ·have:=ready_aft hi (hdir i (by omega) h1)
    rw [hl] at this
    have:i-1<j:=by simpa using this
    omega
   ·omega
  subst hij
  rw [List.range'_succ,wpOps_cons] at h
  refine wpOp_mono (fun a' w' h'=>seq_tail hc hdir m (i+1) f _ a' w' (by omega) (by omega) (by omega) (by simp [hs]) (fun x=>?_) h') h
  rw [ls_get (by rw [hs];exact hlt)]
  split
  ·rename_i e;subst e;simp
  ·rw [hl];by_cases hx:x<i<;>simp [hx]<;>omega
def slotK (ops:Array Oper) (ks:List Kind) (a0:Act) (L:Lt) (k t:Nat):Value :=
 match own ops t with
 | none=>a0.tmps.getD t undef
 | some j=>if Nat.blt j k then val ks L j else a0.tmps.getD t undef
theorem drawnT {id nt nh k:Nat} (hm:P.follows .mixedOrders=true) (hc:chk ops ks T nt nh=true) (hnt:nt=a0.tmps.size) (hnh:nh=H.length) (hHp:Heap B w0 W0 H) (hk:k<ops.size)
  (hno:(List.range ks.length).all (fun s=>!isStore ks s)=true) (hob:∀ i o,i<k→ops[i]?=some o→Ob P ops ks T a0 B w0 H i o) (hkall:∀ j,j<k→bef T k j=true) (hdir:∀ i,k<i→i<ops.size→(i-1)∈aft ops i)
  (hQ:∀ L w,Heap B w0 w H→(∀ j C,j<k→kd ks j=.any C→C (L.v j) w)→wpOps P ops Q (List.range' k (ops.size-k)) { tmps:=((List.range a0.tmps.size).map (slotK ops ks a0 L k)).toArray,defers:=a0.defers } w) :
  (Code.region id ops true).wp P Q a0 W0:=by
 refine wp_region_any hm ?_
 have hst:∀ s,isStore ks s=true→False:=fun s hs=>by
  have:=List.all_eq_true.1 hno s (by simpa using isStore_lt hs)
  rw [hs] at this;cases this
 have main:∀ (fuel:Nat) (listed:Array Bool) (a:Act) (w:World) (L:Lt),Inv ops ks T a0 B w0 W0 H L listed a w→(∀ j,k≤j→listed.getD j false=false)→((List.range ops.size).filter fun i=>!listed.getD i false).length≤fuel→wpAny P .any ops Q fuel listed a w:=by
  intro fuel
  induction fuel with
  | zero =>
   intro listed a w L I hun hf
   have hz:=List.length_eq_zero_iff.1 (Nat.le_zero.1 hf)
   have:k∈(List.range ops.size).filter fun i=>!listed.getD i false:=List.mem_filter.2 ⟨by simpa using hk,by simpa using hun k (Nat.le_refl _)⟩
   rw [hz] at this;cases this
  | succ fuel ih =>
   intro listed a w L I hun hf
   -- one of the first k that is left, or k itself, is ready
   have hex:∃ i,i∈Region.ready .any ops listed:=by
    have:∀ n,(∀ i,i<n→i<ops.size→listed.getD i false=true)∨∃ i,i∈Region.ready .any ops listed:=by
     intro n
     induction n with
     | zero=>exact .inl fun i hi=>absurd hi (Nat.not_lt_zero _)
     | succ n ihn =>
      rcases ihn with h | h
      ·rcases Nat.lt_or_ge n ops.size with c | c
       ·cases hl:listed.getD n false with
        | true =>
         refine .inl (fun i hi hlt=>?_)
         rcases Nat.lt_or_ge i n with c' | c'
         ·exact h i c' hlt
         ·obtain rfl:i=n:=by omega
          exact hl
        | false=>exact .inr ⟨n,ready_of I.sz c hl fun x hx=>h x ((stat hc (Array.getElem?_eq_getElem c)).back x hx) (Nat.lt_trans ((stat hc (Array.getElem?_eq_getElem c)).back x hx) c)⟩
       ·exact .inl fun i hi hlt=>h i (by omega) hlt
      ·exact .inr h
    rcases this ops.size with h | h
    ·have:=h k hk hk
     rw [hun k (Nat.le_refl _)] at this;cases this
    ·exact h
   refine ⟨fun he=>(by obtain ⟨i,hi⟩:=hex;rw [he] at hi;cases hi),fun i hi=>?_⟩
   obtain ⟨hlt,hu⟩:=ready_un I.sz hi
   have hil:i<listed.size:=by rw [I.sz];exact hlt
   rcases Nat.lt_or_ge i k with c | c
   ·refine wpOp_mono (fun a' w' ⟨L',I'⟩=>ih _ a' w' L' I' (fun j hj=>?_) ?_) (step2 hc hnt hnh hHp.le (Heap.bounds hHp) hHp.nd I hi (fun o ho=>hob i o c ho))
    ·rw [ls_get hil,if_neg (by omega)];exact hun j hj
    ·have e:((List.range ops.size).filter fun j=>!(listed.setIfInBounds i true).getD j false)=((List.range ops.size).filter fun j=>!listed.getD j false).filter (fun j=>j != i):=by
      rw [List.filter_filter]
      congr 1
      funext j
      rw [ls_get hil]
      by_cases h:j=i<;>simp [h]
     rw [e]
     have hm:i∈(List.range ops.size).filter fun j=>!listed.getD j false:=List.mem_filter.2 ⟨by simpa using hlt,by simpa using hu⟩
     have:(((List.range ops.size).filter fun j=>!listed.getD j false).filter (fun j=>j != i)).length<((List.range ops.size).filter fun j=>!listed.getD j false).length:=by
      refine List.length_filter_lt_length_iff_exists.2 ⟨i,hm,by simp⟩
     omega
   ·have hik:i=k:=by
     rcases Nat.lt_or_ge k i with c' | c'
     ·have:=ready_aft hi (hdir i c' hlt)
      rw [hun (i-1) (by omega)] at this;cases this
     ·omega
    subst hik
    obtain ⟨_,o,ho,_⟩:=mem_ready.1 hi
    have hall:=listed_of_bef I (stat hc ho) (fun j hj=>ready_aft hi hj)
    have hl:∀ j,listed.getD j false=decide (j<i):=fun j=>by
     by_cases h:j<i
     ·rw [hall j (hkall j h)];simp [h]
     ·rw [hun j (by omega)];simp [h]
    have hbox:Heap B w0 w H:=⟨I.M.bl,fun p hp=>by
      obtain ⟨x,hx⟩:=List.getElem?_of_mem hp
      have:=I.M.hb x p hx
      rw [cur_none (fun s hs=>(hst s hs).elim)] at this
      exact ⟨(hHp.box p hp).1,this⟩,hHp.nd,Nat.le_trans hHp.le I.M.le⟩
    have hq:=hQ L w hbox (fun j C hj hkj=>I.M.an (fun s hs=>(hst s hs).elim) j C hkj (by rw [hl];simpa using hj))
    have ha:a={ tmps:=((List.range a0.tmps.size).map (slotK ops ks a0 L i)).toArray,defers:=a0.defers }:=by
     obtain ⟨tm,df⟩:=a
     have h1:df=a0.defers:=I.F.df
     have h2:tm.size=a0.tmps.size:=I.F.ts
     subst h1
     congr 1
     apply Array.ext
     ·simp [h2]
     ·intro t h3 h4
      have h5:=I.F.fr t
      have e1:tm.getD t undef=tm[t]:=by simp [h3]
      have e2:slot ops ks a0 L listed t=slotK ops ks a0 L i t:=by
       unfold slot slotK
       cases hw:own ops t with
       | none=>rfl
       | some j =>
        simp only [hl j]
        by_cases hji:j<i
        ·have:Nat.blt j i=true:=by simpa using hji
         simp [hji,this]
        ·have:Nat.blt j i=false:=by
          cases hb:Nat.blt j i with
          | false=>rfl
          | true=>exact absurd (by simpa using hb) hji
         simp [hji,this]
      have h6:tm[t]=slotK ops ks a0 L i t:=by rw [← e1,← e2];exact h5
      rw [h6]
      simp
    rw [← ha] at hq
    exact (seq_tail hc hdir (ops.size-i) i (fuel+1) listed a w (by omega) (Nat.le_refl _) (by
     have:(List.range' i (ops.size-i)).length≤((List.range ops.size).filter fun j=>!listed.getD j false).length:=by
      refine List.Sublist.length_le ?_
      have e:List.range ops.size=List.range i++List.range' i (ops.size-i):=by
       have h:=@List.range_add i (ops.size-i)
       rw [show i+(ops.size-i)=ops.size by omega] at h
       rw [h,List.range'_eq_map_range]
      rw [e,List.filter_append]
      have e2:(List.range' i (ops.size-i)).filter (fun j=>!listed.getD j false)=List.range' i (ops.size-i):=by
       refine List.filter_eq_self.2 fun x hx=>?_
       have hx':=(List.mem_range'_1.1 hx).1
       rw [hl x]
       simp;omega
      rw [e2]
      exact List.sublist_append_right _ _
     simp only [List.length_range'] at this
     omega) I.sz hl hq).2 i hi
 refine main _ _ _ _ ⟨fun _=>undef,fun _=>0⟩ (Inv.start hHp (Below.refl _ _).drew rfl _) (fun j hj=>?_) ?_
 ·by_cases h:j<ops.size
  ·simp [h]
  ·simp [Array.getElem?_eq_none,h]
 ·exact Nat.le_trans (List.length_filter_le _ _) (by simp)
theorem dT {id nt:Nat} (k:Nat) (ks:List Kind) (N T:List Nat) (A:Lt→List Value) (hHp:Heap B w0 W0 H) (hob:AllOb2 P ops ks T a0 B w0 H N (ops.toList.take k) (ks.take k))
  (hQ:∀ L w,Heap B w0 w H→(∀ j C,j<k→kd ks j=.any C→C (L.v j) w)→wpOps P ops Q (List.range' k (ops.size-k)) { tmps:=(A L).toArray,defers:=[] } w)
  (hm:P.follows .mixedOrders=true:=by kernel_rfl) (hnt:nt=a0.tmps.size:=by exact rfl) (hc:chk ops ks T nt H.length=true:=by kernel_rfl) (hdf:a0.defers=[]:=by exact rfl)
  (hA:∀ L,(List.range nt).map (slotK ops ks a0 L k)=A L:=by intro _;kernel_rfl) (hN:N=List.range' 0 (ops.toList.take k).length:=by kernel_rfl) (hk:Nat.blt k ops.size=true:=by kernel_rfl) (hno:(List.range ks.length).all (fun s=>!isStore ks s)=true:=by kernel_rfl)
  (hkall:(List.range k).all (fun j=>bef T k j)=true:=by kernel_rfl) (hdir:(List.range ops.size).all (fun i=>Nat.ble i k || (aft ops i).contains (i-1))=true:=by kernel_rfl) :
  (Code.region id ops true).wp P Q a0 W0:=by
 have hk':k<ops.size:=by simpa using hk
 have hks:=chk_len hc
 refine drawnT hm hc hnt rfl hHp hk' hno (fun i o hi ho=>?_) (fun j hj=>List.all_eq_true.1 hkall j (by simpa using hj)) (fun i hi hs=>?_) (fun L w h ha=>?_)
 ·have h:=AllOb2.to _ 0 N (ks.take k) hN (fun j hj=>?_) hob
  ·have hl:(ops.toList.take k)[i]?=some o:=by rw [List.getElem?_take_of_lt hi];simpa using ho
   have:=AllOb.at _ 0 i o h hl
   rwa [Nat.zero_add] at this
  ·rw [Nat.zero_add]
   have hj':j<k:=by
    have:=hj
    rw [List.length_take] at this
    omega
   unfold kd
   rw [List.getD_eq_getElem?_getD,List.getD_eq_getElem?_getD,List.getElem?_take_of_lt hj']
 ·have:=List.all_eq_true.1 hdir i (by simpa using hs)
  simp only [Bool.or_eq_true,List.contains_iff_mem] at this
  rcases this with h | h
  ·exact absurd (Nat.le_of_ble_eq_true h) (by omega)
  ·exact h
 ·rw [← hnt,hA L,hdf]
  exact hQ L w h ha
theorem wpOp_of {i:Nat} {o:Oper} {a:Act} {w:World} {K:Act→World→Prop} (ho:ops[i]?=some o) (hg:o.guard=none) (h:o.wp P a w K Q):wpOp P ops Q i K a w:=by
 unfold wpOp
 rw [ho]
 simp only [Region.wanted,hg]
 exact .inl h
theorem wp_assign {o:Oper} {x:Operand} {v:Value} {a:Act} {w:World} {K:Act→World→Prop} (ho:o.op=.assign x) (hx:a.eval x=v) (h:K (a.put o.dst v) w):o.wp P a w K Q:=by
 unfold Oper.wp execOp
 simp only [ho,hx]
 exact h
theorem tail2 {k:Nat} {a:Act} {w:World} (hr:List.range' k (ops.size-k)=[k,k+1]) (h:wpOp P ops Q k (fun a' w'=>wpOp P ops Q (k+1) (fun a'' w''=>Q .normal a'' w'') a' w') a w):wpOps P ops Q (List.range' k (ops.size-k)) a w:=by
 rw [hr,wpOps_cons]
 refine wpOp_mono (fun a' w' h'=>?_) h
 rw [wpOps_cons]
 exact h'
section
variable {i:Nat} {o:Oper}
theorem oMn {x y:Operand} {ts:Array TypeId} {m n r:Nat} (hr:min m n=r) (hw:∀ L,wantedR ks L o=true:=by intro _;kernel_rfl) (ho:o.op=.call { callee:=.builtin .min,args:=#[x,y],argTypes:=ts }:=by exact rfl)
  (hx:∀ L,rd ops ks T a0 L i x=.int .i64 (m:Int):=by intro _;kernel_rfl) (hy:∀ L,rd ops ks T a0 L i y=.int .i64 (n:Int):=by intro _;kernel_rfl) (hk:kd ks i=.det (.int .i64 (r:Int))):Obl P ops ks T a0 B w0 H i o:=⟨ob_pure hw hk fun L w=>by
  have e:(if n<m then (n:Int) else (m:Int))=(r:Int):=by subst hr;split<;>omega
  unfold execOp
  simp [ho,resolve,hx L,hy L,invoke,builtin,Builtin.min_,Builtin.min2,Sem.run_bind,e]⟩
end
end
end Go.Proofs.YthnfgmhehfombaaGreatDoor.Pl
namespace Go.Proofs.YthnfgmhehfombaaGreatDoor.Pl
open Go Go.RowKit
section
variable {P:Program} {ops:Array Oper} {ks:List Kind} {T:List Nat} {a0:Act} {B:Nat} {w0 W0:World} {H:List (Nat × List Value)} {Q:Exit→Act→World→Prop} {rest:Code}
theorem sgs {id nt:Nat} (ks:List Kind) (N T:List Nat) (A:Lt→List Value) (H':Lt→List (Nat × List Value)) (hHp:Heap B w0 W0 H) (hob:AllOb2 P ops ks T a0 B w0 H N ops.toList ks)
  (hQ:∀ L w,Heap B w0 w (H' L)→rest.wp P Q { tmps:=(A L).toArray,defers:=[] } w) (hnt:nt=a0.tmps.size:=by exact rfl) (hc:chk ops ks T nt H.length=true:=by kernel_rfl) (hdf:a0.defers=[]:=by exact rfl)
  (hA:∀ L,(List.range nt).map (slotF ops ks a0 L)=A L:=by intro _;kernel_rfl) (hF:∀ L,heapF ks H L=H' L:=by intro _;kernel_rfl) (hN:N=List.range' 0 ops.toList.length:=by kernel_rfl) :
  ((Code.region id ops false).seq rest).wp P Q a0 W0:=wp_seq_k fun K k=>gs ks N T A H' hHp hob (fun L w h=>k _ _ (hQ L w h)) hnt hc hdf hA hF hN
theorem sgsD {id nt:Nat} (ks:List Kind) (N T:List Nat) (A:Lt→(Nat→Value)→List Value) (H':Lt→List (Nat × List Value)) (hHp:Heap B w0 W0 H) (hob:AllOb2 P ops ks T a0 B w0 H N ops.toList ks)
  (hQ:∀ L d w,Heap B w0 w (H' L)→rest.wp P Q { tmps:=(A L d).toArray,defers:=[] } w) (hnt:nt=a0.tmps.size:=by exact rfl) (hc:chk ops ks T nt H.length=true:=by kernel_rfl) (hdf:a0.defers=[]:=by exact rfl)
  (hA:∀ L,(List.range nt).map (slotF ops ks a0 L)=A L (slotF ops ks a0 L):=by intro _;kernel_rfl) (hF:∀ L,heapF ks H L=H' L:=by intro _;kernel_rfl) (hN:N=List.range' 0 ops.toList.length:=by kernel_rfl) :
  ((Code.region id ops false).seq rest).wp P Q a0 W0:=wp_seq_k fun K k=>gsD ks N T A H' hHp hob (fun L d w h=>k _ _ (hQ L d w h)) hnt hc hdf hA hF hN
theorem sdr {id nt:Nat} (ks:List Kind) (N T:List Nat) (A:Lt→List Value) (H':Lt→List (Nat × List Value)) (hHp:Heap B w0 W0 H) (hob:AllOb2 P ops ks T a0 B w0 H N ops.toList ks)
  (hQ:∀ L w,Heap B w0 w (H' L)→rest.wp P Q { tmps:=(A L).toArray,defers:=[] } w) (hm:P.follows .mixedOrders=true:=by kernel_rfl) (hnt:nt=a0.tmps.size:=by exact rfl) (hc:chk ops ks T nt H.length=true:=by kernel_rfl) (hdf:a0.defers=[]:=by exact rfl)
  (hA:∀ L,(List.range nt).map (slotF ops ks a0 L)=A L:=by intro _;kernel_rfl) (hF:∀ L,heapF ks H L=H' L:=by intro _;kernel_rfl) (hN:N=List.range' 0 ops.toList.length:=by kernel_rfl) :
  ((Code.region id ops true).seq rest).wp P Q a0 W0:=wp_seq_k fun K k=>dr ks N T A H' hHp hob (fun L w h=>k _ _ (hQ L w h)) hm hnt hc hdf hA hF hN
theorem sdrD {id nt:Nat} (ks:List Kind) (N T:List Nat) (A:Lt→(Nat→Value)→List Value) (H':Lt→List (Nat × List Value)) (hHp:Heap B w0 W0 H) (hob:AllOb2 P ops ks T a0 B w0 H N ops.toList ks)
  (hQ:∀ L d w,Heap B w0 w (H' L)→rest.wp P Q { tmps:=(A L d).toArray,defers:=[] } w) (hm:P.follows .mixedOrders=true:=by kernel_rfl) (hnt:nt=a0.tmps.size:=by exact rfl) (hc:chk ops ks T nt H.length=true:=by kernel_rfl) (hdf:a0.defers=[]:=by exact rfl)
  (hA:∀ L,(List.range nt).map (slotF ops ks a0 L)=A L (slotF ops ks a0 L):=by intro _;kernel_rfl) (hF:∀ L,heapF ks H L=H' L:=by intro _;kernel_rfl) (hN:N=List.range' 0 ops.toList.length:=by kernel_rfl) :
  ((Code.region id ops true).seq rest).wp P Q a0 W0:=wp_seq_k fun K k=>drD ks N T A H' hHp hob (fun L d w h=>k _ _ (hQ L d w h)) hm hnt hc hdf hA hF hN
def nn (n:Nat):List Nat:=List.range' 0 n
theorem cfk {K:Act→World→Prop} {c:Operand} {t:Code} {a:Act} {w:World} (h:K a w) (hc:a.eval c=.bool false:=by kernel_rfl):(Code.cond c t .skip).wp P (Exit.then K Q) a w:=wp_cond_false hc (skips h)
theorem cT {c:Operand} {x y:Code} {a:Act} {w:World} (h:x.wp P Q a w) (hc:a.eval c=.bool true:=by kernel_rfl):(Code.cond c x y).wp P Q a w:=wp_cond_true hc h
theorem cF {c:Operand} {x y:Code} {a:Act} {w:World} (h:y.wp P Q a w) (hc:a.eval c=.bool false:=by kernel_rfl):(Code.cond c x y).wp P Q a w:=wp_cond_false hc h
end
end Go.Proofs.YthnfgmhehfombaaGreatDoor.Pl
