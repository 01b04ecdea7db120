/- Texts laid together. -/
import Derived.Test.YthnfgmhehfombaaGreatDoorGC
import Derived.Test.YthnfgmhehfombaaGreatDoorGA
set_option linter.unusedVariables false
set_option linter.unusedSimpArgs false
/- A plain region in pieces; a scope whose label is met a few times. No program is named here. -/
namespace Go.Proofs.YthnfgmhehfombaaGreatDoor.Pl
open Go Go.RowKit
def edge (j:Nat):Edge:=⟨j,.data⟩
def renum (n:Nat):List Oper→List Oper
 | []=>[]
 | o :: r=>{ o with after:=((List.range n).map edge).toArray } :: renum (n+1) r
theorem renum_len:∀ (l:List Oper) (n:Nat),(renum n l).length=l.length
 | [],_=>rfl
 | _ :: r,n=>congrArg (·+1) (renum_len r (n+1))
theorem renum_at:∀ (l:List Oper) (n k:Nat) (o:Oper),l[k]?=some o→(renum n l)[k]?=some { o with after:=((List.range (n+k)).map edge).toArray }
 | [],_,_,_,h=>by simp at h
 | p :: r,n,0,o,h=>by
  obtain rfl:p=o:=by simpa using h
  rfl
 | p :: r,n,k+1,o,h=>by
  have:=renum_at r (n+1) k o (by simpa using h)
  rw [show n+1+k=n+(k+1) by omega] at this
  exact this
section
variable {P:Program} {ks:List Kind} {T:List Nat} {a0:Act} {B:Nat} {w0 W0:World} {H:List (Nat × List Value)} {Q:Exit→Act→World→Prop}
theorem piece {opsX:Array Oper} {l1 l2:List Oper} {nt nh:Nat} (hg:l1.all (fun o=>o.guard.isNone)=true) (hc:chk (renum 0 l1).toArray ks T nt nh=true) (hnt:nt=a0.tmps.size) (hnh:nh=H.length) (hHp:Heap B w0 W0 H) (hob:AllOb P (renum 0 l1).toArray ks T a0 B w0 H 0 (renum 0 l1))
  (hQ:∀ L w,Heap B w0 w (heapF ks H L)→((List.range ks.length).all (fun s=>!isStore ks s)=true→AnyF ks L w (List.range ks.length))→wpList P opsX Q l2 { tmps:=((List.range a0.tmps.size).map (slotF (renum 0 l1).toArray ks a0 L)).toArray,defers:=a0.defers } w) :
  wpList P opsX Q (l1++l2) a0 W0:=by
 have hsz:(renum 0 l1).toArray.size=l1.length:=by simp [renum_len]
 have main:∀ (m k:Nat) (listed:Array Bool) (a:Act) (w:World) (L:Lt),k+m=l1.length→(∀ j,listed.getD j false=decide (j<k))→Inv (renum 0 l1).toArray ks T a0 B w0 W0 H L listed a w→wpList P opsX Q (l1.drop k++l2) a w:=by
  intro m
  induction m with
  | zero =>
   intro k listed a w L hk hl I
   obtain ⟨ha,hh,hy⟩:=done hc hHp.le (Heap.bounds hHp) hHp.nd I (fun i hi=>by rw [hl];rw [hsz] at hi;simp;omega)
   rw [List.drop_of_length_le (by omega),List.nil_append,ha]
   exact hQ L w hh hy
  | succ m ih =>
   intro k listed a w L hk hl I
   have hlt:k<l1.length:=by omega
   have hlt':k<(renum 0 l1).toArray.size:=by rw [hsz];exact hlt
   have hil:k<listed.size:=by rw [I.sz];exact hlt'
   have hr:k∈Region.ready .any (renum 0 l1).toArray listed:=mem_ready.2 ⟨by have:=hl k;simp [hil] at this ⊢;exact this,(renum 0 l1).toArray[k],Array.getElem?_eq_getElem hlt',fun e he hb=>by
    have hb':=(stat hc (Array.getElem?_eq_getElem hlt')).back e.on (by
     unfold aft;rw [Array.getElem?_eq_getElem hlt']
     simp only [Option.map_some,Option.getD_some,List.mem_map,List.mem_filter]
     exact ⟨e,⟨by simpa using he,hb⟩,rfl⟩)
    rw [hl];simpa using hb'⟩
   have hs:=step (Q:=Q) hc hnt hnh hob hHp.le (Heap.bounds hHp) hHp.nd I hr
   have hs2:=wpOp_mono (fun a' w' ⟨L',I'⟩=>ih (k+1) _ a' w' L' (by omega) (fun j=>by
    rw [ls_get hil]
    split
    ·rename_i e;subst e;simp
    ·rw [hl];by_cases h:j<k<;>simp [h]<;>omega) I') hs
   have hgk:l1[k].guard=none:=by
    have:=List.all_eq_true.1 hg l1[k] (List.getElem_mem hlt)
    simpa using this
   rw [List.drop_eq_getElem_cons hlt,List.cons_append]
   have hat:=renum_at l1 0 k l1[k] (List.getElem?_eq_getElem hlt)
   have hat':(renum 0 l1).toArray[k]?=some { l1[k] with after:=((List.range (0+k)).map edge).toArray }:=by simpa using hat
   unfold wpOp at hs2
   simp only [hat',Region.wanted,hgk,if_true] at hs2
   unfold wpList
   simp only [Region.wanted,hgk,if_true]
   exact hs2
 have h0:=main l1.length 0 (Array.replicate (renum 0 l1).toArray.size false) a0 W0 ⟨fun _=>undef,fun _=>0⟩ (by omega) (fun j=>by
  rw [decide_eq_false (by omega:¬ j<0)]
  simp only [Array.getD_eq_getD_getElem?,Array.getElem?_replicate]
  split<;>rfl) (Inv.start hHp (Below.refl _ _) rfl _)
 simpa using h0
theorem gsC {opsX:Array Oper} {l:List Oper} {nt:Nat} (k:Nat) (ks:List Kind) (N T:List Nat) (A:Lt→(Nat→Value)→List Value) (H':Lt→List (Nat × List Value)) (hHp:Heap B w0 W0 H) (hob:AllOb2 P (renum 0 (l.take k)).toArray ks T a0 B w0 H N (renum 0 (l.take k)) ks)
  (hQ:∀ L d w,Heap B w0 w (H' L)→((List.range ks.length).all (fun s=>!isStore ks s)=true→AnyF ks L w (List.range ks.length))→wpList P opsX Q (l.drop k) { tmps:=(A L d).toArray,defers:=[] } w) (hnt:nt=a0.tmps.size:=by exact rfl) (hg:(l.take k).all (fun o=>o.guard.isNone)=true:=by kernel_rfl) (hc:chk (renum 0 (l.take k)).toArray ks T nt H.length=true:=by kernel_rfl) (hdf:a0.defers=[]:=by exact rfl)
  (hA:∀ L,(List.range nt).map (slotF (renum 0 (l.take k)).toArray ks a0 L)=A L (slotF (renum 0 (l.take k)).toArray ks a0 L):=by intro _;kernel_rfl) (hF:∀ L,heapF ks H L=H' L:=by intro _;kernel_rfl) (hN:N=List.range' 0 (renum 0 (l.take k)).length:=by kernel_rfl) :
  wpList P opsX Q l a0 W0:=by
 have:=piece (P:=P) (opsX:=opsX) (l1:=l.take k) (l2:=l.drop k) (Q:=Q) hg hc hnt rfl hHp (AllOb2.to _ _ _ _ hN (fun j _=>by simp [kd]) hob) (fun L w h ha=>by
  rw [← hnt,hA L,hdf]
  exact hQ L _ w (hF L▸h) ha)
 rwa [List.take_append_drop] at this
theorem oneL {opsX:Array Oper} {l r:List Oper} {o:Oper} {a:Act} {w:World} (hl:l=o :: r) (hg:o.guard=none) (h:o.wp P a w (wpList P opsX Q r) Q):wpList P opsX Q l a w:=by
 subst hl
 exact wpList_plain hg fun K hK=>Oper.wp_mono hK h
theorem least {p:Nat→Prop}:∀ n,p n→∃ m,p m∧∀ k,p k→m≤k:=by
 intro n
 induction n using Nat.strongRecOn with
 | _ n ih =>
  intro hn
  by_cases h:∃ k,k<n∧p k
  ·obtain ⟨k,hk,hp⟩:=h
   exact ih k hk hp
  ·exact ⟨n,hn,fun k hk=>by
    rcases Nat.lt_or_ge k n with h1 | h1
    ·exact absurd ⟨k,h1,hk⟩ h
    ·exact h1⟩
end
end Go.Proofs.YthnfgmhehfombaaGreatDoor.Pl
