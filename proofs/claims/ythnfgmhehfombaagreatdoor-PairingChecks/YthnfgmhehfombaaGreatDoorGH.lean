/- Texts laid together. -/
import Derived.Test.YthnfgmhehfombaaGreatDoorRows
import Derived.Test.YthnfgmhehfombaaGreatDoorGD
import Derived.Test.YthnfgmhehfombaaGreatDoorGE
import Derived.Test.YthnfgmhehfombaaGreatDoorGF
import Derived.Test.YthnfgmhehfombaaGreatDoorGC
import Derived.Test.YthnfgmhehfombaaGreatDoorGB
import Derived.ProofKit
import Derived.LaidMore
import Derived.OpenShut
import Derived.Stop.Joined
set_option linter.unusedVariables false
set_option maxRecDepth 4000
/- What arrays of limbs and pairs of them that come in give the walks; what the listed package variables hold. -/
namespace Go.Proofs.YthnfgmhehfombaaGreatDoor.fpn
open Go.ChangeShapes Go.WideShapes Go.ChangeAt Go.WideElems Go.RowKit
theorem cut2 {α:Type} {cs:List α} {n:Nat} (h:cs.length=2*n):cs=(cs.drop (0*n)).take n++(cs.drop (1*n)).take n:=by
 rw [Nat.zero_mul,Nat.one_mul,List.drop_zero,List.take_of_length_le (l:=cs.drop n) (by rw [List.length_drop];omega),List.take_append_drop]
theorem cells2:Tryz.prog.cellsOf 35=12:=by kernel_rfl
theorem under2:Tryz.prog.underlying 35=some (.array 2 30):=Tryz.underlying35
def laid2:List (String × DataW Unit):=Rows.pairingChecksRow.laid
def nV0:String:=((laid2.map (·.1))[0]?).getD Rows.pairingChecksRow.func
theorem gV0:Tryz.prog.globalNamed nV0=some 1:=by kernel_rfl
theorem tV0:(Tryz.prog.globals[1]?).map (·.type)=some 30:=by kernel_rfl
def nV1:String:=((laid2.map (·.1))[1]?).getD Rows.pairingChecksRow.func
theorem gV1:Tryz.prog.globalNamed nV1=some 0:=by kernel_rfl
theorem tV1:(Tryz.prog.globals[0]?).map (·.type)=some 35:=by kernel_rfl
theorem door_met (os:Os) (args:Array Value):laidMetH Tryz.prog laid2 ((World.doorLaid Tryz.prog 400 os).forCall (fun _ _=>0) ⟨#[],args,[]⟩).memory :=
 laidMetH_of_parts3 (fuel:=8) (laidMet_of_run' 8 (by kernel_rfl) (by kernel_rfl)) (by kernel_rfl) (by kernel_rfl)
theorem arr6_at {W:World} {g:Nat} {n:String} {cs:Array Value} {fuel:Nat} {p:List MemPlace} (f:Nat→Int) (hg:Tryz.prog.globalNamed n=some g) (hv:World.var? Tryz.prog W n=some cs)
  (hd:DataW.trod (fun _=>()) Tryz.prog W 0 (fun _=>true) false fuel 30 cs.toList=some (.agg [.lit (.int .u64 (f 0)),.lit (.int .u64 (f 1)),.lit (.int .u64 (f 2)),.lit (.int .u64 (f 3)),.lit (.int .u64 (f 4)),.lit (.int .u64 (f 5))],p)):At W (some ⟨g,0,none⟩) 6 f:=by
 obtain ⟨xs,m,_,hx,hlen,hn,hel⟩:=DataW.trod_array Tryz.underlying30 hd
 rw [cellsFr] at hlen
 rw [cells64] at hel
 obtain ⟨l⟩:=cs
 obtain ⟨c0,c1,c2,c3,c4,c5,rfl⟩:=list6 l hlen
 match xs,hn with
 | [y0,y1,y2,y3,y4,y5],_ =>
  obtain ⟨x0,e0,rfl,w0⟩:=DataW.trod_int Tryz.underlying25 (show DataW.trod _ Tryz.prog W 0 _ _ m 25 _=some y0 from hel 0 (by decide))
  obtain ⟨x1,e1,rfl,w1⟩:=DataW.trod_int Tryz.underlying25 (show DataW.trod _ Tryz.prog W 0 _ _ m 25 _=some y1 from hel 1 (by decide))
  obtain ⟨x2,e2,rfl,w2⟩:=DataW.trod_int Tryz.underlying25 (show DataW.trod _ Tryz.prog W 0 _ _ m 25 _=some y2 from hel 2 (by decide))
  obtain ⟨x3,e3,rfl,w3⟩:=DataW.trod_int Tryz.underlying25 (show DataW.trod _ Tryz.prog W 0 _ _ m 25 _=some y3 from hel 3 (by decide))
  obtain ⟨x4,e4,rfl,w4⟩:=DataW.trod_int Tryz.underlying25 (show DataW.trod _ Tryz.prog W 0 _ _ m 25 _=some y4 from hel 4 (by decide))
  obtain ⟨x5,e5,rfl,w5⟩:=DataW.trod_int Tryz.underlying25 (show DataW.trod _ Tryz.prog W 0 _ _ m 25 _=some y5 from hel 5 (by decide))
  simp at e0 e1 e2 e3 e4 e5 hx
  obtain ⟨⟨rfl,rfl,rfl,rfl,rfl,rfl⟩,_⟩:=hx
  subst e0 e1 e2 e3 e4 e5
  refine fun _=>⟨g,0,rfl,fun j hj=>?_⟩
  have k:=World.var?_cell hg hv j
  rw [Nat.zero_add,k]
  rcases (show j=0∨j=1∨j=2∨j=3∨j=4∨j=5 by omega) with rfl | rfl | rfl | rfl | rfl | rfl<;>rfl
def tnL0:Nat→Int
 | 0=>10162220747404304312
 | 1=>17761815663483519293
 | 2=>8873291758750579140
 | 3=>1141103941765652303
 | 4=>13993175198059990303
 | 5=>1802798568193066599
 | _=>0
def tnL1:Nat→Int
 | 0=>3240210268673559283
 | 1=>2895069921743240898
 | 2=>17009126888523054175
 | 3=>6098234018649060207
 | 4=>9865672654120263608
 | 5=>71000049454473266
 | _=>0
theorem lit6 {W:World} {l:List Value} {fuel:Nat} {p:List MemPlace} (f:Nat→Int)
  (hd:DataW.trod (fun _=>()) Tryz.prog W 0 (fun _=>true) false fuel 30 l=some (.agg [.lit (.int .u64 (f 0)),.lit (.int .u64 (f 1)),.lit (.int .u64 (f 2)),.lit (.int .u64 (f 3)),.lit (.int .u64 (f 4)),.lit (.int .u64 (f 5))],p)):l=QC f:=by
 obtain ⟨xs,m,_,hx,hlen,hn,hel⟩:=DataW.trod_array Tryz.underlying30 hd
 rw [cellsFr] at hlen
 rw [cells64] at hel
 obtain ⟨c0,c1,c2,c3,c4,c5,rfl⟩:=list6 l hlen
 match xs,hn with
 | [y0,y1,y2,y3,y4,y5],_ =>
  obtain ⟨x0,e0,rfl,w0⟩:=DataW.trod_int Tryz.underlying25 (show DataW.trod _ Tryz.prog W 0 _ _ m 25 _=some y0 from hel 0 (by decide))
  obtain ⟨x1,e1,rfl,w1⟩:=DataW.trod_int Tryz.underlying25 (show DataW.trod _ Tryz.prog W 0 _ _ m 25 _=some y1 from hel 1 (by decide))
  obtain ⟨x2,e2,rfl,w2⟩:=DataW.trod_int Tryz.underlying25 (show DataW.trod _ Tryz.prog W 0 _ _ m 25 _=some y2 from hel 2 (by decide))
  obtain ⟨x3,e3,rfl,w3⟩:=DataW.trod_int Tryz.underlying25 (show DataW.trod _ Tryz.prog W 0 _ _ m 25 _=some y3 from hel 3 (by decide))
  obtain ⟨x4,e4,rfl,w4⟩:=DataW.trod_int Tryz.underlying25 (show DataW.trod _ Tryz.prog W 0 _ _ m 25 _=some y4 from hel 4 (by decide))
  obtain ⟨x5,e5,rfl,w5⟩:=DataW.trod_int Tryz.underlying25 (show DataW.trod _ Tryz.prog W 0 _ _ m 25 _=some y5 from hel 5 (by decide))
  simp at e0 e1 e2 e3 e4 e5 hx
  obtain ⟨⟨rfl,rfl,rfl,rfl,rfl,rfl⟩,_⟩:=hx
  subst e0 e1 e2 e3 e4 e5
  rfl
theorem arr12_at {W:World} {g:Nat} {n:String} {cs:Array Value} {fuel:Nat} {p:List MemPlace} (f h:Nat→Int) (hg:Tryz.prog.globalNamed n=some g) (hv:World.var? Tryz.prog W n=some cs)
  (hd:DataW.trod (fun _=>()) Tryz.prog W 0 (fun _=>true) false fuel 35 cs.toList=some (.agg [.agg [.lit (.int .u64 (f 0)),.lit (.int .u64 (f 1)),.lit (.int .u64 (f 2)),.lit (.int .u64 (f 3)),.lit (.int .u64 (f 4)),.lit (.int .u64 (f 5))],.agg [.lit (.int .u64 (h 0)),.lit (.int .u64 (h 1)),.lit (.int .u64 (h 2)),.lit (.int .u64 (h 3)),.lit (.int .u64 (h 4)),.lit (.int .u64 (h 5))]],p)):W.rangeAt g 0 (QC2 f h):=by
 obtain ⟨xs,m,_,hx,hlen,hn,hel⟩:=DataW.trod_array under2 hd
 rw [cells2] at hlen
 rw [cellsFr] at hel
 obtain ⟨l⟩:=cs
 match xs,hn with
 | [(d0,p0),(d1,p1)],_ =>
  simp at hx
  obtain ⟨⟨rfl,rfl⟩,_⟩:=hx
  have l0:=lit6 f (show DataW.trod _ Tryz.prog W 0 _ _ m 30 _=some (_,p0) from hel 0 (by decide))
  have l1:=lit6 h (show DataW.trod _ Tryz.prog W 0 _ _ m 30 _=some (_,p1) from hel 1 (by decide))
  have e:l=QC2 f h:=by
   have c:=cut2 (n:=6) hlen
   rw [l0,l1] at c
   exact c
  subst e
  intro j v hj
  rw [World.var?_cell hg hv (0+j),Nat.zero_add]
  simpa using hj
def G2 (w:World):Prop:=Gl w∧w.rangeAt 0 0 (QC2 tnL0 tnL1)
theorem G2.stay {w x:World} (h:G2 w) (b:Below w.heap.size w x):G2 x:=⟨h.1.stay b,Pl.range_up h.2 b⟩
theorem G2.turn (w:World) (h:G2 w):w.rangeAt 0 0 (QC2 tnL0 tnL1):=h.2
theorem FpOk.over {G G':World→Prop} (K:FpOk G) (h:∀ w,G' w→G w) (s:∀ {w x:World},G' w→Below w.heap.size w x→G' x):FpOk G' where
 stay:=s
 add:=fun f g w k=>K.add f g w (h w k)
 sub:=fun f g w k=>K.sub f g w (h w k)
 mul:=fun f g w k=>K.mul f g w (h w k)
 neg:=fun f w k=>K.neg f w (h w k)
 of:=fun x w k=>K.of x w (h w k)
 inv0:=fun f w k=>K.inv0 f w (h w k)
 inv:=fun f w k=>K.inv f w (h w k)
 pow:=fun f p n c g E w k=>K.pow f p n c g E w (h w k)
 may:=fun f w k=>K.may f w (h w k)
theorem fpK2:FpK G2:=fpK (fpOk.over (fun _ h=>h.1) (fun h b=>h.stay b))
theorem of_laid {W:World} (h:laidMetH Tryz.prog laid2 W):G2 W:=by
 rw [MakeChecks.laidMetH_plain _ _ _ (by kernel_rfl)] at h
 obtain ⟨ps,⟨g0,t0,cs0,f0,p0,q0,hg0,ht0,hv0,hd0,⟨g1,t1,cs1,f1,p1,q1,hg1,ht1,hv1,hd1,_,_⟩,_⟩,_⟩:=h
 obtain rfl:=Option.some.inj (gV0.symm.trans hg0)
 obtain rfl:=Option.some.inj (tV0.symm.trans ht0)
 obtain rfl:=Option.some.inj (gV1.symm.trans hg1)
 obtain rfl:=Option.some.inj (tV1.symm.trans ht1)
 exact ⟨⟨trivial,arr6_at cL hg0 hv0 hd0⟩,arr12_at tnL0 tnL1 hg1 hv1 hd1⟩
end Go.Proofs.YthnfgmhehfombaaGreatDoor.fpn
