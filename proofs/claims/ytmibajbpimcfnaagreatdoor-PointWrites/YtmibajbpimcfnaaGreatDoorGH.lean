/- Texts laid together. -/
import Derived.Test.YtmibajbpimcfnaaGreatDoorRows
import Derived.Test.YtmibajbpimcfnaaGreatDoorGD
import Derived.Test.YtmibajbpimcfnaaGreatDoorGE
import Derived.Test.YtmibajbpimcfnaaGreatDoorGF
import Derived.Test.YtmibajbpimcfnaaGreatDoorGB
import Derived.ProofKit
import Derived.LaidMore
import Derived.OpenShut
import Derived.Stop.Joined
set_option linter.unusedVariables false
set_option maxRecDepth 4000
/- What arrays of limbs and pairs of them that come in give the walks; what the listed package variables hold. -/
namespace Go.Proofs.YtmibajbpimcfnaaGreatDoor.fpn
open Go.ChangeShapes Go.WideShapes Go.ChangeAt Go.WideElems Go.RowKit
def laid2:List (String × DataW Unit):=Rows.pointWritesRow.laid
def nV0:String:=((laid2.map (·.1))[0]?).getD Rows.pointWritesRow.func
theorem gV0:Tryz.prog.globalNamed nV0=some 0:=by kernel_rfl
theorem tV0:(Tryz.prog.globals[0]?).map (·.type)=some 28:=by kernel_rfl
def nV1:String:=((laid2.map (·.1))[1]?).getD Rows.pointWritesRow.func
theorem gV1:Tryz.prog.globalNamed nV1=some 1:=by kernel_rfl
theorem tV1:(Tryz.prog.globals[1]?).map (·.type)=some 28:=by kernel_rfl
def nV2:String:=((laid2.map (·.1))[2]?).getD Rows.pointWritesRow.func
theorem gV2:Tryz.prog.globalNamed nV2=some 2:=by kernel_rfl
theorem tV2:(Tryz.prog.globals[2]?).map (·.type)=some 28:=by kernel_rfl
theorem door_met (os:Os) (args:Array Value):laidMetH Tryz.prog laid2 ((World.doorLaid Tryz.prog 400 os).forCall (fun _ _=>0) ⟨#[],args,[]⟩).memory :=
 laidMetH_of_parts3 (fuel:=8) (laidMet_of_run' 8 (by kernel_rfl) (by kernel_rfl)) (by kernel_rfl) (by kernel_rfl)
theorem arr6_at {W:World} {g:Nat} {n:String} {cs:Array Value} {fuel:Nat} {p:List MemPlace} (f:Nat→Int) (hg:Tryz.prog.globalNamed n=some g) (hv:World.var? Tryz.prog W n=some cs)
  (hd:DataW.trod (fun _=>()) Tryz.prog W 0 (fun _=>true) false fuel 28 cs.toList=some (.agg [.lit (.int .u64 (f 0)),.lit (.int .u64 (f 1)),.lit (.int .u64 (f 2)),.lit (.int .u64 (f 3)),.lit (.int .u64 (f 4)),.lit (.int .u64 (f 5))],p)):At W (some ⟨g,0,none⟩) 6 f:=by
 obtain ⟨xs,m,_,hx,hlen,hn,hel⟩:=DataW.trod_array Tryz.underlying28 hd
 rw [cellsFr] at hlen
 rw [cells64] at hel
 obtain ⟨l⟩:=cs
 obtain ⟨c0,c1,c2,c3,c4,c5,rfl⟩:=list6 l hlen
 match xs,hn with
 | [y0,y1,y2,y3,y4,y5],_ =>
  obtain ⟨x0,e0,rfl,w0⟩:=DataW.trod_int Tryz.underlying22 (show DataW.trod _ Tryz.prog W 0 _ _ m 22 _=some y0 from hel 0 (by decide))
  obtain ⟨x1,e1,rfl,w1⟩:=DataW.trod_int Tryz.underlying22 (show DataW.trod _ Tryz.prog W 0 _ _ m 22 _=some y1 from hel 1 (by decide))
  obtain ⟨x2,e2,rfl,w2⟩:=DataW.trod_int Tryz.underlying22 (show DataW.trod _ Tryz.prog W 0 _ _ m 22 _=some y2 from hel 2 (by decide))
  obtain ⟨x3,e3,rfl,w3⟩:=DataW.trod_int Tryz.underlying22 (show DataW.trod _ Tryz.prog W 0 _ _ m 22 _=some y3 from hel 3 (by decide))
  obtain ⟨x4,e4,rfl,w4⟩:=DataW.trod_int Tryz.underlying22 (show DataW.trod _ Tryz.prog W 0 _ _ m 22 _=some y4 from hel 4 (by decide))
  obtain ⟨x5,e5,rfl,w5⟩:=DataW.trod_int Tryz.underlying22 (show DataW.trod _ Tryz.prog W 0 _ _ m 22 _=some y5 from hel 5 (by decide))
  simp at e0 e1 e2 e3 e4 e5 hx
  obtain ⟨⟨rfl,rfl,rfl,rfl,rfl,rfl⟩,_⟩:=hx
  subst e0 e1 e2 e3 e4 e5
  refine fun _=>⟨g,0,rfl,fun j hj=>?_⟩
  have k:=World.var?_cell hg hv j
  rw [Nat.zero_add,k]
  rcases (show j=0∨j=1∨j=2∨j=3∨j=4∨j=5 by omega) with rfl | rfl | rfl | rfl | rfl | rfl<;>rfl
def h2L:Nat→Int
 | 0=>15924587544893707606
 | 1=>1105070755758604287
 | 2=>12941209323636816658
 | 3=>12843041017062132063
 | 4=>2706051889235351147
 | 5=>936899308823769933
 | _=>0
theorem h2L_lb:∀ j,j<6→h2L j=lb hf.val j:=by decide +kernel
def G2 (w:World):Prop:=Gl w∧At w (some ⟨2,0,none⟩) 6 h2L
theorem G2.stay {w x:World} (h:G2 w) (b:Below w.heap.size w x):G2 x:=⟨h.1.stay b,AtK.below h.2 b⟩
theorem G2.half (w:World) (h:G2 w):w.rangeAt 2 0 (FC hf):=fun j v hv=>by
 obtain ⟨b,off,e,hc⟩:=h.2 (by decide)
 obtain ⟨rfl,rfl⟩:2=b∧0=off:=by simpa using e
 have hj:j<6:=by
  have:=(List.getElem?_eq_some_iff.1 hv).1
  rw [FC_len] at this;exact this
 rw [hc j hj,h2L_lb j hj]
 rcases (show j=0∨j=1∨j=2∨j=3∨j=4∨j=5 by omega) with rfl | rfl | rfl | rfl | rfl | rfl<;>exact hv
theorem FpOk.over {G G':World→Prop} (K:FpOk G) (h:∀ w,G' w→G w) (s:∀ {w x:World},G' w→Below w.heap.size w x→G' x):FpOk G' where
 stay:=s
 add:=fun f g w k=>K.add f g w (h w k)
 sub:=fun f g w k=>K.sub f g w (h w k)
 mul:=fun f g w k=>K.mul f g w (h w k)
 neg:=fun f w k=>K.neg f w (h w k)
 of:=fun x w k=>K.of x w (h w k)
 inv0:=fun f w k=>K.inv0 f w (h w k)
 inv:=fun f w k=>K.inv f w (h w k)
 pow:=fun f p n c g E w k=>K.pow f p n c g E w (h w k)
 may:=fun f w k=>K.may f w (h w k)
 great:=fun f w k=>K.great f w (h w k)
 sqrtNo:=fun f w k=>K.sqrtNo f w (h w k)
 sqrtYes:=fun f w k=>K.sqrtYes f w (h w k)
 put:=fun f w k=>K.put f w (h w k)
 takeShort:=fun p n c g w k=>K.takeShort p n c g w (h w k)
 takeLong:=fun p n c g w k=>K.takeLong p n c g w (h w k)
 takeBig:=fun p c g w k=>K.takeBig p c g w (h w k)
 take:=fun p c g w k=>K.take p c g w (h w k)
theorem of_laid {W:World} (h:laidMetH Tryz.prog laid2 W):G2 W:=by
 rw [MakeChecks.laidMetH_plain _ _ _ (by kernel_rfl)] at h
 obtain ⟨ps,⟨g0,t0,cs0,f0,p0,q0,hg0,ht0,hv0,hd0,⟨g1,t1,cs1,f1,p1,q1,hg1,ht1,hv1,hd1,⟨g2,t2,cs2,f2,p2,q2,hg2,ht2,hv2,hd2,_,_⟩,_⟩,_⟩,_⟩:=h
 obtain rfl:=Option.some.inj (gV0.symm.trans hg0)
 obtain rfl:=Option.some.inj (tV0.symm.trans ht0)
 obtain rfl:=Option.some.inj (gV1.symm.trans hg1)
 obtain rfl:=Option.some.inj (tV1.symm.trans ht1)
 obtain rfl:=Option.some.inj (gV2.symm.trans hg2)
 obtain rfl:=Option.some.inj (tV2.symm.trans ht2)
 exact ⟨⟨arr6_at hL hg0 hv0 hd0,arr6_at cL hg1 hv1 hd1⟩,arr6_at h2L hg2 hv2 hd2⟩
end Go.Proofs.YtmibajbpimcfnaaGreatDoor.fpn
