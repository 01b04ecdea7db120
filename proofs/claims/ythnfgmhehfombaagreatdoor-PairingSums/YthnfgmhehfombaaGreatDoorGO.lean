/- Texts laid together. -/
import Derived.Test.YthnfgmhehfombaaGreatDoorGC
import Derived.Test.YthnfgmhehfombaaGreatDoorGG
import Derived.Test.YthnfgmhehfombaaGreatDoorGE
import Derived.Laws.Tables
import Derived.Test.YthnfgmhehfombaaGreatDoorGJ
set_option linter.unusedVariables false
set_option linter.unusedSimpArgs false
set_option maxRecDepth 4000
/- Whole numbers, pointers out of slices, in a plan. No program is named here. -/
namespace Go.Proofs.YthnfgmhehfombaaGreatDoor.Pl
open Go Go.RowKit
section
variable {P:Program}
theorem quo64 (t:TypeId) (j q:Nat) (hj:j<1000000) (hq:j / 64=q) (w:World):(binOp .quo t (.int .i64 (j:Int)) (.int .i64 64)).run P w=.ok (.int .i64 (q:Int)) w:=by
 have e0:(j:Int).tdiv 64=(q:Int):=by rw [Int.tdiv_eq_ediv_of_nonneg (by omega)];omega
 have e:IntKind.i64.wrap (q:Int)=(q:Int):=by unfold IntKind.wrap;simp [IntKind.bits,IntKind.signed];omega
 simp [binOp,Sem.run_bind,Op.intDiv,e0,e]
theorem rem64 (t:TypeId) (j r:Nat) (hr:j%64=r) (w:World):(binOp .rem t (.int .i64 (j:Int)) (.int .i64 64)).run P w=.ok (.int .i64 (r:Int)) w:=by
 have e0:(j:Int).tmod 64=(r:Int):=by rw [Int.tmod_eq_emod_of_nonneg (by omega)];omega
 simp [binOp,Sem.run_bind,Op.intDiv,e0]
theorem shrN (t:TypeId) (x:Int) (r:Nat) (hr:r<64) (w:World):(binOp .shr t (.int .u64 x) (.int .i64 (r:Int))).run P w=.ok (.int .u64 (x / 2^r)) w:=by
 have e:min r IntKind.u64.bits=r:=by simp [IntKind.bits];omega
 have e2:x.fdiv (2^r)=x / 2^r:=Int.fdiv_eq_ediv_of_nonneg _ (Int.le_of_lt (Int.pow_pos (by decide)))
 simp [binOp,Op.shift,Sem.run_bind,e,e2]
theorem and1 (t:TypeId) (x b:Int) (h:bits .and .u64 x 1=b) (w:World):(binOp .and t (.int .u64 x) (.int .u64 1)).run P w=.ok (.int .u64 b) w:=by
 simp [binOp,Sem.run_bind,Op.intBits]
 exact h
theorem lssI (t:TypeId) (a b:Int) (w:World):(binOp .lss t (.int .i64 a) (.int .i64 b)).run P w=.ok (.bool (decide (a<b))) w:=by
 simp [binOp,Sem.run_bind,Op.intCmp]
theorem add1N (t:TypeId) (j:Nat) (h:j<1000000) (w:World):(binOp .add t (.int .i64 (j:Int)) (.int .i64 1)).run P w=.ok (.int .i64 ((j+1:Nat):Int)) w:=by
 have e:IntKind.i64.wrap ((j:Int)+1)=((j+1:Nat):Int):=by unfold IntKind.wrap;simp [IntKind.bits,IntKind.signed];omega
 simp only [binOp,Op.intArith,e];simp [Sem.run_bind,e]
end
section
variable {P:Program} {ops:Array Oper} {ks:List Kind} {T:List Nat} {a0:Act} {B:Nat} {w0 W0:World} {H:List (Nat × List Value)} {i:Nat} {o:Oper}
def arrP:Value→Value
 | .slice a _ _=>.pointer a
 | _=>undef
def isFour (cs:List Value) (v:Value) (w:World):Prop:=∃ b off c,v=.slice (some ⟨b,off,none⟩) 4 c∧w.rangeAt b off cs
theorem oAP {t e:TypeId} {x:Operand} {cs:List Value} (j:Nat) (hu:P.underlying t=some (.array 4 e)) (he:early T ks i=true:=by kernel_rfl) (hw:∀ L,wantedR ks L o=true:=by intro _;kernel_rfl) (ho:o.op=.sliceToArrayPointer t x:=by exact rfl)
  (hx:∀ L,rd ops ks T a0 L i x=L.v j:=by intro _;kernel_rfl) (hj:kd ks j=.any (isFour cs):=by exact rfl) (hb:bef T i j=true:=by kernel_rfl) (hk:kd ks i=.detV j arrP):Obl P ops ks T a0 B w0 H i o:=⟨fun L w hs=>by
 rw [if_pos (hw L),hk]
 obtain ⟨b,off,c,e1,hc⟩:=(hs he).any j _ hj hb
 have:(execOp (rd ops ks T a0 L i) o).run P w=.ok (.value (.pointer (some ⟨b,off,none⟩))) w:=by
  unfold execOp
  simp [ho,hx L,e1,Instr.arrayAt,Sem.run_bind,run_underlying hu]
 rw [this]
 exact ⟨by unfold val;rw [hk];show _=arrP (L.v j);rw [e1];rfl,Below.refl _ _⟩⟩
theorem oLP {t:TypeId} {x:Operand} {cs Z:List Value} {n:Nat} (j:Nat) (hR:RowT P t n Z) (he:early T ks i=true:=by kernel_rfl) (hw:∀ L,wantedR ks L o=true:=by intro _;kernel_rfl) (ho:o.op=.load t x:=by exact rfl)
  (hx:∀ L,rd ops ks T a0 L i x=arrP (L.v j):=by intro _;kernel_rfl) (hj:kd ks j=.any (isFour cs):=by exact rfl) (hb:bef T i j=true:=by kernel_rfl) (hl:cs.length=n:=by kernel_rfl) (hk:kd ks i=.det (.agg cs.toArray)):Obl P ops ks T a0 B w0 H i o :=
 oLW hR (fun L w hs=>by
  obtain ⟨b,off,c,e,h⟩:=hs.any j _ hj hb
  exact ⟨b,off,by rw [hx L,e];rfl,h⟩) he hw ho hl hk
end
section
variable {P:Program}
theorem remU (t:TypeId) (n m r:Nat) (hm:0<m) (hr:n%m=r) (w:World):(binOp .rem t (.int .u64 (n:Int)) (.int .u64 (m:Int))).run P w=.ok (.int .u64 (r:Int)) w:=by
 have e0:(n:Int).tmod (m:Int)=(r:Int):=by rw [Int.tmod_eq_emod_of_nonneg (by omega),← hr];rfl
 have h0:¬ (m:Int)=0:=by omega
 have h1:¬ m=0:=by omega
 simp [binOp,Sem.run_bind,Op.intDiv,e0,h0,h1]
theorem lssU (t:TypeId) (a b:Int) (w:World):(binOp .lss t (.int .u64 a) (.int .u64 b)).run P w=.ok (.bool (decide (a<b))) w:=by
 simp [binOp,Sem.run_bind,Op.intCmp]
end
section
variable {P:Program} {ops:Array Oper} {ks:List Kind} {T:List Nat} {a0:Act} {B:Nat} {w0 W0:World} {H:List (Nat × List Value)} {i:Nat} {o:Oper}
end
end Go.Proofs.YthnfgmhehfombaaGreatDoor.Pl
/- Scalars, single cells, limbs that are held against each other. -/
namespace Go.Proofs.YthnfgmhehfombaaGreatDoor.fpn
open Go.RowKit Pl
def RC (n:Nat):List Value:=[.int .u64 (lb n 0),.int .u64 (lb n 1),.int .u64 (lb n 2),.int .u64 (lb n 3)]
def RV (n:Nat):Value:=.agg (RC n).toArray
structure Pj where
 x:F2
 y:F2
 z:F2
theorem Pj.ext' {a b:Pj} (h0:a.x=b.x) (h1:a.y=b.y) (h2:a.z=b.z):a=b:=by cases a;cases b;simp_all
def PJC (a:Pj):List Value:=PC a.x++PC a.y++PC a.z
def PJV (a:Pj):Value:=.agg (PJC a).toArray
theorem oneB:OneT Tryz.prog 4:=⟨Tryz.isAgg4,by kernel_rfl⟩
theorem oneU:OneT Tryz.prog 25:=⟨Tryz.isAgg25,by kernel_rfl⟩
theorem rR:RowT Tryz.prog 27 4 (RC 0):=⟨⟨_,Tryz.underlying27,rfl⟩,by kernel_rfl,by kernel_rfl⟩
theorem aR:ArrT Tryz.prog 27 4 1:=⟨⟨_,Tryz.underlying27,by kernel_rfl⟩⟩
theorem rPJ:RowT Tryz.prog 83 36 (PJC ⟨0,0,0⟩):=⟨⟨_,Tryz.underlying83,rfl⟩,by kernel_rfl,by kernel_rfl⟩
theorem fP0:FldT Tryz.prog 83 0 0 11:=⟨_,_,Tryz.underlying83,rfl,rfl,by kernel_rfl⟩
theorem fP1:FldT Tryz.prog 83 1 12 11:=⟨_,_,Tryz.underlying83,rfl,rfl,by kernel_rfl⟩
theorem fP2:FldT Tryz.prog 83 2 24 11:=⟨_,_,Tryz.underlying83,rfl,rfl,by kernel_rfl⟩
theorem eqN (d:Nat) (f g:Nat→Int) (w:World):∃ b:Bool,(b=true↔∀ i,i<6→f i=g i)∧(Op.equalIn (d+2) 30 (QV f) (QV g)).run Tryz.prog w=.ok b w:=by
 have key:∀ (a b c d' p q a' b' c' d'' p' q':Int),(Op.equalIn (d+2) 30 (.agg #[.int .u64 a,.int .u64 b,.int .u64 c,.int .u64 d',.int .u64 p,.int .u64 q]) (.agg #[.int .u64 a',.int .u64 b',.int .u64 c',.int .u64 d'',.int .u64 p',.int .u64 q'])).run Tryz.prog w=.ok (a == a' && (b == b' && (c == c' && (d' == d'' && (p == p' && q == q'))))) w:=by
  intro a b c d' p q a' b' c' d'' p' q'
  have u3:=Tryz.underlying25
  have a3:=Tryz.isAgg25
  have z3:=Tryz.sizeOf25
  have hE:∀ (x y:Int) (w:World),(Op.equalIn (d+1) 25 (.int .u64 x) (.int .u64 y)).run Tryz.prog w=.ok (x == y) w:=fun x y w=>by
   rw [Op.equalIn.eq_def]
   simp [Sem.run_bind,run_underlying Tryz.underlying25]
  rw [show d+2=(d+1)+1 from rfl,Op.equalIn.eq_def]
  simp only [Sem.run_bind,run_underlying Tryz.underlying30,Result.andThen_ok]
  simp only [Std.Legacy.Range.forIn_eq_forIn_range',Std.Legacy.Range.size,Nat.sub_zero,Nat.add_sub_cancel,Nat.div_one,List.range'_succ,List.range'_zero,List.forIn_cons,List.forIn_nil]
  go_simp
  by_cases h1:a=a'
  ·by_cases h2:b=b'
   ·by_cases h3:c=c'
    ·by_cases h4:d'=d''
     ·by_cases h5:p=p'
      ·by_cases h6:q=q'<;>simp [h1,h2,h3,h4,h5,h6]
      ·simp [h1,h2,h3,h4,h5]
     ·simp [h1,h2,h3,h4]
    ·simp [h1,h2,h3]
   ·simp [h1,h2]
  ·simp [h1]
 refine ⟨_,?_,key _ _ _ _ _ _ _ _ _ _ _ _⟩
 simp only [Bool.and_eq_true,beq_iff_eq]
 constructor
 ·rintro ⟨h0,h1,h2,h3,h4,h5⟩ i hi
  rcases (show i=0∨i=1∨i=2∨i=3∨i=4∨i=5 by omega) with rfl | rfl | rfl | rfl | rfl | rfl<;>assumption
 ·intro h
  exact ⟨h 0 (by decide),h 1 (by decide),h 2 (by decide),h 3 (by decide),h 4 (by decide),h 5 (by decide)⟩
theorem buildRn (w:World):(Instr.build 27 #[]).run Tryz.prog w=.ok (RV 0) w:=run_build w _ _ _ (by kernel_rfl)
theorem buildPJ1 (a:F2) (w:World):(Instr.build 83 #[(1,PV a)]).run Tryz.prog w=.ok (PJV ⟨0,a,0⟩) w:=run_build w _ _ _ (by kernel_rfl)
theorem buildPJ012 (a b c:F2) (w:World):(Instr.build 83 #[(0,PV a),(1,PV b),(2,PV c)]).run Tryz.prog w=.ok (PJV ⟨a,b,c⟩) w:=run_build w _ _ _ (by kernel_rfl)
theorem buildF4 (w:World):(Instr.build 30 #[(0,.int .u64 4)]).run Tryz.prog w=.ok (FV 4) w:=run_build w _ _ _ (by kernel_rfl)
theorem FpK.of4 {G:World→Prop} (K:FpK G) (w:World) (hg:G w):Calls Tryz.prog 120 #[.int .u64 4] w (Ret (FV 4) w):=by
 have h:=K.of 4 w (by decide) hg
 rw [show (Fin.ofNat RN 4:F)=4 by kernel_rfl] at h
 exact h
theorem RefK.of4 (R:RefK) (w:World):Calls Tryz.prog 43 #[.int .u64 4] w (Ret (FV 4) w):=by
 have h:=R.of 4 w (by decide) trivial
 rw [show (Fin.ofNat RN 4:F)=4 by kernel_rfl] at h
 exact h
end Go.Proofs.YthnfgmhehfombaaGreatDoor.fpn
/- Scalars: what the reference and package fr tell of them. -/
namespace Go.Proofs.YthnfgmhehfombaaGreatDoor
open Go.RowKit
theorem frR_at (w:World):Calls Tryz.prog 93 #[] w fun e w'=>∃ k:Nat,e=.returned (.slice (some ⟨k,0,none⟩) 4 4)∧At w' (some ⟨k,0,none⟩) 4 rL∧Below w.heap.size w w':=by
 go_enter Tryz.func93,Tryz.ntmps93
 go_wp2
 go_ret
 exact ⟨_,rfl,(mut_four w rL _).at,below_one _ _⟩
end Go.Proofs.YthnfgmhehfombaaGreatDoor
namespace Go.Proofs.YthnfgmhehfombaaGreatDoor.fpn
open Go.RowKit Pl
theorem lb_bit {k j:Nat} (hk:k<2^256) (hj:j<256):lb k (j / 64) / 2^(j%64)%2=((k / 2^j%2:Nat):Int) :=
 nat_bit (n:=4) (lb_rg k 4) (by rw [lb_val,Nat.mod_eq_of_lt hk]) (by omega)
theorem lb_and {k j:Nat} (hk:k<2^256) (hj:j<256):bits .and .u64 (lb k (j / 64) / 2^(j%64)) 1=((k / 2^j%2:Nat):Int):=by
 have r:=lb_rg k 4 (j / 64) (by omega)
 rw [and_one _ (Int.ediv_nonneg r.1 (Int.le_of_lt (Int.pow_pos (by decide)))) (by
  have:=Int.ediv_le_self (2^(j%64)) r.1
  rw [B64_eq] at r
  omega)]
 exact lb_bit hk hj
theorem rangeR {w x:World} {b off:Nat} {n:Nat} (h:w.rangeAt b off (RC n)) (k:Below w.heap.size w x):x.rangeAt b off (RC n):=range_up h k
theorem ordR_256:ordR<2^256:=by decide +kernel
theorem ordR_pos:0<ordR:=by decide +kernel
theorem RI_ordR:(Go.Proofs.YthnfgmhehfombaaGreatDoor.RI:Int)=(ordR:Int):=by kernel_rfl
theorem lbR {n:Nat} (hn:n<2^256):val (lb n) 4=(n:Int):=by
 rw [lb_val,Nat.mod_eq_of_lt hn]
theorem rL_lb:∀ j,j<4→Go.Proofs.YthnfgmhehfombaaGreatDoor.rL j=lb ordR j:=fun j hj=>by
 rcases (show j=0∨j=1∨j=2∨j=3 by omega) with rfl | rfl | rfl | rfl<;>kernel_rfl
theorem RC_at {n j:Nat} {v:Value} (h:(RC n)[j]?=some v):j<4∧v=.int .u64 (lb n j):=by
 match j,h with
 | 0,h=>exact ⟨by decide,(Option.some.inj h).symm⟩
 | 1,h=>exact ⟨by decide,(Option.some.inj h).symm⟩
 | 2,h=>exact ⟨by decide,(Option.some.inj h).symm⟩
 | 3,h=>exact ⟨by decide,(Option.some.inj h).symm⟩
theorem RC_get (n:Nat) {j:Nat} (h:j<4):(RC n)[j]?=some (.int .u64 (lb n j)):=by
 rcases (show j=0∨j=1∨j=2∨j=3 by omega) with rfl | rfl | rfl | rfl<;>rfl
theorem range_of_at {w:World} {b off n:Nat} {f:Nat→Int} (h:At w (some ⟨b,off,none⟩) 4 f) (e:∀ j,j<4→f j=lb n j):w.rangeAt b off (RC n):=fun j v hv=>by
 obtain ⟨b',off',e',hc⟩:=h (by decide)
 obtain ⟨rfl,rfl⟩:b=b'∧off=off':=by simpa using e'
 obtain ⟨hj,rfl⟩:=RC_at hv
 rw [hc j hj,e j hj]
theorem atR' {w:World} {b off n:Nat} (h:w.rangeAt b off (RC n)):At w (some ⟨b,off,none⟩) 4 (lb n):=fun _=>⟨b,off,rfl,fun j hj=>h j _ (RC_get n hj)⟩
theorem atR {w:World} {b n:Nat} (h:Box w b (RC n)):At w (some ⟨b,0,none⟩) 4 (lb n):=atR' h.cells
theorem isFour_stay {n:Nat}:∀ (v:Value) (w x:World),isFour (RC n) v w→Below w.heap.size w x→isFour (RC n) v x:=fun v w x ⟨b,off,c,e,h⟩ hb=>⟨b,off,c,e,rangeR h hb⟩
theorem frR_new (w:World):Calls Tryz.prog 93 #[] w fun e w'=>∃ v,e=.returned v∧isFour (RC ordR) v w'∧Below w.heap.size w w' :=
 Calls.mono (Go.Proofs.YthnfgmhehfombaaGreatDoor.frR_at w) fun e w' ⟨k,h1,h2,h3⟩=>⟨_,h1,⟨k,0,4,rfl,range_of_at h2 rL_lb⟩,h3⟩
theorem refR_new (w:World):Calls Tryz.prog 20 #[] w fun e w'=>∃ v,e=.returned v∧isFour (RC ordR) v w'∧Below w.heap.size w w' :=
 Calls.mono (Go.Proofs.YthnfgmhehfombaaGreatDoor.refR_any w) fun e w' ⟨h1,h2,h3,h4⟩=>⟨_,h1,⟨_,0,4,rfl,range_of_at h4.at rL_lb⟩,h2⟩
theorem mayR {n:Nat} (hn:n<2^256) (w:World):Calls Tryz.prog 8 #[RV n] w (Ret (.bool (decide (n<ordR))) w):=by
 have h:=Go.Proofs.YthnfgmhehfombaaGreatDoor.mayR_any (lb n) w (lb_rg _ _)
 rw [lbR hn,RI_ordR,decide_eq_decide.2 (show ((n:Int)<(ordR:Int))↔n<ordR from Int.ofNat_lt)] at h
 exact h
theorem RV_of {h:Nat→Int} {n:Nat} (rh:Rg h 4) (hn:n<2^256) (e:val h 4=(n:Int)):Go.Proofs.YthnfgmhehfombaaGreatDoor.frv h=RV n:=by
 have d:=digits rh (lb_rg n 4) (by rw [e,lbR hn])
 unfold Go.Proofs.YthnfgmhehfombaaGreatDoor.frv RV RC
 rw [d 0 (by decide),d 1 (by decide),d 2 (by decide),d 3 (by decide)]
theorem retR {f:FuncId} {args:Array Value} {w:World} {X:Int} {n:Nat} (hn:n<2^256)
  (h:Calls Tryz.prog f args w fun e w'=>∃ v,e=.returned v∧Go.Proofs.YthnfgmhehfombaaGreatDoor.IsFr v X∧Below w.heap.size w w') (hX:X=(n:Int)):Calls Tryz.prog f args w (Ret (RV n) w) :=
 Calls.mono h fun e w' ⟨v,he,⟨h,hv,rh,vh⟩,hb⟩=>⟨he.trans (congrArg _ (hv.trans (RV_of rh hn (vh.trans hX)))),hb⟩
theorem modR (n:Nat):n%ordR<2^256:=Nat.lt_trans (Nat.mod_lt _ ordR_pos) ordR_256
theorem addR {m n:Nat} (hm:m<ordR) (hn:n<ordR) (w:World):Calls Tryz.prog 11 #[RV m,RV n] w (Ret (RV ((m+n)%ordR)) w):=by
 have hm':=Nat.lt_trans hm ordR_256
 have hn':=Nat.lt_trans hn ordR_256
 refine retR (modR _) (Go.Proofs.YthnfgmhehfombaaGreatDoor.addR_any (lb m) (lb n) w (lb_rg _ _) (lb_rg _ _) (by rw [lbR hm',RI_ordR];exact Int.ofNat_lt.2 hm) (by rw [lbR hn',RI_ordR];exact Int.ofNat_lt.2 hn)) ?_
 rw [lbR hm',lbR hn',RI_ordR];simp
theorem mulR {m n:Nat} (hm:m<ordR) (hn:n<ordR) (w:World):Calls Tryz.prog 12 #[RV m,RV n] w (Ret (RV ((m*n)%ordR)) w):=by
 have hm':=Nat.lt_trans hm ordR_256
 have hn':=Nat.lt_trans hn ordR_256
 refine retR (modR _) (Go.Proofs.YthnfgmhehfombaaGreatDoor.mulR_any (lb m) (lb n) w (lb_rg _ _) (lb_rg _ _) (by rw [lbR hn',RI_ordR];exact Int.ofNat_lt.2 hn)) ?_
 rw [lbR hm',lbR hn',RI_ordR];simp
end Go.Proofs.YthnfgmhehfombaaGreatDoor.fpn
