/- Texts laid together. -/
import Derived.Test.YthnfgmhehfombaaGreatDoorGH
import Derived.Test.YthnfgmhehfombaaGreatDoorGO
import Derived.Deep.Slices
set_option linter.unusedVariables false
set_option maxRecDepth 4000
/- What scalars and slices of scalars that come in give the walks. -/
namespace Go.Proofs.YthnfgmhehfombaaGreatDoor.fpn
open Go.ChangeShapes Go.WideShapes Go.ChangeAt Go.WideElems Go.RowKit Pl
theorem RV_ofQ {f:Nat→Int} (rf:Rg f 4):∃ n:Nat,Go.Proofs.YthnfgmhehfombaaGreatDoor.frv f=RV n∧n<2^256:=by
 obtain ⟨h0,h1⟩:=val_bd rf
 obtain ⟨n,hn⟩:=Int.eq_ofNat_of_zero_le h0
 have hlt:n<2^256:=by
  rw [hn,pw_two] at h1
  exact Int.ofNat_lt.1 h1
 exact ⟨n,RV_of rf hlt hn,hlt⟩
theorem open_frN {H:Type} {enc:TypeId × Value→H} {W:World} {base:Nat} {v:Value} {d:DataW H} {p:List MemPlace}
  (hv:Value.okWide Tryz.prog W .any base 27 v) (h0:DataW.Trod enc Tryz.prog W 0 (fun _=>true) true 27 v d p) :
  ∃ n:Nat,v=RV n∧n<2^256:=by
 obtain ⟨f,rfl,rf⟩:=Go.Proofs.YthnfgmhehfombaaGreatDoor.open_fr hv h0
 obtain ⟨n,hn,hl⟩:=RV_ofQ rf
 exact ⟨n,hn,hl⟩
theorem nat_u64 {a:Int} (h:(Lit.int .u64 a).wf=true):∃ n:Nat,a=(n:Int)∧n<18446744073709551616:=by
 have b:=bounds_u64 h
 exact ⟨a.toNat,by omega,by omega⟩
theorem cellsR4:Tryz.prog.cellsOf 27=4:=by kernel_rfl
theorem row4 {H:Type} {enc:TypeId × Value→H} {W:World} {base:Nat} {spare:Nat→Bool} {held:Bool} {fuel:Nat} {cs:List Value} {x:DataW H × List MemPlace}
  (h:DataW.trod enc Tryz.prog W base spare held fuel 27 cs=some x):∃ n:Nat,cs=RC n∧n<2^256:=by
 obtain ⟨xs,m,_,_,hlen,hn,hel⟩:=DataW.trod_array Tryz.underlying27 h
 rw [cellsR4] at hlen
 rw [cells64] at hel
 obtain ⟨c0,c1,c2,c3,rfl⟩:∃ c0 c1 c2 c3,cs=[c0,c1,c2,c3]:=by
  match cs,hlen with
  | [c0,c1,c2,c3],_=>exact ⟨c0,c1,c2,c3,rfl⟩
 match xs,hn with
 | [y0,y1,y2,y3],_ =>
  obtain ⟨x0,e0,rfl,w0⟩:=DataW.trod_int Tryz.underlying25 (show DataW.trod _ Tryz.prog W _ _ _ m 25 _=some y0 from hel 0 (by decide))
  obtain ⟨x1,e1,rfl,w1⟩:=DataW.trod_int Tryz.underlying25 (show DataW.trod _ Tryz.prog W _ _ _ m 25 _=some y1 from hel 1 (by decide))
  obtain ⟨x2,e2,rfl,w2⟩:=DataW.trod_int Tryz.underlying25 (show DataW.trod _ Tryz.prog W _ _ _ m 25 _=some y2 from hel 2 (by decide))
  obtain ⟨x3,e3,rfl,w3⟩:=DataW.trod_int Tryz.underlying25 (show DataW.trod _ Tryz.prog W _ _ _ m 25 _=some y3 from hel 3 (by decide))
  simp at e0 e1 e2 e3
  subst e0 e1 e2 e3
  have rf:Rg (Go.Proofs.YthnfgmhehfombaaGreatDoor.quad x0 x1 x2 x3) 4:=fun i hi=>by
   have b0:=bounds_u64 w0
   have b1:=bounds_u64 w1
   have b2:=bounds_u64 w2
   have b3:=bounds_u64 w3
   rw [B64_eq]
   rcases (show i=0∨i=1∨i=2∨i=3 by omega) with rfl | rfl | rfl | rfl<;>simp only [Go.Proofs.YthnfgmhehfombaaGreatDoor.quad]<;>omega
  obtain ⟨n,hn,hl⟩:=RV_ofQ rf
  refine ⟨n,?_,hl⟩
  have e:(Value.agg #[.int .u64 x0,.int .u64 x1,.int .u64 x2,.int .u64 x3])=.agg (RC n).toArray:=hn
  have e':#[Value.int .u64 x0,.int .u64 x1,.int .u64 x2,.int .u64 x3]=(RC n).toArray:=by injection e
  simpa using e'
def AtR (w:World) (p:Option Addr) (l:List Nat):Prop:=0<l.length→∃ b off,p=some ⟨b,off,none⟩∧∀ j n,l[j]?=some n→w.rangeAt b (off+j*4) (RC n)
theorem addr_none {w:World} {a:Addr} {v:Value} (h:w.cell? a=some v):∃ b off,a=⟨b,off,none⟩:=by
 obtain ⟨b,off,m⟩:=a
 cases m with
 | none=>exact ⟨b,off,rfl⟩
 | some x =>
  simp [World.cell?] at h
  split at h<;>cases h
theorem open_frs {H:Type} {enc:TypeId × Value→H} {W:World} {a:Option Addr} {len cap:Nat} {d:DataW H} {p:List MemPlace}
  (h0:DataW.Trod enc Tryz.prog W 0 (fun _=>true) true 22 (.slice a len cap) d p):∃ l:List Nat,l.length=len∧len≤cap∧cap≤maxLen∧(∀ n∈l,n<2^256)∧AtR W a l:=by
 obtain ⟨fuel,hf⟩:=h0
 rcases Go.Deep.open_slice Tryz.underlying22 hf with ⟨hcs,_⟩ | ⟨x,len',cap',m,k,D,Pl,hcs,_,hl,hm,hmm,_,hx⟩
 ·simp [Value.cells] at hcs
  obtain ⟨rfl,rfl,rfl⟩:=hcs
  exact ⟨[],rfl,Nat.le_refl _,by decide,fun n h=>(by cases h),fun h=>absurd h (by decide)⟩
 ·simp [Value.cells] at hcs
  obtain ⟨rfl,rfl,rfl⟩:=hcs
  have hlm:len≤m:=by rw [hmm];simp;omega
  obtain ⟨f,hfn⟩:=Go.Deep.choose_lt (α:=Nat) (p:=fun i n=>n<2^256∧∀ j v,(RC n)[j]?=some v→W.cell? (x.add (i*4+j))=some v) (n:=len) (fun i hi=>by
   obtain ⟨cs',h1,h2⟩:=hx i (by omega)
   rw [cellsR4] at h1
   obtain ⟨n,rfl,hn⟩:=row4 h2
   obtain ⟨_,_,h3⟩:=World.cells?_some h1
   refine ⟨n,hn,fun j v hv=>?_⟩
   have hj:j<4:=(RC_at hv).1
   rw [← Go.Deep.add_add,h3 j hj,hv])
  refine ⟨(List.range len).map f,by simp,hl,hm,fun n hn=>?_,fun h=>?_⟩
  ·obtain ⟨i,hi,rfl⟩:=List.mem_map.1 hn
   exact (hfn i (by simpa using hi)).1
  ·have h':0<len:=by simpa using h
   obtain ⟨b,off,e⟩:∃ b off,x=⟨b,off,none⟩:=by
    have:=(hfn 0 h').2 0 _ (RC_get (f 0) (by decide))
    obtain ⟨b,off,m'⟩:=x
    rw [Nat.zero_mul,Nat.zero_add] at this
    have e0:(⟨b,off,m'⟩:Addr).add 0=⟨b,off,m'⟩:=by unfold Addr.add;simp
    rw [e0] at this
    obtain ⟨b',off',e⟩:=addr_none this
    exact ⟨b',off',e⟩
   subst e
   refine ⟨b,off,rfl,fun j n hn i v hv=>?_⟩
   have hj:j<len:=by
    have:=(List.getElem?_eq_some_iff.1 hn).1
    simpa using this
   have hn':n=f j:=by
    simp [hj] at hn
    exact hn.symm
   subst hn'
   have:=(hfn j hj).2 i v hv
   rw [Addr.add_mid] at this
   rw [Nat.add_assoc]
   exact this
end Go.Proofs.YthnfgmhehfombaaGreatDoor.fpn
