/- Texts laid together. -/
import Derived.Test.YtmibajbpimcfnaaGreatDoorGH
import Derived.Test.YtmibajbpimcfnaaGreatDoorGO
import Derived.Deep.Slices
set_option linter.unusedVariables false
set_option maxRecDepth 4000
/- What scalars and slices of scalars that come in give the walks. -/
namespace Go.Proofs.YtmibajbpimcfnaaGreatDoor.fpn
open Go.ChangeShapes Go.WideShapes Go.ChangeAt Go.WideElems Go.RowKit Pl
theorem RV_ofQ {f:Nat→Int} (rf:Rg f 4):∃ n:Nat,Go.Proofs.YtmibajbpimcfnaaGreatDoor.frv f=RV n∧n<2^256:=by
 obtain ⟨h0,h1⟩:=val_bd rf
 obtain ⟨n,hn⟩:=Int.eq_ofNat_of_zero_le h0
 have hlt:n<2^256:=by
  rw [hn,pw_two] at h1
  exact Int.ofNat_lt.1 h1
 exact ⟨n,RV_of rf hlt hn,hlt⟩
theorem open_frN {H:Type} {enc:TypeId × Value→H} {W:World} {base:Nat} {v:Value} {d:DataW H} {p:List MemPlace}
  (hv:Value.okWide Tryz.prog W .any base 24 v) (h0:DataW.Trod enc Tryz.prog W 0 (fun _=>true) true 24 v d p) :
  ∃ n:Nat,v=RV n∧n<2^256:=by
 obtain ⟨f,rfl,rf⟩:=Go.Proofs.YtmibajbpimcfnaaGreatDoor.open_fr hv h0
 obtain ⟨n,hn,hl⟩:=RV_ofQ rf
 exact ⟨n,hn,hl⟩
theorem nat_u64 {a:Int} (h:(Lit.int .u64 a).wf=true):∃ n:Nat,a=(n:Int)∧n<18446744073709551616:=by
 have b:=bounds_u64 h
 exact ⟨a.toNat,by omega,by omega⟩
theorem nat_u8 {a:Int} (h:(Lit.int .u8 a).wf=true):∃ n:Nat,a=(n:Int)∧n<256:=by
 have b:=bounds_u8 h
 exact ⟨a.toNat,by omega,by omega⟩
end Go.Proofs.YtmibajbpimcfnaaGreatDoor.fpn
