/- A contract of the library's slices.BinarySearch that the guide's shelf proves over any program, at this program's own numbers; no condition but those written in it. -/
import Derived.Shelf.SlGeneric
import Derived.Shelf.SlicesG.SearchI
import Derived.Test.YtnabnghjejncpaaGreatRows
import Derived.Test.YtnabnghjejncpaaGreatListKit
import Derived.Test.YtnabnghjejncpaaGreatHoldKit
import Derived.Test.YtnabnghjejncpaaGreatIntKit
namespace Go.Proofs
open Go.Shelf Go.RowKit Go.Lib
def YtnabnghjejncpaaGreatShelfB.ren : Go.Shelf.Ren := ⟨fun | 49 => 116 | 59 => 122 | 60 => 123 | 68 => 124 | n => n, fun | 22 => 87 | 23 => 3 | 3 => 3 | 4 => 4 | 51 => 165 | 0 => 0 | n => n, fun | n => n⟩
theorem YtnabnghjejncpaaGreatShelfB.lay : Go.Proofs.SlLaysN.n49 Tryz.prog YtnabnghjejncpaaGreatShelfB.ren := {
  mixed := by kernel_rfl
  f49 := ⟨Tryz.f116.name, by kernel_rfl, Tryz.func116.trans (congrArg some (by kernel_rfl))⟩
  f59 := ⟨Tryz.f122.name, by kernel_rfl, Tryz.func122.trans (congrArg some (by kernel_rfl))⟩
  f60 := ⟨Tryz.f123.name, by kernel_rfl, Tryz.func123.trans (congrArg some (by kernel_rfl))⟩
  f68 := ⟨Tryz.f124.name, by kernel_rfl, Tryz.func124.trans (congrArg some (by kernel_rfl))⟩
  t0 := Tryz.underlying0
  a0 := Tryz.isAgg0
  z0 := Tryz.sizeOf0
  v0 := Tryz.zeroValue0
  t3 := Tryz.underlying3
  a3 := Tryz.isAgg3
  z3 := Tryz.sizeOf3
  v3 := Tryz.zeroValue3
  t4 := Tryz.underlying4
  a4 := Tryz.isAgg4
  z4 := Tryz.sizeOf4
  v4 := Tryz.zeroValue4
  t22 := Tryz.underlying87
  a22 := Tryz.isAgg87
  z22 := Tryz.sizeOf87
  v22 := Tryz.zeroValue87
  t23 := Tryz.underlying3
  a23 := Tryz.isAgg3
  z23 := Tryz.sizeOf3
  v23 := Tryz.zeroValue3
  t51 := Tryz.underlying165
  a51 := Tryz.isAgg165
  z51 := Tryz.sizeOf165
  v51 := Tryz.zeroValue165 }
theorem YtnabnghjejncpaaGreatShelfB.search (b off n c : Nat) (zs : List Int) (x : Int) (w : World) (hz : n ≤ zs.length) (hbig : n < 4611686018427387904) (hc : ∀ j, j < zs.length → w.cell? ⟨b, off + j, none⟩ = some (.int .i64 (zs.getD j 0))) (hs : (zs.take n).Pairwise (· ≤ ·)) :
    Calls Tryz.prog 116 #[.slice (some ⟨b, off, none⟩) n c, .int .i64 x] w fun e w' => e = .returned (.tuple #[.int .i64 ((zs.take n).countP (· < x) : Nat), .bool ((zs.take n).contains x)]) ∧ ∃ q, w' = w.drewN q := AnyG.slices_BinarySearch_int YtnabnghjejncpaaGreatShelfB.lay b off n c zs x w hz hbig hc hs
end Go.Proofs
