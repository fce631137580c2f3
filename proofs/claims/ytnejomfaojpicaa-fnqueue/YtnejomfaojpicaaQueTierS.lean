/- What the model's OfTier answers, at every queue and tier: its requests of that tier, in a list of its own; nothing else turns. -/
import Derived.Test.YtnejomfaojpicaaRows
import Derived.WalkKit
import Derived.WalkSmall
import Derived.BigQuiet
import Derived.Deep.RegionWith
import Derived.Deep.DeepCutAuto
import Derived.Test.YtnejomfaojpicaaListKit
import Derived.Test.YtnejomfaojpicaaHoldKit
import Derived.Test.YtnejomfaojpicaaGrowKit
import Derived.Test.YtnejomfaojpicaaReqKit
import Derived.Test.YtnejomfaojpicaaReqOks
import Derived.Test.YtnejomfaojpicaaQueMath
import Derived.Test.YtnejomfaojpicaaQueOkS
namespace Go.Proofs.Ytnejomfaojpicaa.QueTierS
open Go.RowKit ListKit HoldKit GrowKit QueMath
set_option maxRecDepth 8000
set_option linter.unusedVariables false
set_option linter.unusedSimpArgs false

/-- A request of this tier, where the queue is right. -/
def ofTier (n : Int) (B : Bool) (s : ReqKit.Req) : Bool := (s.x1 == n) && B
def tierOf (L : List ReqKit.Req) (n : Int) (B : Bool) : List ReqKit.Req := L.filter (ofTier n B)
theorem filter_take {p : ReqKit.Req → Bool} (L : List ReqKit.Req) (k : Nat) (h : k < L.length) : (L.take (k + 1)).filter p = (L.take k).filter p ++ (if p L[k] = true then [L[k]] else []) := by
  rw [List.take_add_one, List.getElem?_eq_getElem h, List.filter_append]
  congr 1
  simp [List.filter]
  split <;> simp_all
theorem filter_len {p : ReqKit.Req → Bool} (L : List ReqKit.Req) (k : Nat) : ((L.take k).filter p).length ≤ k := Nat.le_trans (List.length_filter_le _ _) (by rw [List.length_take]; omega)
theorem info_req : (Try.prog.info? 27).map (fun i => (i.zero, i.size, i.bytes)) = some (some (.agg #[.int .i64 0, .int .i64 0, .int .i64 0, .int .i64 0, .int .i64 0, .int .i64 0]), 6, 48) := by kernel_rfl
theorem cells_one (s : ReqKit.Req) : ∀ u ∈ ReqKit.cells s, u.oneCell' = true := by
  intro u hu
  simp [ReqKit.cells] at hu
  rcases hu with rfl | rfl | rfl | rfl | rfl | rfl <;> rfl
theorem new_cells (w : World) (s : ReqKit.Req) (t : TypeId) : ∀ j u, (ReqKit.cells s)[j]? = some u → (w.alloc (.cells (ReqKit.cells s).toArray t)).cell? ((⟨w.heap.size, 0, none⟩ : Addr).add j) = some u := fun j u hu => by
  rw [Addr.add_lit, Nat.zero_add, (boxB.new w (ReqKit.cells s).toArray t).cell j]
  simpa using hu

end Go.Proofs.Ytnejomfaojpicaa.QueTierS
