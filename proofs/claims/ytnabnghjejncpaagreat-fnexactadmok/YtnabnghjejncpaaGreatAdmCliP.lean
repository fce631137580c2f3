/- The clients of the used slots of a ledger; no condition. -/
import Derived.Test.YtnabnghjejncpaaGreatRows
import Derived.WalkKit
import Derived.Test.YtnabnghjejncpaaGreatSlotKit
namespace Go.Proofs.YtnabnghjejncpaaGreat.AdmCliP
open Go.RowKit

def clientsOf (L : List SlotKit.Slot) : List Int := (L.filter (fun s => s.x1)).map (fun s => s.x3)
theorem clients_take (L : List SlotKit.Slot) (k : Nat) (h : k < L.length) : clientsOf (L.take (k + 1)) = clientsOf (L.take k) ++ (if L[k].x1 = true then [L[k].x3] else []) := by
  unfold clientsOf
  rw [List.take_add_one, List.getElem?_eq_getElem h, List.filter_append, List.map_append]
  congr 1
  simp [List.filter]
  split <;> simp_all
theorem clients_len (L : List SlotKit.Slot) (k : Nat) : (clientsOf (L.take k)).length ≤ k := by
  unfold clientsOf
  rw [List.length_map]
  exact Nat.le_trans (List.length_filter_le _ _) (by rw [List.length_take]; omega)
theorem clients_le (L : List SlotKit.Slot) : (clientsOf L).length ≤ L.length := by
  unfold clientsOf
  rw [List.length_map]
  exact List.length_filter_le _ _
end Go.Proofs.YtnabnghjejncpaaGreat.AdmCliP
