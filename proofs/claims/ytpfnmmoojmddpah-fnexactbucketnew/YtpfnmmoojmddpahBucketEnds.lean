/- What the model's Take and When answer at every bucket and time; nothing else turns. -/
import Derived.Test.YtpfnmmoojmddpahRows
import Derived.WalkKit
import Derived.WalkSmall
import Derived.BigQuiet
import Derived.Test.YtpfnmmoojmddpahBucketMath
import Derived.Test.YtpfnmmoojmddpahBucketWalks
import Derived.Test.YtpfnmmoojmddpahBucketFill
namespace Go.Proofs.Ytpfnmmoojmddpah.BucketEnds
open Go.RowKit BucketMath BucketWalks BucketFill

theorem kept {w w' : World} {g : Nat} {o : Obj} (h : w.heap[g]? = some o) (hb : Below w.heap.size w w') : w'.heap[g]? = some o := (hb.block g (Array.getElem?_eq_some_iff.1 h).1).trans h
theorem kept1 {w : World} {g : Nat} {o q : Obj} (h : w.heap[g]? = some o) : (w.alloc q).heap[g]? = some o := (Below.heap_alloc _ _ _ (Array.getElem?_eq_some_iff.1 h).1).trans h

end Go.Proofs.Ytpfnmmoojmddpah.BucketEnds
