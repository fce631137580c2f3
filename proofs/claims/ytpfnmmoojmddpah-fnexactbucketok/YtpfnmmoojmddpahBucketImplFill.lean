/- What filling the program's bucket behind a pointer does to it, and to nothing else, and what it answers behind a pointer; at every right bucket and time. -/
import Derived.Test.YtpfnmmoojmddpahRows
import Derived.WalkKit
import Derived.WalkSmall
import Derived.BigQuiet
import Derived.StillTailTactics
import Derived.Test.YtpfnmmoojmddpahBucketMath
import Derived.Test.YtpfnmmoojmddpahBucketBase
namespace Go.Proofs.Ytpfnmmoojmddpah.BucketImpl
open Go.RowKit BucketMath BucketBase

theorem below_drew {B : Nat} {a w : World} (h : Below B a w) : Below B a w.drew := h.trans ⟨rfl, rfl, rfl, Nat.le_refl _, fun _ _ => rfl⟩

end Go.Proofs.Ytpfnmmoojmddpah.BucketImpl
