/- The place of the worst request of a list; no condition but those written in each. -/
import Derived.Test.YtnejomfaojpicaaRows
import Derived.WalkKit
import Derived.Test.YtnejomfaojpicaaReqKit
import Derived.Test.YtnejomfaojpicaaReqOks
namespace Go.Proofs.Ytnejomfaojpicaa.QueWorst

/-- The worst of the first of a list. -/
def worstTo (N : List ReqKit.Req) : Nat → Nat
  | 0 => 0
  | i + 1 => if ReqOks.worse (N[i]?.getD ReqKit.zero) (N[worstTo N i]?.getD ReqKit.zero) = true then i else worstTo N i
theorem worst_lt (N : List ReqKit.Req) (h : 0 < N.length) : ∀ i, i ≤ N.length → worstTo N i < N.length
  | 0, _ => h
  | i + 1, hi => by
    unfold worstTo
    split
    · omega
    · exact worst_lt N h i (by omega)
theorem worst_next (N : List ReqKit.Req) (i : Nat) (h : i < N.length) (h2 : worstTo N i < N.length) (x y : ReqKit.Req) (b : Bool) (hx : N[i] = x) (hy : N[worstTo N i] = y) (hb : ReqOks.worse x y = b) : worstTo N (i + 1) = if b = true then i else worstTo N i := by
  rw [worstTo, List.getElem?_eq_getElem h, List.getElem?_eq_getElem h2, Option.getD_some, Option.getD_some, hx, hy, hb]
end Go.Proofs.Ytnejomfaojpicaa.QueWorst
