/- What the model's and the program's ReqText and OutText answer: a line of a word and numbers, or the empty text where the request or the outcome isn't right; nothing else turns. -/
import Derived.Test.YtcpekobacoijdaaDoorRows
import Derived.WalkKit
import Derived.WalkSmall
import Derived.BigQuiet
import Derived.Deep.RegionWith
import Derived.Deep.DeepCutAuto
import Derived.Deep.DrawnRows
import Derived.Lib.LaidTab
import Derived.Test.YtcpekobacoijdaaDoorReqKit
import Derived.Test.YtcpekobacoijdaaDoorReqOks
import Derived.Test.YtcpekobacoijdaaDoorOutKit
import Derived.Test.YtcpekobacoijdaaDoorOutOks
import Derived.Test.YtcpekobacoijdaaDoorLineMath
import Derived.Test.YtcpekobacoijdaaDoorNumLines
import Derived.Test.YtcpekobacoijdaaDoorListKit
namespace Go.Proofs.YtcpekobacoijdaaDoor.ReqTexts
open Go.RowKit ListKit LineMath NumLines
open ReqKit (Req)
open OutKit (Out)
open ReqOks (reqOk spec_reqok impl_reqok)
open OutOks (outOk spec_outok impl_outok)
set_option maxRecDepth 8000
set_option linter.unusedVariables false
set_option linter.unusedSimpArgs false
attribute [local go_sem ↓] Go.wp_at_zero Go.wp_at_succ

/-- Numbers laid into a new block. -/
theorem row_new (w : World) (ns : List Nat) (t : TypeId) : Row t 1 nf (w.alloc (.cells (ns.map fun (n : Nat) => Value.int .i64 (n : Int)).toArray t)) w.heap.size 0 ns := by
  refine ⟨_, heap_alloc_new w _, by simp, fun i hi j hj => ?_⟩
  obtain rfl : j = 0 := by omega
  simp [nf, hi]

theorem row_new2 (w : World) (o : Obj) (ns : List Nat) (t : TypeId) : Row t 1 nf ((w.alloc o).alloc (.cells (ns.map fun (n : Nat) => Value.int .i64 (n : Int)).toArray t)) (w.heap.size + 1) 0 ns := by
  have h := row_new (w.alloc o) ns t
  rw [World.size_alloc] at h
  exact h

def reqText (s : Req) : List UInt8 := if reqOk s = true then nums [s.x0.toNat, s.x1.toNat, s.x2.toNat, s.x3.toNat, s.x4.toNat, s.x5.toNat] else []

/-- The words of the kinds of outcomes. -/
def words : List (List UInt8) := [[], [103, 114, 97, 110, 116], [100, 111, 110, 101], [115, 104, 101, 100], [108, 97, 116, 101], [115, 108, 111, 119], [98, 117, 100, 103, 101, 116], [99, 97, 110, 99, 101, 108], [102, 97, 105, 108, 101, 100], [98, 97, 100]]
def word (k : Nat) : List UInt8 := words.getD k []
theorem word_len : ∀ k : Nat, k < 10 → (word k).length ≤ 10 := by decide

def outText (s : Out) : List UInt8 := if outOk s = true then word s.x0.toNat ++ [32] ++ nums [s.x1.toNat, s.x2.toNat] ++ (if s.x0 = 1 then [32] ++ nums [s.x3.toNat, s.x4.toNat] else []) else []

theorem nums4 (a b c d : Nat) : nums [a, b, c, d] = nums [a, b] ++ [32] ++ nums [c, d] := by
  simp [nums, Lib.join_cons, Lib.joinTail]
theorem outOk_parts {x0 x1 x2 x3 x4 : Int} (h : outOk ⟨x0, x1, x2, x3, x4⟩ = true) : 1 ≤ x1 ∧ x1 ≤ 1000000 ∧ 0 ≤ x2 ∧ x2 ≤ 1000000000 ∧ ((x0 = 1 ∧ 0 ≤ x3 ∧ x3 < 60 ∧ 0 ≤ x4 ∧ x4 ≤ 1000000) ∨ (2 ≤ x0 ∧ x0 ≤ 9 ∧ x3 = 0 ∧ x4 = 0)) := by
  simpa [outOk] using h
theorem reqOk_parts {x0 x1 x2 x3 x4 x5 : Int} (h : reqOk ⟨x0, x1, x2, x3, x4, x5⟩ = true) : 1 ≤ x0 ∧ x0 ≤ 1000000 ∧ 0 ≤ x1 ∧ x1 < 4 ∧ 0 ≤ x2 ∧ x2 ≤ 1000 ∧ 0 ≤ x3 ∧ x3 ≤ 1000000000 ∧ 0 ≤ x4 ∧ x4 ≤ 1000000000 ∧ 0 ≤ x5 ∧ x5 ≤ 20 := by
  simpa [reqOk] using h
theorem box1 {w w1 : World} {A : Obj} (hb : Below (w.alloc A).heap.size (w.alloc A) w1) : w1.heap[w.heap.size]? = some A ∧ Below w.heap.size w w1 ∧ w.heap.size < w1.heap.size := by
  have hs := hb.size
  simp at hs
  exact ⟨(hb.block _ (by simp)).trans (heap_alloc_new w A), ((Below.refl _ _).alloc (Nat.le_refl _) _).trans (hb.mono (by simp)), by omega⟩
theorem all6 {a b c d e f m : Nat} (h : a ≤ m ∧ b ≤ m ∧ c ≤ m ∧ d ≤ m ∧ e ≤ m ∧ f ≤ m) : ∀ n ∈ [a, b, c, d, e, f], n ≤ m := by
  intro n hn
  simp at hn
  omega
theorem all4 {a b c d m : Nat} (h : a ≤ m ∧ b ≤ m ∧ c ≤ m ∧ d ≤ m) : ∀ n ∈ [a, b, c, d], n ≤ m := by
  intro n hn
  simp at hn
  omega
theorem all2 {a b m : Nat} (h : a ≤ m ∧ b ≤ m) : ∀ n ∈ [a, b], n ≤ m := by
  intro n hn
  simp at hn
  omega

set_option maxHeartbeats 4000000 in
theorem spec_reqtext (x0 x1 x2 x3 x4 x5 : Int) (w : World) :
    Calls Tryd.prog 8 #[.agg #[.int .i64 x0, .int .i64 x1, .int .i64 x2, .int .i64 x3, .int .i64 x4, .int .i64 x5]] w fun e w' => e = .returned (.string ⟨(reqText ⟨x0, x1, x2, x3, x4, x5⟩).toArray⟩) ∧ Below w.heap.size w w' := by
  have HOK := fun w => spec_reqok x0 x1 x2 x3 x4 x5 w
  by_cases h : reqOk ⟨x0, x1, x2, x3, x4, x5⟩ = true
  · have hE : reqText ⟨x0, x1, x2, x3, x4, x5⟩ = nums [x0.toNat, x1.toNat, x2.toNat, x3.toNat, x4.toNat, x5.toNat] := if_pos h
    rw [h] at HOK
    rw [hE]
    obtain ⟨h1, h2, h3, h4, h5, h6, h7, h8, h9, h10, h11, h12⟩ := reqOk_parts h
    clear hE h
    obtain ⟨n0, rfl⟩ := Int.eq_ofNat_of_zero_le (show 0 ≤ x0 by omega)
    obtain ⟨n1, rfl⟩ := Int.eq_ofNat_of_zero_le h3
    obtain ⟨n2, rfl⟩ := Int.eq_ofNat_of_zero_le h5
    obtain ⟨n3, rfl⟩ := Int.eq_ofNat_of_zero_le h7
    obtain ⟨n4, rfl⟩ := Int.eq_ofNat_of_zero_le h9
    obtain ⟨n5, rfl⟩ := Int.eq_ofNat_of_zero_le h11
    simp only [Int.toNat_natCast]
    have HM : Hid (∀ n ∈ [n0, n1, n2, n3, n4, n5], n ≤ 1000000000000) := all6 (by omega)
    have HRW : ∀ W : World, Row 3 1 nf (W.alloc (.cells #[.int .i64 (n0 : Int), .int .i64 (n1 : Int), .int .i64 (n2 : Int), .int .i64 (n3 : Int), .int .i64 (n4 : Int), .int .i64 (n5 : Int)] 3)) W.heap.size 0 [n0, n1, n2, n3, n4, n5] := fun W => row_new W [n0, n1, n2, n3, n4, n5] _
    have H2 : Hid (∀ W : World, Row 3 1 nf (W.alloc (.cells #[.int .i64 (n0 : Int), .int .i64 (n1 : Int), .int .i64 (n2 : Int), .int .i64 (n3 : Int), .int .i64 (n4 : Int), .int .i64 (n5 : Int)] 3)) W.heap.size 0 [n0, n1, n2, n3, n4, n5]) := HRW
    clear h1 h2 h3 h4 h5 h6 h7 h8 h9 h10 h11 h12 HRW
    go_enter Tryd.func8, Tryd.ntmps8
    go_wp2_with fail
    refine (HOK _).mono ?_
    rintro e w1 ⟨rfl, b1⟩
    have E1 : Hid (w1.heap[w.heap.size]? = some _ ∧ Below w.heap.size w w1 ∧ w.heap.size < w1.heap.size) := box1 b1
    have c0 := cellB E1.out.1 0
    have c1 := cellB E1.out.1 1
    have c2 := cellB E1.out.1 2
    have c3 := cellB E1.out.1 3
    have c4 := cellB E1.out.1 4
    have c5 := cellB E1.out.1 5
    clear b1 HOK
    go_wp2_with fail
    refine (spec_line [] [n0, n1, n2, n3, n4, n5] _ _ _ (H2.out w1) HM.out (by simp) (by simp)).mono ?_
    rintro e w2 ⟨rfl, b2⟩
    have B2 : Hid (Below w.heap.size w w2) := (E1.out.2.1.alloc (Nat.le_of_lt E1.out.2.2) _).trans (b2.mono (by have := E1.out.2.2; simp; omega))
    clear b2 c0 c1 c2 c3 c4 c5
    go_wp2
    go_ret
    exact ⟨by rw [lineFrom_none]; rfl, B2.out⟩
  · have hE : reqText ⟨x0, x1, x2, x3, x4, x5⟩ = [] := if_neg h
    have h2 : reqOk ⟨x0, x1, x2, x3, x4, x5⟩ = false := by simpa using h
    rw [h2] at HOK
    rw [hE]
    clear h h2 hE
    go_enter Tryd.func8, Tryd.ntmps8
    go_wp2_with fail
    refine (HOK _).mono ?_
    rintro e w1 ⟨rfl, b1⟩
    have B1 : Hid (Below w.heap.size w w1) := (box1 b1).2.1
    clear b1 HOK
    go_wp2
    go_ret
    exact ⟨rfl, B1.out⟩
set_option maxHeartbeats 4000000 in
theorem impl_reqtext (x0 x1 x2 x3 x4 x5 : Int) (w : World) (ht : Lib.TabIs Tryd.prog w "internal/strconv.uint64pow10" .u64 Lib.pow10Tab) :
    Calls Tryd.prog 10 #[.agg #[.int .i64 x0, .int .i64 x1, .int .i64 x2, .int .i64 x3, .int .i64 x4, .int .i64 x5]] w fun e w' => e = .returned (.string ⟨(reqText ⟨x0, x1, x2, x3, x4, x5⟩).toArray⟩) ∧ Below w.heap.size w w' := by
  have HOK := fun w => impl_reqok x0 x1 x2 x3 x4 x5 w
  have HT : Hid (Lib.TabIs Tryd.prog w "internal/strconv.uint64pow10" .u64 Lib.pow10Tab) := ht
  clear ht
  by_cases h : reqOk ⟨x0, x1, x2, x3, x4, x5⟩ = true
  · have hE : reqText ⟨x0, x1, x2, x3, x4, x5⟩ = nums [x0.toNat, x1.toNat, x2.toNat, x3.toNat, x4.toNat, x5.toNat] := if_pos h
    rw [h] at HOK
    rw [hE]
    obtain ⟨h1, h2, h3, h4, h5, h6, h7, h8, h9, h10, h11, h12⟩ := reqOk_parts h
    clear hE h
    obtain ⟨n0, rfl⟩ := Int.eq_ofNat_of_zero_le (show 0 ≤ x0 by omega)
    obtain ⟨n1, rfl⟩ := Int.eq_ofNat_of_zero_le h3
    obtain ⟨n2, rfl⟩ := Int.eq_ofNat_of_zero_le h5
    obtain ⟨n3, rfl⟩ := Int.eq_ofNat_of_zero_le h7
    obtain ⟨n4, rfl⟩ := Int.eq_ofNat_of_zero_le h9
    obtain ⟨n5, rfl⟩ := Int.eq_ofNat_of_zero_le h11
    simp only [Int.toNat_natCast]
    have HM : Hid (∀ n ∈ [n0, n1, n2, n3, n4, n5], n ≤ 1000000000000) := all6 (by omega)
    have HRW : ∀ W : World, Row 3 1 nf (W.alloc (.cells #[.int .i64 (n0 : Int), .int .i64 (n1 : Int), .int .i64 (n2 : Int), .int .i64 (n3 : Int), .int .i64 (n4 : Int), .int .i64 (n5 : Int)] 3)) W.heap.size 0 [n0, n1, n2, n3, n4, n5] := fun W => row_new W [n0, n1, n2, n3, n4, n5] _
    have H2 : Hid (∀ W : World, Row 3 1 nf (W.alloc (.cells #[.int .i64 (n0 : Int), .int .i64 (n1 : Int), .int .i64 (n2 : Int), .int .i64 (n3 : Int), .int .i64 (n4 : Int), .int .i64 (n5 : Int)] 3)) W.heap.size 0 [n0, n1, n2, n3, n4, n5]) := HRW
    clear h1 h2 h3 h4 h5 h6 h7 h8 h9 h10 h11 h12 HRW
    go_enter Tryd.func10, Tryd.ntmps10
    go_wp2_with fail
    refine (HOK _).mono ?_
    rintro e w1 ⟨rfl, b1⟩
    have E1 : Hid (w1.heap[w.heap.size]? = some _ ∧ Below w.heap.size w w1 ∧ w.heap.size < w1.heap.size) := box1 b1
    have c0 := cellB E1.out.1 0
    have c1 := cellB E1.out.1 1
    have c2 := cellB E1.out.1 2
    have c3 := cellB E1.out.1 3
    have c4 := cellB E1.out.1 4
    have c5 := cellB E1.out.1 5
    clear b1 HOK
    go_wp2_with fail
    refine (impl_nums [n0, n1, n2, n3, n4, n5] _ _ _ (H2.out w1) HM.out (by simp) (by simp) (Joins.tab_stays gPow (Joins.tab_stays gPow HT.out E1.out.2.1 (Nat.le_refl _)) ((Below.refl _ _).alloc (Nat.le_refl _) _) (Nat.le_refl _))).mono ?_
    rintro e w2 ⟨rfl, b2⟩
    have B2 : Hid (Below w.heap.size w w2) := (E1.out.2.1.alloc (Nat.le_of_lt E1.out.2.2) _).trans (b2.mono (by have := E1.out.2.2; simp; omega))
    clear b2 c0 c1 c2 c3 c4 c5
    go_wp2
    go_ret
    exact ⟨rfl, B2.out⟩
  · have hE : reqText ⟨x0, x1, x2, x3, x4, x5⟩ = [] := if_neg h
    have h2 : reqOk ⟨x0, x1, x2, x3, x4, x5⟩ = false := by simpa using h
    rw [h2] at HOK
    rw [hE]
    clear h h2 hE
    go_enter Tryd.func10, Tryd.ntmps10
    go_wp2_with fail
    refine (HOK _).mono ?_
    rintro e w1 ⟨rfl, b1⟩
    have B1 : Hid (Below w.heap.size w w1) := (box1 b1).2.1
    clear b1 HOK
    go_wp2
    go_ret
    exact ⟨rfl, B1.out⟩
set_option maxHeartbeats 4000000 in
theorem spec_outtext (x0 x1 x2 x3 x4 : Int) (w : World) :
    Calls Tryd.prog 5 #[.agg #[.int .i64 x0, .int .i64 x1, .int .i64 x2, .int .i64 x3, .int .i64 x4]] w fun e w' => e = .returned (.string ⟨(outText ⟨x0, x1, x2, x3, x4⟩).toArray⟩) ∧ Below w.heap.size w w' := by
  have HOK := fun w => spec_outok x0 x1 x2 x3 x4 w
  by_cases h : outOk ⟨x0, x1, x2, x3, x4⟩ = true
  · have hE : outText ⟨x0, x1, x2, x3, x4⟩ = word x0.toNat ++ [32] ++ nums [x1.toNat, x2.toNat] ++ (if x0 = 1 then [32] ++ nums [x3.toNat, x4.toNat] else []) := if_pos h
    rw [h] at HOK
    rw [hE]
    obtain ⟨h1, h2, h3, h4, h5⟩ := outOk_parts h
    clear hE h
    obtain ⟨n1, rfl⟩ := Int.eq_ofNat_of_zero_le (show 0 ≤ x1 by omega)
    obtain ⟨n2, rfl⟩ := Int.eq_ofNat_of_zero_le h3
    obtain ⟨n3, rfl⟩ := Int.eq_ofNat_of_zero_le (show 0 ≤ x3 by omega)
    obtain ⟨n4, rfl⟩ := Int.eq_ofNat_of_zero_le (show 0 ≤ x4 by omega)
    simp only [Int.toNat_natCast]
    have HM4 : Hid (∀ n ∈ [n1, n2, n3, n4], n ≤ 1000000000000) := all4 (by omega)
    have HM2 : Hid (∀ n ∈ [n1, n2], n ≤ 1000000000000) := all2 (by omega)
    have H4 : Hid (∀ (W : World) (o : Obj), Row 3 1 nf ((W.alloc o).alloc (.cells #[.int .i64 (n1 : Int), .int .i64 (n2 : Int), .int .i64 (n3 : Int), .int .i64 (n4 : Int)] 3)) (W.heap.size + 1) 0 [n1, n2, n3, n4]) := fun W o => row_new2 W o [n1, n2, n3, n4] _
    have H2 : Hid (∀ (W : World) (o : Obj), Row 3 1 nf ((W.alloc o).alloc (.cells #[.int .i64 (n1 : Int), .int .i64 (n2 : Int)] 3)) (W.heap.size + 1) 0 [n1, n2]) := fun W o => row_new2 W o [n1, n2] _
    have hk : x0 = 1 ∨ x0 = 2 ∨ x0 = 3 ∨ x0 = 4 ∨ x0 = 5 ∨ x0 = 6 ∨ x0 = 7 ∨ x0 = 8 ∨ x0 = 9 := by omega
    clear h1 h2 h3 h4 h5
    rcases hk with rfl | rfl | rfl | rfl | rfl | rfl | rfl | rfl | rfl
    · go_enter Tryd.func5, Tryd.ntmps5
      go_wp2_with fail
      refine (HOK _).mono ?_
      rintro e w1 ⟨rfl, b1⟩
      have E1 : Hid (w1.heap[w.heap.size]? = some _ ∧ Below w.heap.size w w1 ∧ w.heap.size < w1.heap.size) := box1 b1
      have hx := E1.out.2.2
      have hx1 : w.heap.size < w1.heap.size + 1 := Nat.lt_succ_of_lt hx
      have c0 := cellB E1.out.1 0
      have c1 := cellB E1.out.1 1
      have c2 := cellB E1.out.1 2
      have c3 := cellB E1.out.1 3
      have c4 := cellB E1.out.1 4
      clear b1 HOK
      go_wp2_with fail
      refine (spec_line [103, 114, 97, 110, 116] [n1, n2, n3, n4] _ _ _ (H4.out w1 _) HM4.out (by simp) (by simp)).mono ?_
      rintro e w2 ⟨rfl, b2⟩
      have B2 : Hid (Below w.heap.size w w2) := ((E1.out.2.1.alloc (Nat.le_of_lt E1.out.2.2) _).alloc (by have := E1.out.2.2; simp; omega) _).trans (b2.mono (by have := E1.out.2.2; simp; omega))
      clear b2 c0 c1 c2 c3 c4
      go_wp2
      go_ret
      refine ⟨?_, B2.out⟩
      rw [lineFrom_word _ _ _ (by simp), nums4]
      simp [word, words]
    · go_enter Tryd.func5, Tryd.ntmps5
      go_wp2_with fail
      refine (HOK _).mono ?_
      rintro e w1 ⟨rfl, b1⟩
      have E1 : Hid (w1.heap[w.heap.size]? = some _ ∧ Below w.heap.size w w1 ∧ w.heap.size < w1.heap.size) := box1 b1
      have hx := E1.out.2.2
      have hx1 : w.heap.size < w1.heap.size + 1 := Nat.lt_succ_of_lt hx
      have c0 := cellB E1.out.1 0
      have c1 := cellB E1.out.1 1
      have c2 := cellB E1.out.1 2
      have c3 := cellB E1.out.1 3
      have c4 := cellB E1.out.1 4
      clear b1 HOK
      go_wp2_with fail
      refine (spec_line [100, 111, 110, 101] [n1, n2] _ _ _ (H2.out w1 _) HM2.out (by simp) (by simp)).mono ?_
      rintro e w2 ⟨rfl, b2⟩
      have B2 : Hid (Below w.heap.size w w2) := ((E1.out.2.1.alloc (Nat.le_of_lt E1.out.2.2) _).alloc (by have := E1.out.2.2; simp; omega) _).trans (b2.mono (by have := E1.out.2.2; simp; omega))
      clear b2 c0 c1 c2 c3 c4
      go_wp2
      go_ret
      refine ⟨?_, B2.out⟩
      rw [lineFrom_word _ _ _ (by simp)]
      simp [word, words]
    · go_enter Tryd.func5, Tryd.ntmps5
      go_wp2_with fail
      refine (HOK _).mono ?_
      rintro e w1 ⟨rfl, b1⟩
      have E1 : Hid (w1.heap[w.heap.size]? = some _ ∧ Below w.heap.size w w1 ∧ w.heap.size < w1.heap.size) := box1 b1
      have hx := E1.out.2.2
      have hx1 : w.heap.size < w1.heap.size + 1 := Nat.lt_succ_of_lt hx
      have c0 := cellB E1.out.1 0
      have c1 := cellB E1.out.1 1
      have c2 := cellB E1.out.1 2
      have c3 := cellB E1.out.1 3
      have c4 := cellB E1.out.1 4
      clear b1 HOK
      go_wp2_with fail
      refine (spec_line [115, 104, 101, 100] [n1, n2] _ _ _ (H2.out w1 _) HM2.out (by simp) (by simp)).mono ?_
      rintro e w2 ⟨rfl, b2⟩
      have B2 : Hid (Below w.heap.size w w2) := ((E1.out.2.1.alloc (Nat.le_of_lt E1.out.2.2) _).alloc (by have := E1.out.2.2; simp; omega) _).trans (b2.mono (by have := E1.out.2.2; simp; omega))
      clear b2 c0 c1 c2 c3 c4
      go_wp2
      go_ret
      refine ⟨?_, B2.out⟩
      rw [lineFrom_word _ _ _ (by simp)]
      simp [word, words]
    · go_enter Tryd.func5, Tryd.ntmps5
      go_wp2_with fail
      refine (HOK _).mono ?_
      rintro e w1 ⟨rfl, b1⟩
      have E1 : Hid (w1.heap[w.heap.size]? = some _ ∧ Below w.heap.size w w1 ∧ w.heap.size < w1.heap.size) := box1 b1
      have hx := E1.out.2.2
      have hx1 : w.heap.size < w1.heap.size + 1 := Nat.lt_succ_of_lt hx
      have c0 := cellB E1.out.1 0
      have c1 := cellB E1.out.1 1
      have c2 := cellB E1.out.1 2
      have c3 := cellB E1.out.1 3
      have c4 := cellB E1.out.1 4
      clear b1 HOK
      go_wp2_with fail
      refine (spec_line [108, 97, 116, 101] [n1, n2] _ _ _ (H2.out w1 _) HM2.out (by simp) (by simp)).mono ?_
      rintro e w2 ⟨rfl, b2⟩
      have B2 : Hid (Below w.heap.size w w2) := ((E1.out.2.1.alloc (Nat.le_of_lt E1.out.2.2) _).alloc (by have := E1.out.2.2; simp; omega) _).trans (b2.mono (by have := E1.out.2.2; simp; omega))
      clear b2 c0 c1 c2 c3 c4
      go_wp2
      go_ret
      refine ⟨?_, B2.out⟩
      rw [lineFrom_word _ _ _ (by simp)]
      simp [word, words]
    · go_enter Tryd.func5, Tryd.ntmps5
      go_wp2_with fail
      refine (HOK _).mono ?_
      rintro e w1 ⟨rfl, b1⟩
      have E1 : Hid (w1.heap[w.heap.size]? = some _ ∧ Below w.heap.size w w1 ∧ w.heap.size < w1.heap.size) := box1 b1
      have hx := E1.out.2.2
      have hx1 : w.heap.size < w1.heap.size + 1 := Nat.lt_succ_of_lt hx
      have c0 := cellB E1.out.1 0
      have c1 := cellB E1.out.1 1
      have c2 := cellB E1.out.1 2
      have c3 := cellB E1.out.1 3
      have c4 := cellB E1.out.1 4
      clear b1 HOK
      go_wp2_with fail
      refine (spec_line [115, 108, 111, 119] [n1, n2] _ _ _ (H2.out w1 _) HM2.out (by simp) (by simp)).mono ?_
      rintro e w2 ⟨rfl, b2⟩
      have B2 : Hid (Below w.heap.size w w2) := ((E1.out.2.1.alloc (Nat.le_of_lt E1.out.2.2) _).alloc (by have := E1.out.2.2; simp; omega) _).trans (b2.mono (by have := E1.out.2.2; simp; omega))
      clear b2 c0 c1 c2 c3 c4
      go_wp2
      go_ret
      refine ⟨?_, B2.out⟩
      rw [lineFrom_word _ _ _ (by simp)]
      simp [word, words]
    · go_enter Tryd.func5, Tryd.ntmps5
      go_wp2_with fail
      refine (HOK _).mono ?_
      rintro e w1 ⟨rfl, b1⟩
      have E1 : Hid (w1.heap[w.heap.size]? = some _ ∧ Below w.heap.size w w1 ∧ w.heap.size < w1.heap.size) := box1 b1
      have hx := E1.out.2.2
      have hx1 : w.heap.size < w1.heap.size + 1 := Nat.lt_succ_of_lt hx
      have c0 := cellB E1.out.1 0
      have c1 := cellB E1.out.1 1
      have c2 := cellB E1.out.1 2
      have c3 := cellB E1.out.1 3
      have c4 := cellB E1.out.1 4
      clear b1 HOK
      go_wp2_with fail
      refine (spec_line [98, 117, 100, 103, 101, 116] [n1, n2] _ _ _ (H2.out w1 _) HM2.out (by simp) (by simp)).mono ?_
      rintro e w2 ⟨rfl, b2⟩
      have B2 : Hid (Below w.heap.size w w2) := ((E1.out.2.1.alloc (Nat.le_of_lt E1.out.2.2) _).alloc (by have := E1.out.2.2; simp; omega) _).trans (b2.mono (by have := E1.out.2.2; simp; omega))
      clear b2 c0 c1 c2 c3 c4
      go_wp2
      go_ret
      refine ⟨?_, B2.out⟩
      rw [lineFrom_word _ _ _ (by simp)]
      simp [word, words]
    · go_enter Tryd.func5, Tryd.ntmps5
      go_wp2_with fail
      refine (HOK _).mono ?_
      rintro e w1 ⟨rfl, b1⟩
      have E1 : Hid (w1.heap[w.heap.size]? = some _ ∧ Below w.heap.size w w1 ∧ w.heap.size < w1.heap.size) := box1 b1
      have hx := E1.out.2.2
      have hx1 : w.heap.size < w1.heap.size + 1 := Nat.lt_succ_of_lt hx
      have c0 := cellB E1.out.1 0
      have c1 := cellB E1.out.1 1
      have c2 := cellB E1.out.1 2
      have c3 := cellB E1.out.1 3
      have c4 := cellB E1.out.1 4
      clear b1 HOK
      go_wp2_with fail
      refine (spec_line [99, 97, 110, 99, 101, 108] [n1, n2] _ _ _ (H2.out w1 _) HM2.out (by simp) (by simp)).mono ?_
      rintro e w2 ⟨rfl, b2⟩
      have B2 : Hid (Below w.heap.size w w2) := ((E1.out.2.1.alloc (Nat.le_of_lt E1.out.2.2) _).alloc (by have := E1.out.2.2; simp; omega) _).trans (b2.mono (by have := E1.out.2.2; simp; omega))
      clear b2 c0 c1 c2 c3 c4
      go_wp2
      go_ret
      refine ⟨?_, B2.out⟩
      rw [lineFrom_word _ _ _ (by simp)]
      simp [word, words]
    · go_enter Tryd.func5, Tryd.ntmps5
      go_wp2_with fail
      refine (HOK _).mono ?_
      rintro e w1 ⟨rfl, b1⟩
      have E1 : Hid (w1.heap[w.heap.size]? = some _ ∧ Below w.heap.size w w1 ∧ w.heap.size < w1.heap.size) := box1 b1
      have hx := E1.out.2.2
      have hx1 : w.heap.size < w1.heap.size + 1 := Nat.lt_succ_of_lt hx
      have c0 := cellB E1.out.1 0
      have c1 := cellB E1.out.1 1
      have c2 := cellB E1.out.1 2
      have c3 := cellB E1.out.1 3
      have c4 := cellB E1.out.1 4
      clear b1 HOK
      go_wp2_with fail
      refine (spec_line [102, 97, 105, 108, 101, 100] [n1, n2] _ _ _ (H2.out w1 _) HM2.out (by simp) (by simp)).mono ?_
      rintro e w2 ⟨rfl, b2⟩
      have B2 : Hid (Below w.heap.size w w2) := ((E1.out.2.1.alloc (Nat.le_of_lt E1.out.2.2) _).alloc (by have := E1.out.2.2; simp; omega) _).trans (b2.mono (by have := E1.out.2.2; simp; omega))
      clear b2 c0 c1 c2 c3 c4
      go_wp2
      go_ret
      refine ⟨?_, B2.out⟩
      rw [lineFrom_word _ _ _ (by simp)]
      simp [word, words]
    · go_enter Tryd.func5, Tryd.ntmps5
      go_wp2_with fail
      refine (HOK _).mono ?_
      rintro e w1 ⟨rfl, b1⟩
      have E1 : Hid (w1.heap[w.heap.size]? = some _ ∧ Below w.heap.size w w1 ∧ w.heap.size < w1.heap.size) := box1 b1
      have hx := E1.out.2.2
      have hx1 : w.heap.size < w1.heap.size + 1 := Nat.lt_succ_of_lt hx
      have c0 := cellB E1.out.1 0
      have c1 := cellB E1.out.1 1
      have c2 := cellB E1.out.1 2
      have c3 := cellB E1.out.1 3
      have c4 := cellB E1.out.1 4
      clear b1 HOK
      go_wp2_with fail
      refine (spec_line [98, 97, 100] [n1, n2] _ _ _ (H2.out w1 _) HM2.out (by simp) (by simp)).mono ?_
      rintro e w2 ⟨rfl, b2⟩
      have B2 : Hid (Below w.heap.size w w2) := ((E1.out.2.1.alloc (Nat.le_of_lt E1.out.2.2) _).alloc (by have := E1.out.2.2; simp; omega) _).trans (b2.mono (by have := E1.out.2.2; simp; omega))
      clear b2 c0 c1 c2 c3 c4
      go_wp2
      go_ret
      refine ⟨?_, B2.out⟩
      rw [lineFrom_word _ _ _ (by simp)]
      simp [word, words]
  · have hE : outText ⟨x0, x1, x2, x3, x4⟩ = [] := if_neg h
    have h2 : outOk ⟨x0, x1, x2, x3, x4⟩ = false := by simpa using h
    rw [h2] at HOK
    rw [hE]
    clear h h2 hE
    go_enter Tryd.func5, Tryd.ntmps5
    go_wp2_with fail
    refine (HOK _).mono ?_
    rintro e w1 ⟨rfl, b1⟩
    have B1 : Hid (Below w.heap.size w w1) := (box1 b1).2.1
    clear b1 HOK
    go_wp2
    go_ret
    exact ⟨rfl, B1.out⟩
/-- The program's table of words. -/
def WordsAt (w : World) : Prop := ∀ k : Nat, k < 10 → w.cell? ⟨0, k, none⟩ = some (.string ⟨(word k).toArray⟩)
theorem WordsAt.below {w w' : World} (h : WordsAt w) (hb : Below w.heap.size w w') : WordsAt w' := fun k hk => (hb.cell (World.block_lt_of_cell? w _ (h k hk))).trans (h k hk)

set_option maxHeartbeats 4000000 in
theorem impl_outtext (x0 x1 x2 x3 x4 : Int) (w : World) (ht : Lib.TabIs Tryd.prog w "internal/strconv.uint64pow10" .u64 Lib.pow10Tab) (hw : WordsAt w) :
    Calls Tryd.prog 7 #[.agg #[.int .i64 x0, .int .i64 x1, .int .i64 x2, .int .i64 x3, .int .i64 x4]] w fun e w' => e = .returned (.string ⟨(outText ⟨x0, x1, x2, x3, x4⟩).toArray⟩) ∧ Below w.heap.size w w' := by
  have HOK := fun w => impl_outok x0 x1 x2 x3 x4 w
  have HT : Hid (Lib.TabIs Tryd.prog w "internal/strconv.uint64pow10" .u64 Lib.pow10Tab) := ht
  have HW : Hid (WordsAt w) := hw
  clear ht hw
  by_cases h : outOk ⟨x0, x1, x2, x3, x4⟩ = true
  · have hE : outText ⟨x0, x1, x2, x3, x4⟩ = word x0.toNat ++ [32] ++ nums [x1.toNat, x2.toNat] ++ (if x0 = 1 then [32] ++ nums [x3.toNat, x4.toNat] else []) := if_pos h
    rw [h] at HOK
    rw [hE]
    obtain ⟨h1, h2, h3, h4, h5⟩ := outOk_parts h
    clear hE h
    obtain ⟨n0, rfl⟩ := Int.eq_ofNat_of_zero_le (show 0 ≤ x0 by omega)
    obtain ⟨n1, rfl⟩ := Int.eq_ofNat_of_zero_le (show 0 ≤ x1 by omega)
    obtain ⟨n2, rfl⟩ := Int.eq_ofNat_of_zero_le h3
    obtain ⟨n3, rfl⟩ := Int.eq_ofNat_of_zero_le (show 0 ≤ x3 by omega)
    obtain ⟨n4, rfl⟩ := Int.eq_ofNat_of_zero_le (show 0 ≤ x4 by omega)
    simp only [Int.toNat_natCast]
    have HM2 : Hid (∀ n ∈ [n1, n2], n ≤ 1000000000000) := all2 (by omega)
    have HM4 : Hid (∀ n ∈ [n3, n4], n ≤ 1000000000000) := all2 (by omega)
    have H2 : Hid (∀ W : World, Row 3 1 nf (W.alloc (.cells #[.int .i64 (n1 : Int), .int .i64 (n2 : Int)] 3)) W.heap.size 0 [n1, n2]) := fun W => row_new W [n1, n2] _
    have H4 : Hid (∀ W : World, Row 3 1 nf (W.alloc (.cells #[.int .i64 (n3 : Int), .int .i64 (n4 : Int)] 3)) W.heap.size 0 [n3, n4]) := fun W => row_new W [n3, n4] _
    have hk1 : 1 ≤ n0 := by omega
    have hk9 : n0 < 10 := by omega
    have hk10 : (n0 : Int) < 10 := by omega
    have hwl := word_len n0 hk9
    have HL2 : (nums [n1, n2]).length ≤ 28 := nums_len n1 [n2] HM2.out
    have HL4 : (nums [n3, n4]).length ≤ 28 := nums_len n3 [n4] HM4.out
    obtain ⟨Wd, hWd⟩ : ∃ l, word n0 = l := ⟨_, rfl⟩
    obtain ⟨X2, hX2⟩ : ∃ l, nums [n1, n2] = l := ⟨_, rfl⟩
    obtain ⟨X4, hX4⟩ : ∃ l, nums [n3, n4] = l := ⟨_, rfl⟩
    have KW : Hid (word n0 = Wd) := hWd
    have K2 : Hid (nums [n1, n2] = X2) := hX2
    have K4 : Hid (nums [n3, n4] = X4) := hX4
    rw [hWd] at hwl ⊢
    rw [hX2] at HL2 ⊢
    rw [hX4] at HL4 ⊢
    clear h1 h2 h3 h4 h5 hWd hX2 hX4
    obtain ⟨M1, hM1⟩ : ∃ l, Wd ++ [32] = l := ⟨_, rfl⟩
    obtain ⟨M2, hM2⟩ : ∃ l, M1 ++ X2 = l := ⟨_, rfl⟩
    obtain ⟨M3, hM3⟩ : ∃ l, [32] ++ X4 = l := ⟨_, rfl⟩
    obtain ⟨M4, hM4⟩ : ∃ l, M2 ++ M3 = l := ⟨_, rfl⟩
    have l1 : M1.length ≤ 11 := by rw [← hM1]; simp; omega
    have l2 : M2.length ≤ 39 := by rw [← hM2]; simp; omega
    have l3 : M3.length ≤ 29 := by rw [← hM3]; simp; omega
    have J1 : Hid (Wd ++ [32] = M1 ∧ M1 ++ X2 = M2 ∧ [32] ++ X4 = M3 ∧ M2 ++ M3 = M4) := ⟨hM1, hM2, hM3, hM4⟩
    have ka : ∀ W : World, (Op.stringOp .add ⟨Wd.toArray⟩ ⟨#[32]⟩).run Tryd.prog W = .ok (.string ⟨M1.toArray⟩) W := fun W => by
      rw [← J1.out.1]
      exact add_texts Wd [32] (by omega) (by simp) W
    have kb : ∀ W : World, (Op.stringOp .add ⟨M1.toArray⟩ ⟨X2.toArray⟩).run Tryd.prog W = .ok (.string ⟨M2.toArray⟩) W := fun W => by
      rw [← J1.out.2.1]
      exact add_texts M1 X2 (by omega) (by omega) W
    have kc : ∀ W : World, (Op.stringOp .add ⟨#[32]⟩ ⟨X4.toArray⟩).run Tryd.prog W = .ok (.string ⟨M3.toArray⟩) W := fun W => by
      rw [← J1.out.2.2.1]
      exact add_texts [32] X4 (by simp) (by omega) W
    have kd : ∀ W : World, (Op.stringOp .add ⟨M2.toArray⟩ ⟨M3.toArray⟩).run Tryd.prog W = .ok (.string ⟨M4.toArray⟩) W := fun W => by
      rw [← J1.out.2.2.2]
      exact add_texts M2 M3 (by omega) (by omega) W
    rw [hM1, hM2, hM3]
    clear hM1 hM2 hM3 hM4 l1 l2 l3
    go_enter Tryd.func7, Tryd.ntmps7
    go_wp2_with fail
    refine (HOK _).mono ?_
    rintro e w1 ⟨rfl, b1⟩
    have E1 : Hid (w1.heap[w.heap.size]? = some _ ∧ Below w.heap.size w w1 ∧ w.heap.size < w1.heap.size) := box1 b1
    have c0 := cellB E1.out.1 0
    have c1 := cellB E1.out.1 1
    have c2 := cellB E1.out.1 2
    have c3 := cellB E1.out.1 3
    have c4 := cellB E1.out.1 4
    have cw : w1.cell? ⟨0, n0, none⟩ = some (.string ⟨Wd.toArray⟩) := by rw [← KW.out]; exact (HW.out.below E1.out.2.1) n0 hk9
    have HT1 : Hid (Lib.TabIs Tryd.prog w1 "internal/strconv.uint64pow10" .u64 Lib.pow10Tab) := Joins.tab_stays gPow HT.out E1.out.2.1 (Nat.le_refl _)
    clear b1 HOK HT HW
    go_upto_region 3 with fail
    go_cut [3] (fun v wx => v = .string ⟨M2.toArray⟩ ∧ Hid (wx.heap[w.heap.size]? = some (.cells #[.int .i64 (n0 : Int), .int .i64 (n1 : Int), .int .i64 (n2 : Int), .int .i64 (n3 : Int), .int .i64 (n4 : Int)] 29 (0, 0)) ∧ Below w.heap.size w wx ∧ w.heap.size < wx.heap.size ∧ Lib.TabIs Tryd.prog wx "internal/strconv.uint64pow10" .u64 Lib.pow10Tab))
    case first =>
      have hx := E1.out.2.2
      have hx1 : w.heap.size < w1.heap.size + 1 := Nat.lt_succ_of_lt hx
      have hy : 0 < w1.heap.size := World.block_lt_of_cell? w1 _ cw
      have hy1 : 0 < w1.heap.size + 1 := Nat.lt_succ_of_lt hy
      go_region_with (go_at_call 15; refine (impl_nums [n1, n2] _ _ _ (by exact (H2.out w1).same rfl) HM2.out (by simp) (by simp) (by exact Joins.tab_stays gPow HT1.out (((Below.refl w1.heap.size w1).alloc (Nat.le_refl _) _).drew) (Nat.le_refl _))).mono ?_; rintro e w2 ⟨rfl, b2⟩; have b3 : Below w1.heap.size w1 w2 := (((Below.refl w1.heap.size w1).alloc (Nat.le_refl _) _).drew).trans (b2.mono (by simp)); have E2 : Hid (w2.heap[w.heap.size]? = some (.cells #[.int .i64 (n0 : Int), .int .i64 (n1 : Int), .int .i64 (n2 : Int), .int .i64 (n3 : Int), .int .i64 (n4 : Int)] 29 (0, 0)) ∧ Below w.heap.size w w2 ∧ w.heap.size < w2.heap.size ∧ Lib.TabIs Tryd.prog w2 "internal/strconv.uint64pow10" .u64 Lib.pow10Tab) := ⟨(b3.block _ E1.out.2.2).trans E1.out.1, E1.out.2.1.trans (b3.mono (Nat.le_of_lt E1.out.2.2)), Nat.lt_of_lt_of_le E1.out.2.2 b3.size, Joins.tab_stays gPow HT1.out b3 (Nat.le_refl _)⟩; have d0 := cellB E2.out.1 0; have d1 := cellB E2.out.1 1; have d2 := cellB E2.out.1 2; have dw := (b3.cell (World.block_lt_of_cell? w1 _ cw)).trans cw; rw [K2.out]; clear b2 b3)
      all_goals
        (go_wp2_with fail; go_meet; exact ⟨rfl, E2⟩)
    case rest =>
      obtain ⟨rfl, E3⟩ := hcut
      clear c0 c1 c2 c3 c4 cw HT1 E1
      have e0 := cellB E3.out.1 0
      have e3 := cellB E3.out.1 3
      have e4 := cellB E3.out.1 4
      have hx := E3.out.2.2.1
      by_cases hk : n0 = 1
      · have q1 : ((n0 : Int) == 1) = true := by simp [hk]
        go_wp2_with (go_at_call 15; refine (impl_nums [n3, n4] _ _ _ (H4.out wc) HM4.out (by simp) (by simp) (Joins.tab_stays gPow E3.out.2.2.2 ((Below.refl wc.heap.size wc).alloc (Nat.le_refl _) _) (Nat.le_refl _))).mono ?_; rintro e w4 ⟨rfl, b4⟩; have B4 : Hid (Below w.heap.size w w4) := (E3.out.2.1.alloc (Nat.le_of_lt E3.out.2.2.1) _).trans (b4.mono (by have := E3.out.2.2.1; simp; omega)); rw [K4.out]; clear b4)
        go_ret
        refine ⟨?_, B4.out⟩
        rw [J1.out.2.2.2]
        rfl
      · have q1 : ((n0 : Int) == 1) = false := by rw [beq_eq_false_iff_ne]; omega
        go_wp2
        go_ret
        exact ⟨rfl, E3.out.2.1⟩
  · have hE : outText ⟨x0, x1, x2, x3, x4⟩ = [] := if_neg h
    have h2 : outOk ⟨x0, x1, x2, x3, x4⟩ = false := by simpa using h
    rw [h2] at HOK
    rw [hE]
    clear h h2 hE
    go_enter Tryd.func7, Tryd.ntmps7
    go_wp2_with fail
    refine (HOK _).mono ?_
    rintro e w1 ⟨rfl, b1⟩
    have B1 : Hid (Below w.heap.size w w1) := (box1 b1).2.1
    clear b1 HOK
    go_wp2
    go_ret
    exact ⟨rfl, B1.out⟩
end Go.Proofs.YtcpekobacoijdaaDoor.ReqTexts
