/- A list of bytes that came in, opened; and small numbers drawn from it; no condition but those written in each. -/
import Derived.Test.YtdgkmiknnelddaaRows
import Derived.Test.YtdgkmiknnelddaaDrawWalks
import Derived.WalkKit
import Derived.WalkSmall
import Derived.BigQuiet
namespace Go.Proofs.Ytdgkmiknnelddaa.CodeArg
open Go.RowKit DrawWalks

/-- What the walk is told of a list of integers that came in: nil, or a row of cells. -/
def IsRow (k : IntKind) (w : World) (a : Option Addr) (len cap : Nat) (zs : List Int) : Prop :=
  (a = none ∧ len = 0 ∧ cap = 0 ∧ zs = []) ∨
  ∃ x, a = some x ∧ len ≤ cap ∧ cap ≤ maxLen ∧ zs.length = cap ∧ (∀ i, i < zs.length → w.cell? (x.add i) = some (.int k (zs.getD i 0))) ∧ ∀ n ∈ zs, (Lit.int k n).wf = true

theorem add_at (b off j : Nat) : (⟨b, off, none⟩ : Addr).add j = ⟨b, off + j, none⟩ := by
  unfold Addr.add
  by_cases h : j = 0
  · subst h; simp
  · simp [h]

theorem code_of {w : World} {a : Option Addr} {len cap : Nat} {zs : List Int} (h : IsRow .u8 w a len cap zs) : CodeOk w w.heap.size a len := by
  rcases h with ⟨_, h, _, _⟩ | ⟨x, rfl, hl, _, hz, hcell, hwz⟩
  · exact Or.inl h
  · by_cases h0 : len = 0
    · exact Or.inl h0
    · obtain ⟨b, off, spot⟩ := x
      have hc := hcell 0 (by omega)
      have hspot : spot = none := by simpa [Addr.add] using World.cell?_spot hc
      subst hspot
      have hb : b < w.heap.size := by
        have := World.block_lt_of_cell? w _ hc
        simpa [Addr.add] using this
      refine Or.inr ⟨b, off, rfl, by omega, fun j hj => ?_⟩
      have hcj := hcell j (by omega)
      have hw := hwz (zs.getD j 0) (by rw [List.getD_eq_getElem?_getD, List.getElem?_eq_getElem (by omega)]; exact List.getElem_mem _)
      have hmin : IntKind.u8.min = 0 := rfl
      have hmax : IntKind.u8.max = 255 := rfl
      simp only [Lit.wf, Bool.and_eq_true, decide_eq_true_eq] at hw
      rw [add_at] at hcj
      exact ⟨zs.getD j 0, by omega, by omega, hcj⟩

theorem row_len {w : World} {a : Option Addr} {len cap : Nat} {zs : List Int} (h : IsRow .u8 w a len cap zs) : (len : Int) ≤ 9223372036854775807 := by
  rcases h with ⟨_, h, _, _⟩ | ⟨x, _, hl, hm, _⟩
  · omega
  · unfold maxLen at hm; omega

/-- The bytes lie below the memory that was there at the call. -/
theorem code_below {w w' : World} {a : Option Addr} {n : Nat} (h : CodeOk w w.heap.size a n) (hb : Below w.heap.size w w') : CodeOk w' w'.heap.size a n := by
  rcases h with h | ⟨b, o, ha, _, hB⟩
  · exact Or.inl h
  · by_cases hz : n = 0
    · exact Or.inl hz
    · obtain ⟨x, _, _, hc⟩ := hB 0 (by omega)
      have hlt := World.block_lt_of_cell? w _ hc
      have hs := hb.size
      have hlt2 : b < w.heap.size := hlt
      exact Or.inr ⟨b, o, ha, by omega, hB.same (hb.block b hlt)⟩

set_option maxHeartbeats 1000000 in
theorem below_small (g n : Nat) (i h m : Int) (a : Option Addr) (cap : Nat) (w : World) (hi0 : 0 ≤ i) (hin : i ≤ n) (hn : (n : Int) ≤ 1048576) (hm0 : 0 < m) (hm1 : m ≤ 256) (hcur : Cur w g (.slice a n cap) i h) (hok : CodeOk w g a n) :
    Calls Try.prog 12 #[.pointer (some ⟨g, 0, none⟩), .int .i64 m] w fun e w' => ∃ y : Int, e = .returned (.int .i64 y) ∧ 0 ≤ y ∧ y < m ∧ Drawn w w' g n (.slice a n cap) := by
  have HC : Hid (Cur w g (.slice a n cap) i h) := hcur
  have HO : Hid (CodeOk w g a n) := hok
  clear hcur hok
  go_enter Try.func12, Try.ntmps12
  go_wp2_with fail
  refine (byte_any g n i h a cap _ hi0 hin hn HC.out HO.out).mono ?_
  rintro e w1 ⟨y1, rfl, y1a, y1b, hd⟩
  have HD : Hid (Drawn w w1 g n (.slice a n cap)) := hd
  have e1 := Int.emod_nonneg y1 (show m ≠ 0 by omega)
  have e2 := Int.emod_lt_of_pos y1 (show 0 < m by omega)
  have E1 : Hid (0 ≤ y1 % m ∧ y1 % m < m) := ⟨e1, e2⟩
  clear hd e1 e2 HC HO
  go_wp2
  go_ret
  exact ⟨_, rfl, E1.out.1, E1.out.2, HD.out⟩

set_option maxHeartbeats 1000000 in
theorem make_small (n : Nat) (m : Int) (a : Option Addr) (cap : Nat) (w : World) (hn : (n : Int) ≤ 1048576) (hm0 : 0 < m) (hm1 : m ≤ 256) (hok : CodeOk w w.heap.size a n) :
    Calls Try.prog 5 #[.slice a n cap, .int .i64 m] w fun e w' => ∃ y : Int, e = .returned (.int .i64 y) ∧ 0 ≤ y ∧ y < m ∧ Below w.heap.size w w' := by
  have HO : Hid (CodeOk w w.heap.size a n) := hok
  clear hok
  go_enter Try.func5, Try.ntmps5
  go_wp2_with fail
  refine (new_any n a cap _ hn HO.out).mono ?_
  rintro e w1 ⟨h, rfl, h0, h1, rfl⟩
  have HC : Hid (Cur (w.alloc (.cells #[.slice a n cap, .int .i64 0, .int .i64 (h + 777)] 39)) w.heap.size (.slice a n cap) 0 (h + 777)) := heap_alloc_new w _
  go_wp2_with fail
  refine (below_small w.heap.size n 0 (h + 777) m a cap _ (by omega) (by omega) hn hm0 hm1 HC.out (code_alloc HO.out _)).mono ?_
  rintro e w2 ⟨y, rfl, y0, y1, i2, h2, _, _, _, hg⟩
  have HB : Hid (Below w.heap.size w w2) := below_of_grown hg
  clear hg
  go_wp2
  go_ret
  exact ⟨y, rfl, y0, y1, HB.out⟩
end Go.Proofs.Ytdgkmiknnelddaa.CodeArg
