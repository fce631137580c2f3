/- What the laws' drawing of numbers does: at every list of at most 2 to the 20 bytes it gives a number below the bound that is asked for, in memory of its own, and nothing else turns; no condition but those written in each. -/
import Derived.Test.YtdgkmiknnelddaaRows
import Derived.WalkKit
import Derived.WalkSmall
import Derived.BigQuiet
namespace Go.Proofs.Ytdgkmiknnelddaa.DrawWalks
open Go.RowKit

theorem and255 (a : Int) : 0 ≤ bits .and .i64 a 255 ∧ bits .and .i64 a 255 ≤ 255 := by
  have e : bits .and .i64 a 255 = IntKind.i64.wrap ((BitVec.ofInt 64 a &&& BitVec.ofInt 64 255).toNat : Int) := rfl
  have h : (BitVec.ofInt 64 a &&& BitVec.ofInt 64 255).toNat ≤ 255 := by rw [BitVec.toNat_and]; exact Nat.and_le_right
  rw [e, IntKind.wrap_i64]
  omega

theorem and30 (a : Int) : 0 ≤ bits .and .i64 a 1073741823 ∧ bits .and .i64 a 1073741823 ≤ 1073741823 := by
  have e : bits .and .i64 a 1073741823 = IntKind.i64.wrap ((BitVec.ofInt 64 a &&& BitVec.ofInt 64 1073741823).toNat : Int) := rfl
  have h : (BitVec.ofInt 64 a &&& BitVec.ofInt 64 1073741823).toNat ≤ 1073741823 := by rw [BitVec.toNat_and]; exact Nat.and_le_right
  rw [e, IntKind.wrap_i64]
  omega

/-- Block g is a cursor: the list, a place, a number. -/
def Cur (w : World) (g : Nat) (cv : Value) (i h : Int) : Prop := w.heap[g]? = some (.cells #[cv, .int .i64 i, .int .i64 h] 39 (0, 0))

theorem Cur.lt {w : World} {g : Nat} {cv : Value} {i h : Int} (c : Cur w g cv i h) : g < w.heap.size := (Array.getElem?_eq_some_iff.1 c).1
theorem Cur.c0 {w : World} {g : Nat} {cv : Value} {i h : Int} (c : Cur w g cv i h) : w.cell? ⟨g, 0, none⟩ = some cv := by
  have c' : w.heap[g]? = _ := c
  simp [World.cell?, c']
theorem Cur.c1 {w : World} {g : Nat} {cv : Value} {i h : Int} (c : Cur w g cv i h) : w.cell? ⟨g, 1, none⟩ = some (.int .i64 i) := by
  have c' : w.heap[g]? = _ := c
  simp [World.cell?, c']
theorem Cur.c2 {w : World} {g : Nat} {cv : Value} {i h : Int} (c : Cur w g cv i h) : w.cell? ⟨g, 2, none⟩ = some (.int .i64 h) := by
  have c' : w.heap[g]? = _ := c
  simp [World.cell?, c']
theorem Cur.fz {w : World} {g : Nat} {cv : Value} {i h : Int} (c : Cur w g cv i h) (j : Nat) : w.frozen? ⟨g, j, none⟩ = false := by
  have c' : w.heap[g]? = _ := c
  simp [World.frozen?, c']

theorem heap_setCell_at {w : World} {g : Nat} {cur : Array Value} {t : TypeId} (h : w.heap[g]? = some (.cells cur t (0, 0))) (i : Nat) (v : Value) :
    (w.setCell ⟨g, i, none⟩ v).heap[g]? = some (.cells (cur.setIfInBounds i v) t (0, 0)) := by
  have hlt := (Array.getElem?_eq_some_iff.1 h).1
  simp [World.setCell, h, Array.getElem?_modify]

theorem Cur.set2 {w : World} {g : Nat} {cv : Value} {i h : Int} (c : Cur w g cv i h) (k : Int) : Cur (w.setCell ⟨g, 2, none⟩ (.int .i64 k)) g cv i k := heap_setCell_at c 2 _
theorem Cur.set1 {w : World} {g : Nat} {cv : Value} {i h : Int} (c : Cur w g cv i h) (k : Int) : Cur (w.setCell ⟨g, 1, none⟩ (.int .i64 k)) g cv k h := heap_setCell_at c 1 _

/-- The bytes of a list. -/
def Bytes (w : World) (b o n : Nat) : Prop := ∀ j, j < n → ∃ x : Int, 0 ≤ x ∧ x ≤ 255 ∧ w.cell? ⟨b, o + j, none⟩ = some (.int .u8 x)

theorem Bytes.same {w w' : World} {b o n : Nat} (h : Bytes w b o n) (e : w'.heap[b]? = w.heap[b]?) : Bytes w' b o n := fun j hj => by
  obtain ⟨x, h0, h1, hc⟩ := h j hj
  exact ⟨x, h0, h1, by rw [World.cell?_of_block (w := w) (w' := w') (a := ⟨b, o + j, none⟩) e]; exact hc⟩

theorem grown_set {w w1 : World} {g : Nat} (h : w.grownBy w1 (some g)) (i : Nat) (v : Value) : w.grownBy (w1.setCell ⟨g, i, none⟩ v) (some g) := by
  refine ⟨h.os, h.tape, h.output, by have := h.size; simpa using this, fun k hk hne => ?_⟩
  rw [Below.heap_setCell w1 ⟨g, i, none⟩ v k (by intro e; exact hne (by rw [e]))]
  exact h.block k hk hne
theorem grown_refl (w : World) (r : Option Nat) : w.grownBy w r := ⟨rfl, rfl, rfl, Nat.le_refl _, fun _ _ _ => rfl⟩
theorem grown_drewN {w w1 : World} {r : Option Nat} (h : w.grownBy w1 r) (n : Nat) : w.grownBy (w1.drewN n) r := ⟨h.os, h.tape, h.output, h.size, h.block⟩
theorem grown_trans {a b c : World} {r : Option Nat} (h : a.grownBy b r) (k : b.grownBy c r) : a.grownBy c r :=
  ⟨k.os.trans h.os, k.tape.trans h.tape, k.output.trans h.output, Nat.le_trans h.size k.size, fun j hj hne => (k.block j (Nat.lt_of_lt_of_le hj h.size) hne).trans (h.block j hj hne)⟩

/-- What a byte that is drawn leaves. -/
def Drawn (w w' : World) (g n : Nat) (cv : Value) : Prop := ∃ i h : Int, 0 ≤ i ∧ i ≤ n ∧ Cur w' g cv i h ∧ w.grownBy w' (some g)

set_option maxHeartbeats 1000000 in
theorem byte_in (g n : Nat) (i h : Int) (b o cap : Nat) (w : World) (hi0 : 0 ≤ i) (hin : i < n) (hn : (n : Int) ≤ 1048576) (hcur : Cur w g (.slice (some ⟨b, o, none⟩) n cap) i h) (hB : Bytes w b o n) (hne : b ≠ g) :
    Calls Try.prog 23 #[.pointer (some ⟨g, 0, none⟩)] w fun e w' => ∃ y : Int, e = .returned (.int .i64 y) ∧ 0 ≤ y ∧ y ≤ 255 ∧ Drawn w w' g n (.slice (some ⟨b, o, none⟩) n cap) := by
  obtain ⟨H, hH⟩ : ∃ H, wrap64 (wrap64 (h * 6364136223846793005) + 1442695040888963407) = H := ⟨_, rfl⟩
  have hcur1 := hcur.set2 H
  have hg1 := grown_set (grown_refl w (some g)) 2 (.int .i64 H)
  have hB1 : Bytes (w.setCell ⟨g, 2, none⟩ (.int .i64 H)) b o n := hB.same (Below.heap_setCell w ⟨g, 2, none⟩ _ b hne)
  obtain ⟨x, hx0, hx1, hx⟩ := hB1 i.toNat (by omega)
  obtain ⟨x0, hx2⟩ : ∃ x0, bits .and .i64 (bits .xor .i64 (H / 8589934592) (H / 35184372088832)) 255 = x0 := ⟨_, rfl⟩
  have hx3 : 0 ≤ x0 ∧ x0 ≤ 255 := by rw [← hx2]; exact and255 _
  obtain ⟨x1, hx4⟩ : ∃ x1, bits .and .i64 (x0 + x) 255 = x1 := ⟨_, rfl⟩
  have hx5 : 0 ≤ x1 ∧ x1 ≤ 255 := by rw [← hx4]; exact and255 _
  have q0 := hcur.c0
  have q1 := hcur.c1
  have q2 := hcur.c2
  have q3 := hcur.fz 2
  have k1 : IntKind.i64.wrap x = x := by rw [IntKind.wrap_i64]; omega
  have k2 : IntKind.i64.wrap (x0 + x) = x0 + x := by rw [IntKind.wrap_i64]; omega
  go_enter Try.func23, Try.ntmps23
  go_wp2
  clear q0 q1 q2 q3
  have r0 := hcur1.c0
  have r1 := hcur1.c1
  have r2 := hcur1.c2
  have r3 := hcur1.fz 1
  have HC : Hid (Cur (w.setCell ⟨g, 2, none⟩ (.int .i64 H)) g (.slice (some ⟨b, o, none⟩) n cap) i H) := hcur1
  have HG : Hid (w.grownBy (w.setCell ⟨g, 2, none⟩ (.int .i64 H)) (some g)) := hg1
  clear hcur hcur1 hB hB1 hg1 hH
  generalize w.setCell ⟨g, 2, none⟩ (.int .i64 H) = W at *
  go_quiet (fail)
  go_wp2
  go_quiet (fail)
  go_wp2
  go_quiet (fail)
  go_wp2
  go_ret
  exact ⟨x1, rfl, hx5.1, hx5.2, i + 1, H, by omega, by omega, HC.out.set1 (i + 1), grown_set (grown_drewN HG.out _) 1 _⟩

set_option maxHeartbeats 1000000 in
theorem byte_out (g n : Nat) (h : Int) (a : Option Addr) (cap : Nat) (w : World) (hn : (n : Int) ≤ 1048576) (hcur : Cur w g (.slice a n cap) n h) :
    Calls Try.prog 23 #[.pointer (some ⟨g, 0, none⟩)] w fun e w' => ∃ y : Int, e = .returned (.int .i64 y) ∧ 0 ≤ y ∧ y ≤ 255 ∧ Drawn w w' g n (.slice a n cap) := by
  obtain ⟨H, hH⟩ : ∃ H, wrap64 (wrap64 (h * 6364136223846793005) + 1442695040888963407) = H := ⟨_, rfl⟩
  have hcur1 := hcur.set2 H
  have hg1 := grown_set (grown_refl w (some g)) 2 (.int .i64 H)
  obtain ⟨x0, hx2⟩ : ∃ x0, bits .and .i64 (bits .xor .i64 (H / 8589934592) (H / 35184372088832)) 255 = x0 := ⟨_, rfl⟩
  have hx3 : 0 ≤ x0 ∧ x0 ≤ 255 := by rw [← hx2]; exact and255 _
  have q0 := hcur.c0
  have q1 := hcur.c1
  have q2 := hcur.c2
  have q3 := hcur.fz 2
  go_enter Try.func23, Try.ntmps23
  go_wp2
  clear q0 q1 q2 q3
  have r0 := hcur1.c0
  have r1 := hcur1.c1
  have r2 := hcur1.c2
  have HC : Hid (Cur (w.setCell ⟨g, 2, none⟩ (.int .i64 H)) g (.slice a n cap) n H) := hcur1
  have HG : Hid (w.grownBy (w.setCell ⟨g, 2, none⟩ (.int .i64 H)) (some g)) := hg1
  clear hcur hcur1 hg1 hH
  generalize w.setCell ⟨g, 2, none⟩ (.int .i64 H) = W at *
  go_quiet (fail)
  go_wp2
  go_quiet (fail)
  go_wp2
  go_ret
  exact ⟨x0, rfl, hx3.1, hx3.2, n, H, by omega, by omega, HC.out, by repeat (first | exact HG.out | apply grown_drewN)⟩

/-- The list that a cursor goes over: empty, or bytes that lie elsewhere. -/
def CodeOk (w : World) (g : Nat) (a : Option Addr) (n : Nat) : Prop := n = 0 ∨ ∃ b o, a = some ⟨b, o, none⟩ ∧ b ≠ g ∧ Bytes w b o n

theorem CodeOk.grown {w w' : World} {g n : Nat} {a : Option Addr} (h : CodeOk w g a n) (hg : w.grownBy w' (some g)) : CodeOk w' g a n := by
  rcases h with h | ⟨b, o, ha, hne, hB⟩
  · exact Or.inl h
  · by_cases hz : n = 0
    · exact Or.inl hz
    · obtain ⟨x, _, _, hc⟩ := hB 0 (by omega)
      exact Or.inr ⟨b, o, ha, hne, hB.same (hg.block b (World.block_lt_of_cell? w _ hc) (by intro e; exact hne (Option.some.inj e)))⟩

theorem byte_any (g n : Nat) (i h : Int) (a : Option Addr) (cap : Nat) (w : World) (hi0 : 0 ≤ i) (hin : i ≤ n) (hn : (n : Int) ≤ 1048576) (hcur : Cur w g (.slice a n cap) i h) (hok : CodeOk w g a n) :
    Calls Try.prog 23 #[.pointer (some ⟨g, 0, none⟩)] w fun e w' => ∃ y : Int, e = .returned (.int .i64 y) ∧ 0 ≤ y ∧ y ≤ 255 ∧ Drawn w w' g n (.slice a n cap) := by
  by_cases hlt : i < n
  · rcases hok with hz | ⟨b, o, rfl, hne, hB⟩
    · omega
    · exact byte_in g n i h b o cap w hi0 hlt hn hcur hB hne
  · obtain rfl : i = n := by omega
    exact byte_out g n h a cap w hn hcur

set_option maxHeartbeats 1000000 in
theorem below_any (g n : Nat) (i h m : Int) (a : Option Addr) (cap : Nat) (w : World) (hi0 : 0 ≤ i) (hin : i ≤ n) (hn : (n : Int) ≤ 1048576) (hm0 : 256 < m) (hm1 : m ≤ 1000000000000) (hcur : Cur w g (.slice a n cap) i h) (hok : CodeOk w g a n) :
    Calls Try.prog 12 #[.pointer (some ⟨g, 0, none⟩), .int .i64 m] w fun e w' => ∃ y : Int, e = .returned (.int .i64 y) ∧ 0 ≤ y ∧ y < m ∧ w.grownBy w' (some g) := by
  have HC : Hid (Cur w g (.slice a n cap) i h) := hcur
  have HO : Hid (CodeOk w g a n) := hok
  clear hcur hok
  go_enter Try.func12, Try.ntmps12
  go_wp2_with fail
  refine (byte_any g n i h a cap _ hi0 hin hn HC.out HO.out).mono ?_
  rintro e w1 ⟨y1, rfl, y1a, y1b, i1, h1, i1a, i1b, c1, g1⟩
  have HC1 : Hid (Cur w1 g (.slice a n cap) i1 h1) := c1
  have HO1 : Hid (CodeOk w1 g a n) := HO.out.grown g1
  have HG1 : Hid (w.grownBy w1 (some g)) := g1
  clear c1 g1 HC HO
  go_wp2_with fail
  refine (byte_any g n i1 h1 a cap _ i1a i1b hn HC1.out HO1.out).mono ?_
  rintro e w2 ⟨y2, rfl, y2a, y2b, i2, h2, i2a, i2b, c2, g2⟩
  have HC2 : Hid (Cur w2 g (.slice a n cap) i2 h2) := c2
  have HO2 : Hid (CodeOk w2 g a n) := HO1.out.grown g2
  have HG2 : Hid (w.grownBy w2 (some g)) := grown_trans HG1.out g2
  clear c2 g2 HC1 HO1
  go_wp2_with fail
  refine (byte_any g n i2 h2 a cap _ i2a i2b hn HC2.out HO2.out).mono ?_
  rintro e w3 ⟨y3, rfl, y3a, y3b, i3, h3, i3a, i3b, c3, g3⟩
  have HC3 : Hid (Cur w3 g (.slice a n cap) i3 h3) := c3
  have HO3 : Hid (CodeOk w3 g a n) := HO2.out.grown g3
  have HG3 : Hid (w.grownBy w3 (some g)) := grown_trans HG2.out g3
  clear c3 g3 HC2 HO2
  go_wp2_with fail
  refine (byte_any g n i3 h3 a cap _ i3a i3b hn HC3.out HO3.out).mono ?_
  rintro e w4 ⟨y4, rfl, y4a, y4b, i4, h4, i4a, i4b, c4, g4⟩
  have HG4 : Hid (w.grownBy w4 (some g)) := grown_trans HG3.out g4
  clear c4 g4 HC3 HO3
  have e1 := Int.emod_nonneg (y1 * 16777216 + y2 * 65536 + y3 * 256 + y4) (show m ≠ 0 by omega)
  have e2 := Int.emod_lt_of_pos (y1 * 16777216 + y2 * 65536 + y3 * 256 + y4) (show 0 < m by omega)
  have E1 : Hid (0 ≤ (y1 * 16777216 + y2 * 65536 + y3 * 256 + y4) % m ∧ (y1 * 16777216 + y2 * 65536 + y3 * 256 + y4) % m < m) := ⟨e1, e2⟩
  clear e1 e2
  go_wp2
  go_ret
  exact ⟨_, rfl, E1.out.1, E1.out.2, HG4.out⟩

set_option maxHeartbeats 1000000 in
theorem new_any (n : Nat) (a : Option Addr) (cap : Nat) (w : World) (hn : (n : Int) ≤ 1048576) (hok : CodeOk w w.heap.size a n) :
    Calls Try.prog 10 #[.slice a n cap] w fun e w' => ∃ h : Int, e = .returned (.pointer (some ⟨w.heap.size, 0, none⟩)) ∧ 0 ≤ h ∧ h ≤ 2147483648 ∧ w' = w.alloc (.cells #[.slice a n cap, .int .i64 0, .int .i64 h] 39) := by
  rcases hok with rfl | ⟨b, o, rfl, hne, hB⟩
  · go_enter Try.func10, Try.ntmps10
    go_wp2
    go_loop [3, 4] (fun h i => i = .int .i64 0 ∧ ∃ x : Int, 0 ≤ x ∧ x ≤ 2147483648 ∧ h = .int .i64 x) (fun _ _ => 0)
    case atStart => exact ⟨rfl, _, by omega, by omega, rfl⟩
    case round =>
      obtain ⟨rfl, x, hx0, hx1, rfl⟩ := hrel
      go_wp2
      go_ret
      exact ⟨rfl, x, hx0, hx1, rfl⟩
  · have HBy : Hid (Bytes w b o n) := hB
    clear hB hne
    go_enter Try.func10, Try.ntmps10
    go_wp2
    go_loop [3, 4] (fun h i => ∃ k : Nat, k ≤ n ∧ i = .int .i64 k ∧ ∃ x : Int, 0 ≤ x ∧ x ≤ 2147483648 ∧ h = .int .i64 x) (fun _ i => n - (intOf i).toNat)
    case atStart => exact ⟨0, by omega, rfl, _, by omega, by omega, rfl⟩
    case round =>
      obtain ⟨k, hk, rfl, x, hx0, hx1, rfl⟩ := hrel
      by_cases hlt : k < n
      · by_cases hlim : (k : Int) < 4000
        · obtain ⟨z, hz0, hz1, hz⟩ := HBy.out k hlt
          obtain ⟨h2, hh2⟩ : ∃ h2, bits .and .i64 (x * 167 + z + 7) 1073741823 = h2 := ⟨_, rfl⟩
          have hh3 : 0 ≤ h2 ∧ h2 ≤ 1073741823 := by rw [← hh2]; exact and30 _
          go_wp2
          go_round
          case rel => exact ⟨k + 1, by omega, by go_num, h2, hh3.1, by omega, rfl⟩
          case measure => simp [intOf]; omega
        · go_wp2
          go_ret
          exact ⟨rfl, x, hx0, hx1, rfl⟩
      · go_wp2
        go_ret
        exact ⟨rfl, x, hx0, hx1, rfl⟩

theorem code_alloc {w : World} {a : Option Addr} {n : Nat} (h : CodeOk w w.heap.size a n) (o : Obj) : CodeOk (w.alloc o) w.heap.size a n := by
  rcases h with h | ⟨b, p, ha, hne, hB⟩
  · exact Or.inl h
  · by_cases hz : n = 0
    · exact Or.inl hz
    · obtain ⟨x, _, _, hc⟩ := hB 0 (by omega)
      exact Or.inr ⟨b, p, ha, hne, hB.same (Below.heap_alloc w o b (World.block_lt_of_cell? w _ hc))⟩

theorem below_of_grown {w w' : World} {o : Obj} (h : (w.alloc o).grownBy w' (some w.heap.size)) : Below w.heap.size w w' := by
  have hs := h.size
  refine ⟨h.os, h.tape, h.output, by simp at hs; omega, fun k hk => ?_⟩
  rw [h.block k (by simp; omega) (by intro e; have := Option.some.inj e; omega), Below.heap_alloc w o k hk]

set_option maxHeartbeats 1000000 in
theorem make_num (n : Nat) (m : Int) (a : Option Addr) (cap : Nat) (w : World) (hn : (n : Int) ≤ 1048576) (hm0 : 256 < m) (hm1 : m ≤ 1000000000000) (hok : CodeOk w w.heap.size a n) :
    Calls Try.prog 5 #[.slice a n cap, .int .i64 m] w fun e w' => ∃ y : Int, e = .returned (.int .i64 y) ∧ 0 ≤ y ∧ y < m ∧ Below w.heap.size w w' := by
  have HO : Hid (CodeOk w w.heap.size a n) := hok
  clear hok
  go_enter Try.func5, Try.ntmps5
  go_wp2_with fail
  refine (new_any n a cap _ hn HO.out).mono ?_
  rintro e w1 ⟨h, rfl, h0, h1, rfl⟩
  have HC : Hid (Cur (w.alloc (.cells #[.slice a n cap, .int .i64 0, .int .i64 (h + 777)] 39)) w.heap.size (.slice a n cap) 0 (h + 777)) := heap_alloc_new w _
  go_wp2_with fail
  refine (below_any w.heap.size n 0 (h + 777) m a cap _ (by omega) (by omega) hn hm0 hm1 HC.out (code_alloc HO.out _)).mono ?_
  rintro e w2 ⟨y, rfl, y0, y1, hg⟩
  have HB : Hid (Below w.heap.size w w2) := below_of_grown hg
  clear hg
  go_wp2
  go_ret
  exact ⟨y, rfl, y0, y1, HB.out⟩
end Go.Proofs.Ytdgkmiknnelddaa.DrawWalks
