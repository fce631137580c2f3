/- Plain facts on cutting a list of bytes at a byte: the parts, one more byte at a time, and that the library's splitting gives the same parts; no condition but those written in each. -/
import Derived.WalkKit
import Derived.Lib.SplitLaws
namespace Go.Proofs.YtabialologlgpagDoor.CutMath
open Go.Lib

/-- The parts of a list cut at c, behind what the first part already holds. -/
def cutFrom (c : UInt8) (cur : List UInt8) : List UInt8 → List (List UInt8)
  | [] => [cur]
  | b :: r => if b = c then cur :: cutFrom c [] r else cutFrom c (cur ++ [b]) r

/-- A part as a value. -/
def S (p : List UInt8) : Value := .string ⟨p.toArray⟩

def prepend (p : List UInt8) : List (List UInt8) → List (List UInt8)
  | [] => []
  | h :: t => (p ++ h) :: t

theorem prepend_nil (x : List (List UInt8)) : prepend [] x = x := by cases x <;> rfl

theorem prepend_prepend (p q : List UInt8) (x : List (List UInt8)) : prepend p (prepend q x) = prepend (p ++ q) x := by
  cases x with
  | nil => rfl
  | cons h t => simp [prepend]

theorem cutFrom_cur (c : UInt8) : ∀ (l cur : List UInt8), cutFrom c cur l = prepend cur (cutFrom c [] l)
  | [], cur => by simp [cutFrom, prepend]
  | b :: r, cur => by
    unfold cutFrom
    by_cases h : b = c
    · rw [if_pos h, if_pos h]; simp [prepend]
    · rw [if_neg h, if_neg h, cutFrom_cur c r (cur ++ [b]), cutFrom_cur c r ([] ++ [b]), prepend_prepend]; simp

theorem index_eq (c : UInt8) (r : List UInt8) : index (c :: r) [c] = 0 := by rw [index]; simp [List.isPrefixOf]

theorem index_ne (b c : UInt8) (r : List UInt8) (h : b ≠ c) : index (b :: r) [c] = if index r [c] == -1 then -1 else index r [c] + 1 := by
  have hp : ([c] : List UInt8).isPrefixOf (b :: r) = false := by simp [List.isPrefixOf, Ne.symm h]
  rw [index, hp]; simp

theorem splitK_ne (b c : UInt8) (r : List UInt8) (h : b ≠ c) : ∀ k, splitK [c] 0 k (b :: r) = prepend [b] (splitK [c] 0 k r)
  | 0 => rfl
  | k + 1 => by
    unfold splitK
    by_cases hm : index r [c] = -1
    · have h1 : index (b :: r) [c] = -1 := by rw [index_ne b c r h, if_pos (beq_iff_eq.2 hm)]
      rw [if_pos (beq_iff_eq.2 hm), if_pos (beq_iff_eq.2 h1)]
      rfl
    · have hge := index_ge r [c]
      have h1 : index (b :: r) [c] = index r [c] + 1 := by rw [index_ne b c r h, if_neg (fun e => hm (beq_iff_eq.1 e))]
      rw [if_neg (fun e => hm (beq_iff_eq.1 e)), if_neg (fun e => by have := beq_iff_eq.1 e; omega), h1]
      have e : (index r [c] + 1).toNat = (index r [c]).toNat + 1 := by omega
      rw [e]
      simp [prepend]

theorem splitK_eq (c : UInt8) (r : List UInt8) (k : Nat) : splitK [c] 0 (k + 1) (c :: r) = [] :: splitK [c] 0 k r := by
  conv => lhs; unfold splitK
  rw [index_eq]
  simp

/-- The library's splitting is the cut. -/
theorem split_cut (c : UInt8) : ∀ l : List UInt8, splitK [c] 0 (count l [c]) l = cutFrom c [] l
  | [] => by rw [count_miss (by simp [index])]; rfl
  | b :: r => by
    unfold cutFrom
    by_cases h : b = c
    · subst h
      rw [if_pos rfl, count_cons_eq, Nat.add_comm, splitK_eq, split_cut b r]
    · rw [if_neg h, count_cons_ne b c r h, splitK_ne b c r h, split_cut c r, ← cutFrom_cur]
      rfl

theorem cutFrom_length (c : UInt8) : ∀ (l cur : List UInt8), 1 ≤ (cutFrom c cur l).length ∧ (cutFrom c cur l).length ≤ l.length + 1
  | [], _ => by simp [cutFrom]
  | b :: r, cur => by
    unfold cutFrom
    by_cases h : b = c
    · rw [if_pos h]; have := cutFrom_length c r []; simp; omega
    · rw [if_neg h]; have := cutFrom_length c r (cur ++ [b]); simp; omega

theorem cutFrom_part (c : UInt8) : ∀ (l cur : List UInt8), ∀ p ∈ cutFrom c cur l, p.length ≤ cur.length + l.length
  | [], cur, p, hp => by
    obtain rfl : p = cur := by simpa [cutFrom] using hp
    simp
  | b :: r, cur, p, hp => by
    unfold cutFrom at hp
    by_cases h : b = c
    · rw [if_pos h] at hp
      rcases List.mem_cons.1 hp with rfl | hp
      · omega
      · have := cutFrom_part c r [] p hp
        simp at this ⊢
        omega
    · rw [if_neg h] at hp
      have := cutFrom_part c r (cur ++ [b]) p hp
      simp at this ⊢
      omega

/-- The library's parts, as values. -/
theorem split_vals (c : UInt8) (s : ByteArray) : (splitB ⟨#[c]⟩ 0 (countB s ⟨#[c]⟩) s).map Value.string = (cutFrom c [] s.data.toList).map S := by
  have h := splitB_data ⟨#[c]⟩ 0 (countB s ⟨#[c]⟩) s
  have h2 : splitK [c] 0 (count s.data.toList [c]) s.data.toList = cutFrom c [] s.data.toList := split_cut c _
  have h3 : (splitB ⟨#[c]⟩ 0 (countB s ⟨#[c]⟩) s).map (·.data.toList) = cutFrom c [] s.data.toList := h.trans h2
  rw [← h3, List.map_map]
  rfl

theorem split_count (c : UInt8) (s : ByteArray) : countB s ⟨#[c]⟩ + 1 = (cutFrom c [] s.data.toList).length := by
  have h := splitB_all ⟨#[c]⟩ (Nat.le_refl 1) 0 (countB s ⟨#[c]⟩) s rfl
  have h2 := congrArg List.length (split_vals c s)
  rw [List.length_map, List.length_map] at h2
  omega

/-- What the model's loop keeps: the parts that are laid, the part that is growing, what is still to come. -/
def Kept (c : UInt8) (l : List UInt8) (f i : Nat) (D : List (List UInt8)) : Prop :=
  cutFrom c [] l = D ++ cutFrom c ((l.drop f).take (i - f)) (l.drop i) ∧ D.length ≤ i

theorem kept_start (c : UInt8) (l : List UInt8) : Kept c l 0 0 [] := ⟨by simp, by simp⟩

theorem kept_hit {c : UInt8} {l : List UInt8} {f i : Nat} {D : List (List UInt8)} (h : Kept c l f i D) (hi : i < l.length) (hc : l[i] = c) :
    Kept c l (i + 1) (i + 1) (D ++ [(l.drop f).take (i - f)]) := by
  obtain ⟨h1, h2⟩ := h
  refine ⟨?_, by simp; omega⟩
  rw [h1, List.drop_eq_getElem_cons hi]
  conv => lhs; rw [cutFrom]
  rw [if_pos hc]
  simp

theorem kept_miss {c : UInt8} {l : List UInt8} {f i : Nat} {D : List (List UInt8)} (h : Kept c l f i D) (hf : f ≤ i) (hi : i < l.length) (hc : ¬ l[i] = c) :
    Kept c l f (i + 1) D := by
  obtain ⟨h1, h2⟩ := h
  refine ⟨?_, by omega⟩
  rw [h1, List.drop_eq_getElem_cons hi]
  conv => lhs; rw [cutFrom]
  rw [if_neg hc]
  have e : (l.drop f).take (i + 1 - f) = (l.drop f).take (i - f) ++ [l[i]] := by
    rw [show i + 1 - f = (i - f) + 1 from by omega, List.take_succ_eq_append_getElem (by simp; omega)]
    congr 2
    rw [List.getElem_drop]
    congr 1
    omega
  rw [e]

theorem kept_end {c : UInt8} {l : List UInt8} {f : Nat} {D : List (List UInt8)} (h : Kept c l f l.length D) : cutFrom c [] l = D ++ [l.drop f] := by
  obtain ⟨h1, _⟩ := h
  rw [h1, List.drop_length]
  simp [cutFrom, List.take_of_length_le]

theorem extract_S (s : ByteArray) (f i : Nat) : Value.string (s.extract f i) = S ((s.data.toList.drop f).take (i - f)) := by
  unfold S
  congr 1
  apply ByteArray.ext
  apply Array.ext'
  simp [ByteArray.data_extract]

end Go.Proofs.YtabialologlgpagDoor.CutMath
