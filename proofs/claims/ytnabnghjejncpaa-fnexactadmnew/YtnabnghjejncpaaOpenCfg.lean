/- An argument of the laws' type Cfg, opened: its numbers and its lists; no condition. -/
import Derived.Test.YtnabnghjejncpaaRows
import Derived.Test.YtnabnghjejncpaaOpenKit
namespace Go.Proofs.Ytnabnghjejncpaa.OpenCfg
open Go.RowKit Go.ChangeShapes Go.WideShapes OpenKit
set_option maxRecDepth 100000

theorem array14 {α : Type} {cs : Array α} (h : cs.size = 14) : ∃ c0 c1 c2 c3 c4 c5 c6 c7 c8 c9 c10 c11 c12 c13, cs = #[c0, c1, c2, c3, c4, c5, c6, c7, c8, c9, c10, c11, c12, c13] := by
  obtain ⟨l⟩ := cs
  match l, h with
  | c0 :: c1 :: c2 :: c3 :: c4 :: c5 :: c6 :: c7 :: c8 :: c9 :: c10 :: c11 :: c12 :: c13 :: [], _ => exact ⟨c0, c1, c2, c3, c4, c5, c6, c7, c8, c9, c10, c11, c12, c13, rfl⟩

section
variable {H : Type} {enc : TypeId × Value → H} {W : World} {base b0 : Nat} {held : Bool} {spare : Nat → Bool} {v : Value} {d : DataW H} {p : List MemPlace}

theorem open_cfg (hv : Value.okWide Try.prog W .any b0 25 v) (h : DataW.Trod enc Try.prog W base spare held 25 v d p) :
    ∃ (x0 : Int) (x1 : Int) (x2 : Int) (x3 : Int) (x4 : Int) (x5 : Int) (x6 : Int) (x7 : Int) (x8 : Int) (x9 : Int) (x10 : Int) (x11 : Int) (x12 : Int) (x13 : Int), v = .agg #[.int .i64 x0, .int .i64 x1, .int .i64 x2, .int .i64 x3, .int .i64 x4, .int .i64 x5, .int .i64 x6, .int .i64 x7, .int .i64 x8, .int .i64 x9, .int .i64 x10, .int .i64 x11, .int .i64 x12, .int .i64 x13] ∧ ∀ x ∈ ([x0, x1, x2, x3, x4, x5, x6, x7, x8, x9, x10, x11, x12, x13] : List Int), (Lit.int .i64 x).wf = true := by
  obtain ⟨cs, rfl, hsz⟩ := okWide_struct Try.underlying25 hv
  have hC : Try.prog.cellsOf 25 = 14 := by kernel_rfl
  obtain ⟨c0, c1, c2, c3, c4, c5, c6, c7, c8, c9, c10, c11, c12, c13, rfl⟩ := array14 (hsz.trans hC)
  have r : Rd enc Try.prog W base spare held 25 [c0, c1, c2, c3, c4, c5, c6, c7, c8, c9, c10, c11, c12, c13] := rd_of h
  clear h hv hsz hC
  have r_0 : Rd enc Try.prog W base spare held 23 [c0, c1, c2, c3, c4] := rd_field Try.underlying25 r 0 _ rfl 0 5 rfl (by kernel_rfl)
  have r_0_0 : Rd enc Try.prog W base spare held 3 [c0] := rd_field Try.underlying23 r_0 0 _ rfl 0 1 rfl (by kernel_rfl)
  obtain ⟨x0, rfl, wf_x0⟩ := rd_int Try.underlying3 r_0_0
  have r_0_1 : Rd enc Try.prog W base spare held 3 [c1] := rd_field Try.underlying23 r_0 1 _ rfl 1 1 rfl (by kernel_rfl)
  obtain ⟨x1, rfl, wf_x1⟩ := rd_int Try.underlying3 r_0_1
  have r_0_2 : Rd enc Try.prog W base spare held 3 [c2] := rd_field Try.underlying23 r_0 2 _ rfl 2 1 rfl (by kernel_rfl)
  obtain ⟨x2, rfl, wf_x2⟩ := rd_int Try.underlying3 r_0_2
  have r_0_3 : Rd enc Try.prog W base spare held 3 [c3] := rd_field Try.underlying23 r_0 3 _ rfl 3 1 rfl (by kernel_rfl)
  obtain ⟨x3, rfl, wf_x3⟩ := rd_int Try.underlying3 r_0_3
  have r_0_4 : Rd enc Try.prog W base spare held 3 [c4] := rd_field Try.underlying23 r_0 4 _ rfl 4 1 rfl (by kernel_rfl)
  obtain ⟨x4, rfl, wf_x4⟩ := rd_int Try.underlying3 r_0_4
  have r_1 : Rd enc Try.prog W base spare held 3 [c5] := rd_field Try.underlying25 r 1 _ rfl 5 1 rfl (by kernel_rfl)
  obtain ⟨x5, rfl, wf_x5⟩ := rd_int Try.underlying3 r_1
  have r_2 : Rd enc Try.prog W base spare held 3 [c6] := rd_field Try.underlying25 r 2 _ rfl 6 1 rfl (by kernel_rfl)
  obtain ⟨x6, rfl, wf_x6⟩ := rd_int Try.underlying3 r_2
  have r_3 : Rd enc Try.prog W base spare held 3 [c7] := rd_field Try.underlying25 r 3 _ rfl 7 1 rfl (by kernel_rfl)
  obtain ⟨x7, rfl, wf_x7⟩ := rd_int Try.underlying3 r_3
  have r_4 : Rd enc Try.prog W base spare held 3 [c8] := rd_field Try.underlying25 r 4 _ rfl 8 1 rfl (by kernel_rfl)
  obtain ⟨x8, rfl, wf_x8⟩ := rd_int Try.underlying3 r_4
  have r_5 : Rd enc Try.prog W base spare held 3 [c9] := rd_field Try.underlying25 r 5 _ rfl 9 1 rfl (by kernel_rfl)
  obtain ⟨x9, rfl, wf_x9⟩ := rd_int Try.underlying3 r_5
  have r_6 : Rd enc Try.prog W base spare held 3 [c10] := rd_field Try.underlying25 r 6 _ rfl 10 1 rfl (by kernel_rfl)
  obtain ⟨x10, rfl, wf_x10⟩ := rd_int Try.underlying3 r_6
  have r_7 : Rd enc Try.prog W base spare held 3 [c11] := rd_field Try.underlying25 r 7 _ rfl 11 1 rfl (by kernel_rfl)
  obtain ⟨x11, rfl, wf_x11⟩ := rd_int Try.underlying3 r_7
  have r_8 : Rd enc Try.prog W base spare held 3 [c12] := rd_field Try.underlying25 r 8 _ rfl 12 1 rfl (by kernel_rfl)
  obtain ⟨x12, rfl, wf_x12⟩ := rd_int Try.underlying3 r_8
  have r_9 : Rd enc Try.prog W base spare held 3 [c13] := rd_field Try.underlying25 r 9 _ rfl 13 1 rfl (by kernel_rfl)
  obtain ⟨x13, rfl, wf_x13⟩ := rd_int Try.underlying3 r_9
  exact ⟨x0, x1, x2, x3, x4, x5, x6, x7, x8, x9, x10, x11, x12, x13, rfl, (List.forall_mem_cons.2 ⟨wf_x0, (List.forall_mem_cons.2 ⟨wf_x1, (List.forall_mem_cons.2 ⟨wf_x2, (List.forall_mem_cons.2 ⟨wf_x3, (List.forall_mem_cons.2 ⟨wf_x4, (List.forall_mem_cons.2 ⟨wf_x5, (List.forall_mem_cons.2 ⟨wf_x6, (List.forall_mem_cons.2 ⟨wf_x7, (List.forall_mem_cons.2 ⟨wf_x8, (List.forall_mem_cons.2 ⟨wf_x9, (List.forall_mem_cons.2 ⟨wf_x10, (List.forall_mem_cons.2 ⟨wf_x11, (List.forall_mem_cons.2 ⟨wf_x12, (List.forall_mem_cons.2 ⟨wf_x13, (fun _ h => by cases h)⟩)⟩)⟩)⟩)⟩)⟩)⟩)⟩)⟩)⟩)⟩)⟩)⟩)⟩)⟩
end
end Go.Proofs.Ytnabnghjejncpaa.OpenCfg
