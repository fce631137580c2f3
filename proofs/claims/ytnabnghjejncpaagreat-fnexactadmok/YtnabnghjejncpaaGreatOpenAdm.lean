/- An argument of the laws' type Adm, opened: its numbers and its lists; no condition. -/
import Derived.Test.YtnabnghjejncpaaGreatRows
import Derived.Test.YtnabnghjejncpaaGreatOpenKit
import Derived.Test.YtnabnghjejncpaaGreatCodelKit
import Derived.Test.YtnabnghjejncpaaGreatIntKit
import Derived.Test.YtnabnghjejncpaaGreatReqKit
import Derived.Test.YtnabnghjejncpaaGreatSampleKit
import Derived.Test.YtnabnghjejncpaaGreatSlotKit
namespace Go.Proofs.YtnabnghjejncpaaGreat.OpenAdm
open Go.RowKit Go.ChangeShapes Go.WideShapes OpenKit
set_option maxRecDepth 100000

theorem array34 {α : Type} {cs : Array α} (h : cs.size = 34) : ∃ c0 c1 c2 c3 c4 c5 c6 c7 c8 c9 c10 c11 c12 c13 c14 c15 c16 c17 c18 c19 c20 c21 c22 c23 c24 c25 c26 c27 c28 c29 c30 c31 c32 c33, cs = #[c0, c1, c2, c3, c4, c5, c6, c7, c8, c9, c10, c11, c12, c13, c14, c15, c16, c17, c18, c19, c20, c21, c22, c23, c24, c25, c26, c27, c28, c29, c30, c31, c32, c33] := by
  obtain ⟨l⟩ := cs
  match l, h with
  | c0 :: c1 :: c2 :: c3 :: c4 :: c5 :: c6 :: c7 :: c8 :: c9 :: c10 :: c11 :: c12 :: c13 :: c14 :: c15 :: c16 :: c17 :: c18 :: c19 :: c20 :: c21 :: c22 :: c23 :: c24 :: c25 :: c26 :: c27 :: c28 :: c29 :: c30 :: c31 :: c32 :: c33 :: [], _ => exact ⟨c0, c1, c2, c3, c4, c5, c6, c7, c8, c9, c10, c11, c12, c13, c14, c15, c16, c17, c18, c19, c20, c21, c22, c23, c24, c25, c26, c27, c28, c29, c30, c31, c32, c33, rfl⟩

section
variable {H : Type} {enc : TypeId × Value → H} {W : World} {base b0 : Nat} {held : Bool} {spare : Nat → Bool} {v : Value} {d : DataW H} {p : List MemPlace}

theorem el_Sample {cs : List Value} (h : Rd enc Tryz.prog W base spare held 157 cs) : ∃ x : SampleKit.Sample, cs = (SampleKit.cells) x := by
  have hl : cs.length = 2 := by
    obtain ⟨fuel, x, hx⟩ := h
    obtain ⟨xs, n, _, _, hl, _, _⟩ := DataW.trod_struct Tryz.underlying157 hx
    exact hl.trans (by kernel_rfl)
  match cs, hl with
  | [q0, q1], _ =>
    have h_0 : Rd enc Tryz.prog W base spare held 3 [q0] := rd_field Tryz.underlying157 h 0 _ rfl 0 1 rfl (by kernel_rfl)
    obtain ⟨xq0, rfl, _⟩ := rd_int Tryz.underlying3 h_0
    have h_1 : Rd enc Tryz.prog W base spare held 3 [q1] := rd_field Tryz.underlying157 h 1 _ rfl 1 1 rfl (by kernel_rfl)
    obtain ⟨xq1, rfl, _⟩ := rd_int Tryz.underlying3 h_1
    exact ⟨⟨xq0, xq1⟩, rfl⟩

theorem el_Slot {cs : List Value} (h : Rd enc Tryz.prog W base spare held 139 cs) : ∃ x : SlotKit.Slot, cs = (SlotKit.cells) x := by
  have hl : cs.length = 5 := by
    obtain ⟨fuel, x, hx⟩ := h
    obtain ⟨xs, n, _, _, hl, _, _⟩ := DataW.trod_struct Tryz.underlying139 hx
    exact hl.trans (by kernel_rfl)
  match cs, hl with
  | [q0, q1, q2, q3, q4], _ =>
    have h_0 : Rd enc Tryz.prog W base spare held 3 [q0] := rd_field Tryz.underlying139 h 0 _ rfl 0 1 rfl (by kernel_rfl)
    obtain ⟨xq0, rfl, _⟩ := rd_int Tryz.underlying3 h_0
    have h_1 : Rd enc Tryz.prog W base spare held 4 [q1] := rd_field Tryz.underlying139 h 1 _ rfl 1 1 rfl (by kernel_rfl)
    obtain ⟨xq1, rfl⟩ := rd_bool Tryz.underlying4 h_1
    have h_2 : Rd enc Tryz.prog W base spare held 3 [q2] := rd_field Tryz.underlying139 h 2 _ rfl 2 1 rfl (by kernel_rfl)
    obtain ⟨xq2, rfl, _⟩ := rd_int Tryz.underlying3 h_2
    have h_3 : Rd enc Tryz.prog W base spare held 3 [q3] := rd_field Tryz.underlying139 h 3 _ rfl 3 1 rfl (by kernel_rfl)
    obtain ⟨xq3, rfl, _⟩ := rd_int Tryz.underlying3 h_3
    have h_4 : Rd enc Tryz.prog W base spare held 3 [q4] := rd_field Tryz.underlying139 h 4 _ rfl 4 1 rfl (by kernel_rfl)
    obtain ⟨xq4, rfl, _⟩ := rd_int Tryz.underlying3 h_4
    exact ⟨⟨xq0, xq1, xq2, xq3, xq4⟩, rfl⟩

theorem el_Req {cs : List Value} (h : Rd enc Tryz.prog W base spare held 141 cs) : ∃ x : ReqKit.Req, cs = (ReqKit.cells) x := by
  have hl : cs.length = 6 := by
    obtain ⟨fuel, x, hx⟩ := h
    obtain ⟨xs, n, _, _, hl, _, _⟩ := DataW.trod_struct Tryz.underlying141 hx
    exact hl.trans (by kernel_rfl)
  match cs, hl with
  | [q0, q1, q2, q3, q4, q5], _ =>
    have h_0 : Rd enc Tryz.prog W base spare held 3 [q0] := rd_field Tryz.underlying141 h 0 _ rfl 0 1 rfl (by kernel_rfl)
    obtain ⟨xq0, rfl, _⟩ := rd_int Tryz.underlying3 h_0
    have h_1 : Rd enc Tryz.prog W base spare held 3 [q1] := rd_field Tryz.underlying141 h 1 _ rfl 1 1 rfl (by kernel_rfl)
    obtain ⟨xq1, rfl, _⟩ := rd_int Tryz.underlying3 h_1
    have h_2 : Rd enc Tryz.prog W base spare held 3 [q2] := rd_field Tryz.underlying141 h 2 _ rfl 2 1 rfl (by kernel_rfl)
    obtain ⟨xq2, rfl, _⟩ := rd_int Tryz.underlying3 h_2
    have h_3 : Rd enc Tryz.prog W base spare held 3 [q3] := rd_field Tryz.underlying141 h 3 _ rfl 3 1 rfl (by kernel_rfl)
    obtain ⟨xq3, rfl, _⟩ := rd_int Tryz.underlying3 h_3
    have h_4 : Rd enc Tryz.prog W base spare held 3 [q4] := rd_field Tryz.underlying141 h 4 _ rfl 4 1 rfl (by kernel_rfl)
    obtain ⟨xq4, rfl, _⟩ := rd_int Tryz.underlying3 h_4
    have h_5 : Rd enc Tryz.prog W base spare held 3 [q5] := rd_field Tryz.underlying141 h 5 _ rfl 5 1 rfl (by kernel_rfl)
    obtain ⟨xq5, rfl, _⟩ := rd_int Tryz.underlying3 h_5
    exact ⟨⟨xq0, xq1, xq2, xq3, xq4, xq5⟩, rfl⟩

theorem el_Codel {cs : List Value} (h : Rd enc Tryz.prog W base spare held 115 cs) : ∃ x : CodelKit.Codel, cs = (CodelKit.cells) x := by
  have hl : cs.length = 6 := by
    obtain ⟨fuel, x, hx⟩ := h
    obtain ⟨xs, n, _, _, hl, _, _⟩ := DataW.trod_struct Tryz.underlying115 hx
    exact hl.trans (by kernel_rfl)
  match cs, hl with
  | [q0, q1, q2, q3, q4, q5], _ =>
    have h_0 : Rd enc Tryz.prog W base spare held 3 [q0] := rd_field Tryz.underlying115 h 0 _ rfl 0 1 rfl (by kernel_rfl)
    obtain ⟨xq0, rfl, _⟩ := rd_int Tryz.underlying3 h_0
    have h_1 : Rd enc Tryz.prog W base spare held 3 [q1] := rd_field Tryz.underlying115 h 1 _ rfl 1 1 rfl (by kernel_rfl)
    obtain ⟨xq1, rfl, _⟩ := rd_int Tryz.underlying3 h_1
    have h_2 : Rd enc Tryz.prog W base spare held 3 [q2] := rd_field Tryz.underlying115 h 2 _ rfl 2 1 rfl (by kernel_rfl)
    obtain ⟨xq2, rfl, _⟩ := rd_int Tryz.underlying3 h_2
    have h_3 : Rd enc Tryz.prog W base spare held 4 [q3] := rd_field Tryz.underlying115 h 3 _ rfl 3 1 rfl (by kernel_rfl)
    obtain ⟨xq3, rfl⟩ := rd_bool Tryz.underlying4 h_3
    have h_4 : Rd enc Tryz.prog W base spare held 3 [q4] := rd_field Tryz.underlying115 h 4 _ rfl 4 1 rfl (by kernel_rfl)
    obtain ⟨xq4, rfl, _⟩ := rd_int Tryz.underlying3 h_4
    have h_5 : Rd enc Tryz.prog W base spare held 3 [q5] := rd_field Tryz.underlying115 h 5 _ rfl 5 1 rfl (by kernel_rfl)
    obtain ⟨xq5, rfl, _⟩ := rd_int Tryz.underlying3 h_5
    exact ⟨⟨xq0, xq1, xq2, xq3, xq4, xq5⟩, rfl⟩

theorem el_int {cs : List Value} (h : Rd enc Tryz.prog W base spare held 3 cs) : ∃ x : Int, cs = IntKit.cells x := by
  obtain ⟨fuel, x, hx⟩ := h
  obtain ⟨n, e, _, hw⟩ := DataW.trod_int Tryz.underlying3 hx
  exact ⟨n, e⟩

theorem open_adm (hv : Value.okWide Tryz.prog W .any b0 42 v) (h : DataW.Trod enc Tryz.prog W base spare held 42 v d p) :
    ∃ (x0 : Int) (x1 : Int) (x2 : Int) (x3 : Int) (x4 : Int) (x5 : Int) (x6 : Int) (x7 : Int) (x8 : Int) (x9 : Int) (x10 : Int) (x11 : Int) (x12 : Int) (x13 : Int) (x14 : Int) (x15 : Int) (x16 : Int) (x17 : Int) (x18 : Int) (x19 : Int) (x20 : Int) (x21 : Int) (x22 : Int) (x23 : Int) (aL24 : Option Addr) (cL24 : Nat) (L24 : List SampleKit.Sample) (aL25 : Option Addr) (cL25 : Nat) (L25 : List SlotKit.Slot) (x26 : Int) (aL27 : Option Addr) (cL27 : Nat) (L27 : List ReqKit.Req) (aL28 : Option Addr) (cL28 : Nat) (L28 : List CodelKit.Codel) (x29 : Int) (x30 : Int) (x31 : Int) (x32 : Int) (aL33 : Option Addr) (cL33 : Nat) (L33 : List Int), v = .agg #[.int .i64 x0, .int .i64 x1, .int .i64 x2, .int .i64 x3, .int .i64 x4, .int .i64 x5, .int .i64 x6, .int .i64 x7, .int .i64 x8, .int .i64 x9, .int .i64 x10, .int .i64 x11, .int .i64 x12, .int .i64 x13, .int .i64 x14, .int .i64 x15, .int .i64 x16, .int .i64 x17, .int .i64 x18, .int .i64 x19, .int .i64 x20, .int .i64 x21, .int .i64 x22, .int .i64 x23, .slice aL24 L24.length cL24, .slice aL25 L25.length cL25, .int .i64 x26, .slice aL27 L27.length cL27, .slice aL28 L28.length cL28, .int .i64 x29, .int .i64 x30, .int .i64 x31, .int .i64 x32, .slice aL33 L33.length cL33] ∧ LArg 2 (SampleKit.cells) W aL24 L24 ∧ L24.length ≤ maxLen ∧ LArg 5 (SlotKit.cells) W aL25 L25 ∧ L25.length ≤ maxLen ∧ LArg 6 (ReqKit.cells) W aL27 L27 ∧ L27.length ≤ maxLen ∧ LArg 6 (CodelKit.cells) W aL28 L28 ∧ L28.length ≤ maxLen ∧ LArg 1 (IntKit.cells) W aL33 L33 ∧ L33.length ≤ maxLen ∧ ∀ x ∈ ([x0, x1, x2, x3, x4, x5, x6, x7, x8, x9, x10, x11, x12, x13, x14, x15, x16, x17, x18, x19, x20, x21, x22, x23, x26, x29, x30, x31, x32] : List Int), (Lit.int .i64 x).wf = true := by
  obtain ⟨cs, rfl, hsz⟩ := okWide_struct Tryz.underlying42 hv
  have hC : Tryz.prog.cellsOf 42 = 34 := by kernel_rfl
  obtain ⟨c0, c1, c2, c3, c4, c5, c6, c7, c8, c9, c10, c11, c12, c13, c14, c15, c16, c17, c18, c19, c20, c21, c22, c23, c24, c25, c26, c27, c28, c29, c30, c31, c32, c33, rfl⟩ := array34 (hsz.trans hC)
  have r : Rd enc Tryz.prog W base spare held 42 [c0, c1, c2, c3, c4, c5, c6, c7, c8, c9, c10, c11, c12, c13, c14, c15, c16, c17, c18, c19, c20, c21, c22, c23, c24, c25, c26, c27, c28, c29, c30, c31, c32, c33] := rd_of h
  clear h hv hsz hC
  have r_0 : Rd enc Tryz.prog W base spare held 25 [c0, c1, c2, c3, c4, c5, c6, c7, c8, c9, c10, c11, c12, c13] := rd_field Tryz.underlying42 r 0 _ rfl 0 14 rfl (by kernel_rfl)
  have r_0_0 : Rd enc Tryz.prog W base spare held 23 [c0, c1, c2, c3, c4] := rd_field Tryz.underlying25 r_0 0 _ rfl 0 5 rfl (by kernel_rfl)
  have r_0_0_0 : Rd enc Tryz.prog W base spare held 3 [c0] := rd_field Tryz.underlying23 r_0_0 0 _ rfl 0 1 rfl (by kernel_rfl)
  obtain ⟨x0, rfl, wf_x0⟩ := rd_int Tryz.underlying3 r_0_0_0
  have r_0_0_1 : Rd enc Tryz.prog W base spare held 3 [c1] := rd_field Tryz.underlying23 r_0_0 1 _ rfl 1 1 rfl (by kernel_rfl)
  obtain ⟨x1, rfl, wf_x1⟩ := rd_int Tryz.underlying3 r_0_0_1
  have r_0_0_2 : Rd enc Tryz.prog W base spare held 3 [c2] := rd_field Tryz.underlying23 r_0_0 2 _ rfl 2 1 rfl (by kernel_rfl)
  obtain ⟨x2, rfl, wf_x2⟩ := rd_int Tryz.underlying3 r_0_0_2
  have r_0_0_3 : Rd enc Tryz.prog W base spare held 3 [c3] := rd_field Tryz.underlying23 r_0_0 3 _ rfl 3 1 rfl (by kernel_rfl)
  obtain ⟨x3, rfl, wf_x3⟩ := rd_int Tryz.underlying3 r_0_0_3
  have r_0_0_4 : Rd enc Tryz.prog W base spare held 3 [c4] := rd_field Tryz.underlying23 r_0_0 4 _ rfl 4 1 rfl (by kernel_rfl)
  obtain ⟨x4, rfl, wf_x4⟩ := rd_int Tryz.underlying3 r_0_0_4
  have r_0_1 : Rd enc Tryz.prog W base spare held 3 [c5] := rd_field Tryz.underlying25 r_0 1 _ rfl 5 1 rfl (by kernel_rfl)
  obtain ⟨x5, rfl, wf_x5⟩ := rd_int Tryz.underlying3 r_0_1
  have r_0_2 : Rd enc Tryz.prog W base spare held 3 [c6] := rd_field Tryz.underlying25 r_0 2 _ rfl 6 1 rfl (by kernel_rfl)
  obtain ⟨x6, rfl, wf_x6⟩ := rd_int Tryz.underlying3 r_0_2
  have r_0_3 : Rd enc Tryz.prog W base spare held 3 [c7] := rd_field Tryz.underlying25 r_0 3 _ rfl 7 1 rfl (by kernel_rfl)
  obtain ⟨x7, rfl, wf_x7⟩ := rd_int Tryz.underlying3 r_0_3
  have r_0_4 : Rd enc Tryz.prog W base spare held 3 [c8] := rd_field Tryz.underlying25 r_0 4 _ rfl 8 1 rfl (by kernel_rfl)
  obtain ⟨x8, rfl, wf_x8⟩ := rd_int Tryz.underlying3 r_0_4
  have r_0_5 : Rd enc Tryz.prog W base spare held 3 [c9] := rd_field Tryz.underlying25 r_0 5 _ rfl 9 1 rfl (by kernel_rfl)
  obtain ⟨x9, rfl, wf_x9⟩ := rd_int Tryz.underlying3 r_0_5
  have r_0_6 : Rd enc Tryz.prog W base spare held 3 [c10] := rd_field Tryz.underlying25 r_0 6 _ rfl 10 1 rfl (by kernel_rfl)
  obtain ⟨x10, rfl, wf_x10⟩ := rd_int Tryz.underlying3 r_0_6
  have r_0_7 : Rd enc Tryz.prog W base spare held 3 [c11] := rd_field Tryz.underlying25 r_0 7 _ rfl 11 1 rfl (by kernel_rfl)
  obtain ⟨x11, rfl, wf_x11⟩ := rd_int Tryz.underlying3 r_0_7
  have r_0_8 : Rd enc Tryz.prog W base spare held 3 [c12] := rd_field Tryz.underlying25 r_0 8 _ rfl 12 1 rfl (by kernel_rfl)
  obtain ⟨x12, rfl, wf_x12⟩ := rd_int Tryz.underlying3 r_0_8
  have r_0_9 : Rd enc Tryz.prog W base spare held 3 [c13] := rd_field Tryz.underlying25 r_0 9 _ rfl 13 1 rfl (by kernel_rfl)
  obtain ⟨x13, rfl, wf_x13⟩ := rd_int Tryz.underlying3 r_0_9
  have r_1 : Rd enc Tryz.prog W base spare held 3 [c14] := rd_field Tryz.underlying42 r 1 _ rfl 14 1 rfl (by kernel_rfl)
  obtain ⟨x14, rfl, wf_x14⟩ := rd_int Tryz.underlying3 r_1
  have r_2 : Rd enc Tryz.prog W base spare held 30 [c15, c16, c17, c18, c19, c20, c21, c22, c23, c24] := rd_field Tryz.underlying42 r 2 _ rfl 15 10 rfl (by kernel_rfl)
  have r_2_0 : Rd enc Tryz.prog W base spare held 23 [c15, c16, c17, c18, c19] := rd_field Tryz.underlying30 r_2 0 _ rfl 0 5 rfl (by kernel_rfl)
  have r_2_0_0 : Rd enc Tryz.prog W base spare held 3 [c15] := rd_field Tryz.underlying23 r_2_0 0 _ rfl 0 1 rfl (by kernel_rfl)
  obtain ⟨x15, rfl, wf_x15⟩ := rd_int Tryz.underlying3 r_2_0_0
  have r_2_0_1 : Rd enc Tryz.prog W base spare held 3 [c16] := rd_field Tryz.underlying23 r_2_0 1 _ rfl 1 1 rfl (by kernel_rfl)
  obtain ⟨x16, rfl, wf_x16⟩ := rd_int Tryz.underlying3 r_2_0_1
  have r_2_0_2 : Rd enc Tryz.prog W base spare held 3 [c17] := rd_field Tryz.underlying23 r_2_0 2 _ rfl 2 1 rfl (by kernel_rfl)
  obtain ⟨x17, rfl, wf_x17⟩ := rd_int Tryz.underlying3 r_2_0_2
  have r_2_0_3 : Rd enc Tryz.prog W base spare held 3 [c18] := rd_field Tryz.underlying23 r_2_0 3 _ rfl 3 1 rfl (by kernel_rfl)
  obtain ⟨x18, rfl, wf_x18⟩ := rd_int Tryz.underlying3 r_2_0_3
  have r_2_0_4 : Rd enc Tryz.prog W base spare held 3 [c19] := rd_field Tryz.underlying23 r_2_0 4 _ rfl 4 1 rfl (by kernel_rfl)
  obtain ⟨x19, rfl, wf_x19⟩ := rd_int Tryz.underlying3 r_2_0_4
  have r_2_1 : Rd enc Tryz.prog W base spare held 3 [c20] := rd_field Tryz.underlying30 r_2 1 _ rfl 5 1 rfl (by kernel_rfl)
  obtain ⟨x20, rfl, wf_x20⟩ := rd_int Tryz.underlying3 r_2_1
  have r_2_2 : Rd enc Tryz.prog W base spare held 3 [c21] := rd_field Tryz.underlying30 r_2 2 _ rfl 6 1 rfl (by kernel_rfl)
  obtain ⟨x21, rfl, wf_x21⟩ := rd_int Tryz.underlying3 r_2_2
  have r_2_3 : Rd enc Tryz.prog W base spare held 3 [c22] := rd_field Tryz.underlying30 r_2 3 _ rfl 7 1 rfl (by kernel_rfl)
  obtain ⟨x22, rfl, wf_x22⟩ := rd_int Tryz.underlying3 r_2_3
  have r_2_4 : Rd enc Tryz.prog W base spare held 28 [c23, c24] := rd_field Tryz.underlying30 r_2 4 _ rfl 8 2 rfl (by kernel_rfl)
  have r_2_4_0 : Rd enc Tryz.prog W base spare held 3 [c23] := rd_field Tryz.underlying28 r_2_4 0 _ rfl 0 1 rfl (by kernel_rfl)
  obtain ⟨x23, rfl, wf_x23⟩ := rd_int Tryz.underlying3 r_2_4_0
  have r_2_4_1 : Rd enc Tryz.prog W base spare held 26 [c24] := rd_field Tryz.underlying28 r_2_4 1 _ rfl 1 1 rfl (by kernel_rfl)
  obtain ⟨aL24, cL24, L24, rfl, hL24, mL24⟩ := rd_list 2 (SampleKit.cells) SampleKit.zero (by omega) Tryz.underlying26 (by kernel_rfl) (fun cs h => el_Sample h) (fun x => rfl) r_2_4_1
  have r_3 : Rd enc Tryz.prog W base spare held 33 [c25] := rd_field Tryz.underlying42 r 3 _ rfl 25 1 rfl (by kernel_rfl)
  have r_3_0 : Rd enc Tryz.prog W base spare held 31 [c25] := rd_field Tryz.underlying33 r_3 0 _ rfl 0 1 rfl (by kernel_rfl)
  obtain ⟨aL25, cL25, L25, rfl, hL25, mL25⟩ := rd_list 5 (SlotKit.cells) SlotKit.zero (by omega) Tryz.underlying31 (by kernel_rfl) (fun cs h => el_Slot h) (fun x => rfl) r_3_0
  have r_4 : Rd enc Tryz.prog W base spare held 36 [c26, c27] := rd_field Tryz.underlying42 r 4 _ rfl 26 2 rfl (by kernel_rfl)
  have r_4_0 : Rd enc Tryz.prog W base spare held 3 [c26] := rd_field Tryz.underlying36 r_4 0 _ rfl 0 1 rfl (by kernel_rfl)
  obtain ⟨x26, rfl, wf_x26⟩ := rd_int Tryz.underlying3 r_4_0
  have r_4_1 : Rd enc Tryz.prog W base spare held 34 [c27] := rd_field Tryz.underlying36 r_4 1 _ rfl 1 1 rfl (by kernel_rfl)
  obtain ⟨aL27, cL27, L27, rfl, hL27, mL27⟩ := rd_list 6 (ReqKit.cells) ReqKit.zero (by omega) Tryz.underlying34 (by kernel_rfl) (fun cs h => el_Req h) (fun x => rfl) r_4_1
  have r_5 : Rd enc Tryz.prog W base spare held 37 [c28] := rd_field Tryz.underlying42 r 5 _ rfl 28 1 rfl (by kernel_rfl)
  obtain ⟨aL28, cL28, L28, rfl, hL28, mL28⟩ := rd_list 6 (CodelKit.cells) CodelKit.zero (by omega) Tryz.underlying37 (by kernel_rfl) (fun cs h => el_Codel h) (fun x => rfl) r_5
  have r_6 : Rd enc Tryz.prog W base spare held 39 [c29, c30, c31, c32] := rd_field Tryz.underlying42 r 6 _ rfl 29 4 rfl (by kernel_rfl)
  have r_6_0 : Rd enc Tryz.prog W base spare held 3 [c29] := rd_field Tryz.underlying39 r_6 0 _ rfl 0 1 rfl (by kernel_rfl)
  obtain ⟨x29, rfl, wf_x29⟩ := rd_int Tryz.underlying3 r_6_0
  have r_6_1 : Rd enc Tryz.prog W base spare held 3 [c30] := rd_field Tryz.underlying39 r_6 1 _ rfl 1 1 rfl (by kernel_rfl)
  obtain ⟨x30, rfl, wf_x30⟩ := rd_int Tryz.underlying3 r_6_1
  have r_6_2 : Rd enc Tryz.prog W base spare held 3 [c31] := rd_field Tryz.underlying39 r_6 2 _ rfl 2 1 rfl (by kernel_rfl)
  obtain ⟨x31, rfl, wf_x31⟩ := rd_int Tryz.underlying3 r_6_2
  have r_6_3 : Rd enc Tryz.prog W base spare held 3 [c32] := rd_field Tryz.underlying39 r_6 3 _ rfl 3 1 rfl (by kernel_rfl)
  obtain ⟨x32, rfl, wf_x32⟩ := rd_int Tryz.underlying3 r_6_3
  have r_7 : Rd enc Tryz.prog W base spare held 40 [c33] := rd_field Tryz.underlying42 r 7 _ rfl 33 1 rfl (by kernel_rfl)
  obtain ⟨aL33, cL33, L33, rfl, hL33, mL33⟩ := rd_list 1 (IntKit.cells) IntKit.zero (by omega) Tryz.underlying40 (by kernel_rfl) (fun cs h => el_int h) (fun x => rfl) r_7
  exact ⟨x0, x1, x2, x3, x4, x5, x6, x7, x8, x9, x10, x11, x12, x13, x14, x15, x16, x17, x18, x19, x20, x21, x22, x23, aL24, cL24, L24, aL25, cL25, L25, x26, aL27, cL27, L27, aL28, cL28, L28, x29, x30, x31, x32, aL33, cL33, L33, rfl, hL24, mL24, hL25, mL25, hL27, mL27, hL28, mL28, hL33, mL33, (List.forall_mem_cons.2 ⟨wf_x0, (List.forall_mem_cons.2 ⟨wf_x1, (List.forall_mem_cons.2 ⟨wf_x2, (List.forall_mem_cons.2 ⟨wf_x3, (List.forall_mem_cons.2 ⟨wf_x4, (List.forall_mem_cons.2 ⟨wf_x5, (List.forall_mem_cons.2 ⟨wf_x6, (List.forall_mem_cons.2 ⟨wf_x7, (List.forall_mem_cons.2 ⟨wf_x8, (List.forall_mem_cons.2 ⟨wf_x9, (List.forall_mem_cons.2 ⟨wf_x10, (List.forall_mem_cons.2 ⟨wf_x11, (List.forall_mem_cons.2 ⟨wf_x12, (List.forall_mem_cons.2 ⟨wf_x13, (List.forall_mem_cons.2 ⟨wf_x14, (List.forall_mem_cons.2 ⟨wf_x15, (List.forall_mem_cons.2 ⟨wf_x16, (List.forall_mem_cons.2 ⟨wf_x17, (List.forall_mem_cons.2 ⟨wf_x18, (List.forall_mem_cons.2 ⟨wf_x19, (List.forall_mem_cons.2 ⟨wf_x20, (List.forall_mem_cons.2 ⟨wf_x21, (List.forall_mem_cons.2 ⟨wf_x22, (List.forall_mem_cons.2 ⟨wf_x23, (List.forall_mem_cons.2 ⟨wf_x26, (List.forall_mem_cons.2 ⟨wf_x29, (List.forall_mem_cons.2 ⟨wf_x30, (List.forall_mem_cons.2 ⟨wf_x31, (List.forall_mem_cons.2 ⟨wf_x32, (fun _ h => by cases h)⟩)⟩)⟩)⟩)⟩)⟩)⟩)⟩)⟩)⟩)⟩)⟩)⟩)⟩)⟩)⟩)⟩)⟩)⟩)⟩)⟩)⟩)⟩)⟩)⟩)⟩)⟩)⟩)⟩)⟩
end
end Go.Proofs.YtnabnghjejncpaaGreat.OpenAdm
