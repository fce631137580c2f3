/- An argument of the laws' type Lim, opened: its numbers and its lists; no condition. -/
import Derived.Test.YtocibihmkhfceaaRows
import Derived.Test.YtocibihmkhfceaaOpenKit
namespace Go.Proofs.Ytocibihmkhfceaa.OpenLim
open Go.RowKit Go.ChangeShapes Go.WideShapes OpenKit
set_option maxRecDepth 100000

theorem array10 {α : Type} {cs : Array α} (h : cs.size = 10) : ∃ c0 c1 c2 c3 c4 c5 c6 c7 c8 c9, cs = #[c0, c1, c2, c3, c4, c5, c6, c7, c8, c9] := by
  obtain ⟨l⟩ := cs
  match l, h with
  | [c0, c1, c2, c3, c4, c5, c6, c7, c8, c9], _ => exact ⟨c0, c1, c2, c3, c4, c5, c6, c7, c8, c9, rfl⟩

section
variable {H : Type} {enc : TypeId × Value → H} {W : World} {base b0 : Nat} {held : Bool} {spare : Nat → Bool} {v : Value} {d : DataW H} {p : List MemPlace}

theorem el_Sample {cs : List Value} (h : Rd enc Try.prog W base spare held 84 cs) : ∃ x : (Int × Int), cs = (fun q => [.int .i64 q.1, .int .i64 q.2]) x := by
  have hl : cs.length = 2 := by
    obtain ⟨fuel, x, hx⟩ := h
    obtain ⟨xs, n, _, _, hl, _, _⟩ := DataW.trod_struct Try.underlying84 hx
    exact hl.trans (by kernel_rfl)
  match cs, hl with
  | [q0, q1], _ =>
    have h_0 : Rd enc Try.prog W base spare held 3 [q0] := rd_field Try.underlying84 h 0 _ rfl 0 1 rfl (by kernel_rfl)
    obtain ⟨xq0, rfl, _⟩ := rd_int Try.underlying3 h_0
    have h_1 : Rd enc Try.prog W base spare held 3 [q1] := rd_field Try.underlying84 h 1 _ rfl 1 1 rfl (by kernel_rfl)
    obtain ⟨xq1, rfl, _⟩ := rd_int Try.underlying3 h_1
    exact ⟨⟨xq0, xq1⟩, rfl⟩

theorem open_lim (hv : Value.okWide Try.prog W .any b0 32 v) (h : DataW.Trod enc Try.prog W base spare held 32 v d p) :
    ∃ (k : Int) (mn : Int) (mx : Int) (sp : Int) (sl : Int) (li : Int) (gd : Int) (av : Int) (ws : Int) (aL : Option Addr) (cL : Nat) (L : List (Int × Int)), v = .agg #[.int .i64 k, .int .i64 mn, .int .i64 mx, .int .i64 sp, .int .i64 sl, .int .i64 li, .int .i64 gd, .int .i64 av, .int .i64 ws, .slice aL L.length cL] ∧ LArg 2 (fun q => [.int .i64 q.1, .int .i64 q.2]) W aL L ∧ L.length ≤ maxLen := by
  obtain ⟨cs, rfl, hsz⟩ := okWide_struct Try.underlying32 hv
  have hC : Try.prog.cellsOf 32 = 10 := by kernel_rfl
  obtain ⟨c0, c1, c2, c3, c4, c5, c6, c7, c8, c9, rfl⟩ := array10 (hsz.trans hC)
  have r : Rd enc Try.prog W base spare held 32 [c0, c1, c2, c3, c4, c5, c6, c7, c8, c9] := rd_of h
  clear h hv hsz hC
  have r_0 : Rd enc Try.prog W base spare held 23 [c0, c1, c2, c3, c4] := rd_field Try.underlying32 r 0 _ rfl 0 5 rfl (by kernel_rfl)
  have r_0_0 : Rd enc Try.prog W base spare held 3 [c0] := rd_field Try.underlying23 r_0 0 _ rfl 0 1 rfl (by kernel_rfl)
  obtain ⟨k, rfl, _⟩ := rd_int Try.underlying3 r_0_0
  have r_0_1 : Rd enc Try.prog W base spare held 3 [c1] := rd_field Try.underlying23 r_0 1 _ rfl 1 1 rfl (by kernel_rfl)
  obtain ⟨mn, rfl, _⟩ := rd_int Try.underlying3 r_0_1
  have r_0_2 : Rd enc Try.prog W base spare held 3 [c2] := rd_field Try.underlying23 r_0 2 _ rfl 2 1 rfl (by kernel_rfl)
  obtain ⟨mx, rfl, _⟩ := rd_int Try.underlying3 r_0_2
  have r_0_3 : Rd enc Try.prog W base spare held 3 [c3] := rd_field Try.underlying23 r_0 3 _ rfl 3 1 rfl (by kernel_rfl)
  obtain ⟨sp, rfl, _⟩ := rd_int Try.underlying3 r_0_3
  have r_0_4 : Rd enc Try.prog W base spare held 3 [c4] := rd_field Try.underlying23 r_0 4 _ rfl 4 1 rfl (by kernel_rfl)
  obtain ⟨sl, rfl, _⟩ := rd_int Try.underlying3 r_0_4
  have r_1 : Rd enc Try.prog W base spare held 3 [c5] := rd_field Try.underlying32 r 1 _ rfl 5 1 rfl (by kernel_rfl)
  obtain ⟨li, rfl, _⟩ := rd_int Try.underlying3 r_1
  have r_2 : Rd enc Try.prog W base spare held 3 [c6] := rd_field Try.underlying32 r 2 _ rfl 6 1 rfl (by kernel_rfl)
  obtain ⟨gd, rfl, _⟩ := rd_int Try.underlying3 r_2
  have r_3 : Rd enc Try.prog W base spare held 3 [c7] := rd_field Try.underlying32 r 3 _ rfl 7 1 rfl (by kernel_rfl)
  obtain ⟨av, rfl, _⟩ := rd_int Try.underlying3 r_3
  have r_4 : Rd enc Try.prog W base spare held 30 [c8, c9] := rd_field Try.underlying32 r 4 _ rfl 8 2 rfl (by kernel_rfl)
  have r_4_0 : Rd enc Try.prog W base spare held 3 [c8] := rd_field Try.underlying30 r_4 0 _ rfl 0 1 rfl (by kernel_rfl)
  obtain ⟨ws, rfl, _⟩ := rd_int Try.underlying3 r_4_0
  have r_4_1 : Rd enc Try.prog W base spare held 28 [c9] := rd_field Try.underlying30 r_4 1 _ rfl 1 1 rfl (by kernel_rfl)
  obtain ⟨aL, cL, L, rfl, hL, mL⟩ := rd_list 2 (fun q => [.int .i64 q.1, .int .i64 q.2]) (0, 0) (by omega) Try.underlying28 (by kernel_rfl) (fun cs h => el_Sample h) (fun x => rfl) r_4_1
  exact ⟨k, mn, mx, sp, sl, li, gd, av, ws, aL, cL, L, rfl, hL, mL⟩
end
end Go.Proofs.Ytocibihmkhfceaa.OpenLim
