/- What math/bits.Div64 answers at every high word below the divisor: the quotient of the two words, whatever the rest; proved from its own text. -/
import Derived.Test.YtbdkepnjhcdpnaaRows
import Derived.Test.YtbdkepnjhcdpnaaShelf
import Derived.Test.YtbdkepnjhcdpnaaDivMath
import Derived.WalkKit
import Derived.WalkSmall
import Derived.BigQuiet
namespace Go.Proofs.Ytbdkepnjhcdpnaa.DivWalks
open Go.RowKit DivMath

theorem ret2 {a b r : Int} (h : a = b) : Ending.returned (.tuple #[.int .u64 a, .int .u64 r]) = .returned (.tuple #[.int .u64 b, .int .u64 r]) := by rw [h]

theorem wrapM (a : Nat) : IntKind.u64.wrap (a : Int) = ((a % 18446744073709551616 : Nat) : Int) := by rw [IntKind.wrap_u64]; omega

set_option maxHeartbeats 400000 in
theorem div64_small (lo y : Nat) (w : World) (hy : 0 < y) (hyb : y < 18446744073709551616) (hlo : lo < 18446744073709551616) :
    Calls Try.prog 83 #[.int .u64 0, .int .u64 lo, .int .u64 y] w fun e w' => ∃ r : Int, e = .returned (.tuple #[.int .u64 ((lo / y : Nat) : Int), .int .u64 r]) ∧ Below w.heap.size w w' := by
  have e1 : ((y : Int) == 0) = false := by rw [beq_eq_false_iff_ne]; omega
  have hq : IntKind.u64.wrap ((lo : Int) / (y : Int)) = ((lo / y : Nat) : Int) := by
    have := Nat.div_le_self lo y
    rw [← Int.natCast_ediv, wrapM, Nat.mod_eq_of_lt (by omega)]
  go_enter Try.func83, Try.ntmps83
  go_wp2
  go_quiet (fail)
  go_wp2
  go_ret2
  exact ⟨_, ret2 (by simp), by first | exact Below.refl _ _ | exact below_drewN (Below.refl _ _) _ | exact (Below.refl _ _).alloc (Nat.le_refl _) _⟩

/-- The first guess at a digit, in the walk's own forms. -/
theorem quo_start {u Y y1 y0 d : Nat} (hY : Y = y1 * 4294967296 + y0) (h1 : 2147483648 ≤ y1) (h1b : y1 < 4294967296) (h0 : y0 < 4294967296) (hu : u < Y) (hd : d < 4294967296) :
    ∃ q r : Nat, IntKind.u64.wrap ((u : Int) / (y1 : Int)) = (q : Int) ∧ IntKind.u64.wrap ((u : Int) - IntKind.u64.wrap ((q : Int) * (y1 : Int))) = (r : Int) ∧ q ≤ 4294967297 ∧ r < 4294967296 ∧ Inv u Y y1 d q r := by
  obtain ⟨hi, hq, hr⟩ := digit_start hY h1 h0 hu hd
  have hub : u < 18446744073709551616 := by omega
  have hm := hi.1
  refine ⟨u / y1, u % y1, ?_, ?_, hq, by omega, hi⟩
  · rw [← Int.natCast_ediv, wrapM, Nat.mod_eq_of_lt (by omega)]
  · generalize u / y1 = q at *
    generalize u % y1 = r at *
    rw [← Int.natCast_mul, wrapM, Nat.mod_eq_of_lt (by omega), IntKind.wrap_u64]
    generalize q * y1 = m at *
    omega

/-- What the walk needs behind the first digit. -/
theorem after_digit {u Y y1 y0 v1 v0 q A C : Nat} (hY : Y = y1 * 4294967296 + y0) (h1 : 2147483648 ≤ y1) (h1b : y1 < 4294967296) (h0 : y0 < 4294967296) (hu : u < Y) (hv1 : v1 < 4294967296) (hv0 : v0 < 4294967296)
    (hA : A = u * 4294967296 % 18446744073709551616) (hC : C = (A + v1) % 18446744073709551616) (hq : q = digit u Y v1) :
    ∃ D t q2 r2 : Nat, IntKind.u64.wrap ((q : Int) * (Y : Int)) = (D : Int) ∧ IntKind.u64.wrap ((C : Int) - (D : Int)) = (t : Int) ∧ IntKind.u64.wrap ((t : Int) / (y1 : Int)) = (q2 : Int)
      ∧ IntKind.u64.wrap ((t : Int) - IntKind.u64.wrap ((q2 : Int) * (y1 : Int))) = (r2 : Int) ∧ q2 ≤ 4294967297 ∧ r2 < 4294967296 ∧ q < 4294967296 ∧ Hid (Inv t Y y1 v0 q2 r2) ∧ Hid (t < Y) ∧ Hid (u * 4294967296 + v1 = digit u Y v1 * Y + t) := by
  have hp : 0 < Y := by omega
  obtain ⟨t, ht, htY⟩ := rest_lt (u := u) (d := v1) hp
  obtain ⟨q2, r2, e1, e2, e3, e4, e5⟩ := quo_start hY h1 h1b h0 htY hv0
  have hlt := digit_lt hu hv1
  refine ⟨q * Y % 18446744073709551616, t, q2, r2, ?_, ?_, e1, e2, e3, e4, by omega, e5, htY, ht⟩
  · rw [← Int.natCast_mul, wrapM]
  · rw [← hq] at ht
    have htb : t < 18446744073709551616 := by omega
    rw [IntKind.wrap_u64, hC, hA]
    generalize q * Y = m at *
    omega

theorem join64 (u : Nat) {v v1 v0 : Nat} (hv1 : v1 = v / 4294967296) (hv0 : v0 = v % 4294967296) : (u * 4294967296 + v1) * 4294967296 + v0 = u * 18446744073709551616 + v := by
  have h : v1 * 4294967296 + v0 = v := by omega
  rw [Nat.add_mul, Nat.mul_assoc, Nat.add_assoc, h]

/-- The quotient, out of its two digits. -/
theorem whole {hi lo y s Y u v v1 v0 t : Nat} (hs : s ≤ 63) (hh : hi < y) (hlo : lo < 18446744073709551616) (hY : Y = y * 2 ^ s) (hp : 0 < Y) (hu : u = hi * 2 ^ s + lo / 2 ^ (64 - s)) (hv : v = lo * 2 ^ s % 18446744073709551616)
    (hv1 : v1 = v / 4294967296) (hv0 : v0 = v % 4294967296) (ht : u * 4294967296 + v1 = digit u Y v1 * Y + t) :
    ((digit u Y v1 : Nat) : Int) * 4294967296 + ((digit t Y v0 : Nat) : Int) = (((hi * 18446744073709551616 + lo) / y : Nat) : Int) := by
  have h1 := two_digits (v0 := v0) hp ht
  obtain ⟨h2, _, _⟩ := shifted hs hh hlo
  rw [← hu, ← hv] at h2
  have e0 := join64 u (v := v) hv1 hv0
  have e := e0.trans h2.symm
  rw [e, hY, Nat.mul_div_mul_right _ _ (Nat.two_pow_pos _), ← hY] at h1
  rw [h1]
  omega

theorem prod_lt {q y0 : Nat} (h1 : q < 4294967296) (h2 : y0 < 4294967296) : q * y0 < 18446744073709551616 := by
  have := Nat.mul_le_mul (show q ≤ 4294967295 by omega) (show y0 ≤ 4294967295 by omega)
  omega

set_option maxHeartbeats 4000000 in
theorem div64_core (hi lo y s : Nat) (w : World) (hh : 0 < hi) (hhy : hi < y) (hyb : y < 18446744073709551616) (_hlo : lo < 18446744073709551616) (hs : Hid ((64 : Int) - (Lib.bitLen (y : Int).toNat : Int) = (s : Int))) (hs1 : s ≤ 63)
    (Y y1 y0 u v v1 v0 q r A C : Nat) (hY : IntKind.u64.wrap ((y : Int) * 2 ^ s) = (Y : Int)) (hy1 : (Y : Int) / 4294967296 = (y1 : Int)) (hy0 : bits .and .u64 (Y : Int) 4294967295 = (y0 : Int))
    (hu : bits .or .u64 (IntKind.u64.wrap ((hi : Int) * 2 ^ s)) ((lo : Int) / 2 ^ (64 - s)) = (u : Int)) (hv : IntKind.u64.wrap ((lo : Int) * 2 ^ s) = (v : Int)) (hv1 : (v : Int) / 4294967296 = (v1 : Int)) (hv0 : bits .and .u64 (v : Int) 4294967295 = (v0 : Int))
    (hq : IntKind.u64.wrap ((u : Int) / (y1 : Int)) = (q : Int)) (hr : IntKind.u64.wrap ((u : Int) - IntKind.u64.wrap ((q : Int) * (y1 : Int))) = (r : Int))
    (hA : IntKind.u64.wrap ((u : Int) * 4294967296) = (A : Int)) (hC : IntKind.u64.wrap ((A : Int) + (v1 : Int)) = (C : Int))
    (y1p : 2147483648 ≤ y1) (y1b : y1 < 4294967296) (y0b : y0 < 4294967296) (v1b : v1 < 4294967296) (v0b : v0 < 4294967296) (qb : q ≤ 4294967297) (rb : r < 4294967296)
    (I : Hid (Inv u Y y1 v1 q r)) (HY : Hid (Y = y1 * 4294967296 + y0)) (HU : Hid (u < Y)) (YP : 0 < Y) (HA : Hid (A = u * 4294967296 % 18446744073709551616)) (HC : Hid (C = (A + v1) % 18446744073709551616))
    (FIN : Hid (∀ t, u * 4294967296 + v1 = digit u Y v1 * Y + t → ((digit u Y v1 : Nat) : Int) * 4294967296 + ((digit t Y v0 : Nat) : Int) = (((hi * 18446744073709551616 + lo) / y : Nat) : Int))) :
    Calls Try.prog 83 #[.int .u64 hi, .int .u64 lo, .int .u64 y] w fun e w' => ∃ r : Int, e = .returned (.tuple #[.int .u64 (((hi * 18446744073709551616 + lo) / y : Nat) : Int), .int .u64 r]) ∧ Below w.heap.size w w' := by
  have e1 : ((y : Int) == 0) = false := by rw [beq_eq_false_iff_ne]; omega
  have e2 : ((hi : Int) == 0) = false := by rw [beq_eq_false_iff_ne]; omega
  go_enter Try.func83, Try.ntmps83
  go_wp2_with (go_at_call 89; refine (Try.bits_LeadingZeros64 _ _ (by omega) (by omega)).mono ?_; rintro e w' ⟨rfl, rfl⟩; rw [hs.out])
  go_loop [15, 16] (fun a b => ∃ q r : Nat, q ≤ 4294967297 ∧ r < 4294967296 ∧ Hid (Inv u Y y1 v1 q r) ∧ a = .int .u64 q ∧ b = .int .u64 r) (fun a _ => (intOf a).toNat)
  case atStart => exact ⟨q, r, qb, rb, I, rfl, rfl⟩
  case round =>
    clear qb rb I hq hr
    obtain ⟨q, r, qb, rb, I, rfl, rfl⟩ := hrel
    by_cases c1 : 4294967296 ≤ q
    · have hlt := digit_step HY.out HU.out v1b I.out (Or.inl c1)
      obtain ⟨q', rfl⟩ : ∃ q', q = q' + 1 := ⟨q - 1, by omega⟩
      have hn := inv_next I.out hlt
      have k1 : (4294967296 : Int) ≤ (q' : Int) + 1 := by omega
      have k2 : (q' : Int) ≤ 4294967296 := by omega
      clear I hlt c1 qb
      by_cases c3 : 4294967296 ≤ r + y1
      · have hdig := digit_break HY.out YP y0b hn (by omega) c3
        have k5 : (4294967296 : Int) ≤ (r : Int) + (y1 : Int) := by omega
        clear hn c3
        obtain ⟨D, t, p2, r2, hD, ht, hp2, hr2, p2b, r2b, q1b, I2, T2, E1⟩ := after_digit HY.out y1p y1b y0b HU.out v1b v0b HA.out HC.out hdig
        have HD : Hid (q' = digit u Y v1) := hdig
        clear hdig
        go_wp2
        go_loop [18, 16] (fun a b => ∃ q r : Nat, q ≤ 4294967297 ∧ r < 4294967296 ∧ Hid (Inv t Y y1 v0 q r) ∧ a = .int .u64 q ∧ b = .int .u64 r) (fun a _ => (intOf a).toNat)
        case atStart => exact ⟨p2, r2, p2b, r2b, I2, rfl, rfl⟩
        case round =>
          clear p2b r2b I2 hp2 hr2 hD ht
          obtain ⟨p, k, pb, kb, I, rfl, rfl⟩ := hrel
          by_cases g1 : 4294967296 ≤ p
          · have hlt := digit_step HY.out T2.out v0b I.out (Or.inl g1)
            obtain ⟨p', rfl⟩ : ∃ p', p = p' + 1 := ⟨p - 1, by omega⟩
            have hn := inv_next I.out hlt
            have j1 : (4294967296 : Int) ≤ (p' : Int) + 1 := by omega
            have j2 : (p' : Int) ≤ 4294967296 := by omega
            clear I hlt g1 pb
            by_cases g3 : 4294967296 ≤ k + y1
            · have hdig := digit_break HY.out YP y0b hn (by omega) g3
              have j5 : (4294967296 : Int) ≤ (k : Int) + (y1 : Int) := by omega
              clear hn g3
              have p1b : p' < 4294967296 := by rw [hdig]; exact digit_lt T2.out v0b
              have hfin : Hid ((q' : Int) * 4294967296 + (p' : Int) = (((hi * 18446744073709551616 + lo) / y : Nat) : Int)) := by rw [HD.out, hdig]; exact FIN.out t E1.out
              clear hdig
              go_wp2
              go_ret2
              exact ⟨⟨_, ret2 hfin.out⟩, by first | exact Below.refl _ _ | exact below_drewN (Below.refl _ _) _ | exact (Below.refl _ _).alloc (Nat.le_refl _) _⟩
            · have I3 : Hid (Inv t Y y1 v0 p' (k + y1)) := hn
              have j5 : ¬ (4294967296 : Int) ≤ (k : Int) + (y1 : Int) := by omega
              clear hn g3
              go_wp2
              go_round
              case rel => exact ⟨p', k + y1, by omega, by omega, I3, by go_num, by go_num⟩
              case measure => simp [intOf]
          · have hm1 := prod_lt (q := p) (y0 := y0) (by omega) y0b
            by_cases g2 : 4294967296 * k + v0 < p * y0
            · have hlt := digit_step HY.out T2.out v0b I.out (Or.inr g2)
              obtain ⟨p', rfl⟩ : ∃ p', p = p' + 1 := ⟨p - 1, by omega⟩
              have hn := inv_next I.out hlt
              obtain ⟨n, hn1⟩ : ∃ n : Nat, (p' + 1) * y0 = n := ⟨_, rfl⟩
              rw [hn1] at g2 hm1
              have hni : ((p' : Int) + 1) * (y0 : Int) = (n : Int) := by rw [← hn1]; simp
              have j1 : ¬ (4294967296 : Int) ≤ (p' : Int) + 1 := by omega
              have j2 : (p' : Int) ≤ 4294967296 := by omega
              have j3 : 4294967296 * (k : Int) + (v0 : Int) < (n : Int) := by omega
              have j4 : (n : Int) < 18446744073709551616 := by omega
              clear I hlt hn1 g1 g2 hm1 pb
              by_cases g3 : 4294967296 ≤ k + y1
              · have hdig := digit_break HY.out YP y0b hn (by omega) g3
                have j5 : (4294967296 : Int) ≤ (k : Int) + (y1 : Int) := by omega
                clear hn g3
                have p1b : p' < 4294967296 := by rw [hdig]; exact digit_lt T2.out v0b
                have hfin : Hid ((q' : Int) * 4294967296 + (p' : Int) = (((hi * 18446744073709551616 + lo) / y : Nat) : Int)) := by rw [HD.out, hdig]; exact FIN.out t E1.out
                clear hdig
                go_wp2
                go_ret2
                exact ⟨⟨_, ret2 hfin.out⟩, by first | exact Below.refl _ _ | exact below_drewN (Below.refl _ _) _ | exact (Below.refl _ _).alloc (Nat.le_refl _) _⟩
              · have I3 : Hid (Inv t Y y1 v0 p' (k + y1)) := hn
                have j5 : ¬ (4294967296 : Int) ≤ (k : Int) + (y1 : Int) := by omega
                clear hn g3
                go_wp2
                go_round
                case rel => exact ⟨p', k + y1, by omega, by omega, I3, by go_num, by go_num⟩
                case measure => simp [intOf]
            · have hdig := digit_stop HY.out YP I.out (by omega)
              obtain ⟨n, hn1⟩ : ∃ n : Nat, p * y0 = n := ⟨_, rfl⟩
              rw [hn1] at g2 hm1
              have hni : (p : Int) * (y0 : Int) = (n : Int) := by rw [← hn1]; simp
              have j1 : ¬ (4294967296 : Int) ≤ (p : Int) := by omega
              have j3 : ¬ 4294967296 * (k : Int) + (v0 : Int) < (n : Int) := by omega
              have j4 : (n : Int) < 18446744073709551616 := by omega
              clear I hn1 g1 g2 hm1 pb
              have p1b : p < 4294967296 := by rw [hdig]; exact digit_lt T2.out v0b
              have hfin : Hid ((q' : Int) * 4294967296 + (p : Int) = (((hi * 18446744073709551616 + lo) / y : Nat) : Int)) := by rw [HD.out, hdig]; exact FIN.out t E1.out
              clear hdig
              go_wp2
              go_ret2
              exact ⟨⟨_, ret2 hfin.out⟩, by first | exact Below.refl _ _ | exact below_drewN (Below.refl _ _) _ | exact (Below.refl _ _).alloc (Nat.le_refl _) _⟩
      · have I3 : Hid (Inv u Y y1 v1 q' (r + y1)) := hn
        have k5 : ¬ (4294967296 : Int) ≤ (r : Int) + (y1 : Int) := by omega
        clear hn c3
        go_wp2
        go_round
        case rel => exact ⟨q', r + y1, by omega, by omega, I3, by go_num, by go_num⟩
        case measure => simp [intOf]
    · have hm0 := prod_lt (q := q) (y0 := y0) (by omega) y0b
      by_cases c2 : 4294967296 * r + v1 < q * y0
      · have hlt := digit_step HY.out HU.out v1b I.out (Or.inr c2)
        obtain ⟨q', rfl⟩ : ∃ q', q = q' + 1 := ⟨q - 1, by omega⟩
        have hn := inv_next I.out hlt
        obtain ⟨m, hm⟩ : ∃ m : Nat, (q' + 1) * y0 = m := ⟨_, rfl⟩
        rw [hm] at c2 hm0
        have hmi : ((q' : Int) + 1) * (y0 : Int) = (m : Int) := by rw [← hm]; simp
        have k1 : ¬ (4294967296 : Int) ≤ (q' : Int) + 1 := by omega
        have k2 : (q' : Int) ≤ 4294967296 := by omega
        have k3 : 4294967296 * (r : Int) + (v1 : Int) < (m : Int) := by omega
        have k4 : (m : Int) < 18446744073709551616 := by omega
        clear I hlt hm c1 c2 hm0 qb
        by_cases c3 : 4294967296 ≤ r + y1
        · have hdig := digit_break HY.out YP y0b hn (by omega) c3
          have k5 : (4294967296 : Int) ≤ (r : Int) + (y1 : Int) := by omega
          clear hn c3
          obtain ⟨D, t, p2, r2, hD, ht, hp2, hr2, p2b, r2b, q1b, I2, T2, E1⟩ := after_digit HY.out y1p y1b y0b HU.out v1b v0b HA.out HC.out hdig
          have HD : Hid (q' = digit u Y v1) := hdig
          clear hdig
          go_wp2
          go_loop [18, 16] (fun a b => ∃ q r : Nat, q ≤ 4294967297 ∧ r < 4294967296 ∧ Hid (Inv t Y y1 v0 q r) ∧ a = .int .u64 q ∧ b = .int .u64 r) (fun a _ => (intOf a).toNat)
          case atStart => exact ⟨p2, r2, p2b, r2b, I2, rfl, rfl⟩
          case round =>
            clear p2b r2b I2 hp2 hr2 hD ht
            obtain ⟨p, k, pb, kb, I, rfl, rfl⟩ := hrel
            by_cases g1 : 4294967296 ≤ p
            · have hlt := digit_step HY.out T2.out v0b I.out (Or.inl g1)
              obtain ⟨p', rfl⟩ : ∃ p', p = p' + 1 := ⟨p - 1, by omega⟩
              have hn := inv_next I.out hlt
              have j1 : (4294967296 : Int) ≤ (p' : Int) + 1 := by omega
              have j2 : (p' : Int) ≤ 4294967296 := by omega
              clear I hlt g1 pb
              by_cases g3 : 4294967296 ≤ k + y1
              · have hdig := digit_break HY.out YP y0b hn (by omega) g3
                have j5 : (4294967296 : Int) ≤ (k : Int) + (y1 : Int) := by omega
                clear hn g3
                have p1b : p' < 4294967296 := by rw [hdig]; exact digit_lt T2.out v0b
                have hfin : Hid ((q' : Int) * 4294967296 + (p' : Int) = (((hi * 18446744073709551616 + lo) / y : Nat) : Int)) := by rw [HD.out, hdig]; exact FIN.out t E1.out
                clear hdig
                go_wp2
                go_ret2
                exact ⟨⟨_, ret2 hfin.out⟩, by first | exact Below.refl _ _ | exact below_drewN (Below.refl _ _) _ | exact (Below.refl _ _).alloc (Nat.le_refl _) _⟩
              · have I3 : Hid (Inv t Y y1 v0 p' (k + y1)) := hn
                have j5 : ¬ (4294967296 : Int) ≤ (k : Int) + (y1 : Int) := by omega
                clear hn g3
                go_wp2
                go_round
                case rel => exact ⟨p', k + y1, by omega, by omega, I3, by go_num, by go_num⟩
                case measure => simp [intOf]
            · have hm1 := prod_lt (q := p) (y0 := y0) (by omega) y0b
              by_cases g2 : 4294967296 * k + v0 < p * y0
              · have hlt := digit_step HY.out T2.out v0b I.out (Or.inr g2)
                obtain ⟨p', rfl⟩ : ∃ p', p = p' + 1 := ⟨p - 1, by omega⟩
                have hn := inv_next I.out hlt
                obtain ⟨n, hn1⟩ : ∃ n : Nat, (p' + 1) * y0 = n := ⟨_, rfl⟩
                rw [hn1] at g2 hm1
                have hni : ((p' : Int) + 1) * (y0 : Int) = (n : Int) := by rw [← hn1]; simp
                have j1 : ¬ (4294967296 : Int) ≤ (p' : Int) + 1 := by omega
                have j2 : (p' : Int) ≤ 4294967296 := by omega
                have j3 : 4294967296 * (k : Int) + (v0 : Int) < (n : Int) := by omega
                have j4 : (n : Int) < 18446744073709551616 := by omega
                clear I hlt hn1 g1 g2 hm1 pb
                by_cases g3 : 4294967296 ≤ k + y1
                · have hdig := digit_break HY.out YP y0b hn (by omega) g3
                  have j5 : (4294967296 : Int) ≤ (k : Int) + (y1 : Int) := by omega
                  clear hn g3
                  have p1b : p' < 4294967296 := by rw [hdig]; exact digit_lt T2.out v0b
                  have hfin : Hid ((q' : Int) * 4294967296 + (p' : Int) = (((hi * 18446744073709551616 + lo) / y : Nat) : Int)) := by rw [HD.out, hdig]; exact FIN.out t E1.out
                  clear hdig
                  go_wp2
                  go_ret2
                  exact ⟨⟨_, ret2 hfin.out⟩, by first | exact Below.refl _ _ | exact below_drewN (Below.refl _ _) _ | exact (Below.refl _ _).alloc (Nat.le_refl _) _⟩
                · have I3 : Hid (Inv t Y y1 v0 p' (k + y1)) := hn
                  have j5 : ¬ (4294967296 : Int) ≤ (k : Int) + (y1 : Int) := by omega
                  clear hn g3
                  go_wp2
                  go_round
                  case rel => exact ⟨p', k + y1, by omega, by omega, I3, by go_num, by go_num⟩
                  case measure => simp [intOf]
              · have hdig := digit_stop HY.out YP I.out (by omega)
                obtain ⟨n, hn1⟩ : ∃ n : Nat, p * y0 = n := ⟨_, rfl⟩
                rw [hn1] at g2 hm1
                have hni : (p : Int) * (y0 : Int) = (n : Int) := by rw [← hn1]; simp
                have j1 : ¬ (4294967296 : Int) ≤ (p : Int) := by omega
                have j3 : ¬ 4294967296 * (k : Int) + (v0 : Int) < (n : Int) := by omega
                have j4 : (n : Int) < 18446744073709551616 := by omega
                clear I hn1 g1 g2 hm1 pb
                have p1b : p < 4294967296 := by rw [hdig]; exact digit_lt T2.out v0b
                have hfin : Hid ((q' : Int) * 4294967296 + (p : Int) = (((hi * 18446744073709551616 + lo) / y : Nat) : Int)) := by rw [HD.out, hdig]; exact FIN.out t E1.out
                clear hdig
                go_wp2
                go_ret2
                exact ⟨⟨_, ret2 hfin.out⟩, by first | exact Below.refl _ _ | exact below_drewN (Below.refl _ _) _ | exact (Below.refl _ _).alloc (Nat.le_refl _) _⟩
        · have I3 : Hid (Inv u Y y1 v1 q' (r + y1)) := hn
          have k5 : ¬ (4294967296 : Int) ≤ (r : Int) + (y1 : Int) := by omega
          clear hn c3
          go_wp2
          go_round
          case rel => exact ⟨q', r + y1, by omega, by omega, I3, by go_num, by go_num⟩
          case measure => simp [intOf]
      · have hdig := digit_stop HY.out YP I.out (by omega)
        obtain ⟨m, hm⟩ : ∃ m : Nat, q * y0 = m := ⟨_, rfl⟩
        rw [hm] at c2 hm0
        have hmi : (q : Int) * (y0 : Int) = (m : Int) := by rw [← hm]; simp
        have k1 : ¬ (4294967296 : Int) ≤ (q : Int) := by omega
        have k3 : ¬ 4294967296 * (r : Int) + (v1 : Int) < (m : Int) := by omega
        have k4 : (m : Int) < 18446744073709551616 := by omega
        clear I hm c1 c2 hm0 qb
        obtain ⟨D, t, p2, r2, hD, ht, hp2, hr2, p2b, r2b, q1b, I2, T2, E1⟩ := after_digit HY.out y1p y1b y0b HU.out v1b v0b HA.out HC.out hdig
        have HD : Hid (q = digit u Y v1) := hdig
        clear hdig
        go_wp2
        go_loop [18, 16] (fun a b => ∃ q r : Nat, q ≤ 4294967297 ∧ r < 4294967296 ∧ Hid (Inv t Y y1 v0 q r) ∧ a = .int .u64 q ∧ b = .int .u64 r) (fun a _ => (intOf a).toNat)
        case atStart => exact ⟨p2, r2, p2b, r2b, I2, rfl, rfl⟩
        case round =>
          clear p2b r2b I2 hp2 hr2 hD ht
          obtain ⟨p, k, pb, kb, I, rfl, rfl⟩ := hrel
          by_cases g1 : 4294967296 ≤ p
          · have hlt := digit_step HY.out T2.out v0b I.out (Or.inl g1)
            obtain ⟨p', rfl⟩ : ∃ p', p = p' + 1 := ⟨p - 1, by omega⟩
            have hn := inv_next I.out hlt
            have j1 : (4294967296 : Int) ≤ (p' : Int) + 1 := by omega
            have j2 : (p' : Int) ≤ 4294967296 := by omega
            clear I hlt g1 pb
            by_cases g3 : 4294967296 ≤ k + y1
            · have hdig := digit_break HY.out YP y0b hn (by omega) g3
              have j5 : (4294967296 : Int) ≤ (k : Int) + (y1 : Int) := by omega
              clear hn g3
              have p1b : p' < 4294967296 := by rw [hdig]; exact digit_lt T2.out v0b
              have hfin : Hid ((q : Int) * 4294967296 + (p' : Int) = (((hi * 18446744073709551616 + lo) / y : Nat) : Int)) := by rw [HD.out, hdig]; exact FIN.out t E1.out
              clear hdig
              go_wp2
              go_ret2
              exact ⟨⟨_, ret2 hfin.out⟩, by first | exact Below.refl _ _ | exact below_drewN (Below.refl _ _) _ | exact (Below.refl _ _).alloc (Nat.le_refl _) _⟩
            · have I3 : Hid (Inv t Y y1 v0 p' (k + y1)) := hn
              have j5 : ¬ (4294967296 : Int) ≤ (k : Int) + (y1 : Int) := by omega
              clear hn g3
              go_wp2
              go_round
              case rel => exact ⟨p', k + y1, by omega, by omega, I3, by go_num, by go_num⟩
              case measure => simp [intOf]
          · have hm1 := prod_lt (q := p) (y0 := y0) (by omega) y0b
            by_cases g2 : 4294967296 * k + v0 < p * y0
            · have hlt := digit_step HY.out T2.out v0b I.out (Or.inr g2)
              obtain ⟨p', rfl⟩ : ∃ p', p = p' + 1 := ⟨p - 1, by omega⟩
              have hn := inv_next I.out hlt
              obtain ⟨n, hn1⟩ : ∃ n : Nat, (p' + 1) * y0 = n := ⟨_, rfl⟩
              rw [hn1] at g2 hm1
              have hni : ((p' : Int) + 1) * (y0 : Int) = (n : Int) := by rw [← hn1]; simp
              have j1 : ¬ (4294967296 : Int) ≤ (p' : Int) + 1 := by omega
              have j2 : (p' : Int) ≤ 4294967296 := by omega
              have j3 : 4294967296 * (k : Int) + (v0 : Int) < (n : Int) := by omega
              have j4 : (n : Int) < 18446744073709551616 := by omega
              clear I hlt hn1 g1 g2 hm1 pb
              by_cases g3 : 4294967296 ≤ k + y1
              · have hdig := digit_break HY.out YP y0b hn (by omega) g3
                have j5 : (4294967296 : Int) ≤ (k : Int) + (y1 : Int) := by omega
                clear hn g3
                have p1b : p' < 4294967296 := by rw [hdig]; exact digit_lt T2.out v0b
                have hfin : Hid ((q : Int) * 4294967296 + (p' : Int) = (((hi * 18446744073709551616 + lo) / y : Nat) : Int)) := by rw [HD.out, hdig]; exact FIN.out t E1.out
                clear hdig
                go_wp2
                go_ret2
                exact ⟨⟨_, ret2 hfin.out⟩, by first | exact Below.refl _ _ | exact below_drewN (Below.refl _ _) _ | exact (Below.refl _ _).alloc (Nat.le_refl _) _⟩
              · have I3 : Hid (Inv t Y y1 v0 p' (k + y1)) := hn
                have j5 : ¬ (4294967296 : Int) ≤ (k : Int) + (y1 : Int) := by omega
                clear hn g3
                go_wp2
                go_round
                case rel => exact ⟨p', k + y1, by omega, by omega, I3, by go_num, by go_num⟩
                case measure => simp [intOf]
            · have hdig := digit_stop HY.out YP I.out (by omega)
              obtain ⟨n, hn1⟩ : ∃ n : Nat, p * y0 = n := ⟨_, rfl⟩
              rw [hn1] at g2 hm1
              have hni : (p : Int) * (y0 : Int) = (n : Int) := by rw [← hn1]; simp
              have j1 : ¬ (4294967296 : Int) ≤ (p : Int) := by omega
              have j3 : ¬ 4294967296 * (k : Int) + (v0 : Int) < (n : Int) := by omega
              have j4 : (n : Int) < 18446744073709551616 := by omega
              clear I hn1 g1 g2 hm1 pb
              have p1b : p < 4294967296 := by rw [hdig]; exact digit_lt T2.out v0b
              have hfin : Hid ((q : Int) * 4294967296 + (p : Int) = (((hi * 18446744073709551616 + lo) / y : Nat) : Int)) := by rw [HD.out, hdig]; exact FIN.out t E1.out
              clear hdig
              go_wp2
              go_ret2
              exact ⟨⟨_, ret2 hfin.out⟩, by first | exact Below.refl _ _ | exact below_drewN (Below.refl _ _) _ | exact (Below.refl _ _).alloc (Nat.le_refl _) _⟩

theorem or_add {a b s : Nat} (h : b < 2 ^ s) : a * 2 ^ s ||| b = a * 2 ^ s + b := by
  rw [Nat.mul_comm, Nat.two_pow_add_eq_or_of_lt h]

theorem cast_shl (a s : Nat) : (a : Int) * 2 ^ s = ((a * 2 ^ s : Nat) : Int) := by simp
theorem cast_shr (a s : Nat) : (a : Int) / 2 ^ s = ((a / 2 ^ s : Nat) : Int) := by simp
theorem cast_div (a : Nat) : (a : Int) / 4294967296 = ((a / 4294967296 : Nat) : Int) := by omega
theorem halves (a : Nat) : a = a / 4294967296 * 4294967296 + a % 4294967296 := by omega
theorem halves_lt {a : Nat} (h : a < 18446744073709551616) : a / 4294967296 < 4294967296 ∧ a % 4294967296 < 4294967296 := by omega
theorem half_ge {a : Nat} (h : 9223372036854775808 ≤ a) : 2147483648 ≤ a / 4294967296 := by omega

/-- math/bits.Div64: the quotient of the number of two words hi, lo by y, wherever it fits. -/
theorem div64 (hi lo y : Nat) (w : World) (hhy : hi < y) (hyb : y < 18446744073709551616) (hlo : lo < 18446744073709551616) :
    Calls Try.prog 83 #[.int .u64 hi, .int .u64 lo, .int .u64 y] w fun e w' => ∃ r : Int, e = .returned (.tuple #[.int .u64 (((hi * 18446744073709551616 + lo) / y : Nat) : Int), .int .u64 r]) ∧ Below w.heap.size w w' := by
  by_cases h0 : hi = 0
  · subst h0
    rw [Nat.zero_mul, Nat.zero_add]
    exact div64_small lo y w hhy hyb hlo
  · obtain ⟨s, es, hs, hn1, hn2⟩ := norm (y := y) (by omega) hyb
    obtain ⟨_, hl, hut⟩ := shifted hs hhy hlo
    obtain ⟨Y, hY⟩ : ∃ Y : Nat, Y = y * 2 ^ s := ⟨_, rfl⟩
    obtain ⟨u, hu⟩ : ∃ u : Nat, u = hi * 2 ^ s + lo / 2 ^ (64 - s) := ⟨_, rfl⟩
    obtain ⟨v, hv⟩ : ∃ v : Nat, v = lo * 2 ^ s % 18446744073709551616 := ⟨_, rfl⟩
    rw [← hY] at hn1 hn2 hut
    rw [← hu] at hut
    have hvb : v < 18446744073709551616 := by rw [hv]; exact Nat.mod_lt _ (by omega)
    obtain ⟨y1b, y0b⟩ := halves_lt hn2
    obtain ⟨v1b, v0b⟩ := halves_lt hvb
    have y1p := half_ge hn1
    obtain ⟨q, r, hq, hr, qb, rb, I⟩ := quo_start (d := v / 4294967296) (halves Y) y1p y1b y0b hut v1b
    refine div64_core hi lo y s w (by omega) hhy hyb hlo ?_ hs Y (Y / 4294967296) (Y % 4294967296) u v (v / 4294967296) (v % 4294967296) q r (u * 4294967296 % 18446744073709551616) ((u * 4294967296 % 18446744073709551616 + v / 4294967296) % 18446744073709551616)
      ?_ (cast_div Y) (Mul64.maskN Y hn2) ?_ ?_ (cast_div v) (Mul64.maskN v hvb) hq hr ?_ ?_ y1p y1b y0b v1b v0b qb rb I (halves Y) hut (by omega) rfl rfl ?_
    · exact es
    · rw [cast_shl, ← hY, wrapM, Nat.mod_eq_of_lt hn2]
    · have hub : u < 18446744073709551616 := Nat.lt_trans hut hn2
      have hb : hi * 2 ^ s < 18446744073709551616 := Nat.lt_of_le_of_lt (by rw [hu]; exact Nat.le_add_right _ _) hub
      have hb2 : lo / 2 ^ (64 - s) < 18446744073709551616 := Nat.lt_of_le_of_lt (by rw [hu]; exact Nat.le_add_left _ _) hub
      rw [cast_shl, wrapM, Nat.mod_eq_of_lt hb, cast_shr, bits_or_u64_nat _ _ hb hb2, or_add hl, ← hu]
    · rw [cast_shl, wrapM, ← hv]
    · rw [show (u : Int) * 4294967296 = ((u * 4294967296 : Nat) : Int) from by omega, wrapM]
    · rw [← Int.natCast_add, wrapM]
    · intro t ht
      exact whole hs hhy hlo hY (by omega) hu hv rfl rfl ht

end Go.Proofs.Ytbdkepnjhcdpnaa.DivWalks
