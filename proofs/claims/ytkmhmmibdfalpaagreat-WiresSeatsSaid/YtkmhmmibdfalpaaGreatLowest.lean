/- The contract of acmeref01.Lowest: a fraction in lowest terms. Made by tools/gen_lowest.py. -/
import Derived.Test.YtkmhmmibdfalpaaGreatRef
namespace Go.Proofs.YtkmhmmibdfalpaaGreat
open Go.RowKit
set_option linter.unusedVariables false

set_option maxHeartbeats 1000000 in
theorem lowest_any (n d : Int) (w : World) (hn : -9223372036854775807 ≤ n) (hn2 : n ≤ 9223372036854775807) (hd : 1 ≤ d) (hd2 : d ≤ 9223372036854775807) :
    Calls Tryz.prog 38 #[.int .i64 n, .int .i64 d] w fun e w' => e = .returned (ratV n d) ∧ Below w.heap.size w w' := by
  have hg := gcd_pos_of n d hd
  have hgd : (Int.gcd n d : Int) ≤ d := Int.le_of_dvd (by omega) (Int.gcd_dvd_right n d)
  have hq1 : Hid (n.tdiv (Int.gcd n d) = n / Int.gcd n d) := Int.tdiv_eq_ediv_of_dvd (Int.gcd_dvd_left n d)
  obtain ⟨d', hdd⟩ := Int.eq_ofNat_of_zero_le (by omega : 0 ≤ d)
  obtain ⟨m, hm⟩ : ∃ m : Nat, m = n.natAbs := ⟨_, rfl⟩
  have hG : Hid (Nat.gcd m d' = Int.gcd n d) := by rw [hm, hdd]; rfl
  have hm2 : (m : Int) ≤ 9223372036854775807 := by omega
  have hd3 : (d' : Int) ≤ 9223372036854775807 := by omega
  have hDD := Lib.hid hdd
  clear hdd
  have hcase : n < 0 ∨ 0 ≤ n := by omega
  rcases hcase with h | h
  · have hM : Hid (-n = m) := (by omega : -n = (m : Int))
    clear hm
    go_enter Tryz.func38, Tryz.ntmps38
    go_wp2
    go_loopw [5, 6] (fun x y wr => ∃ p q : Nat, x = .int .i64 p ∧ y = .int .i64 q ∧ Hid (Nat.gcd p q = Int.gcd n d) ∧ (q : Int) ≤ 9223372036854775807 ∧ (p : Int) ≤ 9223372036854775807 ∧ Hid (Box wr w.heap.size #[.int .i64 0, .int .i64 0] ∧ Below w.heap.size w wr)) (fun x _ _ => (intOf x).toNat)
    case atStart =>
      exact ⟨m, d', by rw [hM.out], by rw [hDD.out], hG, hd3, hm2, Lib.hid ⟨Box.new w _ _, by go_grown⟩⟩
    case round =>
      obtain ⟨p, q, rfl, rfl, hgc, hq, hp, hw⟩ := hrel
      by_cases hp0 : p = 0
      · subst hp0
        have hqg : (Int.gcd n d : Int) = q := by have := hgc.out; rw [Nat.gcd_zero_left] at this; exact congrArg Nat.cast this.symm
        have HV : Hid (ratV n d = .agg #[.int .i64 (n / q), .int .i64 (d / q)]) := by
          show ratV n d = _
          unfold ratV
          rw [hqg]
        rw [hqg] at hg hgd hq1
        have HQ := hq1
        clear hgc hqg hq1 hG
        obtain ⟨hbx, hbel⟩ := hw.out
        have c1 := hbx.2.1
        have f1 := hbx.2.2
        have l1 := hbx.1
        generalize (q : Int) = g at *
        clear hw hbx
        go_wp2
        go_region
        go_wp2
        refine bodyPost_ret (v := .agg #[.int .i64 (n.tdiv g), .int .i64 (d / g)]) (by simp [results, Tryz.results38, go_sem, c1]) rfl ?_
        exact ⟨by rw [HV.out, ← HQ.out], by go_grown⟩
      · have hp1 : (1 : Int) ≤ p := by omega
        have hg' : Hid (Nat.gcd (q % p) p = Int.gcd n d) := by
          have := hgc.out
          rw [← Nat.gcd_rec]
          exact this
        clear hgc
        go_wp2
        go_roundw
        case rel => exact ⟨q % p, p, by first | rfl | simp, rfl, hg', hp, by have := Nat.mod_lt q (by omega : 0 < p); omega, hw⟩
        case measure =>
          have := Nat.mod_lt q (by omega : 0 < p)
          simp [intOf]; omega
  · have hM : Hid (n = m) := (by omega : n = (m : Int))
    clear hm
    go_enter Tryz.func38, Tryz.ntmps38
    go_wp2
    go_loopw [5, 6] (fun x y wr => ∃ p q : Nat, x = .int .i64 p ∧ y = .int .i64 q ∧ Hid (Nat.gcd p q = Int.gcd n d) ∧ (q : Int) ≤ 9223372036854775807 ∧ (p : Int) ≤ 9223372036854775807 ∧ Hid (Box wr w.heap.size #[.int .i64 0, .int .i64 0] ∧ Below w.heap.size w wr)) (fun x _ _ => (intOf x).toNat)
    case atStart =>
      exact ⟨m, d', by rw [hM.out], by rw [hDD.out], hG, hd3, hm2, Lib.hid ⟨Box.new w _ _, by go_grown⟩⟩
    case round =>
      obtain ⟨p, q, rfl, rfl, hgc, hq, hp, hw⟩ := hrel
      by_cases hp0 : p = 0
      · subst hp0
        have hqg : (Int.gcd n d : Int) = q := by have := hgc.out; rw [Nat.gcd_zero_left] at this; exact congrArg Nat.cast this.symm
        have HV : Hid (ratV n d = .agg #[.int .i64 (n / q), .int .i64 (d / q)]) := by
          show ratV n d = _
          unfold ratV
          rw [hqg]
        rw [hqg] at hg hgd hq1
        have HQ := hq1
        clear hgc hqg hq1 hG
        obtain ⟨hbx, hbel⟩ := hw.out
        have c1 := hbx.2.1
        have f1 := hbx.2.2
        have l1 := hbx.1
        generalize (q : Int) = g at *
        clear hw hbx
        go_wp2
        go_region
        go_wp2
        refine bodyPost_ret (v := .agg #[.int .i64 (n / g), .int .i64 (d / g)]) (by simp [results, Tryz.results38, go_sem, c1]) rfl ?_
        exact ⟨by rw [HV.out], by go_grown⟩
      · have hp1 : (1 : Int) ≤ p := by omega
        have hg' : Hid (Nat.gcd (q % p) p = Int.gcd n d) := by
          have := hgc.out
          rw [← Nat.gcd_rec]
          exact this
        clear hgc
        go_wp2
        go_roundw
        case rel => exact ⟨q % p, p, by first | rfl | simp, rfl, hg', hp, by have := Nat.mod_lt q (by omega : 0 < p); omega, hw⟩
        case measure =>
          have := Nat.mod_lt q (by omega : 0 < p)
          simp [intOf]; omega
end Go.Proofs.YtkmhmmibdfalpaaGreat
