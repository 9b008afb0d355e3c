/- Contracts of package thread's functions that return a ratio: Width, Sharp, Area, Advance, PerInch, Diameter, Meets. -/
import Derived.Test.YtpmeahmjmpgbfaaShape
namespace Go.Proofs.Ytpmeahmjmpgbfaa
open Go.RowKit
set_option linter.unusedSimpArgs false
set_option linter.unusedVariables false

theorem errN_bad {f : Form} (h : okB f = false) : errN f = 2 := by unfold errN; rw [h]; rfl
theorem errN_good {f : Form} (h : okB f = true) : errN f = 0 := by unfold errN; rw [h]; rfl
theorem ok_lim {f : Form} (h : okB f = true) : limB f = true := by unfold okB at h; simp at h; exact h.1.1
theorem ok_open {f : Form} (h : okB f = true) : f.a * (f.l + f.r) ≤ 500 * f.p ∧ f.b * (f.l + f.r) ≤ 500 * f.p ∧ 1 ≤ f.a + f.b := by
  have hl := lim_iff.1 (ok_lim h)
  unfold okB openB at h
  simp at h
  have h2 := h.2
  have h3 := h.1.2
  rcases Int.le_total f.a f.b with e | e
  · rw [Int.max_eq_right e] at h2
    exact ⟨Int.le_trans (Int.mul_le_mul_of_nonneg_right e (by omega)) h2, h2, h3⟩
  · rw [Int.max_eq_left e] at h2
    exact ⟨h2, Int.le_trans (Int.mul_le_mul_of_nonneg_right e (by omega)) h2, h3⟩

theorem mul_bd {x y A B : Int} (h1 : -A ≤ x) (h2 : x ≤ A) (h3 : -B ≤ y) (h4 : y ≤ B) : -(A * B) ≤ x * y ∧ x * y ≤ A * B := by
  have hx : x.natAbs ≤ A.natAbs := by omega
  have hy : y.natAbs ≤ B.natAbs := by omega
  have hm : x.natAbs * y.natAbs ≤ A.natAbs * B.natAbs := Nat.mul_le_mul hx hy
  have e1 : (x * y).natAbs = x.natAbs * y.natAbs := Int.natAbs_mul x y
  have e2 : (A * B).natAbs = A.natAbs * B.natAbs := Int.natAbs_mul A B
  have e3 : 0 ≤ A * B := Int.mul_nonneg (by omega) (by omega)
  omega

def zeroR : Value := .agg #[.int .i64 0, .int .i64 0]

set_option maxHeartbeats 1000000 in
theorem width_bad (p l r a b s t : Int) (h : Bool) (y : Int) (w : World) (hk : okB ⟨p, l, r, a, b, s, h, t⟩ = false) :
    Calls Try.prog 67 #[.agg #[.int .i64 p, .int .i64 l, .int .i64 r, .int .i64 a, .int .i64 b, .int .i64 s, .bool h, .int .i64 t], .int .i64 y] w fun e w' => e = .returned (.tuple #[zeroR, .int .i64 2]) ∧ Below w.heap.size w w' := by
  have HC := Lib.hid (shapeOf_bad p l r a b s t h · hk)
  clear hk
  go_enter Try.func67, Try.ntmps67
  go_wp2_with fail
  refine (HC.out _).mono ?_
  rintro e w1 ⟨rfl, hb1⟩
  have C1 : Box w1 (w.heap.size + 1) _ := (Box.newAt (w.alloc _) _ _ (by simp)).below hb1
  have hB1 : Below w.heap.size w w1 := stepB (by go_grown) hb1
  have hs1 := hB1.size
  clear hb1 HC
  unfold shape0
  obtain ⟨hz, c1, f1⟩ := C1
  go_wp2
  refine bodyPost_ret (v := .tuple #[zeroR, .int .i64 2]) (by simp [results, Try.results67, go_sem, c1, hz, zeroR, ratV]) rfl ⟨rfl, by go_grown⟩

set_option maxHeartbeats 1000000 in
theorem sharp_bad (p l r a b s t : Int) (h : Bool) (w : World) (hk : okB ⟨p, l, r, a, b, s, h, t⟩ = false) :
    Calls Try.prog 68 #[.agg #[.int .i64 p, .int .i64 l, .int .i64 r, .int .i64 a, .int .i64 b, .int .i64 s, .bool h, .int .i64 t]] w fun e w' => e = .returned (.tuple #[zeroR, .int .i64 2]) ∧ Below w.heap.size w w' := by
  have HC := Lib.hid (shapeOf_bad p l r a b s t h · hk)
  clear hk
  go_enter Try.func68, Try.ntmps68
  go_wp2_with fail
  refine (HC.out _).mono ?_
  rintro e w1 ⟨rfl, hb1⟩
  have C1 : Box w1 (w.heap.size + 1) _ := (Box.newAt (w.alloc _) _ _ (by simp)).below hb1
  have hB1 : Below w.heap.size w w1 := stepB (by go_grown) hb1
  have hs1 := hB1.size
  clear hb1 HC
  unfold shape0
  obtain ⟨hz, c1, f1⟩ := C1
  go_wp2
  refine bodyPost_ret (v := .tuple #[zeroR, .int .i64 2]) (by simp [results, Try.results68, go_sem, c1, hz, zeroR, ratV]) rfl ⟨rfl, by go_grown⟩

set_option maxHeartbeats 1000000 in
theorem area_bad (p l r a b s t : Int) (h : Bool) (y : Int) (z : Int) (w : World) (hk : okB ⟨p, l, r, a, b, s, h, t⟩ = false) :
    Calls Try.prog 69 #[.agg #[.int .i64 p, .int .i64 l, .int .i64 r, .int .i64 a, .int .i64 b, .int .i64 s, .bool h, .int .i64 t], .int .i64 y, .int .i64 z] w fun e w' => e = .returned (.tuple #[zeroR, .int .i64 2]) ∧ Below w.heap.size w w' := by
  have HC := Lib.hid (shapeOf_bad p l r a b s t h · hk)
  clear hk
  go_enter Try.func69, Try.ntmps69
  go_wp2_with fail
  refine (HC.out _).mono ?_
  rintro e w1 ⟨rfl, hb1⟩
  have C1 : Box w1 (w.heap.size + 1) _ := (Box.newAt (w.alloc _) _ _ (by simp)).below hb1
  have hB1 : Below w.heap.size w w1 := stepB (by go_grown) hb1
  have hs1 := hB1.size
  clear hb1 HC
  unfold shape0
  obtain ⟨hz, c1, f1⟩ := C1
  go_wp2
  refine bodyPost_ret (v := .tuple #[zeroR, .int .i64 2]) (by simp [results, Try.results69, go_sem, c1, hz, zeroR, ratV]) rfl ⟨rfl, by go_grown⟩

set_option maxHeartbeats 1000000 in
theorem advance_bad (p l r a b s t : Int) (h : Bool) (y : Int) (w : World) (hk : okB ⟨p, l, r, a, b, s, h, t⟩ = false) :
    Calls Try.prog 70 #[.agg #[.int .i64 p, .int .i64 l, .int .i64 r, .int .i64 a, .int .i64 b, .int .i64 s, .bool h, .int .i64 t], .int .i64 y] w fun e w' => e = .returned (.tuple #[zeroR, .int .i64 2]) ∧ Below w.heap.size w w' := by
  have HC := Lib.hid (shapeOf_bad p l r a b s t h · hk)
  clear hk
  go_enter Try.func70, Try.ntmps70
  go_wp2_with fail
  refine (HC.out _).mono ?_
  rintro e w1 ⟨rfl, hb1⟩
  have C1 : Box w1 (w.heap.size + 1) _ := (Box.newAt (w.alloc _) _ _ (by simp)).below hb1
  have hB1 : Below w.heap.size w w1 := stepB (by go_grown) hb1
  have hs1 := hB1.size
  clear hb1 HC
  unfold shape0
  obtain ⟨hz, c1, f1⟩ := C1
  go_wp2
  refine bodyPost_ret (v := .tuple #[zeroR, .int .i64 2]) (by simp [results, Try.results70, go_sem, c1, hz, zeroR, ratV]) rfl ⟨rfl, by go_grown⟩

set_option maxHeartbeats 1000000 in
theorem perinch_bad (p l r a b s t : Int) (h : Bool) (w : World) (hk : okB ⟨p, l, r, a, b, s, h, t⟩ = false) :
    Calls Try.prog 74 #[.agg #[.int .i64 p, .int .i64 l, .int .i64 r, .int .i64 a, .int .i64 b, .int .i64 s, .bool h, .int .i64 t]] w fun e w' => e = .returned (.tuple #[zeroR, .int .i64 2]) ∧ Below w.heap.size w w' := by
  have HC := Lib.hid (shapeOf_bad p l r a b s t h · hk)
  clear hk
  go_enter Try.func74, Try.ntmps74
  go_wp2_with fail
  refine (HC.out _).mono ?_
  rintro e w1 ⟨rfl, hb1⟩
  have C1 : Box w1 (w.heap.size + 1) _ := (Box.newAt (w.alloc _) _ _ (by simp)).below hb1
  have hB1 : Below w.heap.size w w1 := stepB (by go_grown) hb1
  have hs1 := hB1.size
  clear hb1 HC
  unfold shape0
  obtain ⟨hz, c1, f1⟩ := C1
  go_wp2
  refine bodyPost_ret (v := .tuple #[zeroR, .int .i64 2]) (by simp [results, Try.results74, go_sem, c1, hz, zeroR, ratV]) rfl ⟨rfl, by go_grown⟩

set_option maxHeartbeats 1000000 in
theorem diameter_bad (p l r a b s t : Int) (h : Bool) (y : Int) (z : Int) (w : World) (hk : okB ⟨p, l, r, a, b, s, h, t⟩ = false) :
    Calls Try.prog 71 #[.agg #[.int .i64 p, .int .i64 l, .int .i64 r, .int .i64 a, .int .i64 b, .int .i64 s, .bool h, .int .i64 t], .int .i64 y, .int .i64 z] w fun e w' => e = .returned (.tuple #[zeroR, .int .i64 2]) ∧ Below w.heap.size w w' := by
  have HC := Lib.hid (shapeOf_bad p l r a b s t h · hk)
  clear hk
  go_enter Try.func71, Try.ntmps71
  go_wp2_with fail
  refine (HC.out _).mono ?_
  rintro e w1 ⟨rfl, hb1⟩
  have C1 : Box w1 (w.heap.size + 1) _ := (Box.newAt (w.alloc _) _ _ (by simp)).below hb1
  have hB1 : Below w.heap.size w w1 := stepB (by go_grown) hb1
  have hs1 := hB1.size
  clear hb1 HC
  unfold shape0
  obtain ⟨hz, c1, f1⟩ := C1
  go_wp2
  refine bodyPost_ret (v := .tuple #[zeroR, .int .i64 2]) (by simp [results, Try.results71, go_sem, c1, hz, zeroR, ratV]) rfl ⟨rfl, by go_grown⟩

set_option maxHeartbeats 1000000 in
theorem meets_bad (p l r a b s t : Int) (h : Bool) (y : Int) (z : Int) (w : World) (hk : okB ⟨p, l, r, a, b, s, h, t⟩ = false) :
    Calls Try.prog 72 #[.agg #[.int .i64 p, .int .i64 l, .int .i64 r, .int .i64 a, .int .i64 b, .int .i64 s, .bool h, .int .i64 t], .int .i64 y, .int .i64 z] w fun e w' => e = .returned (.tuple #[zeroR, .int .i64 2]) ∧ Below w.heap.size w w' := by
  have HC := Lib.hid (shapeOf_bad p l r a b s t h · hk)
  clear hk
  go_enter Try.func72, Try.ntmps72
  go_wp2_with fail
  refine (HC.out _).mono ?_
  rintro e w1 ⟨rfl, hb1⟩
  have C1 : Box w1 (w.heap.size + 1) _ := (Box.newAt (w.alloc _) _ _ (by simp)).below hb1
  have hB1 : Below w.heap.size w w1 := stepB (by go_grown) hb1
  have hs1 := hB1.size
  clear hb1 HC
  unfold shape0
  obtain ⟨hz, c1, f1⟩ := C1
  go_wp2
  refine bodyPost_ret (v := .tuple #[zeroR, .int .i64 2]) (by simp [results, Try.results72, go_sem, c1, hz, zeroR, ratV]) rfl ⟨rfl, by go_grown⟩

set_option maxHeartbeats 1000000 in
theorem width_range (p l r a b s t : Int) (h : Bool) (y : Int) (w : World) (hk : okB ⟨p, l, r, a, b, s, h, t⟩ = true) (hy : ¬(-b ≤ y ∧ y ≤ a)) :
    Calls Try.prog 67 #[.agg #[.int .i64 p, .int .i64 l, .int .i64 r, .int .i64 a, .int .i64 b, .int .i64 s, .bool h, .int .i64 t], .int .i64 y] w fun e w' => e = .returned (.tuple #[zeroR, .int .i64 3]) ∧ Below w.heap.size w w' := by
  have HC := Lib.hid (shapeOf_good p l r a b s t h · hk)
  obtain ⟨⟨p0, p1⟩, ⟨l0, l1⟩, ⟨r0, r1⟩, ⟨a0, a1⟩, ⟨b0, b1⟩, ⟨s0, s1⟩, t0, t1⟩ := lim_iff.1 (ok_lim hk)
  simp only at p0 p1 l0 l1 r0 r1 a0 a1 b0 b1 s0 s1 t0 t1
  have ps := mul_bd (show -200000 ≤ p by omega) p1 (show -8 ≤ s by omega) s1
  obtain ⟨ps0, ps1⟩ := ps
  have ps2 : 1 ≤ p * s := by have := Int.mul_le_mul (show 1 ≤ p by omega) s0 (by omega) (by omega); omega
  have H1' : allB (-b) a [y] = false := by simp [allB, inB]; omega
  have H1 := Lib.hid H1'
  clear H1'
  clear hk
  go_enter Try.func67, Try.ntmps67
  go_wp2_with fail
  refine (HC.out _).mono ?_
  rintro e w1 ⟨rfl, hb1⟩
  have C1 : Box w1 (w.heap.size + 1) _ := (Box.newAt (w.alloc _) _ _ (by simp)).below hb1
  have hB1 : Below w.heap.size w w1 := stepB (by go_grown) hb1
  have hs1 := hB1.size
  clear hb1 HC
  unfold shapeV
  go_wp2_with fail
  refine (allFrom1 _ _ y _ _ _ (by simp) (by go_cell)).mono ?_
  rintro e w2 ⟨rfl, hb2⟩
  rw [H1.out]
  have D2 : Box w2 w1.heap.size _ := Box.below (Box.alloc (Box.new w1 _ _) _) hb2
  have d2 := D2.2.1
  have C2 : Box w2 (w.heap.size + 1) _ := Box.below (Box.alloc (Box.alloc C1 _) _) hb2
  have hB2 : Below w.heap.size w w2 := stepB (by go_grown) hb2
  have hs2 := hB2.size
  clear hb2 C1 hB1
  obtain ⟨hz, c2, f2⟩ := C2
  go_wp2
  refine bodyPost_ret (v := .tuple #[zeroR, .int .i64 3]) (by simp [results, Try.results67, go_sem, c2, hz, zeroR, ratV]) rfl ⟨rfl, by go_grown⟩

set_option maxHeartbeats 1000000 in
theorem width_good (p l r a b s t : Int) (h : Bool) (y : Int) (w : World) (hk : okB ⟨p, l, r, a, b, s, h, t⟩ = true) (hy : -b ≤ y ∧ y ≤ a) :
    Calls Try.prog 67 #[.agg #[.int .i64 p, .int .i64 l, .int .i64 r, .int .i64 a, .int .i64 b, .int .i64 s, .bool h, .int .i64 t], .int .i64 y] w fun e w' => e = .returned (.tuple #[ratV (500 * p - y * (l + r)) 1000, .int .i64 0]) ∧ Below w.heap.size w w' := by
  have HC := Lib.hid (shapeOf_good p l r a b s t h · hk)
  obtain ⟨⟨p0, p1⟩, ⟨l0, l1⟩, ⟨r0, r1⟩, ⟨a0, a1⟩, ⟨b0, b1⟩, ⟨s0, s1⟩, t0, t1⟩ := lim_iff.1 (ok_lim hk)
  simp only at p0 p1 l0 l1 r0 r1 a0 a1 b0 b1 s0 s1 t0 t1
  have ps := mul_bd (show -200000 ≤ p by omega) p1 (show -8 ≤ s by omega) s1
  obtain ⟨ps0, ps1⟩ := ps
  have ps2 : 1 ≤ p * s := by have := Int.mul_le_mul (show 1 ≤ p by omega) s0 (by omega) (by omega); omega
  obtain ⟨m1, m2⟩ := mul_bd (show -200000 ≤ y by omega) (show y ≤ 200000 by omega) (show -6000 ≤ l + r by omega) (show l + r ≤ 6000 by omega)
  have H1' : allB (-b) a [y] = true := by simp [allB, inB]; omega
  have H1 := Lib.hid H1'
  clear H1'
  clear hk
  go_enter Try.func67, Try.ntmps67
  go_wp2_with fail
  refine (HC.out _).mono ?_
  rintro e w1 ⟨rfl, hb1⟩
  have C1 : Box w1 (w.heap.size + 1) _ := (Box.newAt (w.alloc _) _ _ (by simp)).below hb1
  have hB1 : Below w.heap.size w w1 := stepB (by go_grown) hb1
  have hs1 := hB1.size
  clear hb1 HC
  unfold shapeV
  go_wp2_with fail
  refine (allFrom1 _ _ y _ _ _ (by simp) (by go_cell)).mono ?_
  rintro e w2 ⟨rfl, hb2⟩
  rw [H1.out]
  have D2 : Box w2 w1.heap.size _ := Box.below (Box.alloc (Box.new w1 _ _) _) hb2
  have d2 := D2.2.1
  have C2 : Box w2 (w.heap.size + 1) _ := Box.below (Box.alloc (Box.alloc C1 _) _) hb2
  have hB2 : Below w.heap.size w w2 := stepB (by go_grown) hb2
  have hs2 := hB2.size
  clear hb2 C1 hB1
  go_wp2_with fail
  refine (ratio_any _ _ _ (by omega) (by omega) (by omega) (by omega)).mono ?_
  rintro e w3 ⟨rfl, hb3⟩
  have D3 : Box w3 w1.heap.size _ := Box.below D2 hb3
  have d3 := D3.2.1
  have C3 : Box w3 (w.heap.size + 1) _ := Box.below C2 hb3
  have hB3 : Below w.heap.size w w3 := stepB (by go_grown) hb3
  have hs3 := hB3.size
  clear hb3 C2 hB2 D2 d2 hs2
  obtain ⟨hz, c3, f3⟩ := C3
  unfold ratV
  go_wp2
  refine bodyPost_ret (v := .tuple #[ratV (500 * p - y * (l + r)) 1000, .int .i64 0]) (by simp [results, Try.results67, go_sem, c3, hz, zeroR, ratV]) rfl ⟨rfl, by go_grown⟩

set_option maxHeartbeats 1000000 in
theorem sharp_none (p l r a b s t : Int) (h : Bool) (w : World) (hk : okB ⟨p, l, r, a, b, s, h, t⟩ = true) (hy : l + r = 0) :
    Calls Try.prog 68 #[.agg #[.int .i64 p, .int .i64 l, .int .i64 r, .int .i64 a, .int .i64 b, .int .i64 s, .bool h, .int .i64 t]] w fun e w' => e = .returned (.tuple #[zeroR, .int .i64 7]) ∧ Below w.heap.size w w' := by
  have HC := Lib.hid (shapeOf_good p l r a b s t h · hk)
  obtain ⟨⟨p0, p1⟩, ⟨l0, l1⟩, ⟨r0, r1⟩, ⟨a0, a1⟩, ⟨b0, b1⟩, ⟨s0, s1⟩, t0, t1⟩ := lim_iff.1 (ok_lim hk)
  simp only at p0 p1 l0 l1 r0 r1 a0 a1 b0 b1 s0 s1 t0 t1
  have ps := mul_bd (show -200000 ≤ p by omega) p1 (show -8 ≤ s by omega) s1
  obtain ⟨ps0, ps1⟩ := ps
  have ps2 : 1 ≤ p * s := by have := Int.mul_le_mul (show 1 ≤ p by omega) s0 (by omega) (by omega); omega
  have e0 : ((l + r : Int) == 0) = true := by rw [hy]; rfl
  clear hy
  clear hk
  go_enter Try.func68, Try.ntmps68
  go_wp2_with fail
  refine (HC.out _).mono ?_
  rintro e w1 ⟨rfl, hb1⟩
  have C1 : Box w1 (w.heap.size + 1) _ := (Box.newAt (w.alloc _) _ _ (by simp)).below hb1
  have hB1 : Below w.heap.size w w1 := stepB (by go_grown) hb1
  have hs1 := hB1.size
  clear hb1 HC
  unfold shapeV
  obtain ⟨hz, c1, f1⟩ := C1
  go_wp2
  refine bodyPost_ret (v := .tuple #[zeroR, .int .i64 7]) (by simp [results, Try.results68, go_sem, c1, hz, zeroR, ratV]) rfl ⟨rfl, by go_grown⟩

set_option maxHeartbeats 1000000 in
theorem sharp_good (p l r a b s t : Int) (h : Bool) (w : World) (hk : okB ⟨p, l, r, a, b, s, h, t⟩ = true) (hy : l + r ≠ 0) :
    Calls Try.prog 68 #[.agg #[.int .i64 p, .int .i64 l, .int .i64 r, .int .i64 a, .int .i64 b, .int .i64 s, .bool h, .int .i64 t]] w fun e w' => e = .returned (.tuple #[ratV (500 * p) (l + r), .int .i64 0]) ∧ Below w.heap.size w w' := by
  have HC := Lib.hid (shapeOf_good p l r a b s t h · hk)
  obtain ⟨⟨p0, p1⟩, ⟨l0, l1⟩, ⟨r0, r1⟩, ⟨a0, a1⟩, ⟨b0, b1⟩, ⟨s0, s1⟩, t0, t1⟩ := lim_iff.1 (ok_lim hk)
  simp only at p0 p1 l0 l1 r0 r1 a0 a1 b0 b1 s0 s1 t0 t1
  have ps := mul_bd (show -200000 ≤ p by omega) p1 (show -8 ≤ s by omega) s1
  obtain ⟨ps0, ps1⟩ := ps
  have ps2 : 1 ≤ p * s := by have := Int.mul_le_mul (show 1 ≤ p by omega) s0 (by omega) (by omega); omega
  have e0 : ((l + r : Int) == 0) = false := by simpa using hy
  have e1 : 1 ≤ l + r := by omega
  clear hy
  clear hk
  go_enter Try.func68, Try.ntmps68
  go_wp2_with fail
  refine (HC.out _).mono ?_
  rintro e w1 ⟨rfl, hb1⟩
  have C1 : Box w1 (w.heap.size + 1) _ := (Box.newAt (w.alloc _) _ _ (by simp)).below hb1
  have hB1 : Below w.heap.size w w1 := stepB (by go_grown) hb1
  have hs1 := hB1.size
  clear hb1 HC
  unfold shapeV
  go_wp2_with fail
  refine (ratio_any _ _ _ (by omega) (by omega) (by omega) (by omega)).mono ?_
  rintro e w2 ⟨rfl, hb2⟩
  have D2 : Box w2 w1.heap.size _ := Box.below (Box.new w1 _ _) hb2
  have d2 := D2.2.1
  have C2 : Box w2 (w.heap.size + 1) _ := Box.below (Box.alloc C1 _) hb2
  have hB2 : Below w.heap.size w w2 := stepB (by go_grown) hb2
  have hs2 := hB2.size
  clear hb2 C1 hB1
  obtain ⟨hz, c2, f2⟩ := C2
  unfold ratV
  go_wp2
  refine bodyPost_ret (v := .tuple #[ratV (500 * p) (l + r), .int .i64 0]) (by simp [results, Try.results68, go_sem, c2, hz, zeroR, ratV]) rfl ⟨rfl, by go_grown⟩

set_option maxHeartbeats 1000000 in
theorem area_range (p l r a b s t : Int) (h : Bool) (y : Int) (z : Int) (w : World) (hk : okB ⟨p, l, r, a, b, s, h, t⟩ = true) (hy : vspan y z (-b) a = false) :
    Calls Try.prog 69 #[.agg #[.int .i64 p, .int .i64 l, .int .i64 r, .int .i64 a, .int .i64 b, .int .i64 s, .bool h, .int .i64 t], .int .i64 y, .int .i64 z] w fun e w' => e = .returned (.tuple #[zeroR, .int .i64 3]) ∧ Below w.heap.size w w' := by
  have HC := Lib.hid (shapeOf_good p l r a b s t h · hk)
  obtain ⟨⟨p0, p1⟩, ⟨l0, l1⟩, ⟨r0, r1⟩, ⟨a0, a1⟩, ⟨b0, b1⟩, ⟨s0, s1⟩, t0, t1⟩ := lim_iff.1 (ok_lim hk)
  simp only at p0 p1 l0 l1 r0 r1 a0 a1 b0 b1 s0 s1 t0 t1
  have ps := mul_bd (show -200000 ≤ p by omega) p1 (show -8 ≤ s by omega) s1
  obtain ⟨ps0, ps1⟩ := ps
  have ps2 : 1 ≤ p * s := by have := Int.mul_le_mul (show 1 ≤ p by omega) s0 (by omega) (by omega); omega
  have H1 := Lib.hid hy
  clear hy
  clear hk
  go_enter Try.func69, Try.ntmps69
  go_wp2_with fail
  refine (HC.out _).mono ?_
  rintro e w1 ⟨rfl, hb1⟩
  have C1 : Box w1 (w.heap.size + 1) _ := (Box.newAt (w.alloc _) _ _ (by simp)).below hb1
  have hB1 : Below w.heap.size w w1 := stepB (by go_grown) hb1
  have hs1 := hB1.size
  clear hb1 HC
  unfold shapeV
  go_wp2_with fail
  refine (validSpan_any _ _ _ _ _).mono ?_
  rintro e w2 ⟨rfl, hb2⟩
  rw [H1.out]
  have D2 : Box w2 w1.heap.size _ := Box.below (Box.new w1 _ _) hb2
  have d2 := D2.2.1
  have C2 : Box w2 (w.heap.size + 1) _ := Box.below (Box.alloc C1 _) hb2
  have hB2 : Below w.heap.size w w2 := stepB (by go_grown) hb2
  have hs2 := hB2.size
  clear hb2 C1 hB1
  obtain ⟨hz, c2, f2⟩ := C2
  go_wp2
  refine bodyPost_ret (v := .tuple #[zeroR, .int .i64 3]) (by simp [results, Try.results69, go_sem, c2, hz, zeroR, ratV]) rfl ⟨rfl, by go_grown⟩

set_option maxHeartbeats 1000000 in
theorem area_good (p l r a b s t : Int) (h : Bool) (y : Int) (z : Int) (w : World) (hk : okB ⟨p, l, r, a, b, s, h, t⟩ = true) (hy : vspan y z (-b) a = true) :
    Calls Try.prog 69 #[.agg #[.int .i64 p, .int .i64 l, .int .i64 r, .int .i64 a, .int .i64 b, .int .i64 s, .bool h, .int .i64 t], .int .i64 y, .int .i64 z] w fun e w' => e = .returned (.tuple #[ratV ((z - y) * p * 1000 - (z * z - y * y) * (l + r)) 2000, .int .i64 0]) ∧ Below w.heap.size w w' := by
  have HC := Lib.hid (shapeOf_good p l r a b s t h · hk)
  obtain ⟨⟨p0, p1⟩, ⟨l0, l1⟩, ⟨r0, r1⟩, ⟨a0, a1⟩, ⟨b0, b1⟩, ⟨s0, s1⟩, t0, t1⟩ := lim_iff.1 (ok_lim hk)
  simp only at p0 p1 l0 l1 r0 r1 a0 a1 b0 b1 s0 s1 t0 t1
  have ps := mul_bd (show -200000 ≤ p by omega) p1 (show -8 ≤ s by omega) s1
  obtain ⟨ps0, ps1⟩ := ps
  have ps2 : 1 ≤ p * s := by have := Int.mul_le_mul (show 1 ≤ p by omega) s0 (by omega) (by omega); omega
  have hin : -b ≤ y ∧ y ≤ z ∧ z ≤ a := by simpa [vspan] using hy
  obtain ⟨m1, m2⟩ := mul_bd (show -400000 ≤ z - y by omega) (show z - y ≤ 400000 by omega) (show -200000 ≤ p by omega) p1
  obtain ⟨m3, m4⟩ := mul_bd (show -200000 ≤ y by omega) (show y ≤ 200000 by omega) (show -200000 ≤ y by omega) (show y ≤ 200000 by omega)
  obtain ⟨m5, m6⟩ := mul_bd (show -200000 ≤ z by omega) (show z ≤ 200000 by omega) (show -200000 ≤ z by omega) (show z ≤ 200000 by omega)
  obtain ⟨m7, m8⟩ := mul_bd (show -80000000000 ≤ z * z - y * y by omega) (show z * z - y * y ≤ 80000000000 by omega) (show -6000 ≤ l + r by omega) (show l + r ≤ 6000 by omega)
  have H1 := Lib.hid hy
  clear hy
  clear hk
  go_enter Try.func69, Try.ntmps69
  go_wp2_with fail
  refine (HC.out _).mono ?_
  rintro e w1 ⟨rfl, hb1⟩
  have C1 : Box w1 (w.heap.size + 1) _ := (Box.newAt (w.alloc _) _ _ (by simp)).below hb1
  have hB1 : Below w.heap.size w w1 := stepB (by go_grown) hb1
  have hs1 := hB1.size
  clear hb1 HC
  unfold shapeV
  go_wp2_with fail
  refine (validSpan_any _ _ _ _ _).mono ?_
  rintro e w2 ⟨rfl, hb2⟩
  rw [H1.out]
  have D2 : Box w2 w1.heap.size _ := Box.below (Box.new w1 _ _) hb2
  have d2 := D2.2.1
  have C2 : Box w2 (w.heap.size + 1) _ := Box.below (Box.alloc C1 _) hb2
  have hB2 : Below w.heap.size w w2 := stepB (by go_grown) hb2
  have hs2 := hB2.size
  clear hb2 C1 hB1
  go_wp2_with fail
  refine (ratio_any _ _ _ (by omega) (by omega) (by omega) (by omega)).mono ?_
  rintro e w3 ⟨rfl, hb3⟩
  have D3 : Box w3 w1.heap.size _ := Box.below D2 hb3
  have d3 := D3.2.1
  have C3 : Box w3 (w.heap.size + 1) _ := Box.below C2 hb3
  have hB3 : Below w.heap.size w w3 := stepB (by go_grown) hb3
  have hs3 := hB3.size
  clear hb3 C2 hB2 D2 d2 hs2
  obtain ⟨hz, c3, f3⟩ := C3
  unfold ratV
  go_wp2
  refine bodyPost_ret (v := .tuple #[ratV ((z - y) * p * 1000 - (z * z - y * y) * (l + r)) 2000, .int .i64 0]) (by simp [results, Try.results69, go_sem, c3, hz, zeroR, ratV]) rfl ⟨rfl, by go_grown⟩

set_option maxHeartbeats 1000000 in
theorem advance_range (p l r a b s t : Int) (h : Bool) (y : Int) (w : World) (hk : okB ⟨p, l, r, a, b, s, h, t⟩ = true) (hy : ¬(-1000000000 ≤ y ∧ y ≤ 1000000000)) :
    Calls Try.prog 70 #[.agg #[.int .i64 p, .int .i64 l, .int .i64 r, .int .i64 a, .int .i64 b, .int .i64 s, .bool h, .int .i64 t], .int .i64 y] w fun e w' => e = .returned (.tuple #[zeroR, .int .i64 3]) ∧ Below w.heap.size w w' := by
  have HC := Lib.hid (shapeOf_good p l r a b s t h · hk)
  obtain ⟨⟨p0, p1⟩, ⟨l0, l1⟩, ⟨r0, r1⟩, ⟨a0, a1⟩, ⟨b0, b1⟩, ⟨s0, s1⟩, t0, t1⟩ := lim_iff.1 (ok_lim hk)
  simp only at p0 p1 l0 l1 r0 r1 a0 a1 b0 b1 s0 s1 t0 t1
  have ps := mul_bd (show -200000 ≤ p by omega) p1 (show -8 ≤ s by omega) s1
  obtain ⟨ps0, ps1⟩ := ps
  have ps2 : 1 ≤ p * s := by have := Int.mul_le_mul (show 1 ≤ p by omega) s0 (by omega) (by omega); omega
  have H1' : allB (-1000000000) 1000000000 [y] = false := by simp [allB, inB]; omega
  have H1 := Lib.hid H1'
  clear H1'
  clear hk
  go_enter Try.func70, Try.ntmps70
  go_wp2_with fail
  refine (HC.out _).mono ?_
  rintro e w1 ⟨rfl, hb1⟩
  have C1 : Box w1 (w.heap.size + 1) _ := (Box.newAt (w.alloc _) _ _ (by simp)).below hb1
  have hB1 : Below w.heap.size w w1 := stepB (by go_grown) hb1
  have hs1 := hB1.size
  clear hb1 HC
  unfold shapeV
  go_wp2_with fail
  refine (allFrom1 _ _ y _ _ _ (by simp) (by go_cell)).mono ?_
  rintro e w2 ⟨rfl, hb2⟩
  rw [H1.out]
  have D2 : Box w2 w1.heap.size _ := Box.below (Box.alloc (Box.new w1 _ _) _) hb2
  have d2 := D2.2.1
  have C2 : Box w2 (w.heap.size + 1) _ := Box.below (Box.alloc (Box.alloc C1 _) _) hb2
  have hB2 : Below w.heap.size w w2 := stepB (by go_grown) hb2
  have hs2 := hB2.size
  clear hb2 C1 hB1
  obtain ⟨hz, c2, f2⟩ := C2
  go_wp2
  refine bodyPost_ret (v := .tuple #[zeroR, .int .i64 3]) (by simp [results, Try.results70, go_sem, c2, hz, zeroR, ratV]) rfl ⟨rfl, by go_grown⟩

set_option maxHeartbeats 1000000 in
theorem advance_left (p l r a b s t : Int) (h : Bool) (y : Int) (w : World) (hk : okB ⟨p, l, r, a, b, s, h, t⟩ = true) (hh : h = true) (hy : -1000000000 ≤ y ∧ y ≤ 1000000000) :
    Calls Try.prog 70 #[.agg #[.int .i64 p, .int .i64 l, .int .i64 r, .int .i64 a, .int .i64 b, .int .i64 s, .bool h, .int .i64 t], .int .i64 y] w fun e w' => e = .returned (.tuple #[ratV (p * s * -y) 1000000, .int .i64 0]) ∧ Below w.heap.size w w' := by
  have HC := Lib.hid (shapeOf_good p l r a b s t h · hk)
  obtain ⟨⟨p0, p1⟩, ⟨l0, l1⟩, ⟨r0, r1⟩, ⟨a0, a1⟩, ⟨b0, b1⟩, ⟨s0, s1⟩, t0, t1⟩ := lim_iff.1 (ok_lim hk)
  simp only at p0 p1 l0 l1 r0 r1 a0 a1 b0 b1 s0 s1 t0 t1
  have ps := mul_bd (show -200000 ≤ p by omega) p1 (show -8 ≤ s by omega) s1
  obtain ⟨ps0, ps1⟩ := ps
  have ps2 : 1 ≤ p * s := by have := Int.mul_le_mul (show 1 ≤ p by omega) s0 (by omega) (by omega); omega
  obtain ⟨m1, m2⟩ := mul_bd (show -1600000 ≤ p * s by omega) (show p * s ≤ 1600000 by omega) hy.1 hy.2
  subst hh
  have e2 : p * s * -y = -(p * s * y) := Int.mul_neg _ _
  have m3 : -(1600000 * 1000000000) ≤ p * s * -y := by omega
  have m4 : p * s * -y ≤ 1600000 * 1000000000 := by omega
  clear e2
  have H1' : allB (-1000000000) 1000000000 [y] = true := by simp [allB, inB]; omega
  have H1 := Lib.hid H1'
  clear H1'
  clear hk
  go_enter Try.func70, Try.ntmps70
  go_wp2_with fail
  refine (HC.out _).mono ?_
  rintro e w1 ⟨rfl, hb1⟩
  have C1 : Box w1 (w.heap.size + 1) _ := (Box.newAt (w.alloc _) _ _ (by simp)).below hb1
  have hB1 : Below w.heap.size w w1 := stepB (by go_grown) hb1
  have hs1 := hB1.size
  clear hb1 HC
  unfold shapeV
  go_wp2_with fail
  refine (allFrom1 _ _ y _ _ _ (by simp) (by go_cell)).mono ?_
  rintro e w2 ⟨rfl, hb2⟩
  rw [H1.out]
  have D2 : Box w2 w1.heap.size _ := Box.below (Box.alloc (Box.new w1 _ _) _) hb2
  have d2 := D2.2.1
  have C2 : Box w2 (w.heap.size + 1) _ := Box.below (Box.alloc (Box.alloc C1 _) _) hb2
  have hB2 : Below w.heap.size w w2 := stepB (by go_grown) hb2
  have hs2 := hB2.size
  clear hb2 C1 hB1
  go_wp2_with fail
  refine (ratio_any _ _ _ (by omega) (by omega) (by omega) (by omega)).mono ?_
  rintro e w3 ⟨rfl, hb3⟩
  have D3 : Box w3 w1.heap.size _ := Box.below D2 hb3
  have d3 := D3.2.1
  have C3 : Box w3 (w.heap.size + 1) _ := Box.below C2 hb3
  have hB3 : Below w.heap.size w w3 := stepB (by go_grown) hb3
  have hs3 := hB3.size
  clear hb3 C2 hB2 D2 d2 hs2
  obtain ⟨hz, c3, f3⟩ := C3
  unfold ratV
  go_wp2
  refine bodyPost_ret (v := .tuple #[ratV (p * s * -y) 1000000, .int .i64 0]) (by simp [results, Try.results70, go_sem, c3, hz, zeroR, ratV]) rfl ⟨rfl, by go_grown⟩

set_option maxHeartbeats 1000000 in
theorem advance_right (p l r a b s t : Int) (h : Bool) (y : Int) (w : World) (hk : okB ⟨p, l, r, a, b, s, h, t⟩ = true) (hh : h = false) (hy : -1000000000 ≤ y ∧ y ≤ 1000000000) :
    Calls Try.prog 70 #[.agg #[.int .i64 p, .int .i64 l, .int .i64 r, .int .i64 a, .int .i64 b, .int .i64 s, .bool h, .int .i64 t], .int .i64 y] w fun e w' => e = .returned (.tuple #[ratV (p * s * y) 1000000, .int .i64 0]) ∧ Below w.heap.size w w' := by
  have HC := Lib.hid (shapeOf_good p l r a b s t h · hk)
  obtain ⟨⟨p0, p1⟩, ⟨l0, l1⟩, ⟨r0, r1⟩, ⟨a0, a1⟩, ⟨b0, b1⟩, ⟨s0, s1⟩, t0, t1⟩ := lim_iff.1 (ok_lim hk)
  simp only at p0 p1 l0 l1 r0 r1 a0 a1 b0 b1 s0 s1 t0 t1
  have ps := mul_bd (show -200000 ≤ p by omega) p1 (show -8 ≤ s by omega) s1
  obtain ⟨ps0, ps1⟩ := ps
  have ps2 : 1 ≤ p * s := by have := Int.mul_le_mul (show 1 ≤ p by omega) s0 (by omega) (by omega); omega
  obtain ⟨m1, m2⟩ := mul_bd (show -1600000 ≤ p * s by omega) (show p * s ≤ 1600000 by omega) hy.1 hy.2
  subst hh
  have H1' : allB (-1000000000) 1000000000 [y] = true := by simp [allB, inB]; omega
  have H1 := Lib.hid H1'
  clear H1'
  clear hk
  go_enter Try.func70, Try.ntmps70
  go_wp2_with fail
  refine (HC.out _).mono ?_
  rintro e w1 ⟨rfl, hb1⟩
  have C1 : Box w1 (w.heap.size + 1) _ := (Box.newAt (w.alloc _) _ _ (by simp)).below hb1
  have hB1 : Below w.heap.size w w1 := stepB (by go_grown) hb1
  have hs1 := hB1.size
  clear hb1 HC
  unfold shapeV
  go_wp2_with fail
  refine (allFrom1 _ _ y _ _ _ (by simp) (by go_cell)).mono ?_
  rintro e w2 ⟨rfl, hb2⟩
  rw [H1.out]
  have D2 : Box w2 w1.heap.size _ := Box.below (Box.alloc (Box.new w1 _ _) _) hb2
  have d2 := D2.2.1
  have C2 : Box w2 (w.heap.size + 1) _ := Box.below (Box.alloc (Box.alloc C1 _) _) hb2
  have hB2 : Below w.heap.size w w2 := stepB (by go_grown) hb2
  have hs2 := hB2.size
  clear hb2 C1 hB1
  go_wp2_with fail
  refine (ratio_any _ _ _ (by omega) (by omega) (by omega) (by omega)).mono ?_
  rintro e w3 ⟨rfl, hb3⟩
  have D3 : Box w3 w1.heap.size _ := Box.below D2 hb3
  have d3 := D3.2.1
  have C3 : Box w3 (w.heap.size + 1) _ := Box.below C2 hb3
  have hB3 : Below w.heap.size w w3 := stepB (by go_grown) hb3
  have hs3 := hB3.size
  clear hb3 C2 hB2 D2 d2 hs2
  obtain ⟨hz, c3, f3⟩ := C3
  unfold ratV
  go_wp2
  refine bodyPost_ret (v := .tuple #[ratV (p * s * y) 1000000, .int .i64 0]) (by simp [results, Try.results70, go_sem, c3, hz, zeroR, ratV]) rfl ⟨rfl, by go_grown⟩

set_option maxHeartbeats 1000000 in
theorem perinch_good (p l r a b s t : Int) (h : Bool) (w : World) (hk : okB ⟨p, l, r, a, b, s, h, t⟩ = true) :
    Calls Try.prog 74 #[.agg #[.int .i64 p, .int .i64 l, .int .i64 r, .int .i64 a, .int .i64 b, .int .i64 s, .bool h, .int .i64 t]] w fun e w' => e = .returned (.tuple #[ratV 254000 p, .int .i64 0]) ∧ Below w.heap.size w w' := by
  have HC := Lib.hid (shapeOf_good p l r a b s t h · hk)
  obtain ⟨⟨p0, p1⟩, ⟨l0, l1⟩, ⟨r0, r1⟩, ⟨a0, a1⟩, ⟨b0, b1⟩, ⟨s0, s1⟩, t0, t1⟩ := lim_iff.1 (ok_lim hk)
  simp only at p0 p1 l0 l1 r0 r1 a0 a1 b0 b1 s0 s1 t0 t1
  have ps := mul_bd (show -200000 ≤ p by omega) p1 (show -8 ≤ s by omega) s1
  obtain ⟨ps0, ps1⟩ := ps
  have ps2 : 1 ≤ p * s := by have := Int.mul_le_mul (show 1 ≤ p by omega) s0 (by omega) (by omega); omega
  clear hk
  go_enter Try.func74, Try.ntmps74
  go_wp2_with fail
  refine (HC.out _).mono ?_
  rintro e w1 ⟨rfl, hb1⟩
  have C1 : Box w1 (w.heap.size + 1) _ := (Box.newAt (w.alloc _) _ _ (by simp)).below hb1
  have hB1 : Below w.heap.size w w1 := stepB (by go_grown) hb1
  have hs1 := hB1.size
  clear hb1 HC
  unfold shapeV
  go_wp2_with fail
  refine (ratio_any _ _ _ (by omega) (by omega) (by omega) (by omega)).mono ?_
  rintro e w2 ⟨rfl, hb2⟩
  have D2 : Box w2 w1.heap.size _ := Box.below (Box.new w1 _ _) hb2
  have d2 := D2.2.1
  have C2 : Box w2 (w.heap.size + 1) _ := Box.below (Box.alloc C1 _) hb2
  have hB2 : Below w.heap.size w w2 := stepB (by go_grown) hb2
  have hs2 := hB2.size
  clear hb2 C1 hB1
  obtain ⟨hz, c2, f2⟩ := C2
  unfold ratV
  go_wp2
  refine bodyPost_ret (v := .tuple #[ratV 254000 p, .int .i64 0]) (by simp [results, Try.results74, go_sem, c2, hz, zeroR, ratV]) rfl ⟨rfl, by go_grown⟩

set_option maxHeartbeats 1000000 in
theorem diameter_range1 (p l r a b s t : Int) (h : Bool) (y : Int) (z : Int) (w : World) (hk : okB ⟨p, l, r, a, b, s, h, t⟩ = true) (hy : ¬(1 ≤ y ∧ y ≤ 10000000)) :
    Calls Try.prog 71 #[.agg #[.int .i64 p, .int .i64 l, .int .i64 r, .int .i64 a, .int .i64 b, .int .i64 s, .bool h, .int .i64 t], .int .i64 y, .int .i64 z] w fun e w' => e = .returned (.tuple #[zeroR, .int .i64 3]) ∧ Below w.heap.size w w' := by
  have HC := Lib.hid (shapeOf_good p l r a b s t h · hk)
  obtain ⟨⟨p0, p1⟩, ⟨l0, l1⟩, ⟨r0, r1⟩, ⟨a0, a1⟩, ⟨b0, b1⟩, ⟨s0, s1⟩, t0, t1⟩ := lim_iff.1 (ok_lim hk)
  simp only at p0 p1 l0 l1 r0 r1 a0 a1 b0 b1 s0 s1 t0 t1
  have ps := mul_bd (show -200000 ≤ p by omega) p1 (show -8 ≤ s by omega) s1
  obtain ⟨ps0, ps1⟩ := ps
  have ps2 : 1 ≤ p * s := by have := Int.mul_le_mul (show 1 ≤ p by omega) s0 (by omega) (by omega); omega
  have H1' : allB 1 10000000 [y] = false := by simp [allB, inB]; omega
  have H1 := Lib.hid H1'
  clear H1'
  clear hk
  go_enter Try.func71, Try.ntmps71
  go_wp2_with fail
  refine (HC.out _).mono ?_
  rintro e w1 ⟨rfl, hb1⟩
  have C1 : Box w1 (w.heap.size + 1) _ := (Box.newAt (w.alloc _) _ _ (by simp)).below hb1
  have hB1 : Below w.heap.size w w1 := stepB (by go_grown) hb1
  have hs1 := hB1.size
  clear hb1 HC
  unfold shapeV
  go_wp2_with fail
  refine (allFrom1 _ _ y _ _ _ (by simp) (by go_cell)).mono ?_
  rintro e w2 ⟨rfl, hb2⟩
  rw [H1.out]
  have D2 : Box w2 w1.heap.size _ := Box.below (Box.alloc (Box.new w1 _ _) _) hb2
  have d2 := D2.2.1
  have C2 : Box w2 (w.heap.size + 1) _ := Box.below (Box.alloc (Box.alloc C1 _) _) hb2
  have hB2 : Below w.heap.size w w2 := stepB (by go_grown) hb2
  have hs2 := hB2.size
  clear hb2 C1 hB1
  obtain ⟨hz, c2, f2⟩ := C2
  go_wp2
  refine bodyPost_ret (v := .tuple #[zeroR, .int .i64 3]) (by simp [results, Try.results71, go_sem, c2, hz, zeroR, ratV]) rfl ⟨rfl, by go_grown⟩

set_option maxHeartbeats 1000000 in
theorem diameter_range2 (p l r a b s t : Int) (h : Bool) (y : Int) (z : Int) (w : World) (hk : okB ⟨p, l, r, a, b, s, h, t⟩ = true) (hy : 1 ≤ y ∧ y ≤ 10000000) (hz' : ¬(0 ≤ z ∧ z ≤ 10000000)) :
    Calls Try.prog 71 #[.agg #[.int .i64 p, .int .i64 l, .int .i64 r, .int .i64 a, .int .i64 b, .int .i64 s, .bool h, .int .i64 t], .int .i64 y, .int .i64 z] w fun e w' => e = .returned (.tuple #[zeroR, .int .i64 3]) ∧ Below w.heap.size w w' := by
  have HC := Lib.hid (shapeOf_good p l r a b s t h · hk)
  obtain ⟨⟨p0, p1⟩, ⟨l0, l1⟩, ⟨r0, r1⟩, ⟨a0, a1⟩, ⟨b0, b1⟩, ⟨s0, s1⟩, t0, t1⟩ := lim_iff.1 (ok_lim hk)
  simp only at p0 p1 l0 l1 r0 r1 a0 a1 b0 b1 s0 s1 t0 t1
  have ps := mul_bd (show -200000 ≤ p by omega) p1 (show -8 ≤ s by omega) s1
  obtain ⟨ps0, ps1⟩ := ps
  have ps2 : 1 ≤ p * s := by have := Int.mul_le_mul (show 1 ≤ p by omega) s0 (by omega) (by omega); omega
  have H1' : allB 1 10000000 [y] = true := by simp [allB, inB]; omega
  have H1 := Lib.hid H1'
  clear H1'
  have H2' : allB 0 10000000 [z] = false := by simp [allB, inB]; omega
  have H2 := Lib.hid H2'
  clear H2'
  clear hk
  go_enter Try.func71, Try.ntmps71
  go_wp2_with fail
  refine (HC.out _).mono ?_
  rintro e w1 ⟨rfl, hb1⟩
  have C1 : Box w1 (w.heap.size + 1) _ := (Box.newAt (w.alloc _) _ _ (by simp)).below hb1
  have hB1 : Below w.heap.size w w1 := stepB (by go_grown) hb1
  have hs1 := hB1.size
  clear hb1 HC
  unfold shapeV
  go_wp2_with fail
  refine (allFrom1 _ _ y _ _ _ (by simp) (by go_cell)).mono ?_
  rintro e w2 ⟨rfl, hb2⟩
  rw [H1.out]
  have D2 : Box w2 w1.heap.size _ := Box.below (Box.alloc (Box.new w1 _ _) _) hb2
  have d2 := D2.2.1
  have C2 : Box w2 (w.heap.size + 1) _ := Box.below (Box.alloc (Box.alloc C1 _) _) hb2
  have hB2 : Below w.heap.size w w2 := stepB (by go_grown) hb2
  have hs2 := hB2.size
  clear hb2 C1 hB1
  go_wp2_with fail
  refine (allFrom1 _ _ z _ _ _ (by simp) (by go_cell)).mono ?_
  rintro e w3 ⟨rfl, hb3⟩
  rw [H2.out]
  have D3 : Box w3 w1.heap.size _ := Box.below (Box.alloc D2 _) hb3
  have d3 := D3.2.1
  have C3 : Box w3 (w.heap.size + 1) _ := Box.below (Box.alloc C2 _) hb3
  have hB3 : Below w.heap.size w w3 := stepB (by go_grown) hb3
  have hs3 := hB3.size
  clear hb3 C2 hB2 D2 d2 hs2
  obtain ⟨hz, c3, f3⟩ := C3
  go_wp2
  refine bodyPost_ret (v := .tuple #[zeroR, .int .i64 3]) (by simp [results, Try.results71, go_sem, c3, hz, zeroR, ratV]) rfl ⟨rfl, by go_grown⟩

set_option maxHeartbeats 1000000 in
theorem diameter_good (p l r a b s t : Int) (h : Bool) (y : Int) (z : Int) (w : World) (hk : okB ⟨p, l, r, a, b, s, h, t⟩ = true) (hy : 1 ≤ y ∧ y ≤ 10000000) (hz' : 0 ≤ z ∧ z ≤ 10000000) :
    Calls Try.prog 71 #[.agg #[.int .i64 p, .int .i64 l, .int .i64 r, .int .i64 a, .int .i64 b, .int .i64 s, .bool h, .int .i64 t], .int .i64 y, .int .i64 z] w fun e w' => e = .returned (.tuple #[ratV (1000 * y + 2 * z * t) 1000, .int .i64 0]) ∧ Below w.heap.size w w' := by
  have HC := Lib.hid (shapeOf_good p l r a b s t h · hk)
  obtain ⟨⟨p0, p1⟩, ⟨l0, l1⟩, ⟨r0, r1⟩, ⟨a0, a1⟩, ⟨b0, b1⟩, ⟨s0, s1⟩, t0, t1⟩ := lim_iff.1 (ok_lim hk)
  simp only at p0 p1 l0 l1 r0 r1 a0 a1 b0 b1 s0 s1 t0 t1
  have ps := mul_bd (show -200000 ≤ p by omega) p1 (show -8 ≤ s by omega) s1
  obtain ⟨ps0, ps1⟩ := ps
  have ps2 : 1 ≤ p * s := by have := Int.mul_le_mul (show 1 ≤ p by omega) s0 (by omega) (by omega); omega
  obtain ⟨m1, m2⟩ := mul_bd (show -20000000 ≤ 2 * z by omega) (show 2 * z ≤ 20000000 by omega) (show -100 ≤ t by omega) t1
  have H1' : allB 1 10000000 [y] = true := by simp [allB, inB]; omega
  have H1 := Lib.hid H1'
  clear H1'
  have H2' : allB 0 10000000 [z] = true := by simp [allB, inB]; omega
  have H2 := Lib.hid H2'
  clear H2'
  clear hk
  go_enter Try.func71, Try.ntmps71
  go_wp2_with fail
  refine (HC.out _).mono ?_
  rintro e w1 ⟨rfl, hb1⟩
  have C1 : Box w1 (w.heap.size + 1) _ := (Box.newAt (w.alloc _) _ _ (by simp)).below hb1
  have hB1 : Below w.heap.size w w1 := stepB (by go_grown) hb1
  have hs1 := hB1.size
  clear hb1 HC
  unfold shapeV
  go_wp2_with fail
  refine (allFrom1 _ _ y _ _ _ (by simp) (by go_cell)).mono ?_
  rintro e w2 ⟨rfl, hb2⟩
  rw [H1.out]
  have D2 : Box w2 w1.heap.size _ := Box.below (Box.alloc (Box.new w1 _ _) _) hb2
  have d2 := D2.2.1
  have C2 : Box w2 (w.heap.size + 1) _ := Box.below (Box.alloc (Box.alloc C1 _) _) hb2
  have hB2 : Below w.heap.size w w2 := stepB (by go_grown) hb2
  have hs2 := hB2.size
  clear hb2 C1 hB1
  go_wp2_with fail
  refine (allFrom1 _ _ z _ _ _ (by simp) (by go_cell)).mono ?_
  rintro e w3 ⟨rfl, hb3⟩
  rw [H2.out]
  have D3 : Box w3 w1.heap.size _ := Box.below (Box.alloc D2 _) hb3
  have d3 := D3.2.1
  have C3 : Box w3 (w.heap.size + 1) _ := Box.below (Box.alloc C2 _) hb3
  have hB3 : Below w.heap.size w w3 := stepB (by go_grown) hb3
  have hs3 := hB3.size
  clear hb3 C2 hB2 D2 d2 hs2
  go_wp2_with fail
  refine (ratio_any _ _ _ (by omega) (by omega) (by omega) (by omega)).mono ?_
  rintro e w4 ⟨rfl, hb4⟩
  have D4 : Box w4 w1.heap.size _ := Box.below D3 hb4
  have d4 := D4.2.1
  have C4 : Box w4 (w.heap.size + 1) _ := Box.below C3 hb4
  have hB4 : Below w.heap.size w w4 := stepB (by go_grown) hb4
  have hs4 := hB4.size
  clear hb4 C3 hB3 D3 d3 hs3
  obtain ⟨hz, c4, f4⟩ := C4
  unfold ratV
  go_wp2
  refine bodyPost_ret (v := .tuple #[ratV (1000 * y + 2 * z * t) 1000, .int .i64 0]) (by simp [results, Try.results71, go_sem, c4, hz, zeroR, ratV]) rfl ⟨rfl, by go_grown⟩

set_option maxHeartbeats 1000000 in
theorem meets_range (p l r a b s t : Int) (h : Bool) (y : Int) (z : Int) (w : World) (hk : okB ⟨p, l, r, a, b, s, h, t⟩ = true) (hy : vspan y z 1 10000000 = false) :
    Calls Try.prog 72 #[.agg #[.int .i64 p, .int .i64 l, .int .i64 r, .int .i64 a, .int .i64 b, .int .i64 s, .bool h, .int .i64 t], .int .i64 y, .int .i64 z] w fun e w' => e = .returned (.tuple #[zeroR, .int .i64 3]) ∧ Below w.heap.size w w' := by
  have HC := Lib.hid (shapeOf_good p l r a b s t h · hk)
  obtain ⟨⟨p0, p1⟩, ⟨l0, l1⟩, ⟨r0, r1⟩, ⟨a0, a1⟩, ⟨b0, b1⟩, ⟨s0, s1⟩, t0, t1⟩ := lim_iff.1 (ok_lim hk)
  simp only at p0 p1 l0 l1 r0 r1 a0 a1 b0 b1 s0 s1 t0 t1
  have ps := mul_bd (show -200000 ≤ p by omega) p1 (show -8 ≤ s by omega) s1
  obtain ⟨ps0, ps1⟩ := ps
  have ps2 : 1 ≤ p * s := by have := Int.mul_le_mul (show 1 ≤ p by omega) s0 (by omega) (by omega); omega
  have H1 := Lib.hid hy
  clear hy
  clear hk
  go_enter Try.func72, Try.ntmps72
  go_wp2_with fail
  refine (HC.out _).mono ?_
  rintro e w1 ⟨rfl, hb1⟩
  have C1 : Box w1 (w.heap.size + 1) _ := (Box.newAt (w.alloc _) _ _ (by simp)).below hb1
  have hB1 : Below w.heap.size w w1 := stepB (by go_grown) hb1
  have hs1 := hB1.size
  clear hb1 HC
  unfold shapeV
  go_wp2_with fail
  refine (validSpan_any _ _ _ _ _).mono ?_
  rintro e w2 ⟨rfl, hb2⟩
  rw [H1.out]
  have D2 : Box w2 w1.heap.size _ := Box.below (Box.new w1 _ _) hb2
  have d2 := D2.2.1
  have C2 : Box w2 (w.heap.size + 1) _ := Box.below (Box.alloc C1 _) hb2
  have hB2 : Below w.heap.size w w2 := stepB (by go_grown) hb2
  have hs2 := hB2.size
  clear hb2 C1 hB1
  obtain ⟨hz, c2, f2⟩ := C2
  go_wp2
  refine bodyPost_ret (v := .tuple #[zeroR, .int .i64 3]) (by simp [results, Try.results72, go_sem, c2, hz, zeroR, ratV]) rfl ⟨rfl, by go_grown⟩

set_option maxHeartbeats 1000000 in
theorem meets_none (p l r a b s t : Int) (h : Bool) (y : Int) (z : Int) (w : World) (hk : okB ⟨p, l, r, a, b, s, h, t⟩ = true) (hy : vspan y z 1 10000000 = true) (ht : t = 0) :
    Calls Try.prog 72 #[.agg #[.int .i64 p, .int .i64 l, .int .i64 r, .int .i64 a, .int .i64 b, .int .i64 s, .bool h, .int .i64 t], .int .i64 y, .int .i64 z] w fun e w' => e = .returned (.tuple #[zeroR, .int .i64 7]) ∧ Below w.heap.size w w' := by
  have HC := Lib.hid (shapeOf_good p l r a b s t h · hk)
  obtain ⟨⟨p0, p1⟩, ⟨l0, l1⟩, ⟨r0, r1⟩, ⟨a0, a1⟩, ⟨b0, b1⟩, ⟨s0, s1⟩, t0, t1⟩ := lim_iff.1 (ok_lim hk)
  simp only at p0 p1 l0 l1 r0 r1 a0 a1 b0 b1 s0 s1 t0 t1
  have ps := mul_bd (show -200000 ≤ p by omega) p1 (show -8 ≤ s by omega) s1
  obtain ⟨ps0, ps1⟩ := ps
  have ps2 : 1 ≤ p * s := by have := Int.mul_le_mul (show 1 ≤ p by omega) s0 (by omega) (by omega); omega
  have e0 : ((t : Int) == 0) = true := by rw [ht]; rfl
  clear ht
  have H1 := Lib.hid hy
  clear hy
  clear hk
  go_enter Try.func72, Try.ntmps72
  go_wp2_with fail
  refine (HC.out _).mono ?_
  rintro e w1 ⟨rfl, hb1⟩
  have C1 : Box w1 (w.heap.size + 1) _ := (Box.newAt (w.alloc _) _ _ (by simp)).below hb1
  have hB1 : Below w.heap.size w w1 := stepB (by go_grown) hb1
  have hs1 := hB1.size
  clear hb1 HC
  unfold shapeV
  go_wp2_with fail
  refine (validSpan_any _ _ _ _ _).mono ?_
  rintro e w2 ⟨rfl, hb2⟩
  rw [H1.out]
  have D2 : Box w2 w1.heap.size _ := Box.below (Box.new w1 _ _) hb2
  have d2 := D2.2.1
  have C2 : Box w2 (w.heap.size + 1) _ := Box.below (Box.alloc C1 _) hb2
  have hB2 : Below w.heap.size w w2 := stepB (by go_grown) hb2
  have hs2 := hB2.size
  clear hb2 C1 hB1
  obtain ⟨hz, c2, f2⟩ := C2
  go_wp2
  refine bodyPost_ret (v := .tuple #[zeroR, .int .i64 7]) (by simp [results, Try.results72, go_sem, c2, hz, zeroR, ratV]) rfl ⟨rfl, by go_grown⟩

set_option maxHeartbeats 1000000 in
theorem meets_good (p l r a b s t : Int) (h : Bool) (y : Int) (z : Int) (w : World) (hk : okB ⟨p, l, r, a, b, s, h, t⟩ = true) (hy : vspan y z 1 10000000 = true) (ht : t ≠ 0) :
    Calls Try.prog 72 #[.agg #[.int .i64 p, .int .i64 l, .int .i64 r, .int .i64 a, .int .i64 b, .int .i64 s, .bool h, .int .i64 t], .int .i64 y, .int .i64 z] w fun e w' => e = .returned (.tuple #[ratV ((z - y) * 500) (t * (p * s)), .int .i64 0]) ∧ Below w.heap.size w w' := by
  have HC := Lib.hid (shapeOf_good p l r a b s t h · hk)
  obtain ⟨⟨p0, p1⟩, ⟨l0, l1⟩, ⟨r0, r1⟩, ⟨a0, a1⟩, ⟨b0, b1⟩, ⟨s0, s1⟩, t0, t1⟩ := lim_iff.1 (ok_lim hk)
  simp only at p0 p1 l0 l1 r0 r1 a0 a1 b0 b1 s0 s1 t0 t1
  have ps := mul_bd (show -200000 ≤ p by omega) p1 (show -8 ≤ s by omega) s1
  obtain ⟨ps0, ps1⟩ := ps
  have ps2 : 1 ≤ p * s := by have := Int.mul_le_mul (show 1 ≤ p by omega) s0 (by omega) (by omega); omega
  have hin : 1 ≤ y ∧ y ≤ z ∧ z ≤ 10000000 := by simpa [vspan] using hy
  have e0 : ((t : Int) == 0) = false := by simpa using ht
  have e1 : 1 ≤ t := by omega
  clear ht
  obtain ⟨m1, m2⟩ := mul_bd (show -100 ≤ t by omega) t1 (show -1600000 ≤ p * s by omega) (show p * s ≤ 1600000 by omega)
  have m3 : 1 ≤ t * (p * s) := by have := Int.mul_le_mul e1 ps2 (by omega) (by omega); omega
  have H1 := Lib.hid hy
  clear hy
  clear hk
  go_enter Try.func72, Try.ntmps72
  go_wp2_with fail
  refine (HC.out _).mono ?_
  rintro e w1 ⟨rfl, hb1⟩
  have C1 : Box w1 (w.heap.size + 1) _ := (Box.newAt (w.alloc _) _ _ (by simp)).below hb1
  have hB1 : Below w.heap.size w w1 := stepB (by go_grown) hb1
  have hs1 := hB1.size
  clear hb1 HC
  unfold shapeV
  go_wp2_with fail
  refine (validSpan_any _ _ _ _ _).mono ?_
  rintro e w2 ⟨rfl, hb2⟩
  rw [H1.out]
  have D2 : Box w2 w1.heap.size _ := Box.below (Box.new w1 _ _) hb2
  have d2 := D2.2.1
  have C2 : Box w2 (w.heap.size + 1) _ := Box.below (Box.alloc C1 _) hb2
  have hB2 : Below w.heap.size w w2 := stepB (by go_grown) hb2
  have hs2 := hB2.size
  clear hb2 C1 hB1
  go_wp2_with fail
  refine (ratio_any _ _ _ (by omega) (by omega) (by omega) (by omega)).mono ?_
  rintro e w3 ⟨rfl, hb3⟩
  have D3 : Box w3 w1.heap.size _ := Box.below D2 hb3
  have d3 := D3.2.1
  have C3 : Box w3 (w.heap.size + 1) _ := Box.below C2 hb3
  have hB3 : Below w.heap.size w w3 := stepB (by go_grown) hb3
  have hs3 := hB3.size
  clear hb3 C2 hB2 D2 d2 hs2
  obtain ⟨hz, c3, f3⟩ := C3
  unfold ratV
  go_wp2
  refine bodyPost_ret (v := .tuple #[ratV ((z - y) * 500) (t * (p * s)), .int .i64 0]) (by simp [results, Try.results72, go_sem, c3, hz, zeroR, ratV]) rfl ⟨rfl, by go_grown⟩
end Go.Proofs.Ytpmeahmjmpgbfaa
