/- ZoneSorted: part and in. Made by tools/gen_zslaw.py. -/
import Derived.Test.YtpmeahmjmpgbfaaZKnown
import Derived.Test.YtpmeahmjmpgbfaaZRefGr
import Derived.Test.YtpmeahmjmpgbfaaZPl0
import Derived.Test.YtpmeahmjmpgbfaaOpenZ
import Derived.Test.YtpmeahmjmpgbfaaTail
namespace Go.Proofs.Ytpmeahmjmpgbfaa
open Go.ChangeShapes Go.WideShapes Go.ChangeAt Go.RowKit
set_option linter.unusedVariables false
set_option linter.unusedSimpArgs false

set_option maxRecDepth 100000 in
set_option maxHeartbeats 4000000 in
theorem part_way (F : Nat → Int) (lo hi i n : Int) (w : World) (n0 : ¬ n = 0) (HV : (i * (hi - lo + 1)).tdiv n = F 0) (HU : ((i + 1) * (hi - lo + 1)).tdiv n = F 1)
    (w1 : IntKind.i64.wrap (hi - lo) = hi - lo) (w2 : IntKind.i64.wrap (hi - lo + 1) = hi - lo + 1) (w3 : IntKind.i64.wrap (i * (hi - lo + 1)) = i * (hi - lo + 1)) (w4 : IntKind.i64.wrap (i + 1) = i + 1) (w5 : IntKind.i64.wrap ((i + 1) * (hi - lo + 1)) = (i + 1) * (hi - lo + 1)) (w6 : IntKind.i64.wrap (lo + F 0) = lo + F 0) (w7 : IntKind.i64.wrap (lo + F 1) = lo + F 1) (w8 : IntKind.i64.wrap (lo + F 1 - 1) = lo + F 1 - 1) (w9 : IntKind.i64.wrap (F 0) = F 0) (w10 : IntKind.i64.wrap (F 1) = F 1) :
    Calls Try.prog 64 #[.agg #[.int .i64 lo, .int .i64 hi], .int .i64 i, .int .i64 n] w fun e w' => e = .returned (spanV (lo + F 0) (lo + F 1 - 1)) ∧ Below w.heap.size w w' := by
  go_enter Try.func64, Try.ntmps64
  go_wp2
  have Yb3 : Box ((w.alloc (.cells #[.int .i64 lo, .int .i64 hi] 24)).alloc (.cells #[.int .i64 0, .int .i64 0] 24)) w.heap.size #[.int .i64 lo, .int .i64 hi] := (Box.alloc (Box.new w _ _) _)
  have Yb6 : Box ((w.alloc (.cells #[.int .i64 lo, .int .i64 hi] 24)).alloc (.cells #[.int .i64 0, .int .i64 0] 24)) (w.heap.size + 1) #[.int .i64 0, .int .i64 0] := (Box.newAt (w.alloc _) _ _ (by simp))
  have hBX : Below w.heap.size w ((w.alloc (.cells #[.int .i64 lo, .int .i64 hi] 24)).alloc (.cells #[.int .i64 0, .int .i64 0] 24)) := by go_grown
  generalize ((w.alloc (.cells #[.int .i64 lo, .int .i64 hi] 24)).alloc (.cells #[.int .i64 0, .int .i64 0] 24)) = XW1 at *
  have hsX := hBX.size
  have rd3 := fun dz os => (Yb3.regrown dz os).2.1
  have rd6 := fun dz os => (Yb6.regrown dz os).2.1
  have Zb6 := Lib.hid Yb6
  clear Yb3 Yb6
  refine wp_region_quiet_tail (C := fun w' => ∃ p : Regrown, w' = Go.Sort.grow (redrawn XW1 p.d) p.os) 18 (by kernel_rfl) (by kernel_rfl) (InB.start XW1) ?_
  simp only [List.take_succ_cons, List.take_zero, List.drop_succ_cons, List.drop_zero]
  repeat ((with_reducible refine wpQuiet_step (fun K hK => ?_)); go_simp; first | ((with_reducible refine hK _ ?_); clear hK K) | (apply Exists.intro; refine ⟨fun _ => ?_, hK _ ?_⟩; fail; clear hK K))
  with_reducible refine wpQuiet_nil ?_
  intro w1 hw'
  obtain ⟨⟨dq, osq⟩, hw''⟩ := hw'
  have hb1 : Below XW1.heap.size XW1 w1 := by rw [hw'']; exact below_regrown XW1 dq osq
  have Xb6_1 : Box w1 (w.heap.size + 1) #[.int .i64 0, .int .i64 0] := Zb6.out.below hb1
  have hB1 : Below w.heap.size w w1 := stepB hBX hb1
  have hs1 := hB1.size
  clear hw'' hb1 hBX hsX rd3 rd6 Zb6
  go_wp2_with fail
  refine (lspan_any (lo + F 0) (lo + F 1 - 1) _).mono ?_
  rintro e w2 ⟨rfl, hb2⟩
  have Xb6_2 : Box w2 (w.heap.size + 1) #[.int .i64 0, .int .i64 0] := Box.below Xb6_1 hb2
  have hB2 : Below w.heap.size w w2 := stepB (by go_grown) hb2
  have hs2 := hB2.size
  clear hb2 hB1 hs1 Xb6_1
  have cc6 := Xb6_2.2.1
  have ll6 := Xb6_2.1
  have ff6 := Xb6_2.2.2
  have lm6_0 : w.heap.size < w2.heap.size := by have := ll6; omega
  go_wp2
  refine bodyPost_ret (v := spanV (lo + F 0) (lo + F 1 - 1)) (by simp [results, Try.results64, go_sem, spanV, cc6, ll6]) rfl ⟨rfl, by go_grown⟩

theorem part_any (lo hi i n : Int) (w : World) (i0 : 0 ≤ i) (i1 : i ≤ 1000) (n0 : 1 ≤ n) (n1 : n ≤ 1000) (l0 : -50000000 ≤ lo) (l1 : lo ≤ 50000000) (h0 : -50000000 ≤ hi) (h1 : hi ≤ 50000000) (hlh : lo ≤ hi) :
    Calls Try.prog 64 #[.agg #[.int .i64 lo, .int .i64 hi], .int .i64 i, .int .i64 n] w fun e w' => e = .returned (spanV (gAt lo hi i n) (gAt lo hi (i + 1) n - 1)) ∧ Below w.heap.size w w' := by
  have a := gmul_bd (i := i) (d := hi - lo + 1) (m := 1001) (k := 200000000) ⟨i0, by omega⟩ ⟨by omega, by omega⟩
  have b := gmul_bd (i := i + 1) (d := hi - lo + 1) (m := 1001) (k := 200000000) ⟨by omega, by omega⟩ ⟨by omega, by omega⟩
  have c := div_bd (x := i * (hi - lo + 1)) (d := n) (m := 1001 * 200000000) n0 a
  have d := div_bd (x := (i + 1) * (hi - lo + 1)) (d := n) (m := 1001 * 200000000) n0 b
  have p0 : 0 ≤ i * (hi - lo + 1) := Int.mul_nonneg i0 (by omega)
  have p1 : 0 ≤ (i + 1) * (hi - lo + 1) := Int.mul_nonneg (by omega) (by omega)
  exact part_way (fun k => ([i * (hi - lo + 1) / n, (i + 1) * (hi - lo + 1) / n] : List Int).getD k 0) lo hi i n w (by omega) (Int.tdiv_eq_ediv_of_nonneg p0) (Int.tdiv_eq_ediv_of_nonneg p1) (IntWalk.i64_in _ (by omega)) (IntWalk.i64_in _ (by omega)) (IntWalk.i64_in _ (by omega)) (IntWalk.i64_in _ (by omega)) (IntWalk.i64_in _ (by omega)) (IntWalk.i64_in (lo + i * (hi - lo + 1) / n) (by omega)) (IntWalk.i64_in (lo + (i + 1) * (hi - lo + 1) / n) (by omega)) (IntWalk.i64_in (lo + (i + 1) * (hi - lo + 1) / n - 1) (by omega)) (IntWalk.i64_in (i * (hi - lo + 1) / n) (by omega)) (IntWalk.i64_in ((i + 1) * (hi - lo + 1) / n) (by omega))

set_option maxRecDepth 100000 in
set_option maxHeartbeats 4000000 in
theorem lin_0 (n a b : Int) (w : World) (h1 : decide (a ≤ n) = false) : Calls Try.prog 60 #[.int .i64 n, .agg #[.int .i64 a, .int .i64 b]] w fun e w' => e = .returned (.bool false) ∧ Below w.heap.size w w' := by
  go_enter Try.func60, Try.ntmps60
  go_wp2
  go_returns
  exact ⟨rfl, by go_grown⟩
set_option maxRecDepth 100000 in
set_option maxHeartbeats 4000000 in
theorem lin_1 (n a b : Int) (w : World) (h1 : decide (a ≤ n) = true) : Calls Try.prog 60 #[.int .i64 n, .agg #[.int .i64 a, .int .i64 b]] w fun e w' => e = .returned (.bool (decide (n ≤ b))) ∧ Below w.heap.size w w' := by
  go_enter Try.func60, Try.ntmps60
  go_wp2
  go_returns
  exact ⟨rfl, by go_grown⟩
theorem lin_any (n a b : Int) (w : World) : Calls Try.prog 60 #[.int .i64 n, .agg #[.int .i64 a, .int .i64 b]] w fun e w' => e = .returned (.bool (inB a b n)) ∧ Below w.heap.size w w' := by
  unfold inB
  cases h : decide (a ≤ n)
  · rw [show decide (a ≤ n ∧ n ≤ b) = false from decide_eq_false fun q => (of_decide_eq_false h) q.1]
    exact lin_0 n a b w h
  · rw [show decide (a ≤ n ∧ n ≤ b) = decide (n ≤ b) by rw [Bool.eq_iff_iff]; simp only [decide_eq_true_eq]; exact ⟨fun q => q.2, fun q => ⟨of_decide_eq_true h, q⟩⟩]
    exact lin_1 n a b w h

end Go.Proofs.Ytpmeahmjmpgbfaa
