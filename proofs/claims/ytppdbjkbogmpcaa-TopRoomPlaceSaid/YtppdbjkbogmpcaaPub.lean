/- Contracts of small functions. Made by tools/gen_zcheck.py. -/
import Derived.Test.YtppdbjkbogmpcaaZGr2
import Derived.Test.YtppdbjkbogmpcaaRoom2
import Derived.Laws.StructEq
namespace Go.Proofs.Ytppdbjkbogmpcaa
open Go.RowKit
set_option linter.unusedVariables false
set_option linter.unusedSimpArgs false

theorem eqRz (a b c d : Int) (w : World) : (binOp .eql 76 (.agg #[.int .i64 a, .int .i64 b]) (.agg #[.int .i64 c, .int .i64 d])).run Try.prog w = .ok (.bool (a == c && b == d)) w := by
  have u3 := Try.underlying3
  have a3 := Try.isAgg3
  have z3 := Try.sizeOf3
  have hS : Try.prog.underlying 76 = some (.struct (Try.prog.fieldsOf 76)) := by kernel_rfl
  have hp : Try.prog.stoodInHeld 76 = false := by kernel_rfl
  rw [run_eql_struct, show (10000 : Nat) = 9999 + 1 from rfl, run_equalIn_agg w 9999 76 _ _ hS hp]
  simp only [Program.fieldsOf, Try.underlying76]
  go_simp
  by_cases h1 : a = c <;> by_cases h2 : b = d <;> simp [h1, h2]

theorem guardRz (op : BinOp) (x y : Operand) (a b c d : Value) (w : World) : (eqGuard op 76 x y (.agg #[a, b]) (.agg #[c, d])).run Try.prog w = .ok () w :=
  run_eqGuard_agg w op _ x y _ _ (by kernel_rfl)

theorem eqSz (a b c d : Int) (w : World) : (binOp .eql 24 (.agg #[.int .i64 a, .int .i64 b]) (.agg #[.int .i64 c, .int .i64 d])).run Try.prog w = .ok (.bool (a == c && b == d)) w := by
  have u3 := Try.underlying3
  have a3 := Try.isAgg3
  have z3 := Try.sizeOf3
  have hS : Try.prog.underlying 24 = some (.struct (Try.prog.fieldsOf 24)) := by kernel_rfl
  have hp : Try.prog.stoodInHeld 24 = false := by kernel_rfl
  rw [run_eql_struct, show (10000 : Nat) = 9999 + 1 from rfl, run_equalIn_agg w 9999 24 _ _ hS hp]
  simp only [Program.fieldsOf, Try.underlying24]
  go_simp
  by_cases h1 : a = c <;> by_cases h2 : b = d <;> simp [h1, h2]

theorem guardSz (op : BinOp) (x y : Operand) (a b c d : Value) (w : World) : (eqGuard op 24 x y (.agg #[a, b]) (.agg #[c, d])).run Try.prog w = .ok () w :=
  run_eqGuard_agg w op _ x y _ _ (by kernel_rfl)

set_option maxRecDepth 100000 in
set_option maxHeartbeats 2000000 in
theorem pubSpan_any (lo hi : Int) (w : World) :
    Calls Try.prog 126 #[.int .i64 lo, .int .i64 hi] w fun e w' => e = .returned (.agg #[.int .i64 lo, .int .i64 hi]) ∧ Below w.heap.size w w' := by
  go_enter Try.func126, Try.ntmps126
  go_wp2
  refine bodyPost_ret (v := .agg #[.int .i64 lo, .int .i64 hi]) (by simp [results, Try.results126, go_sem]) rfl ⟨rfl, by go_grown⟩

set_option maxRecDepth 100000 in
set_option maxHeartbeats 2000000 in
theorem pubForm_any (a b c d : Int) (a0 : 0 ≤ a) (a1 : a ≤ 255) (b0 : 0 ≤ b) (b1 : b ≤ 255) (c0 : 0 ≤ c) (c1 : c ≤ 255) (d0 : 0 ≤ d) (d1 : d ≤ 255) (w : World) :
    Calls Try.prog 67 #[.agg #[.int .u8 a, .int .u8 b, .int .u8 c, .int .u8 d]] w fun e w' => e = .returned (.agg #[.int .i64 (9000 + 4 * a), .int .i64 (400 + b), .int .i64 (400 + c), .int .i64 (1 + 5 * d), .int .i64 (5 * d), .int .i64 1, .bool false, .int .i64 0]) ∧ Below w.heap.size w w' := by
  go_enter Try.func67, Try.ntmps67
  go_wp2
  refine bodyPost_ret (v := .agg #[.int .i64 (9000 + 4 * a), .int .i64 (400 + b), .int .i64 (400 + c), .int .i64 (1 + 5 * d), .int .i64 (5 * d), .int .i64 1, .bool false, .int .i64 0]) (by simp [results, Try.results67, go_sem]) rfl ⟨rfl, by go_grown⟩

set_option maxRecDepth 100000 in
set_option maxHeartbeats 2000000 in
theorem pubDepth_any (w : World) (a b : Int) (a0 : 0 ≤ a) (a1 : a ≤ 255) (b0 : 0 ≤ b) (b1 : b ≤ 255) :
    Calls Try.prog 69 #[.agg #[.int .u8 a, .int .u8 b]] w fun e w' => e = .returned (.agg #[.int .i64 (8 * a - 1200), .int .i64 (8 * a - 1200 + 8 * b)]) ∧ Below w.heap.size w w' := by
  go_enter Try.func69, Try.ntmps69
  go_wp2_with fail
  refine (pubSpan_any _ _ _).mono ?_
  rintro e w1 ⟨rfl, hb1⟩
  have Xb2_1 : Box w1 (w.heap.size + 1) #[.int .i64 0, .int .i64 0] := Box.below (Box.newAt (w.alloc _) _ _ (by simp)) hb1
  have hB1 : Below w.heap.size w w1 := stepB (by go_grown) hb1
  have hs1 := hB1.size
  clear hb1
  have cc2 := Xb2_1.2.1
  have ll2 := Xb2_1.1
  have ff2 := Xb2_1.2.2
  have lm2_0 : w.heap.size < w1.heap.size := by have := ll2; omega
  go_wp2
  refine bodyPost_ret (v := .agg #[.int .i64 (8 * a - 1200), .int .i64 (8 * a - 1200 + 8 * b)]) (by simp [results, Try.results69, go_sem, spanV, cc2, ll2]) rfl ⟨rfl, by go_grown⟩

/-- A table of one step, one place and one grade, in new memory. -/
def TabP (last place grade : Int) (w : World) (e : Ending) (w' : World) : Prop := ∃ sa ga pa, e = .returned (.agg #[.slice sa 1 1, .slice ga 1 1, .slice pa 1 1]) ∧ Below w.heap.size w w' ∧ SlA IntE w' sa [last] ∧ SlA IntsAt w' ga [[grade]] ∧ SlA IntsAt w' pa [[place]]
theorem sl_one {w : World} {b : Nat} {x : Int} (hb : b < w.heap.size) (h : w.cell? ⟨b, 0, none⟩ = some (.int .i64 x)) : SlA IntE w (some ⟨b, 0, none⟩) [x] :=
  .inr ⟨b, 0, rfl, hb, fun i y hy => by
    cases i with
    | zero => simp at hy; subst hy; exact ⟨_, h, rfl⟩
    | succ i => simp at hy⟩
theorem rows_one {w : World} {b c : Nat} {x : Int} (hb : b < w.heap.size) (h : w.cell? ⟨b, 0, none⟩ = some (.slice (some ⟨c, 0, none⟩) 1 1)) (hc : c < w.heap.size) (h2 : w.cell? ⟨c, 0, none⟩ = some (.int .i64 x)) : SlA IntsAt w (some ⟨b, 0, none⟩) [[x]] :=
  .inr ⟨b, 0, rfl, hb, fun i y hy => by
    cases i with
    | zero => simp at hy; subst hy; exact ⟨_, h, some ⟨c, 0, none⟩, 1, rfl, by simp, sl_one hc h2⟩
    | succ i => simp at hy⟩
set_option maxRecDepth 100000 in
set_option maxHeartbeats 2000000 in
theorem pubTable_any (last place grade : Int) (w : World) :
    Calls Try.prog 72 #[.int .i64 last, .int .i64 place, .int .i64 grade] w (TabP last place grade w) := by
  go_enter Try.func72, Try.ntmps72
  go_wp2
  have B1 := Box.alloc (Box.alloc (Box.alloc (Box.alloc (Box.newAt (w.alloc (.cells #[.slice (some ⟨w.heap.size + 1, 0, none⟩) 1 1, .slice (some ⟨w.heap.size + 1 + 1 + 1 + 1 + 1, 0, none⟩) 1 1, .slice (some ⟨w.heap.size + 1 + 1 + 1, 0, none⟩) 1 1] 63)) #[.int .i64 last] 3 (n := w.heap.size + 1) (by simp)) (.cells #[.int .i64 place] 3)) (.cells #[.slice (some ⟨w.heap.size + 1 + 1, 0, none⟩) 1 1] 31)) (.cells #[.int .i64 grade] 3)) (.cells #[.slice (some ⟨w.heap.size + 1 + 1 + 1 + 1, 0, none⟩) 1 1] 31)
  have B2 := Box.alloc (Box.alloc (Box.alloc (Box.newAt ((w.alloc (.cells #[.slice (some ⟨w.heap.size + 1, 0, none⟩) 1 1, .slice (some ⟨w.heap.size + 1 + 1 + 1 + 1 + 1, 0, none⟩) 1 1, .slice (some ⟨w.heap.size + 1 + 1 + 1, 0, none⟩) 1 1] 63)).alloc (.cells #[.int .i64 last] 3)) #[.int .i64 place] 3 (n := w.heap.size + 1 + 1) (by simp)) (.cells #[.slice (some ⟨w.heap.size + 1 + 1, 0, none⟩) 1 1] 31)) (.cells #[.int .i64 grade] 3)) (.cells #[.slice (some ⟨w.heap.size + 1 + 1 + 1 + 1, 0, none⟩) 1 1] 31)
  have B3 := Box.alloc (Box.alloc (Box.newAt (((w.alloc (.cells #[.slice (some ⟨w.heap.size + 1, 0, none⟩) 1 1, .slice (some ⟨w.heap.size + 1 + 1 + 1 + 1 + 1, 0, none⟩) 1 1, .slice (some ⟨w.heap.size + 1 + 1 + 1, 0, none⟩) 1 1] 63)).alloc (.cells #[.int .i64 last] 3)).alloc (.cells #[.int .i64 place] 3)) #[.slice (some ⟨w.heap.size + 1 + 1, 0, none⟩) 1 1] 31 (n := w.heap.size + 1 + 1 + 1) (by simp)) (.cells #[.int .i64 grade] 3)) (.cells #[.slice (some ⟨w.heap.size + 1 + 1 + 1 + 1, 0, none⟩) 1 1] 31)
  have B4 := Box.alloc (Box.newAt ((((w.alloc (.cells #[.slice (some ⟨w.heap.size + 1, 0, none⟩) 1 1, .slice (some ⟨w.heap.size + 1 + 1 + 1 + 1 + 1, 0, none⟩) 1 1, .slice (some ⟨w.heap.size + 1 + 1 + 1, 0, none⟩) 1 1] 63)).alloc (.cells #[.int .i64 last] 3)).alloc (.cells #[.int .i64 place] 3)).alloc (.cells #[.slice (some ⟨w.heap.size + 1 + 1, 0, none⟩) 1 1] 31)) #[.int .i64 grade] 3 (n := w.heap.size + 1 + 1 + 1 + 1) (by simp)) (.cells #[.slice (some ⟨w.heap.size + 1 + 1 + 1 + 1, 0, none⟩) 1 1] 31)
  have B5 := Box.newAt (((((w.alloc (.cells #[.slice (some ⟨w.heap.size + 1, 0, none⟩) 1 1, .slice (some ⟨w.heap.size + 1 + 1 + 1 + 1 + 1, 0, none⟩) 1 1, .slice (some ⟨w.heap.size + 1 + 1 + 1, 0, none⟩) 1 1] 63)).alloc (.cells #[.int .i64 last] 3)).alloc (.cells #[.int .i64 place] 3)).alloc (.cells #[.slice (some ⟨w.heap.size + 1 + 1, 0, none⟩) 1 1] 31)).alloc (.cells #[.int .i64 grade] 3)) #[.slice (some ⟨w.heap.size + 1 + 1 + 1 + 1, 0, none⟩) 1 1] 31 (n := w.heap.size + 1 + 1 + 1 + 1 + 1) (by simp)
  refine bodyPost_ret (v := .agg #[.slice (some ⟨w.heap.size + 1, 0, none⟩) 1 1, .slice (some ⟨w.heap.size + 1 + 1 + 1 + 1 + 1, 0, none⟩) 1 1, .slice (some ⟨w.heap.size + 1 + 1 + 1, 0, none⟩) 1 1]) (by simp [results, Try.results72, go_sem]) rfl ?_
  exact ⟨_, _, _, rfl, by go_grown, sl_one B1.1 B1.cell0, rows_one B5.1 B5.cell0 B4.1 B4.cell0, rows_one B3.1 B3.cell0 B2.1 B2.cell0⟩

theorem ratV_atz {n d g a b : Int} (hg : (Int.gcd n d : Int) = g) (ha : n / g = a) (hb : d / g = b) : ratV n d = .agg #[.int .i64 a, .int .i64 b] := by
  unfold ratV
  rw [hg, ha, hb]
theorem pub_width (w : World) : Calls Try.prog 74 #[.agg #[.int .i64 10000, .int .i64 577, .int .i64 577, .int .i64 3000, .int .i64 3000, .int .i64 1, .bool false, .int .i64 0], .int .i64 3000] w fun e w' => e = .returned (.tuple #[.agg #[.int .i64 1538, .int .i64 1], .int .i64 0]) ∧ Below w.heap.size w w' := by
  have h := width_good 10000 577 577 3000 3000 1 0 false 3000 w (by decide) (by decide)
  rw [ratV_atz (g := 1000) (a := 1538) (b := 1) (by decide +kernel) (by decide) (by decide)] at h
  exact h
theorem pub_room (w : World) : Calls Try.prog 68 #[.agg #[.int .i64 10000, .int .i64 577, .int .i64 577, .int .i64 3000, .int .i64 3000, .int .i64 1, .bool false, .int .i64 0], .agg #[.int .i64 10000, .int .i64 600, .int .i64 600, .int .i64 3000, .int .i64 3000, .int .i64 1, .bool false, .int .i64 0], .agg #[.int .i64 (-3000), .int .i64 3000]] w fun e w' => e = .returned (.tuple #[.int .i64 120, .int .i64 0]) ∧ Below w.heap.size w w' := by
  have h := room_good 10000 577 577 3000 3000 1 0 false 10000 600 600 3000 3000 1 0 false (-3000) 3000 w (by decide) (by decide) rfl (by decide) (by decide) (by decide) (by decide)
  exact h
theorem pub_before (w : World) : Calls Try.prog 36 #[.agg #[.int .i64 59840, .int .i64 59960], .bool false, .agg #[.int .i64 5, .int .i64 8, .int .i64 7, .int .i64 2]] w fun e w' => e = .returned (.tuple #[.agg #[.int .i64 59823, .int .i64 59932], .int .i64 0]) ∧ Below w.heap.size w w' := by
  have h := before_any false 59840 59960 5 8 7 2 w
  rw [show befV false 59840 59960 5 8 7 2 = .tuple #[.agg #[.int .i64 59823, .int .i64 59932], .int .i64 0] from by rfl] at h
  exact h
theorem pub_groups (w : World) : Calls Try.prog 56 #[.agg #[.int .i64 1000, .int .i64 1009], .agg #[.int .i64 1020, .int .i64 1029], .agg #[.int .i64 12, .int .i64 28]] w fun e w' => e = .returned (.tuple #[.int .i64 2, .int .i64 0]) ∧ Below w.heap.size w w' := by
  have h := groups_any 1000 1009 1020 1029 12 28 w
  rw [show groupsV 1000 1009 1020 1029 12 28 = .tuple #[.int .i64 2, .int .i64 0] from by rfl] at h
  exact h

set_option maxRecDepth 100000 in
set_option maxHeartbeats 2000000 in
theorem pubThread_any (w : World)  :
    Calls Try.prog 70 #[] w fun e w' => e = .returned (.bool true) ∧ Below w.heap.size w w' := by
  have qR := eqRz
  have gR := guardRz
  have qS := eqSz
  have gS := guardSz
  go_enter Try.func70, Try.ntmps70
  go_wp2_with fail
  refine (pub_width _).mono ?_
  rintro e w1 ⟨rfl, hb1⟩
  have Xb1_1 : Box w1 w.heap.size #[.int .i64 10000, .int .i64 577, .int .i64 577, .int .i64 3000, .int .i64 3000, .int .i64 1, .bool false, .int .i64 0] := Box.below (Box.alloc (Box.new w _ _) _) hb1
  have Xb2_1 : Box w1 (w.heap.size + 1) #[.int .i64 10000, .int .i64 600, .int .i64 600, .int .i64 3000, .int .i64 3000, .int .i64 1, .bool false, .int .i64 0] := Box.below (Box.newAt (w.alloc _) _ _ (by simp)) hb1
  have hB1 : Below w.heap.size w w1 := stepB (by go_grown) hb1
  have hs1 := hB1.size
  clear hb1
  go_wp2
  have Yb1 : Box (w1.alloc (.cells #[.int .i64 1538, .int .i64 1] 76)) w.heap.size #[.int .i64 10000, .int .i64 577, .int .i64 577, .int .i64 3000, .int .i64 3000, .int .i64 1, .bool false, .int .i64 0] := (Box.alloc Xb1_1 _)
  have Yb2 : Box (w1.alloc (.cells #[.int .i64 1538, .int .i64 1] 76)) (w.heap.size + 1) #[.int .i64 10000, .int .i64 600, .int .i64 600, .int .i64 3000, .int .i64 3000, .int .i64 1, .bool false, .int .i64 0] := (Box.alloc Xb2_1 _)
  have Yb3 : Box (w1.alloc (.cells #[.int .i64 1538, .int .i64 1] 76)) w1.heap.size #[.int .i64 1538, .int .i64 1] := (Box.new w1 _ _)
  have hBX : Below w.heap.size w (w1.alloc (.cells #[.int .i64 1538, .int .i64 1] 76)) := by go_grown
  clear hB1 hs1 Xb1_1 Xb2_1
  generalize (w1.alloc (.cells #[.int .i64 1538, .int .i64 1] 76)) = XW1 at *
  have hsX := hBX.size
  have rd1 := fun d os => (Yb1.regrown d os).2.1
  have rd2 := fun d os => (Yb2.regrown d os).2.1
  have kc19 := fun d os => (pubSpan_any (-3000) 3000 (Go.Sort.grow (redrawn XW1 d) os)).regrown_of
  have kc20 := fun d os => (pub_room (Go.Sort.grow (redrawn XW1 d) os)).regrown_of
  have Zb3 := Lib.hid Yb3
  clear Yb1 Yb2 Yb3
  refine wp_region_quiet_below (by kernel_rfl) (by kernel_rfl) ?_
  repeat ((with_reducible refine wpQuiet_step (fun K hK => ?_)); go_simp; first | ((with_reducible refine hK _ ?_); clear hK K) | (apply Exists.intro; refine ⟨fun _ => ?_, hK _ ?_⟩; (first | (go_at_call 126; with_reducible exact kc19 _ _) | (go_at_call 68; with_reducible exact kc20 _ _)); clear hK K))
  with_reducible refine wpQuiet_nil ?_
  intro w2 hw'
  obtain ⟨⟨dq, osq⟩, hw''⟩ := hw'
  have hb2 : Below XW1.heap.size XW1 w2 := by rw [hw'']; exact below_regrown XW1 dq osq
  have Xb3_2 : Box w2 w1.heap.size #[.int .i64 1538, .int .i64 1] := Zb3.out.below hb2
  have hB2 : Below w.heap.size w w2 := stepB hBX hb2
  have hs2 := hB2.size
  clear hw'' hb2 hBX hsX rd1 rd2 kc19 kc20 Zb3
  have cc3 := Xb3_2.2.1
  have ll3 := Xb3_2.1
  go_wp2
  go_returns
  exact ⟨rfl, hB2⟩

set_option maxRecDepth 100000 in
set_option maxHeartbeats 2000000 in
theorem pubZone_any (w : World)  :
    Calls Try.prog 71 #[] w fun e w' => e = .returned (.bool true) ∧ Below w.heap.size w w' := by
  have qR := eqRz
  have gR := guardRz
  have qS := eqSz
  have gS := guardSz
  go_enter Try.func71, Try.ntmps71
  go_wp2_with fail
  refine (pubSpan_any _ _ _).mono ?_
  rintro e w1 ⟨rfl, hb1⟩
  have hB1 : Below w.heap.size w w1 := stepB (by go_grown) hb1
  have hs1 := hB1.size
  clear hb1
  go_wp2_with fail
  refine (pubSpan_any _ _ _).mono ?_
  rintro e w2 ⟨rfl, hb2⟩
  have hB2 : Below w.heap.size w w2 := stepB (by go_grown) hb2
  have hs2 := hB2.size
  clear hb2 hB1 hs1
  go_wp2_with fail
  refine (pub_before _).mono ?_
  rintro e w3 ⟨rfl, hb3⟩
  have hB3 : Below w.heap.size w w3 := stepB (by go_grown) hb3
  have hs3 := hB3.size
  clear hb3 hB2 hs2
  go_wp2_with fail
  refine (pubSpan_any _ _ _).mono ?_
  rintro e w4 ⟨rfl, hb4⟩
  have Xb1_4 : Box w4 w3.heap.size #[.int .i64 59823, .int .i64 59932] := Box.below (Box.new w3 _ _) hb4
  have hB4 : Below w.heap.size w w4 := stepB (by go_grown) hb4
  have hs4 := hB4.size
  clear hb4 hB3 hs3
  go_wp2_with fail
  refine (pubSpan_any _ _ _).mono ?_
  rintro e w5 ⟨rfl, hb5⟩
  have Xb1_5 : Box w5 w3.heap.size #[.int .i64 59823, .int .i64 59932] := Box.below Xb1_4 hb5
  have hB5 : Below w.heap.size w w5 := stepB (by go_grown) hb5
  have hs5 := hB5.size
  clear hb5 hB4 hs4 Xb1_4
  go_wp2_with fail
  refine (pubSpan_any _ _ _).mono ?_
  rintro e w6 ⟨rfl, hb6⟩
  have Xb1_6 : Box w6 w3.heap.size #[.int .i64 59823, .int .i64 59932] := Box.below Xb1_5 hb6
  have hB6 : Below w.heap.size w w6 := stepB (by go_grown) hb6
  have hs6 := hB6.size
  clear hb6 hB5 hs5 Xb1_5
  go_wp2_with fail
  refine (pub_groups _).mono ?_
  rintro e w7 ⟨rfl, hb7⟩
  have Xb1_7 : Box w7 w3.heap.size #[.int .i64 59823, .int .i64 59932] := Box.below Xb1_6 hb7
  have hB7 : Below w.heap.size w w7 := stepB (by go_grown) hb7
  have hs7 := hB7.size
  clear hb7 hB6 hs6 Xb1_6
  go_wp2
  have Yb1 : Box w7 w3.heap.size #[.int .i64 59823, .int .i64 59932] := Xb1_7
  have hBX : Below w.heap.size w w7 := by go_grown
  clear hB7 hs7 Xb1_7
  have hsX := hBX.size
  have rd1 := fun d os => (Yb1.regrown d os).2.1
  have kc28 := fun d os => (pubSpan_any 59823 59932 (Go.Sort.grow (redrawn w7 d) os)).regrown_of
  clear Yb1
  refine wp_region_quiet_below (by kernel_rfl) (by kernel_rfl) ?_
  repeat ((with_reducible refine wpQuiet_step (fun K hK => ?_)); go_simp; first | ((with_reducible refine hK _ ?_); clear hK K) | (apply Exists.intro; refine ⟨fun _ => ?_, hK _ ?_⟩; (first | (go_at_call 126; with_reducible exact kc28 _ _)); clear hK K))
  with_reducible refine wpQuiet_nil ?_
  intro w8 hw'
  obtain ⟨⟨dq, osq⟩, hw''⟩ := hw'
  have hb8 : Below w7.heap.size w7 w8 := by rw [hw'']; exact below_regrown w7 dq osq
  have hB8 : Below w.heap.size w w8 := stepB hBX hb8
  have hs8 := hB8.size
  clear hw'' hb8 hBX hsX rd1 kc28
  go_wp2
  go_returns
  exact ⟨rfl, hB8⟩

end Go.Proofs.Ytppdbjkbogmpcaa
