/- Contracts of zone.checkedColumn and Widest. Made by tools/gen_zcheck.py. -/
import Derived.Test.YtpmeahmjmpgbfaaZPairs
namespace Go.Proofs.Ytpmeahmjmpgbfaa
open Go.RowKit
set_option linter.unusedVariables false
set_option linter.unusedSimpArgs false

set_option maxRecDepth 100000 in
set_option maxHeartbeats 2000000 in
theorem chk_0 (w : World) (size v0 v1 : Int) (ss : List Int) (gs ps : List (List Int)) (sa ga pa : Option Addr) (sc gc pc : Nat) (k : Int) (h1 : (k == 0) = false) (h2 : (k != 0) = true) (HK : Hid (∀ W : World, Below w.heap.size w W → Calls Try.prog 29 #[.agg #[.slice sa ss.length sc, .slice ga gs.length gc, .slice pa ps.length pc]] W fun e w' => e = .returned (.int .i64 k) ∧ Below W.heap.size W w')) :
    Calls Try.prog 106 #[.agg #[.slice sa ss.length sc, .slice ga gs.length gc, .slice pa ps.length pc], .int .i64 size, .agg #[.int .i64 v0, .int .i64 v1]] w fun e w' => e = .returned (.tuple #[.agg #[.slice none 0 0, .slice none 0 0, .slice none 0 0, .int .i64 0], .int .i64 k]) ∧ Below w.heap.size w w' := by
  go_enter Try.func106, Try.ntmps106
  go_wp2_with fail
  refine (HK.out _ (by go_grown)).mono ?_
  rintro e w1 ⟨rfl, hb1⟩
  have Xb6_1 : Box w1 (w.heap.size + 1 + 1) #[.slice none 0 0, .slice none 0 0, .slice none 0 0, .int .i64 0] := Box.below (Box.newAt ((w.alloc _).alloc _) _ _ (by simp)) hb1
  have hB1 : Below w.heap.size w w1 := stepB (by go_grown) hb1
  have hs1 := hB1.size
  clear hb1
  have cc6 := Xb6_1.2.1
  have ll6 := Xb6_1.1
  have ff6 := Xb6_1.2.2
  have lm6_0 : w.heap.size < w1.heap.size := by have := ll6; omega
  have lm6_1 : w.heap.size + 1 < w1.heap.size := by have := ll6; omega
  go_wp2
  refine bodyPost_ret (v := .tuple #[.agg #[.slice none 0 0, .slice none 0 0, .slice none 0 0, .int .i64 0], .int .i64 k]) (by simp [results, Try.results106, go_sem, spanV, cc6, ll6]) rfl ⟨rfl, by go_grown⟩

set_option maxRecDepth 100000 in
set_option maxHeartbeats 2000000 in
theorem chk_1 (w : World) (size v0 v1 : Int) (ss : List Int) (gs ps : List (List Int)) (sa ga pa : Option Addr) (sc gc pc : Nat) (HK : Hid (∀ W : World, Below w.heap.size w W → Calls Try.prog 29 #[.agg #[.slice sa ss.length sc, .slice ga gs.length gc, .slice pa ps.length pc]] W fun e w' => e = .returned (.int .i64 0) ∧ Below W.heap.size W w')) (HL : Hid (∀ W : World, Below w.heap.size w W → Calls Try.prog 95 #[.agg #[.slice sa ss.length sc, .slice ga gs.length gc, .slice pa ps.length pc], .int .i64 size] W fun e w' => e = .returned (.tuple #[.agg #[.slice none 0 0, .slice none 0 0, .slice none 0 0, .int .i64 0], .int .i64 3]) ∧ Below W.heap.size W w')) :
    Calls Try.prog 106 #[.agg #[.slice sa ss.length sc, .slice ga gs.length gc, .slice pa ps.length pc], .int .i64 size, .agg #[.int .i64 v0, .int .i64 v1]] w fun e w' => e = .returned (.tuple #[.agg #[.slice none 0 0, .slice none 0 0, .slice none 0 0, .int .i64 0], .int .i64 3]) ∧ Below w.heap.size w w' := by
  go_enter Try.func106, Try.ntmps106
  go_wp2_with fail
  refine (HK.out _ (by go_grown)).mono ?_
  rintro e w1 ⟨rfl, hb1⟩
  have Xb3_1 : Box w1 w.heap.size #[.slice sa ss.length sc, .slice ga gs.length gc, .slice pa ps.length pc] := Box.below (Box.alloc (Box.alloc (Box.new w _ _) _) _) hb1
  have Xb6_1 : Box w1 (w.heap.size + 1 + 1) #[.slice none 0 0, .slice none 0 0, .slice none 0 0, .int .i64 0] := Box.below (Box.newAt ((w.alloc _).alloc _) _ _ (by simp)) hb1
  have hB1 : Below w.heap.size w w1 := stepB (by go_grown) hb1
  have hs1 := hB1.size
  clear hb1
  have cc3 := Xb3_1.2.1
  have ll3 := Xb3_1.1
  go_wp2_with fail
  refine (HL.out _ (by go_grown)).mono ?_
  rintro e w2 ⟨rfl, hb2⟩
  have Xb6_2 : Box w2 (w.heap.size + 1 + 1) #[.slice none 0 0, .slice none 0 0, .slice none 0 0, .int .i64 0] := Box.below Xb6_1 hb2
  have hB2 : Below w.heap.size w w2 := stepB (by go_grown) hb2
  have hs2 := hB2.size
  clear hb2 hB1 hs1 Xb3_1 Xb6_1 cc3 ll3
  have cc6 := Xb6_2.2.1
  have ll6 := Xb6_2.1
  have ff6 := Xb6_2.2.2
  have lm6_0 : w.heap.size < w2.heap.size := by have := ll6; omega
  have lm6_1 : w.heap.size + 1 < w2.heap.size := by have := ll6; omega
  go_wp2
  refine bodyPost_ret (v := .tuple #[.agg #[.slice none 0 0, .slice none 0 0, .slice none 0 0, .int .i64 0], .int .i64 3]) (by simp [results, Try.results106, go_sem, spanV, cc6, ll6]) rfl ⟨rfl, by go_grown⟩

set_option maxRecDepth 100000 in
set_option maxHeartbeats 2000000 in
theorem chk_2 (w : World) (size v0 v1 : Int) (ss : List Int) (gs ps : List (List Int)) (sa ga pa : Option Addr) (sc gc pc : Nat) (r : Nat) (HK : Hid (∀ W : World, Below w.heap.size w W → Calls Try.prog 29 #[.agg #[.slice sa ss.length sc, .slice ga gs.length gc, .slice pa ps.length pc]] W fun e w' => e = .returned (.int .i64 0) ∧ Below W.heap.size W w')) (HL : Hid (∀ W : World, Below w.heap.size w W → Calls Try.prog 95 #[.agg #[.slice sa ss.length sc, .slice ga gs.length gc, .slice pa ps.length pc], .int .i64 size] W fun e w' => e = .returned (.tuple #[.agg #[.slice sa ss.length sc, .slice ga gs.length gc, .slice pa ps.length pc, .int .i64 r], .int .i64 0]) ∧ Below W.heap.size W w')) (h3 : vspan v0 v1 (-400000) 400000 = false) :
    Calls Try.prog 106 #[.agg #[.slice sa ss.length sc, .slice ga gs.length gc, .slice pa ps.length pc], .int .i64 size, .agg #[.int .i64 v0, .int .i64 v1]] w fun e w' => e = .returned (.tuple #[.agg #[.slice none 0 0, .slice none 0 0, .slice none 0 0, .int .i64 0], .int .i64 2]) ∧ Below w.heap.size w w' := by
  go_enter Try.func106, Try.ntmps106
  go_wp2_with fail
  refine (HK.out _ (by go_grown)).mono ?_
  rintro e w1 ⟨rfl, hb1⟩
  have Xb3_1 : Box w1 w.heap.size #[.slice sa ss.length sc, .slice ga gs.length gc, .slice pa ps.length pc] := Box.below (Box.alloc (Box.alloc (Box.new w _ _) _) _) hb1
  have Xb5_1 : Box w1 (w.heap.size + 1) #[.int .i64 v0, .int .i64 v1] := Box.below (Box.alloc (Box.newAt (w.alloc _) _ _ (by simp)) _) hb1
  have Xb6_1 : Box w1 (w.heap.size + 1 + 1) #[.slice none 0 0, .slice none 0 0, .slice none 0 0, .int .i64 0] := Box.below (Box.newAt ((w.alloc _).alloc _) _ _ (by simp)) hb1
  have hB1 : Below w.heap.size w w1 := stepB (by go_grown) hb1
  have hs1 := hB1.size
  clear hb1
  have cc3 := Xb3_1.2.1
  have ll3 := Xb3_1.1
  go_wp2_with fail
  refine (HL.out _ (by go_grown)).mono ?_
  rintro e w2 ⟨rfl, hb2⟩
  have Xb5_2 : Box w2 (w.heap.size + 1) #[.int .i64 v0, .int .i64 v1] := Box.below Xb5_1 hb2
  have Xb6_2 : Box w2 (w.heap.size + 1 + 1) #[.slice none 0 0, .slice none 0 0, .slice none 0 0, .int .i64 0] := Box.below Xb6_1 hb2
  have hB2 : Below w.heap.size w w2 := stepB (by go_grown) hb2
  have hs2 := hB2.size
  clear hb2 hB1 hs1 Xb3_1 Xb5_1 Xb6_1 cc3 ll3
  have cc5 := Xb5_2.2.1
  have ll5 := Xb5_2.1
  have lm5_0 : w.heap.size < w2.heap.size := by have := ll5; omega
  go_wp2_with fail
  refine (validSpan_any _ _ _ _ _).mono ?_
  rintro e w3 ⟨rfl, hb3⟩
  have Xb6_3 : Box w3 (w.heap.size + 1 + 1) #[.slice none 0 0, .slice none 0 0, .slice none 0 0, .int .i64 0] := Box.below (Box.alloc Xb6_2 _) hb3
  have hB3 : Below w.heap.size w w3 := stepB (by go_grown) hb3
  have hs3 := hB3.size
  clear hb3 hB2 hs2 Xb5_2 Xb6_2 cc5 ll5 lm5_0
  have cc6 := Xb6_3.2.1
  have ll6 := Xb6_3.1
  have ff6 := Xb6_3.2.2
  have lm6_0 : w.heap.size < w3.heap.size := by have := ll6; omega
  have lm6_1 : w.heap.size + 1 < w3.heap.size := by have := ll6; omega
  rw [h3]
  go_wp2
  refine bodyPost_ret (v := .tuple #[.agg #[.slice none 0 0, .slice none 0 0, .slice none 0 0, .int .i64 0], .int .i64 2]) (by simp [results, Try.results106, go_sem, spanV, cc6, ll6]) rfl ⟨rfl, by go_grown⟩

set_option maxRecDepth 100000 in
set_option maxHeartbeats 2000000 in
theorem chk_3 (w : World) (size v0 v1 : Int) (ss : List Int) (gs ps : List (List Int)) (sa ga pa : Option Addr) (sc gc pc : Nat) (r : Nat) (HK : Hid (∀ W : World, Below w.heap.size w W → Calls Try.prog 29 #[.agg #[.slice sa ss.length sc, .slice ga gs.length gc, .slice pa ps.length pc]] W fun e w' => e = .returned (.int .i64 0) ∧ Below W.heap.size W w')) (HL : Hid (∀ W : World, Below w.heap.size w W → Calls Try.prog 95 #[.agg #[.slice sa ss.length sc, .slice ga gs.length gc, .slice pa ps.length pc], .int .i64 size] W fun e w' => e = .returned (.tuple #[.agg #[.slice sa ss.length sc, .slice ga gs.length gc, .slice pa ps.length pc, .int .i64 r], .int .i64 0]) ∧ Below W.heap.size W w')) (h3 : vspan v0 v1 (-400000) 400000 = true) :
    Calls Try.prog 106 #[.agg #[.slice sa ss.length sc, .slice ga gs.length gc, .slice pa ps.length pc], .int .i64 size, .agg #[.int .i64 v0, .int .i64 v1]] w fun e w' => e = .returned (.tuple #[.agg #[.slice sa ss.length sc, .slice ga gs.length gc, .slice pa ps.length pc, .int .i64 r], .int .i64 0]) ∧ Below w.heap.size w w' := by
  go_enter Try.func106, Try.ntmps106
  go_wp2_with fail
  refine (HK.out _ (by go_grown)).mono ?_
  rintro e w1 ⟨rfl, hb1⟩
  have Xb3_1 : Box w1 w.heap.size #[.slice sa ss.length sc, .slice ga gs.length gc, .slice pa ps.length pc] := Box.below (Box.alloc (Box.alloc (Box.new w _ _) _) _) hb1
  have Xb5_1 : Box w1 (w.heap.size + 1) #[.int .i64 v0, .int .i64 v1] := Box.below (Box.alloc (Box.newAt (w.alloc _) _ _ (by simp)) _) hb1
  have Xb6_1 : Box w1 (w.heap.size + 1 + 1) #[.slice none 0 0, .slice none 0 0, .slice none 0 0, .int .i64 0] := Box.below (Box.newAt ((w.alloc _).alloc _) _ _ (by simp)) hb1
  have hB1 : Below w.heap.size w w1 := stepB (by go_grown) hb1
  have hs1 := hB1.size
  clear hb1
  have cc3 := Xb3_1.2.1
  have ll3 := Xb3_1.1
  go_wp2_with fail
  refine (HL.out _ (by go_grown)).mono ?_
  rintro e w2 ⟨rfl, hb2⟩
  have Xb5_2 : Box w2 (w.heap.size + 1) #[.int .i64 v0, .int .i64 v1] := Box.below Xb5_1 hb2
  have Xb6_2 : Box w2 (w.heap.size + 1 + 1) #[.slice none 0 0, .slice none 0 0, .slice none 0 0, .int .i64 0] := Box.below Xb6_1 hb2
  have hB2 : Below w.heap.size w w2 := stepB (by go_grown) hb2
  have hs2 := hB2.size
  clear hb2 hB1 hs1 Xb3_1 Xb5_1 Xb6_1 cc3 ll3
  have cc5 := Xb5_2.2.1
  have ll5 := Xb5_2.1
  have lm5_0 : w.heap.size < w2.heap.size := by have := ll5; omega
  go_wp2_with fail
  refine (validSpan_any _ _ _ _ _).mono ?_
  rintro e w3 ⟨rfl, hb3⟩
  have Xb6_3 : Box w3 (w.heap.size + 1 + 1) #[.slice none 0 0, .slice none 0 0, .slice none 0 0, .int .i64 0] := Box.below (Box.alloc Xb6_2 _) hb3
  have Xb9_3 : Box w3 w2.heap.size #[.slice sa ss.length sc, .slice ga gs.length gc, .slice pa ps.length pc, .int .i64 r] := Box.below (Box.new w2 _ _) hb3
  have hB3 : Below w.heap.size w w3 := stepB (by go_grown) hb3
  have hs3 := hB3.size
  clear hb3 hB2 hs2 Xb5_2 Xb6_2 cc5 ll5 lm5_0
  have cc6 := Xb6_3.2.1
  have ll6 := Xb6_3.1
  have ff6 := Xb6_3.2.2
  have lm6_0 : w.heap.size < w3.heap.size := by have := ll6; omega
  have lm6_1 : w.heap.size + 1 < w3.heap.size := by have := ll6; omega
  have cc9 := Xb9_3.2.1
  have ll9 := Xb9_3.1
  rw [h3]
  go_wp2
  refine bodyPost_ret (v := .tuple #[.agg #[.slice sa ss.length sc, .slice ga gs.length gc, .slice pa ps.length pc, .int .i64 r], .int .i64 0]) (by simp [results, Try.results106, go_sem, spanV, cc6, ll6, cc9, ll9]) rfl ⟨rfl, by go_grown⟩

/-- The error of Pairs. -/
def chkE (ss : List Int) (gs ps : List (List Int)) (size v0 v1 : Int) : Int := if checkN ss gs ps ≠ 0 then checkN ss gs ps else if colE ss size ≠ 0 then colE ss size else if vspan v0 v1 (-400000) 400000 = false then 2 else 0
def chkV (ss : List Int) (gs ps : List (List Int)) (sa ga pa : Option Addr) (sc gc pc : Nat) (size v0 v1 : Int) : Value := if chkE ss gs ps size v0 v1 = 0 then .tuple #[.agg #[.slice sa ss.length sc, .slice ga gs.length gc, .slice pa ps.length pc, .int .i64 (stepN ss size)], .int .i64 0] else .tuple #[.agg #[.slice none 0 0, .slice none 0 0, .slice none 0 0, .int .i64 0], .int .i64 (chkE ss gs ps size v0 v1)]
theorem chk_any (size v0 v1 : Int) (ss : List Int) (gs ps : List (List Int)) (sa ga pa : Option Addr) (sc gc pc : Nat) (w : World) (m1 : ss.length ≤ 4611686018427387904) (m2 : gs.length ≤ 4611686018427387904) (m3 : ps.length ≤ 4611686018427387904) (hs : SlA IntE w sa ss) (hg : SlA IntsAt w ga gs) (hp : SlA IntsAt w pa ps) :
    Calls Try.prog 106 #[.agg #[.slice sa ss.length sc, .slice ga gs.length gc, .slice pa ps.length pc], .int .i64 size, .agg #[.int .i64 v0, .int .i64 v1]] w fun e w' => e = .returned (chkV ss gs ps sa ga pa sc gc pc size v0 v1) ∧ Below w.heap.size w w' := by
  have HK := fun (W : World) (hB : Below w.heap.size w W) => zcheck_any ss gs ps sa ga pa sc gc pc W m1 m2 m3 (hs.below intE_stable hB) (hg.below ints_stable hB) (hp.below ints_stable hB)
  by_cases hc : checkN ss gs ps = 0
  · rw [hc] at HK
    obtain ⟨_, _, hst, _⟩ := check_parts hc
    have HL := fun (W : World) (hB : Below w.heap.size w W) => columnOf_any ss gs ps sa ga pa sc gc pc size W m1 m2 m3 (hs.below intE_stable hB) (steps_parts hst).1
    by_cases he : colE ss size = 0
    · unfold colV at HL
      simp only [he, if_true] at HL
      cases h3 : vspan v0 v1 (-400000) 400000
      · have e : chkE ss gs ps size v0 v1 = 2 := by unfold chkE; rw [if_neg (by omega), if_neg (by omega), if_pos h3]
        unfold chkV
        rw [e, if_neg (by decide)]
        exact chk_2 w size v0 v1 ss gs ps sa ga pa sc gc pc _ (Lib.hid HK) (Lib.hid HL) h3
      · have e : chkE ss gs ps size v0 v1 = 0 := by unfold chkE; rw [if_neg (by omega), if_neg (by omega), if_neg (by rw [h3]; decide)]
        unfold chkV
        rw [e, if_pos rfl]
        exact chk_3 w size v0 v1 ss gs ps sa ga pa sc gc pc _ (Lib.hid HK) (Lib.hid HL) h3
    · have he3 : colE ss size = 3 := by unfold colE at he ⊢; split at he <;> simp_all
      have e : chkE ss gs ps size v0 v1 = 3 := by unfold chkE; rw [if_neg (by omega), if_pos (by omega), he3]
      unfold colV at HL
      simp only [he3, if_neg (show ¬ (3 : Int) = 0 by decide)] at HL
      unfold chkV
      rw [e, if_neg (by decide)]
      exact chk_1 w size v0 v1 ss gs ps sa ga pa sc gc pc (Lib.hid HK) (Lib.hid HL)
  · have e : chkE ss gs ps size v0 v1 = checkN ss gs ps := by unfold chkE; rw [if_pos hc]
    unfold chkV
    rw [e, if_neg hc]
    exact chk_0 w size v0 v1 ss gs ps sa ga pa sc gc pc _ (beq_false_of_ne hc) (by simpa using hc) (Lib.hid HK)

set_option maxRecDepth 100000 in
set_option maxHeartbeats 2000000 in
theorem widths_any (w : World) (a0 a1 b0 b1 p q : Int) (g : Nat) (c0 c1 c2 c3 : Value) (p0 : 0 ≤ p) (p1 : p ≤ 100000) (q0 : 0 ≤ q) (q1 : q ≤ 100000) (X1 : Box w g #[c0, c1, c2, c3]) (H1 : Hid (∀ W : World, Below w.heap.size w W → Calls Try.prog 109 #[.agg #[c0, c1, c2, c3], .agg #[.int .i64 a0, .int .i64 a1]] W fun e w' => e = .returned (.int .i64 p) ∧ Below W.heap.size W w')) (H2 : Hid (∀ W : World, Below w.heap.size w W → Calls Try.prog 109 #[.agg #[c0, c1, c2, c3], .agg #[.int .i64 b0, .int .i64 b1]] W fun e w' => e = .returned (.int .i64 q) ∧ Below W.heap.size W w')) :
    Calls Try.prog 108 #[.agg #[.int .i64 a0, .int .i64 a1, .int .i64 b0, .int .i64 b1], .pointer (some ⟨g, 0, none⟩)] w fun e w' => e = .returned (.int .i64 (p + q)) ∧ Below w.heap.size w w' := by
  have W1 : IntKind.i64.wrap (p + q) = p + q := IntWalk.i64_in _ (by omega)
  go_enter Try.func108, Try.ntmps108
  go_wp2
  have Yb1 : Box (w.alloc (.cells #[.int .i64 a0, .int .i64 a1, .int .i64 b0, .int .i64 b1] 88)) g #[c0, c1, c2, c3] := (Box.alloc X1 _)
  have Yb2 : Box (w.alloc (.cells #[.int .i64 a0, .int .i64 a1, .int .i64 b0, .int .i64 b1] 88)) w.heap.size #[.int .i64 a0, .int .i64 a1, .int .i64 b0, .int .i64 b1] := (Box.new w _ _)
  have hBX : Below w.heap.size w (w.alloc (.cells #[.int .i64 a0, .int .i64 a1, .int .i64 b0, .int .i64 b1] 88)) := by go_grown
  clear X1
  generalize (w.alloc (.cells #[.int .i64 a0, .int .i64 a1, .int .i64 b0, .int .i64 b1] 88)) = XW1 at *
  have hsX := hBX.size
  have rd1 := fun d os => (Yb1.regrown d os).2.1
  have rd2 := fun d os => (Yb2.regrown d os).2.1
  have kc7 := fun d os => (H1.out (Go.Sort.grow (redrawn XW1 d) os) (hBX.trans ((below_regrown _ d os).mono hBX.size))).regrown_of
  have kc11 := fun d os => (H2.out (Go.Sort.grow (redrawn XW1 d) os) (hBX.trans ((below_regrown _ d os).mono hBX.size))).regrown_of
  clear Yb1 Yb2
  refine wp_region_quiet_below (by kernel_rfl) (by kernel_rfl) ?_
  repeat ((with_reducible refine wpQuiet_step (fun K hK => ?_)); go_simp; first | ((with_reducible refine hK _ ?_); clear hK K) | (apply Exists.intro; refine ⟨fun _ => ?_, hK _ ?_⟩; (first | (go_at_call 109; with_reducible exact kc7 _ _) | (go_at_call 109; with_reducible exact kc11 _ _)); clear hK K))
  with_reducible refine wpQuiet_nil ?_
  intro w1 hw'
  obtain ⟨⟨dq, osq⟩, hw''⟩ := hw'
  have hb1 : Below XW1.heap.size XW1 w1 := by rw [hw'']; exact below_regrown XW1 dq osq
  have hB1 : Below w.heap.size w w1 := stepB hBX hb1
  have hs1 := hB1.size
  clear hw'' hb1 hBX hsX rd1 rd2 kc7 kc11
  go_wp2
  go_returns
  exact ⟨rfl, hB1⟩

theorem pairs_none {base : Nat} {w : World} {v : Value} (h : PairsOwn base w v []) : ∃ a cap, v = .slice a 0 cap := by
  rcases h.2 with ⟨rfl, _⟩ | ⟨g, cap, cur, rfl, _⟩
  · exact ⟨none, 0, rfl⟩
  · exact ⟨_, cap, rfl⟩
theorem pairs_some {base : Nat} {w : World} {v : Value} {x : (Int × Int) × (Int × Int)} {l : List ((Int × Int) × (Int × Int))} (h : PairsOwn base w v (x :: l)) : ∃ g cap, v = .slice (some ⟨g, 0, none⟩) (l.length + 1) cap ∧ g < w.heap.size ∧ l.length + 1 ≤ cap ∧ cap ≤ maxLen ∧ ∀ i y, (x :: l)[i]? = some y → w.cell? ⟨g, i * 4, none⟩ = some (.int .i64 y.1.1) ∧ w.cell? ⟨g, i * 4 + 1, none⟩ = some (.int .i64 y.1.2) ∧ w.cell? ⟨g, i * 4 + 2, none⟩ = some (.int .i64 y.2.1) ∧ w.cell? ⟨g, i * 4 + 3, none⟩ = some (.int .i64 y.2.2) := by
  have flat4_at : ∀ (l : List ((Int × Int) × (Int × Int))) (i : Nat) y, l[i]? = some y → (flat4 l)[i * 4]? = some (.int .i64 y.1.1) ∧ (flat4 l)[i * 4 + 1]? = some (.int .i64 y.1.2) ∧ (flat4 l)[i * 4 + 2]? = some (.int .i64 y.2.1) ∧ (flat4 l)[i * 4 + 3]? = some (.int .i64 y.2.2) := by
    intro l
    induction l with
    | nil => intro i y h; simp at h
    | cons z l ih =>
      intro i y h
      cases i with
      | zero => simp at h; subst h; exact ⟨rfl, rfl, rfl, rfl⟩
      | succ i =>
        have := ih i y (by simpa using h)
        have e : flat4 (z :: l) = [.int .i64 z.1.1, .int .i64 z.1.2, .int .i64 z.2.1, .int .i64 z.2.2] ++ flat4 l := rfl
        refine ⟨?_, ?_, ?_, ?_⟩
        · rw [e, List.getElem?_append_right (by simp; omega), show (i + 1) * 4 - [Value.int IntKind.i64 z.1.1, .int .i64 z.1.2, .int .i64 z.2.1, .int .i64 z.2.2].length = i * 4 by simp; omega]; exact this.1
        · rw [e, List.getElem?_append_right (by simp; omega), show (i + 1) * 4 + 1 - [Value.int IntKind.i64 z.1.1, .int .i64 z.1.2, .int .i64 z.2.1, .int .i64 z.2.2].length = i * 4 + 1 by simp; omega]; exact this.2.1
        · rw [e, List.getElem?_append_right (by simp; omega), show (i + 1) * 4 + 2 - [Value.int IntKind.i64 z.1.1, .int .i64 z.1.2, .int .i64 z.2.1, .int .i64 z.2.2].length = i * 4 + 2 by simp; omega]; exact this.2.2.1
        · rw [e, List.getElem?_append_right (by simp; omega), show (i + 1) * 4 + 3 - [Value.int IntKind.i64 z.1.1, .int .i64 z.1.2, .int .i64 z.2.1, .int .i64 z.2.2].length = i * 4 + 3 by simp; omega]; exact this.2.2.2
  have hcell := h
  unfold PairsOwn at hcell
  rcases h.2 with ⟨_, h0⟩ | ⟨g, cap, cur, rfl, hb, hg, hn, hm, _⟩
  · simp at h0
  · refine ⟨g, cap, rfl, (Array.getElem?_eq_some_iff.1 hg).1, by simpa using hn, hm, fun i y hy => ?_⟩
    have hi : i < (x :: l).length := by
      rcases Nat.lt_or_ge i (x :: l).length with h' | h'
      · exact h'
      · rw [List.getElem?_eq_none h'] at hy; cases hy
    obtain ⟨f0, f1, f2, f3⟩ := flat4_at _ i y hy
    exact ⟨(hcell.cellAt (i * 4) (by omega)).trans f0, (hcell.cellAt (i * 4 + 1) (by omega)).trans f1, (hcell.cellAt (i * 4 + 2) (by omega)).trans f2, (hcell.cellAt (i * 4 + 3) (by omega)).trans f3⟩

/-- The first pair of the greatest width. -/
def maxW (wd : (Int × Int) × (Int × Int) → Int) (b : (Int × Int) × (Int × Int)) (l : List ((Int × Int) × (Int × Int))) : (Int × Int) × (Int × Int) := l.foldl (fun b p => if wd b < wd p then p else b) b
theorem maxW_mem (wd : (Int × Int) × (Int × Int) → Int) : ∀ (l : List ((Int × Int) × (Int × Int))) (b), maxW wd b l ∈ b :: l := by
  intro l
  induction l with
  | nil => intro b; simp [maxW]
  | cons p l ih =>
    intro b
    show maxW wd (if wd b < wd p then p else b) l ∈ _
    have := ih (if wd b < wd p then p else b)
    by_cases hw : wd b < wd p
    · rw [if_pos hw] at this ⊢
      simp at this ⊢; rcases this with h | h
      · exact .inr (.inl h)
      · exact .inr (.inr h)
    · rw [if_neg hw] at this ⊢
      simp at this ⊢; rcases this with h | h
      · exact .inl h
      · exact .inr (.inr h)
theorem maxW_snoc (wd : (Int × Int) × (Int × Int) → Int) (b p) (l) : maxW wd b (l ++ [p]) = if wd (maxW wd b l) < wd p then p else maxW wd b l := by unfold maxW; rw [List.foldl_append]; rfl
def c4 (x : (Int × Int) × (Int × Int)) : Array Value := #[.int .i64 x.1.1, .int .i64 x.1.2, .int .i64 x.2.1, .int .i64 x.2.2]

set_option maxRecDepth 100000 in
set_option maxHeartbeats 2000000 in
theorem widest_0 (w : World) (size v0 v1 : Int) (ss : List Int) (gs ps : List (List Int)) (sa ga pa : Option Addr) (sc gc pc : Nat) (k : Int) (h1 : (k == 0) = false) (h2 : (k != 0) = true) (HC : Hid (∀ W : World, Below w.heap.size w W → Calls Try.prog 106 #[.agg #[.slice sa ss.length sc, .slice ga gs.length gc, .slice pa ps.length pc], .int .i64 size, .agg #[.int .i64 v0, .int .i64 v1]] W fun e w' => e = .returned (.tuple #[.agg #[.slice none 0 0, .slice none 0 0, .slice none 0 0, .int .i64 0], .int .i64 k]) ∧ Below W.heap.size W w')) :
    Calls Try.prog 47 #[.agg #[.slice sa ss.length sc, .slice ga gs.length gc, .slice pa ps.length pc], .int .i64 size, .agg #[.int .i64 v0, .int .i64 v1]] w fun e w' => e = .returned (.tuple #[.agg #[.int .i64 0, .int .i64 0, .int .i64 0, .int .i64 0], .int .i64 k]) ∧ Below w.heap.size w w' := by
  go_enter Try.func47, Try.ntmps47
  go_wp2_with fail
  refine (HC.out _ (by go_grown)).mono ?_
  rintro e w1 ⟨rfl, hb1⟩
  have Xb6_1 : Box w1 (w.heap.size + 1 + 1) #[.int .i64 0, .int .i64 0, .int .i64 0, .int .i64 0] := Box.below (Box.newAt ((w.alloc _).alloc _) _ _ (by simp)) hb1
  have hB1 : Below w.heap.size w w1 := stepB (by go_grown) hb1
  have hs1 := hB1.size
  clear hb1
  have cc6 := Xb6_1.2.1
  have ll6 := Xb6_1.1
  have ff6 := Xb6_1.2.2
  have lm6_0 : w.heap.size < w1.heap.size := by have := ll6; omega
  have lm6_1 : w.heap.size + 1 < w1.heap.size := by have := ll6; omega
  go_wp2
  refine bodyPost_ret (v := .tuple #[.agg #[.int .i64 0, .int .i64 0, .int .i64 0, .int .i64 0], .int .i64 k]) (by simp [results, Try.results47, go_sem, spanV, cc6, ll6]) rfl ⟨rfl, by go_grown⟩

set_option maxRecDepth 100000 in
set_option maxHeartbeats 2000000 in
theorem widest_1 (w : World) (size v0 v1 : Int) (ss : List Int) (gs ps : List (List Int)) (sa ga pa : Option Addr) (sc gc pc : Nat) (r : Nat) (HC : Hid (∀ W : World, Below w.heap.size w W → Calls Try.prog 106 #[.agg #[.slice sa ss.length sc, .slice ga gs.length gc, .slice pa ps.length pc], .int .i64 size, .agg #[.int .i64 v0, .int .i64 v1]] W fun e w' => e = .returned (.tuple #[.agg #[.slice sa ss.length sc, .slice ga gs.length gc, .slice pa ps.length pc, .int .i64 r], .int .i64 0]) ∧ Below W.heap.size W w')) (HP : Hid (∀ W : World, Below w.heap.size w W → Calls Try.prog 107 #[.agg #[.slice sa ss.length sc, .slice ga gs.length gc, .slice pa ps.length pc, .int .i64 r], .int .i64 size, .agg #[.int .i64 v0, .int .i64 v1]] W fun e w' => ∃ v, e = .returned v ∧ PairsOwn W.heap.size w' v [] ∧ Below W.heap.size W w')) :
    Calls Try.prog 47 #[.agg #[.slice sa ss.length sc, .slice ga gs.length gc, .slice pa ps.length pc], .int .i64 size, .agg #[.int .i64 v0, .int .i64 v1]] w fun e w' => e = .returned (.tuple #[.agg #[.int .i64 0, .int .i64 0, .int .i64 0, .int .i64 0], .int .i64 7]) ∧ Below w.heap.size w w' := by
  go_enter Try.func47, Try.ntmps47
  go_wp2_with fail
  refine (HC.out _ (by go_grown)).mono ?_
  rintro e w1 ⟨rfl, hb1⟩
  have Xb5_1 : Box w1 (w.heap.size + 1) #[.int .i64 v0, .int .i64 v1] := Box.below (Box.alloc (Box.newAt (w.alloc _) _ _ (by simp)) _) hb1
  have Xb6_1 : Box w1 (w.heap.size + 1 + 1) #[.int .i64 0, .int .i64 0, .int .i64 0, .int .i64 0] := Box.below (Box.newAt ((w.alloc _).alloc _) _ _ (by simp)) hb1
  have hB1 : Below w.heap.size w w1 := stepB (by go_grown) hb1
  have hs1 := hB1.size
  clear hb1
  have cc5 := Xb5_1.2.1
  have ll5 := Xb5_1.1
  have lm5_0 : w.heap.size < w1.heap.size := by have := ll5; omega
  go_wp2_with fail
  refine (HP.out _ (by go_grown)).mono ?_
  rintro e w2 ⟨v, rfl, hown, hb2⟩
  have Xb6_2 : Box w2 (w.heap.size + 1 + 1) #[.int .i64 0, .int .i64 0, .int .i64 0, .int .i64 0] := Box.below (Box.alloc Xb6_1 _) hb2
  have hB2 : Below w.heap.size w w2 := stepB (by go_grown) hb2
  have hs2 := hB2.size
  clear hb2 hB1 hs1 Xb5_1 Xb6_1 cc5 ll5 lm5_0
  have cc6 := Xb6_2.2.1
  have ll6 := Xb6_2.1
  have ff6 := Xb6_2.2.2
  have lm6_0 : w.heap.size < w2.heap.size := by have := ll6; omega
  have lm6_1 : w.heap.size + 1 < w2.heap.size := by have := ll6; omega
  obtain ⟨av, cv, rfl⟩ := pairs_none hown
  clear hown
  go_wp2
  refine bodyPost_ret (v := .tuple #[.agg #[.int .i64 0, .int .i64 0, .int .i64 0, .int .i64 0], .int .i64 7]) (by simp [results, Try.results47, go_sem, spanV, cc6, ll6]) rfl ⟨rfl, by go_grown⟩

set_option maxRecDepth 100000 in
set_option maxHeartbeats 6000000 in
theorem widest_2 (w : World) (size v0 v1 : Int) (ss : List Int) (gs ps : List (List Int)) (sa ga pa : Option Addr) (sc gc pc : Nat) (r : Nat) (x0 : (Int × Int) × (Int × Int)) (l : List ((Int × Int) × (Int × Int))) (wd : (Int × Int) × (Int × Int) → Int) (hl : l.length ≤ 1000000) (HC : Hid (∀ W : World, Below w.heap.size w W → Calls Try.prog 106 #[.agg #[.slice sa ss.length sc, .slice ga gs.length gc, .slice pa ps.length pc], .int .i64 size, .agg #[.int .i64 v0, .int .i64 v1]] W fun e w' => e = .returned (.tuple #[.agg #[.slice sa ss.length sc, .slice ga gs.length gc, .slice pa ps.length pc, .int .i64 r], .int .i64 0]) ∧ Below W.heap.size W w')) (HP : Hid (∀ W : World, Below w.heap.size w W → Calls Try.prog 107 #[.agg #[.slice sa ss.length sc, .slice ga gs.length gc, .slice pa ps.length pc, .int .i64 r], .int .i64 size, .agg #[.int .i64 v0, .int .i64 v1]] W fun e w' => ∃ v, e = .returned v ∧ PairsOwn W.heap.size w' v (x0 :: l) ∧ Below W.heap.size W w'))
    (HW : Hid (∀ x ∈ x0 :: l, ∀ (W : World) (g : Nat), Below w.heap.size w W → Box W g #[.slice sa ss.length sc, .slice ga gs.length gc, .slice pa ps.length pc, .int .i64 r] → Calls Try.prog 108 #[.agg (c4 x), .pointer (some ⟨g, 0, none⟩)] W fun e w' => e = .returned (.int .i64 (wd x)) ∧ Below W.heap.size W w')) :
    Calls Try.prog 47 #[.agg #[.slice sa ss.length sc, .slice ga gs.length gc, .slice pa ps.length pc], .int .i64 size, .agg #[.int .i64 v0, .int .i64 v1]] w fun e w' => e = .returned (.tuple #[.agg (c4 (maxW wd x0 l)), .int .i64 0]) ∧ Below w.heap.size w w' := by
  go_enter Try.func47, Try.ntmps47
  go_wp2_with fail
  refine (HC.out _ (by go_grown)).mono ?_
  rintro e w1 ⟨rfl, hb1⟩
  have Xb5_1 : Box w1 (w.heap.size + 1) #[.int .i64 v0, .int .i64 v1] := Box.below (Box.alloc (Box.newAt (w.alloc _) _ _ (by simp)) _) hb1
  have Xb6_1 : Box w1 (w.heap.size + 1 + 1) #[.int .i64 0, .int .i64 0, .int .i64 0, .int .i64 0] := Box.below (Box.newAt ((w.alloc _).alloc _) _ _ (by simp)) hb1
  have hB1 : Below w.heap.size w w1 := stepB (by go_grown) hb1
  have hs1 := hB1.size
  clear hb1
  have cc5 := Xb5_1.2.1
  have ll5 := Xb5_1.1
  have lm5_0 : w.heap.size < w1.heap.size := by have := ll5; omega
  go_wp2_with fail
  refine (HP.out _ (by go_grown)).mono ?_
  rintro e w2 ⟨v, rfl, hown, hb2⟩
  have Xb6_2 : Box w2 (w.heap.size + 1 + 1) #[.int .i64 0, .int .i64 0, .int .i64 0, .int .i64 0] := Box.below (Box.alloc Xb6_1 _) hb2
  have Xb8_2 : Box w2 w1.heap.size #[.slice sa ss.length sc, .slice ga gs.length gc, .slice pa ps.length pc, .int .i64 r] := Box.below (Box.new w1 _ _) hb2
  have hB2 : Below w.heap.size w w2 := stepB (by go_grown) hb2
  have hs2 := hB2.size
  clear hb2 hB1 hs1 Xb5_1 Xb6_1 cc5 ll5 lm5_0
  have cc8 := Xb8_2.2.1
  have ll8 := Xb8_2.1
  obtain ⟨gv, cv, rfl, hgv, hcv, hmv, hcell⟩ := pairs_some hown
  clear hown
  have c00 := (hcell 0 x0 rfl).1
  have c01 := (hcell 0 x0 rfl).2.1
  have c02 := (hcell 0 x0 rfl).2.2.1
  have c03 := (hcell 0 x0 rfl).2.2.2
  have HCE := Lib.hid hcell
  clear hcell
  simp only [Nat.zero_mul, Nat.zero_add] at c00 c01 c02 c03
  have q1 : ((l.length : Int) + 1 == 0) = false := beq_false_of_ne (by omega)
  by_cases hc1 : cv = 1
  · subst hc1
    obtain rfl : l = [] := List.eq_nil_of_length_eq_zero (by omega)
    have B6 := Xb6_2
    have c6 := B6.2.1
    have l6 := B6.1
    have f6 := B6.2.2
    go_wp2
    go_rounds 1
    refine bodyPost_ret (v := .tuple #[.agg (c4 x0), .int .i64 0]) (by simp [results, Try.results47, go_sem, c6, l6, c4]) rfl ⟨rfl, by go_grown⟩
  · go_wp2
    go_loopw [14, 42] (fun _ i wr => ∃ k : Nat, k ≤ l.length ∧ i = .int .i64 k ∧ Box wr w2.heap.size (c4 (maxW wd x0 (l.take k))) ∧ Below w2.heap.size w2 wr) (fun _ i _ => l.length - (intOf i).toNat)
    case atStart => exact ⟨0, Nat.zero_le _, rfl, Box.new w2 _ _, (Below.refl _ _).alloc (Nat.le_refl _) _⟩
    case round =>
      have B6' := Lib.hid Xb6_2
      have B8' := Lib.hid Xb8_2
      have HBk := Lib.hid hB2
      obtain ⟨j, hj, rfl, X12, hB⟩ := hrel
      obtain ⟨b, hb⟩ : ∃ b, maxW wd x0 (l.take j) = b := ⟨_, rfl⟩
      rw [hb] at X12
      have hbm : b ∈ x0 :: l := by
        rw [← hb]
        have := maxW_mem wd (l.take j) x0
        simp at this ⊢
        rcases this with h | h
        · exact .inl h
        · exact .inr (List.mem_of_mem_take h)
      have HBM := Lib.hid hbm
      have HBb := Lib.hid hb
      clear hb hbm c00 c01 c02 c03
      by_cases hlt : j < l.length
      · obtain ⟨x, hx⟩ : ∃ x, l[j] = x := ⟨_, rfl⟩
        have hx' : l[j]? = some x := by rw [List.getElem?_eq_getElem hlt, hx]
        have hxm : x ∈ x0 :: l := by rw [← hx]; simp
        have HXM := Lib.hid hxm
        have HT : Hid (l.take (j + 1) = l.take j ++ [x]) := by show _ = _; rw [List.take_succ_eq_append_getElem hlt, hx]
        have hcx := HCE.out (j + 1) x (by simpa using hx')
        rw [show (j + 1) * 4 = 4 + j * 4 by omega] at hcx
        obtain ⟨d0, d1, d2, d3⟩ := hcx
        have e0 := (hB.cell (p := ⟨gv, 4 + j * 4, none⟩) hgv).trans d0
        have e1 := (hB.cell (p := ⟨gv, 4 + j * 4 + 1, none⟩) hgv).trans d1
        have e2 := (hB.cell (p := ⟨gv, 4 + j * 4 + 2, none⟩) hgv).trans d2
        have e3 := (hB.cell (p := ⟨gv, 4 + j * 4 + 3, none⟩) hgv).trans d3
        have hz : gv < wr.heap.size := Nat.lt_of_lt_of_le hgv hB.size
        clear hx hx' hxm d0 d1 d2 d3
        have Y14 : Box (wr.alloc (.cells (c4 x) 88)) wr.heap.size (c4 x) := Box.new wr _ _
        have Y12 := X12.alloc (.cells (c4 x) 88)
        have YB : Below w2.heap.size w2 (wr.alloc (.cells (c4 x) 88)) := hB.alloc hB.size _
        have hn : wr.heap.size ≠ w2.heap.size := by have := X12.1; omega
        unfold c4 at Y14 Y12 YB
        clear X12 hB
        go_wp2
        generalize wr.alloc (.cells #[.int .i64 x.1.1, .int .i64 x.1.2, .int .i64 x.2.1, .int .i64 x.2.2] 88) = X at *
        have hBX : Below w.heap.size w X := HBk.out.trans (YB.mono HBk.out.size)
        have Y8 := B8'.out.below YB
        have rd14 := fun d os => (Y14.regrown d os).2.1
        have rd12 := fun d os => (Y12.regrown d os).2.1
        have kc48 := fun d os => (HW.out x HXM.out (Go.Sort.grow (redrawn X d) os) _ (hBX.trans ((below_regrown X d os).mono hBX.size)) (Y8.regrown d os)).regrown_of
        have kc51 := fun d os => (HW.out b HBM.out (Go.Sort.grow (redrawn X d) os) _ (hBX.trans ((below_regrown X d os).mono hBX.size)) (Y8.regrown d os)).regrown_of
        unfold c4 at kc48 kc51
        have Z12 := Lib.hid Y12
        have Z14 := Lib.hid Y14
        have ZB := Lib.hid YB
        have HM := Lib.hid (maxW_snoc wd x0 x (l.take j))
        clear Y12 Y14 YB Y8 hBX e0 e1 e2 e3 hz
        by_cases hw : wd b < wd x
        all_goals
          refine wp_region_quiet_below (by kernel_rfl) (by kernel_rfl) ?_
          repeat ((with_reducible refine wpQuiet_step (fun K hK => ?_)); go_simp; first | ((with_reducible refine hK _ ?_); clear hK K) | (apply Exists.intro; refine ⟨fun _ => ?_, hK _ ?_⟩; (first | (go_at_call 108; with_reducible exact kc48 _ _) | (go_at_call 108; with_reducible exact kc51 _ _)); clear hK K))
          with_reducible refine wpQuiet_nil ?_
          intro u2 hw'
          obtain ⟨⟨dq, osq⟩, hw''⟩ := hw'
          have hb2 : Below X.heap.size X u2 := by rw [hw'']; exact below_regrown X dq osq
          clear hw'' rd14 rd12 kc48 kc51
          have U12 := Z12.out.below hb2
          have U14 := Z14.out.below hb2
          have UB : Below w2.heap.size w2 u2 := ZB.out.trans (hb2.mono ZB.out.size)
          clear hb2 Z12 Z14 ZB
        · have c14 := U14.2.1
          have l14 := U14.1
          have c12 := U12.2.1
          have l12 := U12.1
          have f12 := U12.2.2
          have V12 := ((((U12.setCell (i := 0) (by simp) (.int .i64 x.1.1)).setCell (i := 1) (by simp) (.int .i64 x.1.2)).setCell (i := 2) (by simp) (.int .i64 x.2.1)).setCell (i := 3) (by simp) (.int .i64 x.2.2))
          have VB := (((UB.setCell (p := ⟨w2.heap.size, 0, none⟩) (Nat.le_refl _) (.int .i64 x.1.1)).setCell (p := ⟨w2.heap.size, 1, none⟩) (Nat.le_refl _) (.int .i64 x.1.2)).setCell (p := ⟨w2.heap.size, 2, none⟩) (Nat.le_refl _) (.int .i64 x.2.1)).setCell (p := ⟨w2.heap.size, 3, none⟩) (Nat.le_refl _) (.int .i64 x.2.2)
          have HV := Lib.hid (And.intro V12 VB)
          clear V12 VB UB
          go_wp2
          go_roundw
          case rel => exact ⟨j + 1, by omega, by go_num, by
            rw [HT.out, HM.out, HBb.out, if_pos hw]
            exact HV.out.1, HV.out.2⟩
          case measure => simp [intOf]; omega
        · go_wp2
          go_roundw
          case rel => exact ⟨j + 1, by omega, by go_num, by
            rw [HT.out, HM.out, HBb.out, if_neg hw]
            exact U12, UB⟩
          case measure => simp [intOf]; omega
      · have hj' : j = l.length := by omega
        have HE : Hid (maxW wd x0 l = b) := by
          show _ = _
          rw [← HBb.out, hj', List.take_of_length_le (Nat.le_refl _)]
        have B6 := B6'.out.below hB
        have c6 := B6.2.1
        have l6 := B6.1
        have f6 := B6.2.2
        unfold c4 at X12
        have c12 := X12.2.1
        have l12 := X12.1
        have hBw : Below w.heap.size w wr := HBk.out.trans (hB.mono HBk.out.size)
        clear hj' hB
        go_wp2
        refine bodyPost_ret (v := .tuple #[.agg (c4 b), .int .i64 0]) (by simp [results, Try.results47, go_sem, c6, l6, c4]) rfl ⟨by rw [HE.out], by go_grown⟩

end Go.Proofs.Ytpmeahmjmpgbfaa
