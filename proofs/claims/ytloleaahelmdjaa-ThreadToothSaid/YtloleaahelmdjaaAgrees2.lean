/- Contracts of (shape).agrees, whole, and of validSeen. -/
import Derived.Test.YtloleaahelmdjaaAgrees
namespace Go.Proofs.Ytloleaahelmdjaa
open Go.RowKit Go.Shelf
set_option linter.unusedSimpArgs false
set_option linter.unusedVariables false

set_option maxRecDepth 100000 in
set_option maxHeartbeats 1000000 in
theorem agrees_no (f : Form) (x1 x2 : Int) (q : Seen) (w : World) (hq : (q.hd != 0) = true) (hq2 : (q.hd != handN f.h) = true) :
    Calls Try.prog 57 #[.agg (shapeCells f x1 x2), .agg q.cells] w fun e w' => e = .returned (.bool false) ∧ Below w.heap.size w w' := by
  unfold shapeCells Seen.cells
  go_enter Try.func57, Try.ntmps57
  go_wp2
  refine bodyPost_ret (v := .bool false) (by simp [results, Try.results57, go_sem]) rfl ⟨rfl, by go_grown⟩

theorem agrees_any (f : Form) (x1 x2 : Int) (q : Seen) (w : World) :
    Calls Try.prog 57 #[.agg (shapeCells f x1 x2), .agg q.cells] w fun e w' => e = .returned (.bool (agreesB f q)) ∧ Below w.heap.size w w' := by
  unfold agreesB
  cases h1 : (q.hd != 0)
  · simpa using agrees_loop f x1 x2 q w (.inl h1)
  · cases h2 : (q.hd != handN f.h)
    · simpa using agrees_loop f x1 x2 q w (.inr ⟨h1, h2⟩)
    · simpa using agrees_no f x1 x2 q w h1 h2

/-- Whether what was seen is valid. -/
def seenL (q : Seen) : List (Int × Int) := [(q.p0, q.p1), (q.l0, q.l1), (q.r0, q.r1), (q.a0, q.a1), (q.b0, q.b1), (q.s0, q.s1), (q.t0, q.t1)]
def okS (x : Int × Int) : Bool := vspan x.1 x.2 0 10000000
def seenB (q : Seen) : Bool := (seenL q).all okS && inB 0 2 q.hd

theorem seenB_no {q : Seen} {x : Int × Int} (hx : x ∈ seenL q) (h : okS x = false) : seenB q = false := by
  have : (seenL q).all okS = false := List.all_eq_false.2 ⟨x, hx, by simp [h]⟩
  unfold seenB
  rw [this]
  rfl

theorem seenB_yes {q : Seen} (h : ∀ j, j < 7 → okS ((seenL q)[j]?.getD (0, 0)) = true) : seenB q = inB 0 2 q.hd := by
  have : (seenL q).all okS = true := by
    rw [List.all_eq_true]
    intro x hx
    obtain ⟨j, hj, rfl⟩ := List.getElem_of_mem hx
    have := h j (by simpa [seenL] using hj)
    rwa [List.getElem?_eq_getElem hj] at this
  unfold seenB
  rw [this]
  rfl

theorem grow_all {q : Seen} {k : Nat} (h : Hid (∀ j, j < k → okS ((seenL q)[j]?.getD (0, 0)) = true)) (hk : okS ((seenL q)[k]?.getD (0, 0)) = true) : Hid (∀ j, j < k + 1 → okS ((seenL q)[j]?.getD (0, 0)) = true) := by
  intro j hj
  by_cases e : j = k
  · subst e; exact hk
  · exact h.out j (by omega)

set_option maxRecDepth 100000 in
set_option maxHeartbeats 4000000 in
theorem validSeen_any (q : Seen) (w : World) :
    Calls Try.prog 56 #[.agg q.cells] w fun e w' => e = .returned (.bool (seenB q)) ∧ Below w.heap.size w w' := by
  have hz := fun y : Int × Int => validSpan_any y.1 y.2 0 10000000
  have HV := Lib.hid hz
  clear hz
  unfold Seen.cells
  go_enter Try.func56, Try.ntmps56
  go_wp2_with fail
  refine (spans_any q.p0 q.p1 q.l0 q.l1 q.r0 q.r1 q.a0 q.a1 q.b0 q.b1 q.s0 q.s1 q.t0 q.t1 q.hd _).mono ?_
  rintro e w1 ⟨rfl, hb1⟩
  have B1 : Box w1 w.heap.size _ := (Box.new w _ _).below hb1
  have hB1 : Below w.heap.size w w1 := stepB (by go_grown) hb1
  clear hb1
  go_wp2
  go_loopw [4, 7] (fun _ i wr => ∃ k : Int, 0 ≤ k ∧ k ≤ 7 ∧ i = .int .i64 k ∧ Hid (∀ j, j < k.toNat → okS ((seenL q)[j]?.getD (0, 0)) = true) ∧ Below w.heap.size w wr ∧ Box wr w.heap.size q.cells) (fun _ i _ => 7 - (intOf i).toNat)
  case atStart => exact ⟨0, by omega, by omega, rfl, fun j hj => absurd hj (by simp), hB1, B1⟩
  case round =>
    clear hB1 B1
    obtain ⟨k, hk0, hk, rfl, hA, hB, B⟩ := hrel
    have hs := hB.size
    by_cases hlt : k < 7
    · have hk7 : k = 0 ∨ k = 1 ∨ k = 2 ∨ k = 3 ∨ k = 4 ∨ k = 5 ∨ k = 6 := by omega
      rcases hk7 with rfl | rfl | rfl | rfl | rfl | rfl | rfl
      · have ix : ∀ w, (Instr.index 113 (.agg #[.int .i64 q.p0, .int .i64 q.p1, .int .i64 q.l0, .int .i64 q.l1, .int .i64 q.r0, .int .i64 q.r1, .int .i64 q.a0, .int .i64 q.a1, .int .i64 q.b0, .int .i64 q.b1, .int .i64 q.s0, .int .i64 q.s1, .int .i64 q.t0, .int .i64 q.t1]) (.int .i64 0)).run Try.prog w = .ok (.agg #[.int .i64 q.p0, .int .i64 q.p1]) w := fun _ => by kernel_rfl
        go_wp2_with fail
        refine (HV.out (q.p0, q.p1) _).mono ?_
        rintro e w2 ⟨rfl, hb2⟩
        have hB2 : Below w.heap.size w w2 := stepB (by go_grown) hb2
        have B2 := (B.alloc _).below hb2
        clear ix hb2
        cases ho : vspan q.p0 q.p1 0 10000000
        · have hn := seenB_no (q := q) (x := (q.p0, q.p1)) (by simp [seenL]) ho
          have HN := Lib.hid hn
          clear hn
          simp only [ho]
          clear ho
          go_wp2
          go_returns
          exact ⟨ret_bool HN.out.symm, hB2⟩
        · have hA' := grow_all (k := 0) hA ho
          simp only [ho]
          clear ho hA
          go_wp2
          go_roundw
          case rel => exact ⟨1, by omega, by omega, by first | rfl | simp, hA', hB2, B2⟩
          case measure => simp [intOf]
      · have ix : ∀ w, (Instr.index 113 (.agg #[.int .i64 q.p0, .int .i64 q.p1, .int .i64 q.l0, .int .i64 q.l1, .int .i64 q.r0, .int .i64 q.r1, .int .i64 q.a0, .int .i64 q.a1, .int .i64 q.b0, .int .i64 q.b1, .int .i64 q.s0, .int .i64 q.s1, .int .i64 q.t0, .int .i64 q.t1]) (.int .i64 1)).run Try.prog w = .ok (.agg #[.int .i64 q.l0, .int .i64 q.l1]) w := fun _ => by kernel_rfl
        go_wp2_with fail
        refine (HV.out (q.l0, q.l1) _).mono ?_
        rintro e w2 ⟨rfl, hb2⟩
        have hB2 : Below w.heap.size w w2 := stepB (by go_grown) hb2
        have B2 := (B.alloc _).below hb2
        clear ix hb2
        cases ho : vspan q.l0 q.l1 0 10000000
        · have hn := seenB_no (q := q) (x := (q.l0, q.l1)) (by simp [seenL]) ho
          have HN := Lib.hid hn
          clear hn
          simp only [ho]
          clear ho
          go_wp2
          go_returns
          exact ⟨ret_bool HN.out.symm, hB2⟩
        · have hA' := grow_all (k := 1) hA ho
          simp only [ho]
          clear ho hA
          go_wp2
          go_roundw
          case rel => exact ⟨2, by omega, by omega, by first | rfl | simp, hA', hB2, B2⟩
          case measure => simp [intOf]
      · have ix : ∀ w, (Instr.index 113 (.agg #[.int .i64 q.p0, .int .i64 q.p1, .int .i64 q.l0, .int .i64 q.l1, .int .i64 q.r0, .int .i64 q.r1, .int .i64 q.a0, .int .i64 q.a1, .int .i64 q.b0, .int .i64 q.b1, .int .i64 q.s0, .int .i64 q.s1, .int .i64 q.t0, .int .i64 q.t1]) (.int .i64 2)).run Try.prog w = .ok (.agg #[.int .i64 q.r0, .int .i64 q.r1]) w := fun _ => by kernel_rfl
        go_wp2_with fail
        refine (HV.out (q.r0, q.r1) _).mono ?_
        rintro e w2 ⟨rfl, hb2⟩
        have hB2 : Below w.heap.size w w2 := stepB (by go_grown) hb2
        have B2 := (B.alloc _).below hb2
        clear ix hb2
        cases ho : vspan q.r0 q.r1 0 10000000
        · have hn := seenB_no (q := q) (x := (q.r0, q.r1)) (by simp [seenL]) ho
          have HN := Lib.hid hn
          clear hn
          simp only [ho]
          clear ho
          go_wp2
          go_returns
          exact ⟨ret_bool HN.out.symm, hB2⟩
        · have hA' := grow_all (k := 2) hA ho
          simp only [ho]
          clear ho hA
          go_wp2
          go_roundw
          case rel => exact ⟨3, by omega, by omega, by first | rfl | simp, hA', hB2, B2⟩
          case measure => simp [intOf]
      · have ix : ∀ w, (Instr.index 113 (.agg #[.int .i64 q.p0, .int .i64 q.p1, .int .i64 q.l0, .int .i64 q.l1, .int .i64 q.r0, .int .i64 q.r1, .int .i64 q.a0, .int .i64 q.a1, .int .i64 q.b0, .int .i64 q.b1, .int .i64 q.s0, .int .i64 q.s1, .int .i64 q.t0, .int .i64 q.t1]) (.int .i64 3)).run Try.prog w = .ok (.agg #[.int .i64 q.a0, .int .i64 q.a1]) w := fun _ => by kernel_rfl
        go_wp2_with fail
        refine (HV.out (q.a0, q.a1) _).mono ?_
        rintro e w2 ⟨rfl, hb2⟩
        have hB2 : Below w.heap.size w w2 := stepB (by go_grown) hb2
        have B2 := (B.alloc _).below hb2
        clear ix hb2
        cases ho : vspan q.a0 q.a1 0 10000000
        · have hn := seenB_no (q := q) (x := (q.a0, q.a1)) (by simp [seenL]) ho
          have HN := Lib.hid hn
          clear hn
          simp only [ho]
          clear ho
          go_wp2
          go_returns
          exact ⟨ret_bool HN.out.symm, hB2⟩
        · have hA' := grow_all (k := 3) hA ho
          simp only [ho]
          clear ho hA
          go_wp2
          go_roundw
          case rel => exact ⟨4, by omega, by omega, by first | rfl | simp, hA', hB2, B2⟩
          case measure => simp [intOf]
      · have ix : ∀ w, (Instr.index 113 (.agg #[.int .i64 q.p0, .int .i64 q.p1, .int .i64 q.l0, .int .i64 q.l1, .int .i64 q.r0, .int .i64 q.r1, .int .i64 q.a0, .int .i64 q.a1, .int .i64 q.b0, .int .i64 q.b1, .int .i64 q.s0, .int .i64 q.s1, .int .i64 q.t0, .int .i64 q.t1]) (.int .i64 4)).run Try.prog w = .ok (.agg #[.int .i64 q.b0, .int .i64 q.b1]) w := fun _ => by kernel_rfl
        go_wp2_with fail
        refine (HV.out (q.b0, q.b1) _).mono ?_
        rintro e w2 ⟨rfl, hb2⟩
        have hB2 : Below w.heap.size w w2 := stepB (by go_grown) hb2
        have B2 := (B.alloc _).below hb2
        clear ix hb2
        cases ho : vspan q.b0 q.b1 0 10000000
        · have hn := seenB_no (q := q) (x := (q.b0, q.b1)) (by simp [seenL]) ho
          have HN := Lib.hid hn
          clear hn
          simp only [ho]
          clear ho
          go_wp2
          go_returns
          exact ⟨ret_bool HN.out.symm, hB2⟩
        · have hA' := grow_all (k := 4) hA ho
          simp only [ho]
          clear ho hA
          go_wp2
          go_roundw
          case rel => exact ⟨5, by omega, by omega, by first | rfl | simp, hA', hB2, B2⟩
          case measure => simp [intOf]
      · have ix : ∀ w, (Instr.index 113 (.agg #[.int .i64 q.p0, .int .i64 q.p1, .int .i64 q.l0, .int .i64 q.l1, .int .i64 q.r0, .int .i64 q.r1, .int .i64 q.a0, .int .i64 q.a1, .int .i64 q.b0, .int .i64 q.b1, .int .i64 q.s0, .int .i64 q.s1, .int .i64 q.t0, .int .i64 q.t1]) (.int .i64 5)).run Try.prog w = .ok (.agg #[.int .i64 q.s0, .int .i64 q.s1]) w := fun _ => by kernel_rfl
        go_wp2_with fail
        refine (HV.out (q.s0, q.s1) _).mono ?_
        rintro e w2 ⟨rfl, hb2⟩
        have hB2 : Below w.heap.size w w2 := stepB (by go_grown) hb2
        have B2 := (B.alloc _).below hb2
        clear ix hb2
        cases ho : vspan q.s0 q.s1 0 10000000
        · have hn := seenB_no (q := q) (x := (q.s0, q.s1)) (by simp [seenL]) ho
          have HN := Lib.hid hn
          clear hn
          simp only [ho]
          clear ho
          go_wp2
          go_returns
          exact ⟨ret_bool HN.out.symm, hB2⟩
        · have hA' := grow_all (k := 5) hA ho
          simp only [ho]
          clear ho hA
          go_wp2
          go_roundw
          case rel => exact ⟨6, by omega, by omega, by first | rfl | simp, hA', hB2, B2⟩
          case measure => simp [intOf]
      · have ix : ∀ w, (Instr.index 113 (.agg #[.int .i64 q.p0, .int .i64 q.p1, .int .i64 q.l0, .int .i64 q.l1, .int .i64 q.r0, .int .i64 q.r1, .int .i64 q.a0, .int .i64 q.a1, .int .i64 q.b0, .int .i64 q.b1, .int .i64 q.s0, .int .i64 q.s1, .int .i64 q.t0, .int .i64 q.t1]) (.int .i64 6)).run Try.prog w = .ok (.agg #[.int .i64 q.t0, .int .i64 q.t1]) w := fun _ => by kernel_rfl
        go_wp2_with fail
        refine (HV.out (q.t0, q.t1) _).mono ?_
        rintro e w2 ⟨rfl, hb2⟩
        have hB2 : Below w.heap.size w w2 := stepB (by go_grown) hb2
        have B2 := (B.alloc _).below hb2
        clear ix hb2
        cases ho : vspan q.t0 q.t1 0 10000000
        · have hn := seenB_no (q := q) (x := (q.t0, q.t1)) (by simp [seenL]) ho
          have HN := Lib.hid hn
          clear hn
          simp only [ho]
          clear ho
          go_wp2
          go_returns
          exact ⟨ret_bool HN.out.symm, hB2⟩
        · have hA' := grow_all (k := 6) hA ho
          simp only [ho]
          clear ho hA
          go_wp2
          go_roundw
          case rel => exact ⟨7, by omega, by omega, by first | rfl | simp, hA', hB2, B2⟩
          case measure => simp [intOf]
    · obtain rfl : k = 7 := by omega
      have hh := seenB_yes hA.out
      have HH := Lib.hid hh
      have c0 := B.2.1
      have hz := B.1
      unfold Seen.cells at c0
      clear hh hA
      go_wp2_with fail
      refine (allFrom1 _ _ q.hd _ _ _ (by simp) (by go_cell)).mono ?_
      rintro e w2 ⟨rfl, hb2⟩
      have hB2 : Below w.heap.size w w2 := stepB (by go_grown) hb2
      clear c0 hb2
      go_wp2
      go_returns
      exact ⟨ret_bool (by rw [HH.out]; simp [allB]), hB2⟩
end Go.Proofs.Ytloleaahelmdjaa
