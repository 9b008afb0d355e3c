/- Contracts of zone.hasClasses. Made by tools/gen_zcheck.py. -/
import Derived.Test.YtpmeahmjmpgbfaaZCheck
namespace Go.Proofs.Ytpmeahmjmpgbfaa
open Go.RowKit
set_option linter.unusedVariables false
set_option linter.unusedSimpArgs false

set_option maxRecDepth 100000 in
set_option maxHeartbeats 2000000 in
theorem hasC_0 (w : World) (pl gr : Int) (p : Nat) (ss : List Int) (gs ps : List (List Int)) (sa ga pa : Option Addr) (sc gc pc : Nat) (m1 : ss.length ≤ 4611686018427387904) (m2 : gs.length ≤ 4611686018427387904) (m3 : ps.length ≤ 4611686018427387904) (X1 : Box w p #[.slice sa ss.length sc, .slice ga gs.length gc, .slice pa ps.length pc]) (h1 : allB 0 ((ps.length : Int) - 1) [pl] = false) :
    Calls Try.prog 139 #[.agg #[.int .i64 pl, .int .i64 gr], .pointer (some ⟨p, 0, none⟩)] w fun e w' => e = .returned (.bool true) ∧ Below w.heap.size w w' := by
  have cc1 := X1.2.1
  have ll1 := X1.1
  go_enter Try.func139, Try.ntmps139
  go_wp2_with fail
  refine (allFrom1 _ _ pl _ _ _ (by simp) (by go_cell)).mono ?_
  rintro e w1 ⟨rfl, hb1⟩
  have hB1 : Below w.heap.size w w1 := stepB (by go_grown) hb1
  have hs1 := hB1.size
  clear hb1 X1 cc1 ll1
  rw [h1]
  go_wp2
  go_returns
  exact ⟨rfl, hB1⟩

set_option maxRecDepth 100000 in
set_option maxHeartbeats 2000000 in
theorem hasC_false (w : World) (pl gr : Int) (p : Nat) (ss : List Int) (gs ps : List (List Int)) (sa ga pa : Option Addr) (sc gc pc : Nat) (m1 : ss.length ≤ 4611686018427387904) (m2 : gs.length ≤ 4611686018427387904) (m3 : ps.length ≤ 4611686018427387904) (X1 : Box w p #[.slice sa ss.length sc, .slice ga gs.length gc, .slice pa ps.length pc]) (h1 : allB 0 ((ps.length : Int) - 1) [pl] = true) (h2 : allB 0 ((gs.length : Int) - 1) [gr] = false) :
    Calls Try.prog 139 #[.agg #[.int .i64 pl, .int .i64 gr], .pointer (some ⟨p, 0, none⟩)] w fun e w' => e = .returned (.bool true) ∧ Below w.heap.size w w' := by
  have cc1 := X1.2.1
  have ll1 := X1.1
  go_enter Try.func139, Try.ntmps139
  go_wp2_with fail
  refine (allFrom1 _ _ pl _ _ _ (by simp) (by go_cell)).mono ?_
  rintro e w1 ⟨rfl, hb1⟩
  have Xb1_1 : Box w1 p #[.slice sa ss.length sc, .slice ga gs.length gc, .slice pa ps.length pc] := Box.below (Box.alloc (Box.alloc X1 _) _) hb1
  have Xb2_1 : Box w1 w.heap.size #[.int .i64 pl, .int .i64 gr] := Box.below (Box.alloc (Box.new w _ _) _) hb1
  have hB1 : Below w.heap.size w w1 := stepB (by go_grown) hb1
  have hs1 := hB1.size
  clear hb1 X1 cc1 ll1
  have cc1 := Xb1_1.2.1
  have ll1 := Xb1_1.1
  have cc2 := Xb2_1.2.1
  have ll2 := Xb2_1.1
  rw [h1]
  go_wp2_with fail
  refine (allFrom1 _ _ gr _ _ _ (by simp) (by go_cell)).mono ?_
  rintro e w2 ⟨rfl, hb2⟩
  have hB2 : Below w.heap.size w w2 := stepB (by go_grown) hb2
  have hs2 := hB2.size
  clear hb2 hB1 hs1 Xb1_1 Xb2_1 cc1 ll1 cc2 ll2
  rw [h2]
  go_wp2
  go_returns
  exact ⟨rfl, hB2⟩

set_option maxRecDepth 100000 in
set_option maxHeartbeats 2000000 in
theorem hasC_true (w : World) (pl gr : Int) (p : Nat) (ss : List Int) (gs ps : List (List Int)) (sa ga pa : Option Addr) (sc gc pc : Nat) (m1 : ss.length ≤ 4611686018427387904) (m2 : gs.length ≤ 4611686018427387904) (m3 : ps.length ≤ 4611686018427387904) (X1 : Box w p #[.slice sa ss.length sc, .slice ga gs.length gc, .slice pa ps.length pc]) (h1 : allB 0 ((ps.length : Int) - 1) [pl] = true) (h2 : allB 0 ((gs.length : Int) - 1) [gr] = true) :
    Calls Try.prog 139 #[.agg #[.int .i64 pl, .int .i64 gr], .pointer (some ⟨p, 0, none⟩)] w fun e w' => e = .returned (.bool false) ∧ Below w.heap.size w w' := by
  have cc1 := X1.2.1
  have ll1 := X1.1
  go_enter Try.func139, Try.ntmps139
  go_wp2_with fail
  refine (allFrom1 _ _ pl _ _ _ (by simp) (by go_cell)).mono ?_
  rintro e w1 ⟨rfl, hb1⟩
  have Xb1_1 : Box w1 p #[.slice sa ss.length sc, .slice ga gs.length gc, .slice pa ps.length pc] := Box.below (Box.alloc (Box.alloc X1 _) _) hb1
  have Xb2_1 : Box w1 w.heap.size #[.int .i64 pl, .int .i64 gr] := Box.below (Box.alloc (Box.new w _ _) _) hb1
  have hB1 : Below w.heap.size w w1 := stepB (by go_grown) hb1
  have hs1 := hB1.size
  clear hb1 X1 cc1 ll1
  have cc1 := Xb1_1.2.1
  have ll1 := Xb1_1.1
  have cc2 := Xb2_1.2.1
  have ll2 := Xb2_1.1
  rw [h1]
  go_wp2_with fail
  refine (allFrom1 _ _ gr _ _ _ (by simp) (by go_cell)).mono ?_
  rintro e w2 ⟨rfl, hb2⟩
  have hB2 : Below w.heap.size w w2 := stepB (by go_grown) hb2
  have hs2 := hB2.size
  clear hb2 hB1 hs1 Xb1_1 Xb2_1 cc1 ll1 cc2 ll2
  rw [h2]
  go_wp2
  go_returns
  exact ⟨rfl, hB2⟩

/-- Whether the numbers of a class are those of a place and of a grade. -/
def classB (gs ps : List (List Int)) (c : Int × Int) : Bool := allB 0 ((ps.length : Int) - 1) [c.1] && allB 0 ((gs.length : Int) - 1) [c.2]
theorem classB_iff (gs ps : List (List Int)) (c : Int × Int) : classB gs ps c = true ↔ (0 ≤ c.1 ∧ c.1 < ps.length) ∧ (0 ≤ c.2 ∧ c.2 < gs.length) := by
  simp [classB, allB, inB]
  omega

theorem hasC_any (w : World) (pl gr : Int) (p : Nat) (ss : List Int) (gs ps : List (List Int)) (sa ga pa : Option Addr) (sc gc pc : Nat) (m1 : ss.length ≤ 4611686018427387904) (m2 : gs.length ≤ 4611686018427387904) (m3 : ps.length ≤ 4611686018427387904) (X1 : Box w p #[.slice sa ss.length sc, .slice ga gs.length gc, .slice pa ps.length pc]) :
    Calls Try.prog 139 #[.agg #[.int .i64 pl, .int .i64 gr], .pointer (some ⟨p, 0, none⟩)] w fun e w' => e = .returned (.bool (!classB gs ps (pl, gr))) ∧ Below w.heap.size w w' := by
  unfold classB
  cases h1 : allB 0 ((ps.length : Int) - 1) [pl]
  · exact hasC_0 w pl gr p ss gs ps sa ga pa sc gc pc m1 m2 m3 X1 h1
  · cases h2 : allB 0 ((gs.length : Int) - 1) [gr]
    · exact hasC_false w pl gr p ss gs ps sa ga pa sc gc pc m1 m2 m3 X1 h1 h2
    · exact hasC_true w pl gr p ss gs ps sa ga pa sc gc pc m1 m2 m3 X1 h1 h2

theorem any_not_all {α : Type} (q : α → Bool) (l : List α) : (l.any fun x => !q x) = !l.all q := by
  induction l with
  | nil => rfl
  | cons z l ih => simp only [List.any_cons, List.all_cons, ih]; cases q z <;> simp

set_option maxHeartbeats 1000000 in
theorem hasClasses_any (w : World) (cs : List (Int × Int)) (b cap : Nat) (ss : List Int) (gs ps : List (List Int)) (sa ga pa : Option Addr) (sc gc pc : Nat) (m1 : ss.length ≤ 4611686018427387904) (m2 : gs.length ≤ 4611686018427387904) (m3 : ps.length ≤ 4611686018427387904) (hb : b < w.heap.size) (hc : PairsIn w b cs) (hm : cs.length ≤ 4611686018427387904) :
    Calls Try.prog 94 #[.agg #[.slice sa ss.length sc, .slice ga gs.length gc, .slice pa ps.length pc], .slice (some ⟨b, 0, none⟩) cs.length cap] w fun e w' => e = .returned (.bool (cs.all (classB gs ps))) ∧ Below w.heap.size w w' := by
  have HZ := Lib.hid hc
  have HQ := Lib.hid (any_not_all (classB gs ps) cs)
  clear hc
  obtain ⟨y, hy⟩ : ∃ y, cs.all (classB gs ps) = y := ⟨_, rfl⟩
  rw [hy]
  have HY := Lib.hid hy
  clear hy
  go_enter Try.func94, Try.ntmps94
  go_wp2_with fail
  refine (classes_contains (fun c => !classB gs ps c) _ cs b cap _ hm (by simp; omega) (fun i x hx => ?_) ?_).mono ?_
  · have h := HZ.out i x hx
    have hB : Below w.heap.size w (w.alloc (.cells #[.slice sa ss.length sc, .slice ga gs.length gc, .slice pa ps.length pc] 63)) := by go_grown
    exact ⟨(hB.cell (p := ⟨b, i * 2, none⟩) hb).trans h.1, (hB.cell (p := ⟨b, i * 2 + 1, none⟩) hb).trans h.2⟩
  · intro W x hB _
    exact hasC_any W x.1 x.2 _ ss gs ps sa ga pa sc gc pc m1 m2 m3 (Box.below (Box.new w _ _) hB)
  rintro e w1 ⟨rfl, hb1⟩
  rw [HQ.out, HY.out]
  have hB : Below w.heap.size w w1 := stepB (by go_grown) hb1
  clear hb1
  go_wp2
  go_returns
  exact ⟨ret_bool (by simp), hB⟩

end Go.Proofs.Ytpmeahmjmpgbfaa
