/- Contracts of zone.fullRows, validRows and Check. Made by tools/gen_zrows.py. -/
import Derived.Test.YtpmeahmjmpgbfaaZCheck1
import Derived.Laws.EntriesVeiled
namespace Go.Proofs.Ytpmeahmjmpgbfaa
open Go.RowKit
set_option linter.unusedVariables false
set_option linter.unusedSimpArgs false

theorem bothRows_any (ss : List Int) (gs ps : List (List Int)) (sa ga pa : Option Addr) (sc gc pc : Nat) (w : World) :
    Calls Try.prog 134 #[.agg #[.slice sa ss.length sc, .slice ga gs.length gc, .slice pa ps.length pc]] w fun e w' => e = .returned (.agg #[.slice ga gs.length gc, .slice pa ps.length pc]) ∧ Below w.heap.size w w' := by
  go_enter Try.func134, Try.ntmps134
  go_wp2
  refine bodyPost_ret (v := .agg #[.slice ga gs.length gc, .slice pa ps.length pc]) (by simp [results, Try.results134, go_sem]) rfl ⟨rfl, by go_grown⟩

theorem full1_cl (ss zs : List Int) (sa a : Option Addr) (sc cap p : Nat) (w : World) (m1 : ss.length ≤ 4611686018427387904) (m2 : zs.length ≤ 4611686018427387904) (hp : w.cell? ⟨p, 0, none⟩ = some (.slice sa ss.length sc)) :
    Calls Try.prog 135 #[.slice a zs.length cap, .pointer (some ⟨p, 0, none⟩)] w fun e w' => e = .returned (.bool (!decide (zs.length = ss.length))) ∧ Below w.heap.size w w' := by
  by_cases h : zs.length = ss.length
  · have h1 : (((zs.length : Int)) == (ss.length : Int)) = true := by rw [h]; simp
    have h2 : (((zs.length : Int)) != (ss.length : Int)) = false := by rw [h]; simp
    rw [decide_eq_true h]
    clear h
    go_enter Try.func135, Try.ntmps135
    go_wp2
    go_returns
    exact ⟨rfl, Below.refl _ _⟩
  · have h1 : (((zs.length : Int)) == (ss.length : Int)) = false := by simp; omega
    have h2 : (((zs.length : Int)) != (ss.length : Int)) = true := by simp; omega
    rw [decide_eq_false h]
    clear h
    go_enter Try.func135, Try.ntmps135
    go_wp2
    go_returns
    exact ⟨rfl, Below.refl _ _⟩

theorem any_not_all' {α : Type} (q : α → Bool) (l : List α) : (l.any fun x => !q x) = !l.all q := by
  induction l with
  | nil => rfl
  | cons z l ih => simp only [List.any_cons, List.all_cons, ih]; cases q z <;> simp

def lenB (ss zs : List Int) : Bool := decide (zs.length = ss.length)
/-- Whether each row has as many numbers as there are steps. -/
def fullB (ss : List Int) (gs ps : List (List Int)) : Bool := gs.all (lenB ss) && ps.all (lenB ss)

set_option maxRecDepth 100000 in
set_option maxHeartbeats 2000000 in
theorem full_0 (ss : List Int) (gs ps : List (List Int)) (sa ga pa : Option Addr) (sc gc pc : Nat) (w : World) (m1 : ss.length ≤ 4611686018427387904) (m2 : gs.length ≤ 4611686018427387904) (m3 : ps.length ≤ 4611686018427387904) (hs : SlA IntE w sa ss) (hg : SlA IntsAt w ga gs) (hp : SlA IntsAt w pa ps) (h1 : gs.all (lenB ss) = false) :
    Calls Try.prog 91 #[.agg #[.slice sa ss.length sc, .slice ga gs.length gc, .slice pa ps.length pc]] w fun e w' => e = .returned (.bool false) ∧ Below w.heap.size w w' := by
  have HG := Lib.hid hg
  have HP := Lib.hid hp
  have HA1 := Lib.hid (any_not_all' (lenB ss) gs)
  have HA2 := Lib.hid (any_not_all' (lenB ss) ps)
  clear hs hg hp
  have G1 := Lib.hid h1
  clear h1
  have ix0 : ∀ W : World, (Instr.index 199 (.agg #[.slice ga gs.length gc, .slice pa ps.length pc]) (.int .i64 0)).run Try.prog W = .ok (.slice ga gs.length gc) W := fun _ => by kernel_rfl
  have ix1 : ∀ W : World, (Instr.index 199 (.agg #[.slice ga gs.length gc, .slice pa ps.length pc]) (.int .i64 1)).run Try.prog W = .ok (.slice pa ps.length pc) W := fun _ => by kernel_rfl
  go_enter Try.func91, Try.ntmps91
  go_wp2_with fail
  refine (bothRows_any ss gs ps sa ga pa sc gc pc _).mono ?_
  rintro e w1 ⟨rfl, hb1⟩
  have Xb1 : Box w1 w.heap.size #[.slice sa ss.length sc, .slice ga gs.length gc, .slice pa ps.length pc] := Box.below (Box.new w _ _) hb1
  have hB1 : Below w.heap.size w w1 := stepB (by go_grown) hb1
  clear hb1
  go_wp2
  refine wp_loop_rounds 3 ?_
  rw [rounds_succ]
  go_wp2_with fail
  refine (full1_contains IntsAt (fun zs => !lenB ss zs) w.heap.size gs ga gc _ ints_stable (by assumption) (HG.out.below ints_stable hB1) ?_).mono ?_
  · rintro W u x hW ⟨a', cap', rfl, hl, _⟩ _
    exact full1_cl ss x sa a' sc cap' _ W m1 hl ((Xb1.below hW).cell0)
  rintro e w2 ⟨rfl, hb2⟩
  rw [HA1.out, G1.out]
  have Xb2 := Xb1.below hb2
  have hB2 : Below w.heap.size w w2 := stepB hB1 hb2
  clear hb2 Xb1 hB1
  go_wp2
  go_returns
  exact ⟨rfl, by assumption⟩

set_option maxRecDepth 100000 in
set_option maxHeartbeats 2000000 in
theorem full_1 (ss : List Int) (gs ps : List (List Int)) (sa ga pa : Option Addr) (sc gc pc : Nat) (w : World) (m1 : ss.length ≤ 4611686018427387904) (m2 : gs.length ≤ 4611686018427387904) (m3 : ps.length ≤ 4611686018427387904) (hs : SlA IntE w sa ss) (hg : SlA IntsAt w ga gs) (hp : SlA IntsAt w pa ps) (h1 : gs.all (lenB ss) = true) (h2 : ps.all (lenB ss) = false) :
    Calls Try.prog 91 #[.agg #[.slice sa ss.length sc, .slice ga gs.length gc, .slice pa ps.length pc]] w fun e w' => e = .returned (.bool false) ∧ Below w.heap.size w w' := by
  have HG := Lib.hid hg
  have HP := Lib.hid hp
  have HA1 := Lib.hid (any_not_all' (lenB ss) gs)
  have HA2 := Lib.hid (any_not_all' (lenB ss) ps)
  clear hs hg hp
  have G1 := Lib.hid h1
  clear h1
  have G2 := Lib.hid h2
  clear h2
  have ix0 : ∀ W : World, (Instr.index 199 (.agg #[.slice ga gs.length gc, .slice pa ps.length pc]) (.int .i64 0)).run Try.prog W = .ok (.slice ga gs.length gc) W := fun _ => by kernel_rfl
  have ix1 : ∀ W : World, (Instr.index 199 (.agg #[.slice ga gs.length gc, .slice pa ps.length pc]) (.int .i64 1)).run Try.prog W = .ok (.slice pa ps.length pc) W := fun _ => by kernel_rfl
  go_enter Try.func91, Try.ntmps91
  go_wp2_with fail
  refine (bothRows_any ss gs ps sa ga pa sc gc pc _).mono ?_
  rintro e w1 ⟨rfl, hb1⟩
  have Xb1 : Box w1 w.heap.size #[.slice sa ss.length sc, .slice ga gs.length gc, .slice pa ps.length pc] := Box.below (Box.new w _ _) hb1
  have hB1 : Below w.heap.size w w1 := stepB (by go_grown) hb1
  clear hb1
  go_wp2
  refine wp_loop_rounds 3 ?_
  rw [rounds_succ]
  go_wp2_with fail
  refine (full1_contains IntsAt (fun zs => !lenB ss zs) w.heap.size gs ga gc _ ints_stable (by assumption) (HG.out.below ints_stable hB1) ?_).mono ?_
  · rintro W u x hW ⟨a', cap', rfl, hl, _⟩ _
    exact full1_cl ss x sa a' sc cap' _ W m1 hl ((Xb1.below hW).cell0)
  rintro e w2 ⟨rfl, hb2⟩
  rw [HA1.out, G1.out]
  have Xb2 := Xb1.below hb2
  have hB2 : Below w.heap.size w w2 := stepB hB1 hb2
  clear hb2 Xb1 hB1
  go_wp2
  rw [rounds_succ]
  go_wp2_with fail
  refine (full1_contains IntsAt (fun zs => !lenB ss zs) w.heap.size ps pa pc _ ints_stable (by assumption) (HP.out.below ints_stable hB2) ?_).mono ?_
  · rintro W u x hW ⟨a', cap', rfl, hl, _⟩ _
    exact full1_cl ss x sa a' sc cap' _ W m1 hl ((Xb2.below hW).cell0)
  rintro e w3 ⟨rfl, hb3⟩
  rw [HA2.out, G2.out]
  have hB3 : Below w.heap.size w w3 := stepB hB2 hb3
  clear hb3 Xb2 hB2
  go_wp2
  go_returns
  exact ⟨rfl, by assumption⟩

set_option maxRecDepth 100000 in
set_option maxHeartbeats 2000000 in
theorem full_2 (ss : List Int) (gs ps : List (List Int)) (sa ga pa : Option Addr) (sc gc pc : Nat) (w : World) (m1 : ss.length ≤ 4611686018427387904) (m2 : gs.length ≤ 4611686018427387904) (m3 : ps.length ≤ 4611686018427387904) (hs : SlA IntE w sa ss) (hg : SlA IntsAt w ga gs) (hp : SlA IntsAt w pa ps) (h1 : gs.all (lenB ss) = true) (h2 : ps.all (lenB ss) = true) :
    Calls Try.prog 91 #[.agg #[.slice sa ss.length sc, .slice ga gs.length gc, .slice pa ps.length pc]] w fun e w' => e = .returned (.bool true) ∧ Below w.heap.size w w' := by
  have HG := Lib.hid hg
  have HP := Lib.hid hp
  have HA1 := Lib.hid (any_not_all' (lenB ss) gs)
  have HA2 := Lib.hid (any_not_all' (lenB ss) ps)
  clear hs hg hp
  have G1 := Lib.hid h1
  clear h1
  have G2 := Lib.hid h2
  clear h2
  have ix0 : ∀ W : World, (Instr.index 199 (.agg #[.slice ga gs.length gc, .slice pa ps.length pc]) (.int .i64 0)).run Try.prog W = .ok (.slice ga gs.length gc) W := fun _ => by kernel_rfl
  have ix1 : ∀ W : World, (Instr.index 199 (.agg #[.slice ga gs.length gc, .slice pa ps.length pc]) (.int .i64 1)).run Try.prog W = .ok (.slice pa ps.length pc) W := fun _ => by kernel_rfl
  go_enter Try.func91, Try.ntmps91
  go_wp2_with fail
  refine (bothRows_any ss gs ps sa ga pa sc gc pc _).mono ?_
  rintro e w1 ⟨rfl, hb1⟩
  have Xb1 : Box w1 w.heap.size #[.slice sa ss.length sc, .slice ga gs.length gc, .slice pa ps.length pc] := Box.below (Box.new w _ _) hb1
  have hB1 : Below w.heap.size w w1 := stepB (by go_grown) hb1
  clear hb1
  go_wp2
  refine wp_loop_rounds 3 ?_
  rw [rounds_succ]
  go_wp2_with fail
  refine (full1_contains IntsAt (fun zs => !lenB ss zs) w.heap.size gs ga gc _ ints_stable (by assumption) (HG.out.below ints_stable hB1) ?_).mono ?_
  · rintro W u x hW ⟨a', cap', rfl, hl, _⟩ _
    exact full1_cl ss x sa a' sc cap' _ W m1 hl ((Xb1.below hW).cell0)
  rintro e w2 ⟨rfl, hb2⟩
  rw [HA1.out, G1.out]
  have Xb2 := Xb1.below hb2
  have hB2 : Below w.heap.size w w2 := stepB hB1 hb2
  clear hb2 Xb1 hB1
  go_wp2
  rw [rounds_succ]
  go_wp2_with fail
  refine (full1_contains IntsAt (fun zs => !lenB ss zs) w.heap.size ps pa pc _ ints_stable (by assumption) (HP.out.below ints_stable hB2) ?_).mono ?_
  · rintro W u x hW ⟨a', cap', rfl, hl, _⟩ _
    exact full1_cl ss x sa a' sc cap' _ W m1 hl ((Xb2.below hW).cell0)
  rintro e w3 ⟨rfl, hb3⟩
  rw [HA2.out, G2.out]
  have hB3 : Below w.heap.size w w3 := stepB hB2 hb3
  clear hb3 Xb2 hB2
  go_wp2
  rw [rounds_succ]
  go_wp2
  go_returns
  exact ⟨rfl, by assumption⟩

theorem fullRows_any (ss : List Int) (gs ps : List (List Int)) (sa ga pa : Option Addr) (sc gc pc : Nat) (w : World) (m1 : ss.length ≤ 4611686018427387904) (m2 : gs.length ≤ 4611686018427387904) (m3 : ps.length ≤ 4611686018427387904) (hs : SlA IntE w sa ss) (hg : SlA IntsAt w ga gs) (hp : SlA IntsAt w pa ps) :
    Calls Try.prog 91 #[.agg #[.slice sa ss.length sc, .slice ga gs.length gc, .slice pa ps.length pc]] w fun e w' => e = .returned (.bool (fullB ss gs ps)) ∧ Below w.heap.size w w' := by
  unfold fullB
  cases h1 : gs.all (lenB ss)
  · exact full_0 ss gs ps sa ga pa sc gc pc w m1 m2 m3 hs hg hp h1
  · cases h2 : ps.all (lenB ss)
    · exact full_1 ss gs ps sa ga pa sc gc pc w m1 m2 m3 hs hg hp h1 h2
    · exact full_2 ss gs ps sa ga pa sc gc pc w m1 m2 m3 hs hg hp h1 h2

/-- What the maker of a test returns: a test that holds its own lower bound. -/
def MkP (lo : Int) (w : World) (e : Ending) (w' : World) : Prop := e = .returned (.func (.func 137) #[] #[.pointer (some ⟨w.heap.size, 0, none⟩)]) ∧ Below w.heap.size w w' ∧ Box w' w.heap.size #[.int .i64 lo]
theorem mk_any (lo : Int) (w : World) :
    Calls Try.prog 136 #[.int .i64 lo] w (MkP lo w) := by
  go_enter Try.func136, Try.ntmps136
  go_wp2
  go_returns
  exact ⟨rfl, by go_grown, Box.new w _ _⟩

theorem test_any (lo : Int) (zs : List Int) (a : Option Addr) (cap q : Nat) (w : World) (hm : zs.length ≤ 4611686018427387904) (hS : SlA IntE w a zs) (hq : w.cell? ⟨q, 0, none⟩ = some (.int .i64 lo)) :
    Calls Try.prog 137 #[.slice a zs.length cap, .pointer (some ⟨q, 0, none⟩)] w fun e w' => e = .returned (.bool (allB lo 100000 zs)) ∧ Below w.heap.size w w' := by
  have HS := Lib.hid hS
  clear hS
  go_enter Try.func137, Try.ntmps137
  go_wp2_with fail
  refine (allFrom_at lo 100000 zs a cap _ hm HS.out).mono ?_
  rintro e w1 ⟨rfl, hb1⟩
  go_wp2
  go_returns
  exact ⟨rfl, hb1⟩

theorem valid2_cl (lo i : Int) (zs : List Int) (a : Option Addr) (cap p p2 q : Nat) (w : World) (hi : i = 0 ∨ i = 1) (hm : zs.length ≤ 4611686018427387904) (hS : SlA IntE w a zs) (hp2 : w.cell? ⟨p2, 0, none⟩ = some (.int .i64 i))
    (hp : w.cell? ⟨p, i.toNat, none⟩ = some (.func (.func 137) #[] #[.pointer (some ⟨q, 0, none⟩)])) (hq : w.cell? ⟨q, 0, none⟩ = some (.int .i64 lo)) :
    Calls Try.prog 138 #[.slice a zs.length cap, .pointer (some ⟨p, 0, none⟩), .pointer (some ⟨p2, 0, none⟩)] w fun e w' => e = .returned (.bool (!allB lo 100000 zs)) ∧ Below w.heap.size w w' := by
  have HT := Lib.hid (test_any lo zs a cap q w hm hS hq)
  clear hS
  rcases hi with rfl | rfl
  all_goals
    simp only [Int.toNat_zero, Int.toNat_one] at hp
    go_enter Try.func138, Try.ntmps138
    go_wp2_with fail
    refine HT.out.mono ?_
    rintro e w1 ⟨rfl, hb1⟩
    go_wp2
    go_returns
    exact ⟨rfl, hb1⟩

/-- Whether there are rows of each sort, and all their numbers lie in their bounds. -/
def rowsB (gs ps : List (List Int)) : Bool := decide (0 < gs.length) && gs.all (allB 0 100000) && (decide (0 < ps.length) && ps.all (allB (-100000) 100000))

set_option maxRecDepth 100000 in
set_option maxHeartbeats 2000000 in
theorem valid_1 (ss : List Int) (gs ps : List (List Int)) (sa ga pa : Option Addr) (sc gc pc : Nat) (w : World) (m1 : ss.length ≤ 4611686018427387904) (m2 : gs.length ≤ 4611686018427387904) (m3 : ps.length ≤ 4611686018427387904) (hs : SlA IntE w sa ss) (hg : SlA IntsAt w ga gs) (hp : SlA IntsAt w pa ps) (z1 : gs.length = 0) :
    Calls Try.prog 93 #[.agg #[.slice sa ss.length sc, .slice ga gs.length gc, .slice pa ps.length pc]] w fun e w' => e = .returned (.bool false) ∧ Below w.heap.size w w' := by
  have HG := Lib.hid hg
  have HP := Lib.hid hp
  have HA1 := Lib.hid (any_not_all' (allB 0 100000) gs)
  have HA2 := Lib.hid (any_not_all' (allB (-100000) 100000) ps)
  clear hs hg hp
  have ix0 : ∀ W : World, (Instr.index 199 (.agg #[.slice ga gs.length gc, .slice pa ps.length pc]) (.int .i64 0)).run Try.prog W = .ok (.slice ga gs.length gc) W := fun _ => by kernel_rfl
  have ix1 : ∀ W : World, (Instr.index 199 (.agg #[.slice ga gs.length gc, .slice pa ps.length pc]) (.int .i64 1)).run Try.prog W = .ok (.slice pa ps.length pc) W := fun _ => by kernel_rfl
  have l1 : (gs.length : Int) = 0 := by omega
  have l1e : ((gs.length : Int) == 0) = true := beq_iff_eq.2 (by omega)
  clear l1 z1
  go_enter Try.func93, Try.ntmps93
  go_wp2_with fail
  refine (mk_any 0 _).mono ?_
  rintro e w1 ⟨rfl, hb1, Q1⟩
  rw [World.size_alloc] at Q1
  have hB1 : Below w.heap.size w w1 := stepB (by go_grown) hb1
  have Xt1 : Box w1 w.heap.size #[.slice sa ss.length sc, .slice ga gs.length gc, .slice pa ps.length pc] := Box.below (Box.new w _ _) hb1
  clear hb1
  go_wp2_with fail
  refine (mk_any (-100000) _).mono ?_
  rintro e w2 ⟨rfl, hb2, R2⟩
  have hB2 : Below w.heap.size w w2 := stepB hB1 hb2
  have Xt2 := Xt1.below hb2
  have Q2 := Q1.below hb2
  have ct := Xt2.2.1
  have lt := Xt2.1
  clear hb2 Q1 hB1 Xt1
  generalize hr : w1.heap.size = r at *
  have HRr := Lib.hid hr
  clear hr
  go_wp2_with fail
  refine (bothRows_any ss gs ps sa ga pa sc gc pc _).mono ?_
  rintro e w3 ⟨rfl, hb3⟩
  have hB3 : Below w.heap.size w w3 := stepB (by go_grown) hb3
  have Xv3 := Box.below (Box.new w2 #[.func (.func 137) #[] #[.pointer (some ⟨w.heap.size + 1, 0, none⟩)], .func (.func 137) #[] #[.pointer (some ⟨r, 0, none⟩)]] 203) hb3
  have Q3 := Box.below (Box.alloc Q2 _) hb3
  have R3 := Box.below (Box.alloc R2 _) hb3
  generalize hv : w2.heap.size = vb at *
  clear hb3 Xt2 ct lt Q2 R2 hB2 hv
  have hs3 := hB3.size
  go_wp2
  refine wp_loop_rounds 3 ?_
  rw [rounds_succ]
  go_wp2
  go_returns
  exact ⟨rfl, by go_grown⟩

set_option maxRecDepth 100000 in
set_option maxHeartbeats 2000000 in
theorem valid_2 (ss : List Int) (gs ps : List (List Int)) (sa ga pa : Option Addr) (sc gc pc : Nat) (w : World) (m1 : ss.length ≤ 4611686018427387904) (m2 : gs.length ≤ 4611686018427387904) (m3 : ps.length ≤ 4611686018427387904) (hs : SlA IntE w sa ss) (hg : SlA IntsAt w ga gs) (hp : SlA IntsAt w pa ps) (z1 : 0 < gs.length) (h1 : gs.all (allB 0 100000) = false) :
    Calls Try.prog 93 #[.agg #[.slice sa ss.length sc, .slice ga gs.length gc, .slice pa ps.length pc]] w fun e w' => e = .returned (.bool false) ∧ Below w.heap.size w w' := by
  have HG := Lib.hid hg
  have HP := Lib.hid hp
  have HA1 := Lib.hid (any_not_all' (allB 0 100000) gs)
  have HA2 := Lib.hid (any_not_all' (allB (-100000) 100000) ps)
  clear hs hg hp
  have ix0 : ∀ W : World, (Instr.index 199 (.agg #[.slice ga gs.length gc, .slice pa ps.length pc]) (.int .i64 0)).run Try.prog W = .ok (.slice ga gs.length gc) W := fun _ => by kernel_rfl
  have ix1 : ∀ W : World, (Instr.index 199 (.agg #[.slice ga gs.length gc, .slice pa ps.length pc]) (.int .i64 1)).run Try.prog W = .ok (.slice pa ps.length pc) W := fun _ => by kernel_rfl
  have G1 := Lib.hid h1
  clear h1
  have l1 : 1 ≤ (gs.length : Int) := by omega
  have l1e : ((gs.length : Int) == 0) = false := beq_false_of_ne (by omega)
  clear l1 z1
  go_enter Try.func93, Try.ntmps93
  go_wp2_with fail
  refine (mk_any 0 _).mono ?_
  rintro e w1 ⟨rfl, hb1, Q1⟩
  rw [World.size_alloc] at Q1
  have hB1 : Below w.heap.size w w1 := stepB (by go_grown) hb1
  have Xt1 : Box w1 w.heap.size #[.slice sa ss.length sc, .slice ga gs.length gc, .slice pa ps.length pc] := Box.below (Box.new w _ _) hb1
  clear hb1
  go_wp2_with fail
  refine (mk_any (-100000) _).mono ?_
  rintro e w2 ⟨rfl, hb2, R2⟩
  have hB2 : Below w.heap.size w w2 := stepB hB1 hb2
  have Xt2 := Xt1.below hb2
  have Q2 := Q1.below hb2
  have ct := Xt2.2.1
  have lt := Xt2.1
  clear hb2 Q1 hB1 Xt1
  generalize hr : w1.heap.size = r at *
  have HRr := Lib.hid hr
  clear hr
  go_wp2_with fail
  refine (bothRows_any ss gs ps sa ga pa sc gc pc _).mono ?_
  rintro e w3 ⟨rfl, hb3⟩
  have hB3 : Below w.heap.size w w3 := stepB (by go_grown) hb3
  have Xv3 := Box.below (Box.new w2 #[.func (.func 137) #[] #[.pointer (some ⟨w.heap.size + 1, 0, none⟩)], .func (.func 137) #[] #[.pointer (some ⟨r, 0, none⟩)]] 203) hb3
  have Q3 := Box.below (Box.alloc Q2 _) hb3
  have R3 := Box.below (Box.alloc R2 _) hb3
  generalize hv : w2.heap.size = vb at *
  clear hb3 Xt2 ct lt Q2 R2 hB2 hv
  have hs3 := hB3.size
  go_wp2
  refine wp_loop_rounds 3 ?_
  rw [rounds_succ]
  go_wp2_with fail
  refine (valid2_contains IntsAt (fun zs => !allB (0) 100000 zs) vb _ gs ga gc _ ints_stable (by assumption) (HG.out.below ints_stable (by go_grown)) ?_).mono ?_
  · rintro W u x hW ⟨a', cap', rfl, hl, hsx⟩ _
    have bv := Box.below (Box.alloc Xv3 _) hW
    have bq := Box.below (Box.alloc Q3 _) hW
    have bi := Box.below (Box.new w3 _ _) hW
    exact valid2_cl (0) 0 x a' cap' _ _ _ W (by omega) hl hsx bi.cell0 (by rw [bv.2.1]; simp) bq.cell0
  rintro e w4 ⟨rfl, hb4⟩
  rw [HA1.out, G1.out]
  have Xv4 := Box.below (Box.alloc Xv3 _) hb4
  have R4 := Box.below (Box.alloc R3 _) hb4
  have hB4 : Below w.heap.size w w4 := stepB (by go_grown) hb4
  have hs4 := hB4.size
  clear hb4 Xv3 R3 Q3 hB3
  go_wp2
  go_returns
  exact ⟨rfl, by go_grown⟩

set_option maxRecDepth 100000 in
set_option maxHeartbeats 2000000 in
theorem valid_3 (ss : List Int) (gs ps : List (List Int)) (sa ga pa : Option Addr) (sc gc pc : Nat) (w : World) (m1 : ss.length ≤ 4611686018427387904) (m2 : gs.length ≤ 4611686018427387904) (m3 : ps.length ≤ 4611686018427387904) (hs : SlA IntE w sa ss) (hg : SlA IntsAt w ga gs) (hp : SlA IntsAt w pa ps) (z1 : 0 < gs.length) (h1 : gs.all (allB 0 100000) = true) (z2 : ps.length = 0) :
    Calls Try.prog 93 #[.agg #[.slice sa ss.length sc, .slice ga gs.length gc, .slice pa ps.length pc]] w fun e w' => e = .returned (.bool false) ∧ Below w.heap.size w w' := by
  have HG := Lib.hid hg
  have HP := Lib.hid hp
  have HA1 := Lib.hid (any_not_all' (allB 0 100000) gs)
  have HA2 := Lib.hid (any_not_all' (allB (-100000) 100000) ps)
  clear hs hg hp
  have ix0 : ∀ W : World, (Instr.index 199 (.agg #[.slice ga gs.length gc, .slice pa ps.length pc]) (.int .i64 0)).run Try.prog W = .ok (.slice ga gs.length gc) W := fun _ => by kernel_rfl
  have ix1 : ∀ W : World, (Instr.index 199 (.agg #[.slice ga gs.length gc, .slice pa ps.length pc]) (.int .i64 1)).run Try.prog W = .ok (.slice pa ps.length pc) W := fun _ => by kernel_rfl
  have G1 := Lib.hid h1
  clear h1
  have l1 : 1 ≤ (gs.length : Int) := by omega
  have l1e : ((gs.length : Int) == 0) = false := beq_false_of_ne (by omega)
  have l2e : ((ps.length : Int) == 0) = true := beq_iff_eq.2 (by omega)
  clear l1 z1 z2
  go_enter Try.func93, Try.ntmps93
  go_wp2_with fail
  refine (mk_any 0 _).mono ?_
  rintro e w1 ⟨rfl, hb1, Q1⟩
  rw [World.size_alloc] at Q1
  have hB1 : Below w.heap.size w w1 := stepB (by go_grown) hb1
  have Xt1 : Box w1 w.heap.size #[.slice sa ss.length sc, .slice ga gs.length gc, .slice pa ps.length pc] := Box.below (Box.new w _ _) hb1
  clear hb1
  go_wp2_with fail
  refine (mk_any (-100000) _).mono ?_
  rintro e w2 ⟨rfl, hb2, R2⟩
  have hB2 : Below w.heap.size w w2 := stepB hB1 hb2
  have Xt2 := Xt1.below hb2
  have Q2 := Q1.below hb2
  have ct := Xt2.2.1
  have lt := Xt2.1
  clear hb2 Q1 hB1 Xt1
  generalize hr : w1.heap.size = r at *
  have HRr := Lib.hid hr
  clear hr
  go_wp2_with fail
  refine (bothRows_any ss gs ps sa ga pa sc gc pc _).mono ?_
  rintro e w3 ⟨rfl, hb3⟩
  have hB3 : Below w.heap.size w w3 := stepB (by go_grown) hb3
  have Xv3 := Box.below (Box.new w2 #[.func (.func 137) #[] #[.pointer (some ⟨w.heap.size + 1, 0, none⟩)], .func (.func 137) #[] #[.pointer (some ⟨r, 0, none⟩)]] 203) hb3
  have Q3 := Box.below (Box.alloc Q2 _) hb3
  have R3 := Box.below (Box.alloc R2 _) hb3
  generalize hv : w2.heap.size = vb at *
  clear hb3 Xt2 ct lt Q2 R2 hB2 hv
  have hs3 := hB3.size
  go_wp2
  refine wp_loop_rounds 3 ?_
  rw [rounds_succ]
  go_wp2_with fail
  refine (valid2_contains IntsAt (fun zs => !allB (0) 100000 zs) vb _ gs ga gc _ ints_stable (by assumption) (HG.out.below ints_stable (by go_grown)) ?_).mono ?_
  · rintro W u x hW ⟨a', cap', rfl, hl, hsx⟩ _
    have bv := Box.below (Box.alloc Xv3 _) hW
    have bq := Box.below (Box.alloc Q3 _) hW
    have bi := Box.below (Box.new w3 _ _) hW
    exact valid2_cl (0) 0 x a' cap' _ _ _ W (by omega) hl hsx bi.cell0 (by rw [bv.2.1]; simp) bq.cell0
  rintro e w4 ⟨rfl, hb4⟩
  rw [HA1.out, G1.out]
  have Xv4 := Box.below (Box.alloc Xv3 _) hb4
  have R4 := Box.below (Box.alloc R3 _) hb4
  have hB4 : Below w.heap.size w w4 := stepB (by go_grown) hb4
  have hs4 := hB4.size
  clear hb4 Xv3 R3 Q3 hB3
  go_wp2
  rw [rounds_succ]
  go_wp2
  go_returns
  exact ⟨rfl, by go_grown⟩

set_option maxRecDepth 100000 in
set_option maxHeartbeats 2000000 in
theorem valid_4 (ss : List Int) (gs ps : List (List Int)) (sa ga pa : Option Addr) (sc gc pc : Nat) (w : World) (m1 : ss.length ≤ 4611686018427387904) (m2 : gs.length ≤ 4611686018427387904) (m3 : ps.length ≤ 4611686018427387904) (hs : SlA IntE w sa ss) (hg : SlA IntsAt w ga gs) (hp : SlA IntsAt w pa ps) (z1 : 0 < gs.length) (h1 : gs.all (allB 0 100000) = true) (z2 : 0 < ps.length) (h2 : ps.all (allB (-100000) 100000) = false) :
    Calls Try.prog 93 #[.agg #[.slice sa ss.length sc, .slice ga gs.length gc, .slice pa ps.length pc]] w fun e w' => e = .returned (.bool false) ∧ Below w.heap.size w w' := by
  have HG := Lib.hid hg
  have HP := Lib.hid hp
  have HA1 := Lib.hid (any_not_all' (allB 0 100000) gs)
  have HA2 := Lib.hid (any_not_all' (allB (-100000) 100000) ps)
  clear hs hg hp
  have ix0 : ∀ W : World, (Instr.index 199 (.agg #[.slice ga gs.length gc, .slice pa ps.length pc]) (.int .i64 0)).run Try.prog W = .ok (.slice ga gs.length gc) W := fun _ => by kernel_rfl
  have ix1 : ∀ W : World, (Instr.index 199 (.agg #[.slice ga gs.length gc, .slice pa ps.length pc]) (.int .i64 1)).run Try.prog W = .ok (.slice pa ps.length pc) W := fun _ => by kernel_rfl
  have G1 := Lib.hid h1
  clear h1
  have G2 := Lib.hid h2
  clear h2
  have l1 : 1 ≤ (gs.length : Int) := by omega
  have l1e : ((gs.length : Int) == 0) = false := beq_false_of_ne (by omega)
  have l2e : ((ps.length : Int) == 0) = false := beq_false_of_ne (by omega)
  clear l1 z1 z2
  go_enter Try.func93, Try.ntmps93
  go_wp2_with fail
  refine (mk_any 0 _).mono ?_
  rintro e w1 ⟨rfl, hb1, Q1⟩
  rw [World.size_alloc] at Q1
  have hB1 : Below w.heap.size w w1 := stepB (by go_grown) hb1
  have Xt1 : Box w1 w.heap.size #[.slice sa ss.length sc, .slice ga gs.length gc, .slice pa ps.length pc] := Box.below (Box.new w _ _) hb1
  clear hb1
  go_wp2_with fail
  refine (mk_any (-100000) _).mono ?_
  rintro e w2 ⟨rfl, hb2, R2⟩
  have hB2 : Below w.heap.size w w2 := stepB hB1 hb2
  have Xt2 := Xt1.below hb2
  have Q2 := Q1.below hb2
  have ct := Xt2.2.1
  have lt := Xt2.1
  clear hb2 Q1 hB1 Xt1
  generalize hr : w1.heap.size = r at *
  have HRr := Lib.hid hr
  clear hr
  go_wp2_with fail
  refine (bothRows_any ss gs ps sa ga pa sc gc pc _).mono ?_
  rintro e w3 ⟨rfl, hb3⟩
  have hB3 : Below w.heap.size w w3 := stepB (by go_grown) hb3
  have Xv3 := Box.below (Box.new w2 #[.func (.func 137) #[] #[.pointer (some ⟨w.heap.size + 1, 0, none⟩)], .func (.func 137) #[] #[.pointer (some ⟨r, 0, none⟩)]] 203) hb3
  have Q3 := Box.below (Box.alloc Q2 _) hb3
  have R3 := Box.below (Box.alloc R2 _) hb3
  generalize hv : w2.heap.size = vb at *
  clear hb3 Xt2 ct lt Q2 R2 hB2 hv
  have hs3 := hB3.size
  go_wp2
  refine wp_loop_rounds 3 ?_
  rw [rounds_succ]
  go_wp2_with fail
  refine (valid2_contains IntsAt (fun zs => !allB (0) 100000 zs) vb _ gs ga gc _ ints_stable (by assumption) (HG.out.below ints_stable (by go_grown)) ?_).mono ?_
  · rintro W u x hW ⟨a', cap', rfl, hl, hsx⟩ _
    have bv := Box.below (Box.alloc Xv3 _) hW
    have bq := Box.below (Box.alloc Q3 _) hW
    have bi := Box.below (Box.new w3 _ _) hW
    exact valid2_cl (0) 0 x a' cap' _ _ _ W (by omega) hl hsx bi.cell0 (by rw [bv.2.1]; simp) bq.cell0
  rintro e w4 ⟨rfl, hb4⟩
  rw [HA1.out, G1.out]
  have Xv4 := Box.below (Box.alloc Xv3 _) hb4
  have R4 := Box.below (Box.alloc R3 _) hb4
  have hB4 : Below w.heap.size w w4 := stepB (by go_grown) hb4
  have hs4 := hB4.size
  clear hb4 Xv3 R3 Q3 hB3
  go_wp2
  rw [rounds_succ]
  go_wp2_with fail
  refine (valid2_contains IntsAt (fun zs => !allB (-100000) 100000 zs) vb _ ps pa pc _ ints_stable (by assumption) (HP.out.below ints_stable (by go_grown)) ?_).mono ?_
  · rintro W u x hW ⟨a', cap', rfl, hl, hsx⟩ _
    have bv := Box.below (Box.alloc Xv4 _) hW
    have bq := Box.below (Box.alloc R4 _) hW
    have bi := Box.below (Box.new w4 _ _) hW
    exact valid2_cl (-100000) 1 x a' cap' _ _ _ W (by omega) hl hsx bi.cell0 (by rw [bv.2.1]; simp) bq.cell0
  rintro e w5 ⟨rfl, hb5⟩
  rw [HA2.out, G2.out]
  have hB5 : Below w.heap.size w w5 := stepB (by go_grown) hb5
  clear hb5 Xv4 R4 hB4
  go_wp2
  go_returns
  exact ⟨rfl, by go_grown⟩

set_option maxRecDepth 100000 in
set_option maxHeartbeats 2000000 in
theorem valid_5 (ss : List Int) (gs ps : List (List Int)) (sa ga pa : Option Addr) (sc gc pc : Nat) (w : World) (m1 : ss.length ≤ 4611686018427387904) (m2 : gs.length ≤ 4611686018427387904) (m3 : ps.length ≤ 4611686018427387904) (hs : SlA IntE w sa ss) (hg : SlA IntsAt w ga gs) (hp : SlA IntsAt w pa ps) (z1 : 0 < gs.length) (h1 : gs.all (allB 0 100000) = true) (z2 : 0 < ps.length) (h2 : ps.all (allB (-100000) 100000) = true) :
    Calls Try.prog 93 #[.agg #[.slice sa ss.length sc, .slice ga gs.length gc, .slice pa ps.length pc]] w fun e w' => e = .returned (.bool true) ∧ Below w.heap.size w w' := by
  have HG := Lib.hid hg
  have HP := Lib.hid hp
  have HA1 := Lib.hid (any_not_all' (allB 0 100000) gs)
  have HA2 := Lib.hid (any_not_all' (allB (-100000) 100000) ps)
  clear hs hg hp
  have ix0 : ∀ W : World, (Instr.index 199 (.agg #[.slice ga gs.length gc, .slice pa ps.length pc]) (.int .i64 0)).run Try.prog W = .ok (.slice ga gs.length gc) W := fun _ => by kernel_rfl
  have ix1 : ∀ W : World, (Instr.index 199 (.agg #[.slice ga gs.length gc, .slice pa ps.length pc]) (.int .i64 1)).run Try.prog W = .ok (.slice pa ps.length pc) W := fun _ => by kernel_rfl
  have G1 := Lib.hid h1
  clear h1
  have G2 := Lib.hid h2
  clear h2
  have l1 : 1 ≤ (gs.length : Int) := by omega
  have l1e : ((gs.length : Int) == 0) = false := beq_false_of_ne (by omega)
  have l2e : ((ps.length : Int) == 0) = false := beq_false_of_ne (by omega)
  clear l1 z1 z2
  go_enter Try.func93, Try.ntmps93
  go_wp2_with fail
  refine (mk_any 0 _).mono ?_
  rintro e w1 ⟨rfl, hb1, Q1⟩
  rw [World.size_alloc] at Q1
  have hB1 : Below w.heap.size w w1 := stepB (by go_grown) hb1
  have Xt1 : Box w1 w.heap.size #[.slice sa ss.length sc, .slice ga gs.length gc, .slice pa ps.length pc] := Box.below (Box.new w _ _) hb1
  clear hb1
  go_wp2_with fail
  refine (mk_any (-100000) _).mono ?_
  rintro e w2 ⟨rfl, hb2, R2⟩
  have hB2 : Below w.heap.size w w2 := stepB hB1 hb2
  have Xt2 := Xt1.below hb2
  have Q2 := Q1.below hb2
  have ct := Xt2.2.1
  have lt := Xt2.1
  clear hb2 Q1 hB1 Xt1
  generalize hr : w1.heap.size = r at *
  have HRr := Lib.hid hr
  clear hr
  go_wp2_with fail
  refine (bothRows_any ss gs ps sa ga pa sc gc pc _).mono ?_
  rintro e w3 ⟨rfl, hb3⟩
  have hB3 : Below w.heap.size w w3 := stepB (by go_grown) hb3
  have Xv3 := Box.below (Box.new w2 #[.func (.func 137) #[] #[.pointer (some ⟨w.heap.size + 1, 0, none⟩)], .func (.func 137) #[] #[.pointer (some ⟨r, 0, none⟩)]] 203) hb3
  have Q3 := Box.below (Box.alloc Q2 _) hb3
  have R3 := Box.below (Box.alloc R2 _) hb3
  generalize hv : w2.heap.size = vb at *
  clear hb3 Xt2 ct lt Q2 R2 hB2 hv
  have hs3 := hB3.size
  go_wp2
  refine wp_loop_rounds 3 ?_
  rw [rounds_succ]
  go_wp2_with fail
  refine (valid2_contains IntsAt (fun zs => !allB (0) 100000 zs) vb _ gs ga gc _ ints_stable (by assumption) (HG.out.below ints_stable (by go_grown)) ?_).mono ?_
  · rintro W u x hW ⟨a', cap', rfl, hl, hsx⟩ _
    have bv := Box.below (Box.alloc Xv3 _) hW
    have bq := Box.below (Box.alloc Q3 _) hW
    have bi := Box.below (Box.new w3 _ _) hW
    exact valid2_cl (0) 0 x a' cap' _ _ _ W (by omega) hl hsx bi.cell0 (by rw [bv.2.1]; simp) bq.cell0
  rintro e w4 ⟨rfl, hb4⟩
  rw [HA1.out, G1.out]
  have Xv4 := Box.below (Box.alloc Xv3 _) hb4
  have R4 := Box.below (Box.alloc R3 _) hb4
  have hB4 : Below w.heap.size w w4 := stepB (by go_grown) hb4
  have hs4 := hB4.size
  clear hb4 Xv3 R3 Q3 hB3
  go_wp2
  rw [rounds_succ]
  go_wp2_with fail
  refine (valid2_contains IntsAt (fun zs => !allB (-100000) 100000 zs) vb _ ps pa pc _ ints_stable (by assumption) (HP.out.below ints_stable (by go_grown)) ?_).mono ?_
  · rintro W u x hW ⟨a', cap', rfl, hl, hsx⟩ _
    have bv := Box.below (Box.alloc Xv4 _) hW
    have bq := Box.below (Box.alloc R4 _) hW
    have bi := Box.below (Box.new w4 _ _) hW
    exact valid2_cl (-100000) 1 x a' cap' _ _ _ W (by omega) hl hsx bi.cell0 (by rw [bv.2.1]; simp) bq.cell0
  rintro e w5 ⟨rfl, hb5⟩
  rw [HA2.out, G2.out]
  have hB5 : Below w.heap.size w w5 := stepB (by go_grown) hb5
  clear hb5 Xv4 R4 hB4
  go_wp2
  rw [rounds_succ]
  go_wp2
  go_returns
  exact ⟨rfl, by go_grown⟩

theorem validRows_any (ss : List Int) (gs ps : List (List Int)) (sa ga pa : Option Addr) (sc gc pc : Nat) (w : World) (m1 : ss.length ≤ 4611686018427387904) (m2 : gs.length ≤ 4611686018427387904) (m3 : ps.length ≤ 4611686018427387904) (hs : SlA IntE w sa ss) (hg : SlA IntsAt w ga gs) (hp : SlA IntsAt w pa ps) :
    Calls Try.prog 93 #[.agg #[.slice sa ss.length sc, .slice ga gs.length gc, .slice pa ps.length pc]] w fun e w' => e = .returned (.bool (rowsB gs ps)) ∧ Below w.heap.size w w' := by
  unfold rowsB
  by_cases z1 : 0 < gs.length
  · rw [decide_eq_true z1]
    cases h1 : gs.all (allB 0 100000)
    · exact valid_2 ss gs ps sa ga pa sc gc pc w m1 m2 m3 hs hg hp z1 h1
    · by_cases z2 : 0 < ps.length
      · rw [decide_eq_true z2]
        cases h2 : ps.all (allB (-100000) 100000)
        · exact valid_4 ss gs ps sa ga pa sc gc pc w m1 m2 m3 hs hg hp z1 h1 z2 h2
        · exact valid_5 ss gs ps sa ga pa sc gc pc w m1 m2 m3 hs hg hp z1 h1 z2 h2
      · rw [decide_eq_false z2]
        exact valid_3 ss gs ps sa ga pa sc gc pc w m1 m2 m3 hs hg hp z1 h1 (by omega)
  · rw [decide_eq_false z1]
    exact valid_1 ss gs ps sa ga pa sc gc pc w m1 m2 m3 hs hg hp (by omega)

end Go.Proofs.Ytpmeahmjmpgbfaa
