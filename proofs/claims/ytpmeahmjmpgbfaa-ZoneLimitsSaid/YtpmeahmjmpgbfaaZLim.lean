/- Contracts of zone.Limits and Play. Made by tools/gen_zcheck.py. -/
import Derived.Test.YtpmeahmjmpgbfaaZCol
namespace Go.Proofs.Ytpmeahmjmpgbfaa
open Go.RowKit
set_option linter.unusedVariables false
set_option linter.unusedSimpArgs false

theorem check_parts {ss : List Int} {gs ps : List (List Int)} (h : checkN ss gs ps = 0) : (ss.length ≤ 20 ∧ gs.length ≤ 12 ∧ ps.length ≤ 12) ∧ fullB ss gs ps = true ∧ stepsB ss = true ∧ rowsB gs ps = true := by
  unfold checkN longB at h
  split at h
  · cases h
  · split at h
    · cases h
    · split at h
      · cases h
      · rename_i h1 h2 h3
        simp only [Bool.or_eq_true, decide_eq_true_eq] at h1
        refine ⟨by omega, by simpa using h2, ?_⟩
        simpa using h3
theorem steps_parts {ss : List Int} (h : stepsB ss = true) : stepsFrom 0 ss = true ∧ 0 < ss.length := by simpa [stepsB] using h
theorem full_parts {ss : List Int} {gs ps : List (List Int)} (h : fullB ss gs ps = true) : (∀ r ∈ gs, r.length = ss.length) ∧ (∀ r ∈ ps, r.length = ss.length) := by
  simpa [fullB, lenB] using h
theorem rows_parts {gs ps : List (List Int)} (h : rowsB gs ps = true) : 0 < gs.length ∧ (∀ r ∈ gs, allB 0 100000 r = true) ∧ 0 < ps.length ∧ ∀ r ∈ ps, allB (-100000) 100000 r = true := by
  simp only [rowsB, Bool.and_eq_true, decide_eq_true_eq, List.all_eq_true] at h
  exact ⟨h.1.1, h.1.2, h.2.1, h.2.2⟩
theorem row_at {ss : List Int} {rows : List (List Int)} {lo : Int} (hl : ∀ r ∈ rows, r.length = ss.length) (ha : ∀ r ∈ rows, allB lo 100000 r = true) {i k : Nat} (hi : i < rows.length) (hk : k < ss.length) :
    ∃ r, rows[i]? = some r ∧ r[k]? = some (numN rows i k) ∧ lo ≤ numN rows i k ∧ numN rows i k ≤ 100000 := by
  have hm : rows[i] ∈ rows := List.getElem_mem hi
  have h1 := hl _ hm
  have h2 := ha _ hm
  have hr : rows[i]? = some rows[i] := List.getElem?_eq_getElem hi
  have hv : (rows[i])[k]? = some ((rows[i])[k]'(by omega)) := List.getElem?_eq_getElem (by omega)
  have hn : numN rows i k = (rows[i])[k]'(by omega) := by unfold numN; rw [Int.toNat_natCast, hr, Option.getD_some, hv, Option.getD_some]
  have h3 : inB lo 100000 ((rows[i])[k]'(by omega)) = true := List.all_eq_true.1 h2 _ (List.getElem_mem _)
  refine ⟨_, hr, by rw [hn]; exact hv, ?_⟩
  rw [hn]
  simpa [inB] using h3

/-- The error of columnOf, of Limits. -/
def colE (ss : List Int) (size : Int) : Int := if size < 1 ∨ stepN ss size = ss.length then 3 else 0
def colV (ss : List Int) (gs ps : List (List Int)) (sa ga pa : Option Addr) (sc gc pc : Nat) (size : Int) : Value := if colE ss size = 0 then .tuple #[.agg #[.slice sa ss.length sc, .slice ga gs.length gc, .slice pa ps.length pc, .int .i64 (stepN ss size)], .int .i64 0] else .tuple #[.agg #[.slice none 0 0, .slice none 0 0, .slice none 0 0, .int .i64 0], .int .i64 3]
theorem columnOf_any (ss : List Int) (gs ps : List (List Int)) (sa ga pa : Option Addr) (sc gc pc : Nat) (size : Int) (w : World) (m1 : ss.length ≤ 4611686018427387904) (m2 : gs.length ≤ 4611686018427387904) (m3 : ps.length ≤ 4611686018427387904) (hs : SlA IntE w sa ss) (hst : stepsFrom 0 ss = true) :
    Calls Try.prog 95 #[.agg #[.slice sa ss.length sc, .slice ga gs.length gc, .slice pa ps.length pc], .int .i64 size] w fun e w' => e = .returned (colV ss gs ps sa ga pa sc gc pc size) ∧ Below w.heap.size w w' := by
  have HB := Lib.hid (fun (W : World) (hB : Below w.heap.size w W) => search_any ss size (stepN ss size) sa sc W m1 (hs.below intE_stable hB) (stepN_le ss size) (stepN_iff ss 0 size hst))
  unfold colV colE
  by_cases h1 : size < 1
  · rw [if_pos (Or.inl h1), if_neg (by decide)]
    exact col_0 w ss gs ps sa ga pa sc gc pc size _ m1 m2 m3 HB h1
  · by_cases h2 : stepN ss size = ss.length
    · rw [if_pos (Or.inr h2), if_neg (by decide)]
      exact col_1 w ss gs ps sa ga pa sc gc pc size _ m1 m2 m3 HB (by omega) (beq_iff_eq.2 (by omega))
    · rw [if_neg (show ¬(size < 1 ∨ stepN ss size = ss.length) by omega), if_pos rfl]
      exact col_2 w ss gs ps sa ga pa sc gc pc size _ m1 m2 m3 HB (by omega) (beq_false_of_ne (by omega))

def limE (ss : List Int) (gs ps : List (List Int)) (pl gr size : Int) : Int := if checkN ss gs ps ≠ 0 then checkN ss gs ps else if classB gs ps (pl, gr) = false then 7 else colE ss size
def limLo (ss : List Int) (gs ps : List (List Int)) (pl gr : Int) (nut : Bool) (size : Int) : Int := if limE ss gs ps pl gr size = 0 then zoLo nut size (numN ps pl (stepN ss size)) (numN gs gr (stepN ss size)) else 0
def limHi (ss : List Int) (gs ps : List (List Int)) (pl gr : Int) (nut : Bool) (size : Int) : Int := if limE ss gs ps pl gr size = 0 then zoHi nut size (numN ps pl (stepN ss size)) (numN gs gr (stepN ss size)) else 0

theorem col_ok {ss : List Int} {size : Int} (h : colE ss size = 0) : 1 ≤ size ∧ stepN ss size < ss.length := by
  have := stepN_le ss size
  unfold colE at h
  split at h
  · cases h
  · omega
theorem size_le {ss : List Int} {size : Int} (hst : stepsFrom 0 ss = true) (h : stepN ss size < ss.length) : size ≤ 10000000 := by
  obtain ⟨s, hs⟩ : ∃ s, ss[stepN ss size]? = some s := ⟨_, List.getElem?_eq_getElem h⟩
  have h1 := stepN_iff ss 0 size hst _ s hs
  have h2 := stepsFrom_gt ss 0 hst s (List.mem_of_getElem? hs)
  have h3 : ¬ s < size := fun hh => absurd (h1.1 hh) (by omega)
  omega

/-- The zone of a column, for a valid table, a class of it and a step of it. -/
theorem zoneOf_any (nut : Bool) (pl gr size : Int) (k : Nat) (ss : List Int) (gs ps : List (List Int)) (sa ga pa : Option Addr) (sc gc pc : Nat) (w : World) (m1 : ss.length ≤ 4611686018427387904) (m2 : gs.length ≤ 4611686018427387904) (m3 : ps.length ≤ 4611686018427387904) (hs : SlA IntE w sa ss) (hg : SlA IntsAt w ga gs) (hp : SlA IntsAt w pa ps) (hc : checkN ss gs ps = 0) (hcl : classB gs ps (pl, gr) = true) (hk : k < ss.length) (z0 : 0 ≤ size) (z1 : size ≤ 10000000) :
    Calls Try.prog 96 #[.agg #[.slice sa ss.length sc, .slice ga gs.length gc, .slice pa ps.length pc, .int .i64 k], .agg #[.int .i64 pl, .int .i64 gr], .bool nut, .int .i64 size] w fun e w' => e = .returned (spanV (zoLo nut size (numN ps pl k) (numN gs gr k)) (zoHi nut size (numN ps pl k) (numN gs gr k))) ∧ Below w.heap.size w w' := by
  obtain ⟨_, hf, _, hr⟩ := check_parts hc
  obtain ⟨f1, f2⟩ := full_parts hf
  obtain ⟨_, r1, _, r2⟩ := rows_parts hr
  obtain ⟨⟨c1, c2⟩, c3, c4⟩ := (classB_iff gs ps (pl, gr)).1 hcl
  obtain ⟨i, rfl⟩ := Int.eq_ofNat_of_zero_le c1
  obtain ⟨j, rfl⟩ := Int.eq_ofNat_of_zero_le c3
  simp only at c2 c4
  obtain ⟨ra, ha1, ha2, ha3, ha4⟩ := row_at f2 r2 (i := i) (k := k) (by omega) hk
  obtain ⟨rb, hb1, hb2, hb3, hb4⟩ := row_at f1 r1 (i := j) (k := k) (by omega) hk
  have HA := Lib.hid (fun (W : World) (hB : Below w.heap.size w W) => zallow_any i k (numN ps i k) j ss gs ps sa ga pa sc gc pc W m1 m2 m3 (by omega) (by omega) (numAt_of (hp.below ints_stable hB) ha1 ha2))
  have HW := Lib.hid (fun (W : World) (hB : Below w.heap.size w W) => zwidth_any j k (numN gs j k) i ss gs ps sa ga pa sc gc pc W m1 m2 m3 (by omega) (by omega) (numAt_of (hg.below ints_stable hB) hb1 hb2))
  cases nut
  · exact zone_0 w _ _ _ _ i j size _ _ z0 z1 ha3 ha4 hb3 hb4 HA HW
  · exact zone_1 w _ _ _ _ i j size _ _ z0 z1 ha3 ha4 hb3 hb4 HA HW

theorem limits_any (nut : Bool) (pl gr size : Int) (ss : List Int) (gs ps : List (List Int)) (sa ga pa : Option Addr) (sc gc pc : Nat) (w : World) (m1 : ss.length ≤ 4611686018427387904) (m2 : gs.length ≤ 4611686018427387904) (m3 : ps.length ≤ 4611686018427387904) (hs : SlA IntE w sa ss) (hg : SlA IntsAt w ga gs) (hp : SlA IntsAt w pa ps) :
    Calls Try.prog 30 #[.agg #[.slice sa ss.length sc, .slice ga gs.length gc, .slice pa ps.length pc], .agg #[.int .i64 pl, .int .i64 gr], .bool nut, .int .i64 size] w fun e w' => e = .returned (.tuple #[spanV (limLo ss gs ps pl gr nut size) (limHi ss gs ps pl gr nut size), .int .i64 (limE ss gs ps pl gr size)]) ∧ Below w.heap.size w w' := by
  have HK := fun (W : World) (hB : Below w.heap.size w W) => zcheck_any ss gs ps sa ga pa sc gc pc W m1 m2 m3 (hs.below intE_stable hB) (hg.below ints_stable hB) (hp.below ints_stable hB)
  by_cases hc : checkN ss gs ps = 0
  · rw [hc] at HK
    obtain ⟨_, _, hst, _⟩ := check_parts hc
    have hst1 := (steps_parts hst).1
    have HH : ∀ (W : World) (b : Nat), Below w.heap.size w W → b < W.heap.size → W.cell? ⟨b, 0, none⟩ = some (.int .i64 pl) → W.cell? ⟨b, 1, none⟩ = some (.int .i64 gr) → Calls Try.prog 94 #[.agg #[.slice sa ss.length sc, .slice ga gs.length gc, .slice pa ps.length pc], .slice (some ⟨b, 0, none⟩) 1 1] W fun e w' => e = .returned (.bool (classB gs ps (pl, gr))) ∧ Below W.heap.size W w' := by
      intro W b hB hb h0 h1
      refine (hasClasses_any W [(pl, gr)] b 1 ss gs ps sa ga pa sc gc pc m1 m2 m3 hb (fun i x hx => ?_) (by simp)).mono ?_
      · cases i with
        | zero => simp at hx; subst hx; exact ⟨h0, h1⟩
        | succ i => simp at hx
      · rintro e w' ⟨rfl, h⟩
        exact ⟨ret_bool (by simp), h⟩
    cases hcl : classB gs ps (pl, gr)
    · rw [hcl] at HH
      have e : limE ss gs ps pl gr size = 7 := by unfold limE; rw [if_neg (by omega), if_pos hcl]
      unfold limLo limHi
      rw [e, if_neg (by decide), if_neg (by decide)]
      exact limits_1 w nut pl gr size ss gs ps sa ga pa sc gc pc (Lib.hid HK) (Lib.hid HH)
    · rw [hcl] at HH
      have HL := fun (W : World) (hB : Below w.heap.size w W) => columnOf_any ss gs ps sa ga pa sc gc pc size W m1 m2 m3 (hs.below intE_stable hB) hst1
      have e : limE ss gs ps pl gr size = colE ss size := by unfold limE; rw [if_neg (by omega), if_neg (by rw [hcl]; decide)]
      by_cases he : colE ss size = 0
      · obtain ⟨g1, g2⟩ := col_ok he
        have g3 := size_le hst1 g2
        unfold limLo limHi
        rw [e, he, if_pos rfl, if_pos rfl]
        unfold colV at HL
        simp only [he, if_true] at HL
        have HZ := fun (W : World) (hB : Below w.heap.size w W) => zoneOf_any nut pl gr size (stepN ss size) ss gs ps sa ga pa sc gc pc W m1 m2 m3 (hs.below intE_stable hB) (hg.below ints_stable hB) (hp.below ints_stable hB) hc hcl g2 (by omega) g3
        exact limits_3 w nut pl gr size ss gs ps sa ga pa sc gc pc _ _ _ (Lib.hid HK) (Lib.hid HH) (Lib.hid HL) (Lib.hid HZ)
      · have he3 : colE ss size = 3 := by unfold colE at he ⊢; split at he <;> simp_all
        unfold limLo limHi
        rw [e, he3, if_neg (by decide), if_neg (by decide)]
        unfold colV at HL
        simp only [he3, if_neg (show ¬ (3 : Int) = 0 by decide)] at HL
        exact limits_2 w nut pl gr size ss gs ps sa ga pa sc gc pc (Lib.hid HK) (Lib.hid HH) (Lib.hid HL)
  · have e : limE ss gs ps pl gr size = checkN ss gs ps := by unfold limE; rw [if_pos hc]
    unfold limLo limHi
    rw [e, if_neg hc, if_neg hc]
    exact limits_0 w nut pl gr size ss gs ps sa ga pa sc gc pc _ (beq_false_of_ne hc) (by simpa using hc) (Lib.hid HK)

set_option maxRecDepth 100000 in
set_option maxHeartbeats 2000000 in
theorem play_0 (w : World) (p0 g0 p1 g1 size : Int) (ss : List Int) (gs ps : List (List Int)) (sa ga pa : Option Addr) (sc gc pc : Nat) (x y k : Int) (h1 : (k == 0) = false) (h2 : (k != 0) = true) (H1 : Hid (∀ W : World, Below w.heap.size w W → Calls Try.prog 30 #[.agg #[.slice sa ss.length sc, .slice ga gs.length gc, .slice pa ps.length pc], .agg #[.int .i64 p0, .int .i64 g0], .bool false, .int .i64 size] W fun e w' => e = .returned (.tuple #[.agg #[.int .i64 x, .int .i64 y], .int .i64 k]) ∧ Below W.heap.size W w')) :
    Calls Try.prog 45 #[.agg #[.slice sa ss.length sc, .slice ga gs.length gc, .slice pa ps.length pc], .agg #[.int .i64 p0, .int .i64 g0, .int .i64 p1, .int .i64 g1], .int .i64 size] w fun e w' => e = .returned (.tuple #[.agg #[.int .i64 0, .int .i64 0], .int .i64 k]) ∧ Below w.heap.size w w' := by
  go_enter Try.func45, Try.ntmps45
  go_wp2_with fail
  refine (H1.out _ (by go_grown)).mono ?_
  rintro e w1 ⟨rfl, hb1⟩
  have Xb6_1 : Box w1 (w.heap.size + 1 + 1) #[.int .i64 0, .int .i64 0] := Box.below (Box.newAt ((w.alloc _).alloc _) _ _ (by simp)) hb1
  have hB1 : Below w.heap.size w w1 := stepB (by go_grown) hb1
  have hs1 := hB1.size
  clear hb1
  have cc6 := Xb6_1.2.1
  have ll6 := Xb6_1.1
  have ff6 := Xb6_1.2.2
  have lm6_0 : w.heap.size < w1.heap.size := by have := ll6; omega
  have lm6_1 : w.heap.size + 1 < w1.heap.size := by have := ll6; omega
  go_wp2
  refine bodyPost_ret (v := .tuple #[.agg #[.int .i64 0, .int .i64 0], .int .i64 k]) (by simp [results, Try.results45, go_sem, spanV, cc6, ll6]) rfl ⟨rfl, by go_grown⟩

set_option maxRecDepth 100000 in
set_option maxHeartbeats 2000000 in
theorem play_1 (w : World) (p0 g0 p1 g1 size : Int) (ss : List Int) (gs ps : List (List Int)) (sa ga pa : Option Addr) (sc gc pc : Nat) (a b x y k : Int) (h1 : (k == 0) = false) (h2 : (k != 0) = true) (H1 : Hid (∀ W : World, Below w.heap.size w W → Calls Try.prog 30 #[.agg #[.slice sa ss.length sc, .slice ga gs.length gc, .slice pa ps.length pc], .agg #[.int .i64 p0, .int .i64 g0], .bool false, .int .i64 size] W fun e w' => e = .returned (.tuple #[.agg #[.int .i64 a, .int .i64 b], .int .i64 0]) ∧ Below W.heap.size W w')) (H2 : Hid (∀ W : World, Below w.heap.size w W → Calls Try.prog 30 #[.agg #[.slice sa ss.length sc, .slice ga gs.length gc, .slice pa ps.length pc], .agg #[.int .i64 p1, .int .i64 g1], .bool true, .int .i64 size] W fun e w' => e = .returned (.tuple #[.agg #[.int .i64 x, .int .i64 y], .int .i64 k]) ∧ Below W.heap.size W w')) :
    Calls Try.prog 45 #[.agg #[.slice sa ss.length sc, .slice ga gs.length gc, .slice pa ps.length pc], .agg #[.int .i64 p0, .int .i64 g0, .int .i64 p1, .int .i64 g1], .int .i64 size] w fun e w' => e = .returned (.tuple #[.agg #[.int .i64 0, .int .i64 0], .int .i64 k]) ∧ Below w.heap.size w w' := by
  go_enter Try.func45, Try.ntmps45
  go_wp2_with fail
  refine (H1.out _ (by go_grown)).mono ?_
  rintro e w1 ⟨rfl, hb1⟩
  have Xb3_1 : Box w1 w.heap.size #[.slice sa ss.length sc, .slice ga gs.length gc, .slice pa ps.length pc] := Box.below (Box.alloc (Box.alloc (Box.new w _ _) _) _) hb1
  have Xb4_1 : Box w1 (w.heap.size + 1) #[.int .i64 p0, .int .i64 g0, .int .i64 p1, .int .i64 g1] := Box.below (Box.alloc (Box.newAt (w.alloc _) _ _ (by simp)) _) hb1
  have Xb6_1 : Box w1 (w.heap.size + 1 + 1) #[.int .i64 0, .int .i64 0] := Box.below (Box.newAt ((w.alloc _).alloc _) _ _ (by simp)) hb1
  have hB1 : Below w.heap.size w w1 := stepB (by go_grown) hb1
  have hs1 := hB1.size
  clear hb1
  have cc3 := Xb3_1.2.1
  have ll3 := Xb3_1.1
  have cc4 := Xb4_1.2.1
  have ll4 := Xb4_1.1
  have lm4_0 : w.heap.size < w1.heap.size := by have := ll4; omega
  go_wp2_with fail
  refine (H2.out _ (by go_grown)).mono ?_
  rintro e w2 ⟨rfl, hb2⟩
  have Xb6_2 : Box w2 (w.heap.size + 1 + 1) #[.int .i64 0, .int .i64 0] := Box.below (Box.alloc Xb6_1 _) hb2
  have hB2 : Below w.heap.size w w2 := stepB (by go_grown) hb2
  have hs2 := hB2.size
  clear hb2 hB1 hs1 Xb3_1 Xb4_1 Xb6_1 cc3 ll3 cc4 ll4 lm4_0
  have cc6 := Xb6_2.2.1
  have ll6 := Xb6_2.1
  have ff6 := Xb6_2.2.2
  have lm6_0 : w.heap.size < w2.heap.size := by have := ll6; omega
  have lm6_1 : w.heap.size + 1 < w2.heap.size := by have := ll6; omega
  go_wp2
  refine bodyPost_ret (v := .tuple #[.agg #[.int .i64 0, .int .i64 0], .int .i64 k]) (by simp [results, Try.results45, go_sem, spanV, cc6, ll6]) rfl ⟨rfl, by go_grown⟩

set_option maxRecDepth 100000 in
set_option maxHeartbeats 2000000 in
theorem play_2 (w : World) (p0 g0 p1 g1 size : Int) (ss : List Int) (gs ps : List (List Int)) (sa ga pa : Option Addr) (sc gc pc : Nat) (a b x y : Int) (H1 : Hid (∀ W : World, Below w.heap.size w W → Calls Try.prog 30 #[.agg #[.slice sa ss.length sc, .slice ga gs.length gc, .slice pa ps.length pc], .agg #[.int .i64 p0, .int .i64 g0], .bool false, .int .i64 size] W fun e w' => e = .returned (.tuple #[.agg #[.int .i64 a, .int .i64 b], .int .i64 0]) ∧ Below W.heap.size W w')) (H2 : Hid (∀ W : World, Below w.heap.size w W → Calls Try.prog 30 #[.agg #[.slice sa ss.length sc, .slice ga gs.length gc, .slice pa ps.length pc], .agg #[.int .i64 p1, .int .i64 g1], .bool true, .int .i64 size] W fun e w' => e = .returned (.tuple #[.agg #[.int .i64 x, .int .i64 y], .int .i64 0]) ∧ Below W.heap.size W w')) (HP : Hid (∀ W : World, Calls Try.prog 105 #[.agg #[.int .i64 a, .int .i64 b], .agg #[.int .i64 x, .int .i64 y]] W fun e w' => e = .returned (.agg #[.int .i64 (x - b), .int .i64 (y - a)]) ∧ Below W.heap.size W w')) :
    Calls Try.prog 45 #[.agg #[.slice sa ss.length sc, .slice ga gs.length gc, .slice pa ps.length pc], .agg #[.int .i64 p0, .int .i64 g0, .int .i64 p1, .int .i64 g1], .int .i64 size] w fun e w' => e = .returned (.tuple #[spanV (x - b) (y - a), .int .i64 0]) ∧ Below w.heap.size w w' := by
  go_enter Try.func45, Try.ntmps45
  go_wp2_with fail
  refine (H1.out _ (by go_grown)).mono ?_
  rintro e w1 ⟨rfl, hb1⟩
  have Xb3_1 : Box w1 w.heap.size #[.slice sa ss.length sc, .slice ga gs.length gc, .slice pa ps.length pc] := Box.below (Box.alloc (Box.alloc (Box.new w _ _) _) _) hb1
  have Xb4_1 : Box w1 (w.heap.size + 1) #[.int .i64 p0, .int .i64 g0, .int .i64 p1, .int .i64 g1] := Box.below (Box.alloc (Box.newAt (w.alloc _) _ _ (by simp)) _) hb1
  have Xb6_1 : Box w1 (w.heap.size + 1 + 1) #[.int .i64 0, .int .i64 0] := Box.below (Box.newAt ((w.alloc _).alloc _) _ _ (by simp)) hb1
  have hB1 : Below w.heap.size w w1 := stepB (by go_grown) hb1
  have hs1 := hB1.size
  clear hb1
  have cc3 := Xb3_1.2.1
  have ll3 := Xb3_1.1
  have cc4 := Xb4_1.2.1
  have ll4 := Xb4_1.1
  have lm4_0 : w.heap.size < w1.heap.size := by have := ll4; omega
  go_wp2_with fail
  refine (H2.out _ (by go_grown)).mono ?_
  rintro e w2 ⟨rfl, hb2⟩
  have Xb6_2 : Box w2 (w.heap.size + 1 + 1) #[.int .i64 0, .int .i64 0] := Box.below (Box.alloc Xb6_1 _) hb2
  have Xb8_2 : Box w2 w1.heap.size #[.int .i64 a, .int .i64 b] := Box.below (Box.new w1 _ _) hb2
  have hB2 : Below w.heap.size w w2 := stepB (by go_grown) hb2
  have hs2 := hB2.size
  clear hb2 hB1 hs1 Xb3_1 Xb4_1 Xb6_1 cc3 ll3 cc4 ll4 lm4_0
  have cc8 := Xb8_2.2.1
  have ll8 := Xb8_2.1
  go_wp2_with fail
  refine (HP.out _).mono ?_
  rintro e w3 ⟨rfl, hb3⟩
  have Xb6_3 : Box w3 (w.heap.size + 1 + 1) #[.int .i64 0, .int .i64 0] := Box.below (Box.alloc Xb6_2 _) hb3
  have hB3 : Below w.heap.size w w3 := stepB (by go_grown) hb3
  have hs3 := hB3.size
  clear hb3 hB2 hs2 Xb6_2 Xb8_2 cc8 ll8
  have cc6 := Xb6_3.2.1
  have ll6 := Xb6_3.1
  have ff6 := Xb6_3.2.2
  have lm6_0 : w.heap.size < w3.heap.size := by have := ll6; omega
  have lm6_1 : w.heap.size + 1 < w3.heap.size := by have := ll6; omega
  have hfd : ∀ w : World, (Instr.field 166 (.agg #[.int .i64 (x - b), .int .i64 (y - a)]) 0).run Try.prog w = .ok (.agg #[.int .i64 (x - b), .int .i64 (y - a)]) w := fun _ => by kernel_rfl
  go_wp2
  refine bodyPost_ret (v := .tuple #[spanV (x - b) (y - a), .int .i64 0]) (by simp [results, Try.results45, go_sem, spanV, cc6, ll6]) rfl ⟨rfl, by go_grown⟩

/-- The error of Play, and its ends. -/
def playE (ss : List Int) (gs ps : List (List Int)) (p0 g0 p1 g1 size : Int) : Int := if limE ss gs ps p0 g0 size ≠ 0 then limE ss gs ps p0 g0 size else limE ss gs ps p1 g1 size
def playLo (ss : List Int) (gs ps : List (List Int)) (p0 g0 p1 g1 size : Int) : Int := if playE ss gs ps p0 g0 p1 g1 size = 0 then limLo ss gs ps p1 g1 true size - limHi ss gs ps p0 g0 false size else 0
def playHi (ss : List Int) (gs ps : List (List Int)) (p0 g0 p1 g1 size : Int) : Int := if playE ss gs ps p0 g0 p1 g1 size = 0 then limHi ss gs ps p1 g1 true size - limLo ss gs ps p0 g0 false size else 0

theorem lim_ok {ss : List Int} {gs ps : List (List Int)} {pl gr size : Int} (h : limE ss gs ps pl gr size = 0) : checkN ss gs ps = 0 ∧ classB gs ps (pl, gr) = true ∧ colE ss size = 0 := by
  unfold limE at h
  split at h
  · omega
  · split at h
    · cases h
    · rename_i h1 h2
      exact ⟨by omega, by simpa using h2, h⟩
theorem num_bd {ss : List Int} {gs ps : List (List Int)} {pl gr size : Int} (h : limE ss gs ps pl gr size = 0) : (1 ≤ size ∧ size ≤ 10000000) ∧ (-100000 ≤ numN ps pl (stepN ss size) ∧ numN ps pl (stepN ss size) ≤ 100000) ∧ (0 ≤ numN gs gr (stepN ss size) ∧ numN gs gr (stepN ss size) ≤ 100000) := by
  obtain ⟨hc, hcl, hco⟩ := lim_ok h
  obtain ⟨_, hf, hst, hr⟩ := check_parts hc
  obtain ⟨f1, f2⟩ := full_parts hf
  obtain ⟨_, r1, _, r2⟩ := rows_parts hr
  obtain ⟨⟨c1, c2⟩, c3, c4⟩ := (classB_iff gs ps (pl, gr)).1 hcl
  obtain ⟨i, rfl⟩ := Int.eq_ofNat_of_zero_le c1
  obtain ⟨j, rfl⟩ := Int.eq_ofNat_of_zero_le c3
  simp only at c2 c4
  obtain ⟨g1, g2⟩ := col_ok hco
  obtain ⟨ra, ha1, ha2, ha3, ha4⟩ := row_at f2 r2 (i := i) (by omega) g2
  obtain ⟨rb, hb1, hb2, hb3, hb4⟩ := row_at f1 r1 (i := j) (by omega) g2
  exact ⟨⟨g1, size_le (steps_parts hst).1 g2⟩, ⟨ha3, ha4⟩, hb3, hb4⟩
theorem lim_bd {ss : List Int} {gs ps : List (List Int)} {pl gr size : Int} {nut : Bool} (h : limE ss gs ps pl gr size = 0) : (-20000000 ≤ limLo ss gs ps pl gr nut size ∧ limLo ss gs ps pl gr nut size ≤ 20000000) ∧ (-20000000 ≤ limHi ss gs ps pl gr nut size ∧ limHi ss gs ps pl gr nut size ≤ 20000000) := by
  have := num_bd h
  unfold limLo limHi
  rw [if_pos h, if_pos h]
  unfold zoLo zoHi
  cases nut <;> simp <;> omega

theorem play_any (p0 g0 p1 g1 size : Int) (ss : List Int) (gs ps : List (List Int)) (sa ga pa : Option Addr) (sc gc pc : Nat) (w : World) (m1 : ss.length ≤ 4611686018427387904) (m2 : gs.length ≤ 4611686018427387904) (m3 : ps.length ≤ 4611686018427387904) (hs : SlA IntE w sa ss) (hg : SlA IntsAt w ga gs) (hp : SlA IntsAt w pa ps) :
    Calls Try.prog 45 #[.agg #[.slice sa ss.length sc, .slice ga gs.length gc, .slice pa ps.length pc], .agg #[.int .i64 p0, .int .i64 g0, .int .i64 p1, .int .i64 g1], .int .i64 size] w fun e w' => e = .returned (.tuple #[spanV (playLo ss gs ps p0 g0 p1 g1 size) (playHi ss gs ps p0 g0 p1 g1 size), .int .i64 (playE ss gs ps p0 g0 p1 g1 size)]) ∧ Below w.heap.size w w' := by
  have H1 := fun (W : World) (hB : Below w.heap.size w W) => limits_any false p0 g0 size ss gs ps sa ga pa sc gc pc W m1 m2 m3 (hs.below intE_stable hB) (hg.below ints_stable hB) (hp.below ints_stable hB)
  have H2 := fun (W : World) (hB : Below w.heap.size w W) => limits_any true p1 g1 size ss gs ps sa ga pa sc gc pc W m1 m2 m3 (hs.below intE_stable hB) (hg.below ints_stable hB) (hp.below ints_stable hB)
  by_cases h1 : limE ss gs ps p0 g0 size = 0
  · have b1 := lim_bd (nut := false) h1
    rw [h1] at H1
    have e : playE ss gs ps p0 g0 p1 g1 size = limE ss gs ps p1 g1 size := by unfold playE; rw [if_neg (by omega)]
    by_cases h2 : limE ss gs ps p1 g1 size = 0
    · have b2 := lim_bd (nut := true) h2
      rw [h2] at H2
      unfold playLo playHi
      rw [e, h2, if_pos rfl, if_pos rfl]
      have HP := fun (W : World) => playIn_any (limLo ss gs ps p0 g0 false size) (limHi ss gs ps p0 g0 false size) (limLo ss gs ps p1 g1 true size) (limHi ss gs ps p1 g1 true size) W (by omega) (by omega) (by omega) (by omega)
      exact play_2 w p0 g0 p1 g1 size ss gs ps sa ga pa sc gc pc _ _ _ _ (Lib.hid H1) (Lib.hid H2) (Lib.hid HP)
    · unfold playLo playHi
      rw [e, if_neg h2, if_neg h2]
      exact play_1 w p0 g0 p1 g1 size ss gs ps sa ga pa sc gc pc _ _ _ _ _ (beq_false_of_ne h2) (by simpa using h2) (Lib.hid H1) (Lib.hid H2)
  · have e : playE ss gs ps p0 g0 p1 g1 size = limE ss gs ps p0 g0 size := by unfold playE; rw [if_pos h1]
    unfold playLo playHi
    rw [e, if_neg h1, if_neg h1]
    exact play_0 w p0 g0 p1 g1 size ss gs ps sa ga pa sc gc pc _ _ _ (beq_false_of_ne h1) (by simpa using h1) (Lib.hid H1)

end Go.Proofs.Ytpmeahmjmpgbfaa
