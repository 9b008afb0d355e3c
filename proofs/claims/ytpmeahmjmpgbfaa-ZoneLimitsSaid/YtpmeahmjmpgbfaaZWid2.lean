/- Contracts of zone.Pairs and Widest. Made by tools/gen_zcheck.py. -/
import Derived.Test.YtpmeahmjmpgbfaaZWidest
namespace Go.Proofs.Ytpmeahmjmpgbfaa
open Go.RowKit
set_option linter.unusedVariables false
set_option linter.unusedSimpArgs false

set_option maxRecDepth 100000 in
set_option maxHeartbeats 2000000 in
theorem zpairs_0 (w : World) (size v0 v1 : Int) (ss : List Int) (gs ps : List (List Int)) (sa ga pa : Option Addr) (sc gc pc : Nat) (k : Int) (h1 : (k == 0) = false) (h2 : (k != 0) = true) (HC : Hid (∀ W : World, Below w.heap.size w W → Calls Try.prog 106 #[.agg #[.slice sa ss.length sc, .slice ga gs.length gc, .slice pa ps.length pc], .int .i64 size, .agg #[.int .i64 v0, .int .i64 v1]] W fun e w' => e = .returned (.tuple #[.agg #[.slice none 0 0, .slice none 0 0, .slice none 0 0, .int .i64 0], .int .i64 k]) ∧ Below W.heap.size W w')) :
    Calls Try.prog 46 #[.agg #[.slice sa ss.length sc, .slice ga gs.length gc, .slice pa ps.length pc], .int .i64 size, .agg #[.int .i64 v0, .int .i64 v1]] w fun e w' => e = .returned (.tuple #[.slice none 0 0, .int .i64 k]) ∧ Below w.heap.size w w' := by
  go_enter Try.func46, Try.ntmps46
  go_wp2_with fail
  refine (HC.out _ (by go_grown)).mono ?_
  rintro e w1 ⟨rfl, hb1⟩
  have hB1 : Below w.heap.size w w1 := stepB (by go_grown) hb1
  have hs1 := hB1.size
  clear hb1
  go_wp2
  go_returns
  exact ⟨rfl, (by go_grown)⟩

set_option maxRecDepth 100000 in
set_option maxHeartbeats 2000000 in
theorem zpairs_1 (w : World) (size v0 v1 : Int) (ss : List Int) (gs ps : List (List Int)) (sa ga pa : Option Addr) (sc gc pc : Nat) (r : Nat) (L : List ((Int × Int) × (Int × Int))) (HC : Hid (∀ W : World, Below w.heap.size w W → Calls Try.prog 106 #[.agg #[.slice sa ss.length sc, .slice ga gs.length gc, .slice pa ps.length pc], .int .i64 size, .agg #[.int .i64 v0, .int .i64 v1]] W fun e w' => e = .returned (.tuple #[.agg #[.slice sa ss.length sc, .slice ga gs.length gc, .slice pa ps.length pc, .int .i64 r], .int .i64 0]) ∧ Below W.heap.size W w')) (HP : Hid (∀ W : World, Below w.heap.size w W → Calls Try.prog 107 #[.agg #[.slice sa ss.length sc, .slice ga gs.length gc, .slice pa ps.length pc, .int .i64 r], .int .i64 size, .agg #[.int .i64 v0, .int .i64 v1]] W fun e w' => ∃ v, e = .returned v ∧ PairsOwn W.heap.size w' v L ∧ Below W.heap.size W w')) :
    Calls Try.prog 46 #[.agg #[.slice sa ss.length sc, .slice ga gs.length gc, .slice pa ps.length pc], .int .i64 size, .agg #[.int .i64 v0, .int .i64 v1]] w fun e w' => ∃ v, e = .returned (.tuple #[v, .int .i64 0]) ∧ PairsOwn w.heap.size w' v L ∧ Below w.heap.size w w' := by
  go_enter Try.func46, Try.ntmps46
  go_wp2_with fail
  refine (HC.out _ (by go_grown)).mono ?_
  rintro e w1 ⟨rfl, hb1⟩
  have Xb5_1 : Box w1 (w.heap.size + 1) #[.int .i64 v0, .int .i64 v1] := Box.below (Box.newAt (w.alloc _) _ _ (by simp)) hb1
  have hB1 : Below w.heap.size w w1 := stepB (by go_grown) hb1
  have hs1 := hB1.size
  clear hb1
  have cc5 := Xb5_1.2.1
  have ll5 := Xb5_1.1
  have lm5_0 : w.heap.size < w1.heap.size := by have := ll5; omega
  go_wp2_with fail
  have hkeep : w.heap.size ≤ w1.heap.size := hs1
  refine (HP.out _ (by go_grown)).mono ?_
  rintro e w2 ⟨v, rfl, hown, hb2⟩
  have hB2 : Below w.heap.size w w2 := stepB (by go_grown) hb2
  have hs2 := hB2.size
  clear hb2 hB1 hs1 Xb5_1 cc5 ll5 lm5_0
  go_wp2
  go_returns
  exact ⟨v, rfl, ⟨hown.1, hown.2.imp id (fun ⟨g, cap, cur, h1, h2, h3⟩ => ⟨g, cap, cur, h1, by have := h2; simp at this; omega, h3⟩)⟩, hB2⟩

/-- All pairs whose play is wanted, of a valid table and a size of step k. -/
def pairsL (gs ps : List (List Int)) (size : Int) (k : Nat) (v0 v1 : Int) : List ((Int × Int) × (Int × Int)) := pairL (gs := gs) (ps := ps) size k v0 v1 (clsS gs ps (ps.length * gs.length)) (clsS gs ps (ps.length * gs.length))

theorem chk_ok {ss : List Int} {gs ps : List (List Int)} {size v0 v1 : Int} (h : chkE ss gs ps size v0 v1 = 0) : checkN ss gs ps = 0 ∧ colE ss size = 0 := by
  unfold chkE at h
  by_cases h1 : checkN ss gs ps = 0
  · by_cases h2 : colE ss size = 0
    · exact ⟨h1, h2⟩
    · rw [if_neg (by omega), if_pos h2] at h; omega
  · rw [if_pos h1] at h; omega

theorem pairsOf_any (size v0 v1 : Int) (ss : List Int) (gs ps : List (List Int)) (sa ga pa : Option Addr) (sc gc pc : Nat) (w : World) (m1 : ss.length ≤ 4611686018427387904) (m2 : gs.length ≤ 4611686018427387904) (m3 : ps.length ≤ 4611686018427387904) (hs : SlA IntE w sa ss) (hg : SlA IntsAt w ga gs) (hp : SlA IntsAt w pa ps) (hc : checkN ss gs ps = 0) (hco : colE ss size = 0) :
    Calls Try.prog 107 #[.agg #[.slice sa ss.length sc, .slice ga gs.length gc, .slice pa ps.length pc, .int .i64 (stepN ss size)], .int .i64 size, .agg #[.int .i64 v0, .int .i64 v1]] w fun e w' => ∃ v, e = .returned v ∧ PairsOwn w.heap.size w' v (pairsL gs ps size (stepN ss size) v0 v1) ∧ Below w.heap.size w w' := by
  obtain ⟨⟨_, g12, p12⟩, _, hst, _⟩ := check_parts hc
  obtain ⟨g1, g2⟩ := col_ok hco
  have g3 := size_le (steps_parts hst).1 g2
  refine pairs_any ss gs ps sa ga pa sc gc pc (stepN ss size) size v0 v1 w (by omega) (by omega) (Lib.hid fun W hB nut x => zoneOf_any nut x.1.1 x.1.2 size (stepN ss size) ss gs ps sa ga pa sc gc pc W m1 m2 m3 (hs.below intE_stable hB) (hg.below ints_stable hB) (hp.below ints_stable hB) hc x.2 g2 (by omega) g3) (Lib.hid fun nut x => ?_)
  have hl : limE ss gs ps x.1.1 x.1.2 size = 0 := by unfold limE; rw [if_neg (by omega), if_neg (by rw [show (x.1.1, x.1.2) = x.1 from rfl, x.2]; decide), hco]
  have b := lim_bd (nut := nut) hl
  unfold limLo limHi at b
  rw [if_pos hl, if_pos hl] at b
  omega

theorem chkV_ok {ss : List Int} {gs ps : List (List Int)} {sa ga pa : Option Addr} {sc gc pc : Nat} {size v0 v1 : Int} (h : chkE ss gs ps size v0 v1 = 0) : chkV ss gs ps sa ga pa sc gc pc size v0 v1 = .tuple #[.agg #[.slice sa ss.length sc, .slice ga gs.length gc, .slice pa ps.length pc, .int .i64 (stepN ss size)], .int .i64 0] := by unfold chkV; rw [if_pos h]
theorem chkV_no {ss : List Int} {gs ps : List (List Int)} {sa ga pa : Option Addr} {sc gc pc : Nat} {size v0 v1 : Int} (h : ¬ chkE ss gs ps size v0 v1 = 0) : chkV ss gs ps sa ga pa sc gc pc size v0 v1 = .tuple #[.agg #[.slice none 0 0, .slice none 0 0, .slice none 0 0, .int .i64 0], .int .i64 (chkE ss gs ps size v0 v1)] := by unfold chkV; rw [if_neg h]

/-- What Pairs returns. -/
def ZPairsP (ss : List Int) (gs ps : List (List Int)) (size v0 v1 : Int) (w : World) (e : Ending) (w' : World) : Prop := Below w.heap.size w w' ∧
  ((chkE ss gs ps size v0 v1 ≠ 0 ∧ e = .returned (.tuple #[.slice none 0 0, .int .i64 (chkE ss gs ps size v0 v1)])) ∨
   (chkE ss gs ps size v0 v1 = 0 ∧ ∃ v, e = .returned (.tuple #[v, .int .i64 0]) ∧ PairsOwn w.heap.size w' v (pairsL gs ps size (stepN ss size) v0 v1)))
theorem zpairs_all (size v0 v1 : Int) (ss : List Int) (gs ps : List (List Int)) (sa ga pa : Option Addr) (sc gc pc : Nat) (w : World) (m1 : ss.length ≤ 4611686018427387904) (m2 : gs.length ≤ 4611686018427387904) (m3 : ps.length ≤ 4611686018427387904) (hs : SlA IntE w sa ss) (hg : SlA IntsAt w ga gs) (hp : SlA IntsAt w pa ps) :
    Calls Try.prog 46 #[.agg #[.slice sa ss.length sc, .slice ga gs.length gc, .slice pa ps.length pc], .int .i64 size, .agg #[.int .i64 v0, .int .i64 v1]] w (ZPairsP ss gs ps size v0 v1 w) := by
  have HC := fun (W : World) (hB : Below w.heap.size w W) => chk_any size v0 v1 ss gs ps sa ga pa sc gc pc W m1 m2 m3 (hs.below intE_stable hB) (hg.below ints_stable hB) (hp.below ints_stable hB)
  by_cases h : chkE ss gs ps size v0 v1 = 0
  · obtain ⟨hc, hco⟩ := chk_ok h
    simp only [chkV_ok h] at HC
    refine (zpairs_1 w size v0 v1 ss gs ps sa ga pa sc gc pc _ _ (Lib.hid HC) (Lib.hid fun W hB => pairsOf_any size v0 v1 ss gs ps sa ga pa sc gc pc W m1 m2 m3 (hs.below intE_stable hB) (hg.below ints_stable hB) (hp.below ints_stable hB) hc hco)).mono ?_
    rintro e w' ⟨v, he, ho, hb⟩
    exact ⟨hb, .inr ⟨h, v, he, ho⟩⟩
  · simp only [chkV_no h] at HC
    refine (zpairs_0 w size v0 v1 ss gs ps sa ga pa sc gc pc _ (beq_false_of_ne h) (by simpa using h) (Lib.hid HC)).mono ?_
    rintro e w' ⟨he, hb⟩
    exact ⟨hb, .inl ⟨h, he⟩⟩

/-- The widths of both zones of a pair together. -/
def wdP (gs : List (List Int)) (k : Nat) (x : (Int × Int) × (Int × Int)) : Int := numN gs x.1.2 k + numN gs x.2.2 k
/-- What Widest returns. -/
def widestV (ss : List Int) (gs ps : List (List Int)) (size v0 v1 : Int) : Value := if chkE ss gs ps size v0 v1 ≠ 0 then .tuple #[.agg #[.int .i64 0, .int .i64 0, .int .i64 0, .int .i64 0], .int .i64 (chkE ss gs ps size v0 v1)] else
  match pairsL gs ps size (stepN ss size) v0 v1 with
  | [] => .tuple #[.agg #[.int .i64 0, .int .i64 0, .int .i64 0, .int .i64 0], .int .i64 7]
  | x :: l => .tuple #[.agg (c4 (maxW (wdP gs (stepN ss size)) x l)), .int .i64 0]

theorem pairsL_mem {gs ps : List (List Int)} {size : Int} {k : Nat} {v0 v1 : Int} {x : (Int × Int) × (Int × Int)} (h : x ∈ pairsL gs ps size k v0 v1) : classB gs ps x.1 = true ∧ classB gs ps x.2 = true := by
  unfold pairsL pairL at h
  obtain ⟨a, _, ha⟩ := List.mem_flatMap.1 h
  unfold rowL at ha
  obtain ⟨b, _, rfl⟩ := List.mem_map.1 ha
  exact ⟨a.2, b.2⟩
theorem pairsL_len (gs ps : List (List Int)) (size : Int) (k : Nat) (v0 v1 : Int) (hg : gs.length ≤ 12) (hp : ps.length ≤ 12) : (pairsL gs ps size k v0 v1).length ≤ 20736 := by
  have h1 := pairL_len (gs := gs) (ps := ps) size k v0 v1 (clsS gs ps (ps.length * gs.length)) (clsS gs ps (ps.length * gs.length))
  have h2 := clsS_len gs ps (ps.length * gs.length)
  have h3 : ps.length * gs.length ≤ 12 * 12 := Nat.mul_le_mul hp hg
  have h4 : (clsS gs ps (ps.length * gs.length)).length * (clsS gs ps (ps.length * gs.length)).length ≤ 144 * 144 := Nat.mul_le_mul (by omega) (by omega)
  unfold pairsL
  omega

theorem widest_all (size v0 v1 : Int) (ss : List Int) (gs ps : List (List Int)) (sa ga pa : Option Addr) (sc gc pc : Nat) (w : World) (m1 : ss.length ≤ 4611686018427387904) (m2 : gs.length ≤ 4611686018427387904) (m3 : ps.length ≤ 4611686018427387904) (hs : SlA IntE w sa ss) (hg : SlA IntsAt w ga gs) (hp : SlA IntsAt w pa ps) :
    Calls Try.prog 47 #[.agg #[.slice sa ss.length sc, .slice ga gs.length gc, .slice pa ps.length pc], .int .i64 size, .agg #[.int .i64 v0, .int .i64 v1]] w fun e w' => e = .returned (widestV ss gs ps size v0 v1) ∧ Below w.heap.size w w' := by
  have HC := fun (W : World) (hB : Below w.heap.size w W) => chk_any size v0 v1 ss gs ps sa ga pa sc gc pc W m1 m2 m3 (hs.below intE_stable hB) (hg.below ints_stable hB) (hp.below ints_stable hB)
  unfold widestV
  by_cases h : chkE ss gs ps size v0 v1 = 0
  · obtain ⟨hc, hco⟩ := chk_ok h
    obtain ⟨⟨_, g12, p12⟩, hf, hst, hr⟩ := check_parts hc
    obtain ⟨f1, f2⟩ := full_parts hf
    obtain ⟨_, r1, _, r2⟩ := rows_parts hr
    obtain ⟨g1, g2⟩ := col_ok hco
    simp only [chkV_ok h] at HC
    rw [if_neg (by omega)]
    have HP := fun (W : World) (hB : Below w.heap.size w W) => pairsOf_any size v0 v1 ss gs ps sa ga pa sc gc pc W m1 m2 m3 (hs.below intE_stable hB) (hg.below ints_stable hB) (hp.below ints_stable hB) hc hco
    have hln := pairsL_len gs ps size (stepN ss size) v0 v1 g12 p12
    have hmem := fun x => pairsL_mem (gs := gs) (ps := ps) (size := size) (k := stepN ss size) (v0 := v0) (v1 := v1) (x := x)
    cases hL : pairsL gs ps size (stepN ss size) v0 v1 with
    | nil =>
      rw [hL] at HP
      exact widest_1 w size v0 v1 ss gs ps sa ga pa sc gc pc _ (Lib.hid HC) (Lib.hid HP)
    | cons x l =>
      rw [hL] at HP hln hmem
      refine widest_2 w size v0 v1 ss gs ps sa ga pa sc gc pc _ x l (wdP gs (stepN ss size)) (by simp at hln; omega) (Lib.hid HC) (Lib.hid HP) (Lib.hid fun y hy W g hB hX => ?_)
      obtain ⟨q1, q2⟩ := hmem y hy
      obtain ⟨⟨a1, a2⟩, a3, a4⟩ := (classB_iff gs ps y.1).1 q1
      obtain ⟨⟨b1, b2⟩, b3, b4⟩ := (classB_iff gs ps y.2).1 q2
      obtain ⟨i, hi⟩ := Int.eq_ofNat_of_zero_le a3
      obtain ⟨j, hj⟩ := Int.eq_ofNat_of_zero_le b3
      obtain ⟨ra, ha1, ha2, ha3, ha4⟩ := row_at f1 r1 (i := i) (k := stepN ss size) (by omega) g2
      obtain ⟨rb, hb1, hb2, hb3, hb4⟩ := row_at f1 r1 (i := j) (k := stepN ss size) (by omega) g2
      have HG := fun (W' : World) (hB' : Below W.heap.size W W') => hg.below ints_stable (hB.trans (hB'.mono hB.size))
      unfold c4 wdP
      rw [hi, hj]
      exact widths_any W y.1.1 i y.2.1 j _ _ g _ _ _ _ ha3 ha4 hb3 hb4 hX (Lib.hid fun W' hB' => zwidth_any i (stepN ss size) _ y.1.1 ss gs ps sa ga pa sc gc pc W' m1 m2 m3 (by omega) (by omega) (numAt_of (HG W' hB') ha1 ha2)) (Lib.hid fun W' hB' => zwidth_any j (stepN ss size) _ y.2.1 ss gs ps sa ga pa sc gc pc W' m1 m2 m3 (by omega) (by omega) (numAt_of (HG W' hB') hb1 hb2))
  · simp only [chkV_no h] at HC
    rw [if_pos h]
    exact widest_0 w size v0 v1 ss gs ps sa ga pa sc gc pc _ (beq_false_of_ne h) (by simpa using h) (Lib.hid HC)

end Go.Proofs.Ytpmeahmjmpgbfaa
