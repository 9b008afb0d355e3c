/- Contracts of acmeref02.Rows, Step, Class and of acmelaw02.equal. Made by tools/gen_zrtab.py. -/
import Derived.Test.YtpmeahmjmpgbfaaZRef
import Derived.Test.YtpmeahmjmpgbfaaZLim
import Derived.LoopNIn
namespace Go.Proofs.Ytpmeahmjmpgbfaa
open Go.ChangeShapes Go.WideShapes Go.ChangeAt Go.RowKit
set_option linter.unusedVariables false
set_option linter.unusedSimpArgs false

/-- An operation whose guard was left out is left out. -/
theorem ite_skip {c A B : Prop} [Decidable c] (h : ¬ c) (hB : B) : if c then A else B := by rw [if_neg h]; exact hB
/-- What a slice's place holds. -/
theorem at_row {w : World} {ls : List (List Int)} {b off : Nat} (hc : ∀ i x, ls[i]? = some x → ∃ u, w.cell? ⟨b, off + i, none⟩ = some u ∧ IntsAt w u x) {k : Nat} (hk : k < ls.length) :
    ∃ r ra rc, ls[k]? = some r ∧ w.cell? ⟨b, off + k, none⟩ = some (.slice ra r.length rc) ∧ r.length ≤ 4611686018427387904 ∧ SlA IntE w ra r := by
  have hx : ls[k]? = some ls[k] := List.getElem?_eq_getElem hk
  obtain ⟨u, hu, ra, rc, rfl, hm, hs⟩ := hc k _ hx
  exact ⟨_, ra, rc, hx, hu, hm, hs⟩
theorem take_all {α : Type} {p : α → Prop} {l : List α} {k : Nat} {x : α} (hx : l[k]? = some x) (h : ∀ y ∈ l.take k, p y) (hp : p x) : ∀ y ∈ l.take (k + 1), p y := by
  intro y hy
  have hk : k < l.length := by
    rcases Nat.lt_or_ge k l.length with h' | h'
    · exact h'
    · rw [List.getElem?_eq_none h'] at hx; cases hx
  rw [List.take_succ_eq_append_getElem hk, List.mem_append] at hy
  rcases hy with hy | hy
  · exact h y hy
  · have e : l[k] = x := by rw [List.getElem?_eq_getElem hk] at hx; exact Option.some.inj hx
    rw [e] at hy
    simp at hy
    subst hy
    exact hp
theorem take_end {α : Type} {p : α → Prop} {l : List α} {k : Nat} (hk : k = l.length) (h : ∀ y ∈ l.take k, p y) : ∀ y ∈ l, p y := by
  rw [hk, List.take_of_length_le (Nat.le_refl _)] at h
  exact h

/-- The error of rows' form. -/
def rowsF (ls : List (List Int)) (many : Int) : Int := if ls.all (fun r => decide ((r.length : Int) = many)) = true then 0 else 4
set_option maxRecDepth 100000 in
set_option maxHeartbeats 2000000 in
theorem rows_form (ls : List (List Int)) (many lo : Int) (a : Option Addr) (cap : Nat) (w : World) (hm : ls.length ≤ 4611686018427387904) (hS : SlA IntsAt w a ls) :
    Calls Try.prog 99 #[.slice a ls.length cap, .int .i64 many, .int .i64 lo, .bool true] w fun e w' => e = .returned (.int .i64 (rowsF ls many)) ∧ w = w' := by
  rcases hS with rfl | ⟨b, off, rfl, hb, hc⟩
  · go_enter Try.func99, Try.ntmps99
    go_wp2
    go_rounds 1
    go_returns
    exact ⟨rfl, rfl⟩
  have HZ := Lib.hid hc
  clear hc
  go_enter Try.func99, Try.ntmps99
  go_wp2
  go_loop [9, 10] (fun i _ => ∃ k : Nat, k ≤ ls.length ∧ i = .int .i64 k ∧ Hid (∀ r ∈ ls.take k, ((r.length : Nat) : Int) = many)) (fun i _ => ls.length - (intOf i).toNat)
  case atStart => exact ⟨0, Nat.zero_le _, rfl, fun r hr => absurd hr (by simp)⟩
  case round =>
    obtain ⟨k, hk, rfl, hin⟩ := hrel
    by_cases hlt : k < ls.length
    · obtain ⟨r, ra, rc, hx, hcu, hrm, -⟩ := at_row HZ.out hlt
      have HX := Lib.hid hx
      clear hx
      by_cases h1 : (r.length : Int) = many
      · have HN := Lib.hid (take_all HX.out hin.out h1)
        have e2 : ((r.length : Int) != many) = false := by rw [bne_eq_false_iff_eq]; exact h1
        have H1 := Lib.hid h1
        clear h1
        by_cases h0 : 0 < r.length
        · have d0 : decide ((0 : Int) < r.length) = true := decide_eq_true (by omega)
          go_wp2
          go_rounds 1
          go_round
          case rel => exact ⟨k + 1, by omega, by go_num, HN⟩
          case measure => simp [intOf]; omega
        · have d0 : decide ((0 : Int) < r.length) = false := decide_eq_false (by omega)
          go_wp2
          go_rounds 1
          go_round
          case rel => exact ⟨k + 1, by omega, by go_num, HN⟩
          case measure => simp [intOf]; omega
      · have e2 : ((r.length : Int) != many) = true := by rw [bne_iff_ne]; exact h1
        have H1 := Lib.hid h1
        clear h1
        go_wp2
        go_returns
        refine ⟨ret_int ?_, rfl⟩
        unfold rowsF
        rw [if_neg]
        intro h
        have := List.all_eq_true.1 h r (List.mem_of_getElem? HX.out)
        exact H1.out (of_decide_eq_true this)
    · have hk' : k = ls.length := by omega
      have HK := Lib.hid hk'
      clear hk'
      go_wp2
      go_returns
      refine ⟨ret_int ?_, rfl⟩
      unfold rowsF
      rw [if_pos (List.all_eq_true.2 fun r hr => decide_eq_true (take_end HK.out hin.out r hr))]

/-- The error of rows' numbers. -/
def rowsN (ls : List (List Int)) (lo : Int) : Int := if (decide (0 < ls.length) && ls.all (allB lo 100000)) = true then 0 else 2
set_option maxRecDepth 100000 in
set_option maxHeartbeats 4000000 in
theorem rows_num (ls : List (List Int)) (many lo : Int) (a : Option Addr) (cap : Nat) (w : World) (hm : ls.length ≤ 4611686018427387904) (hS : SlA IntsAt w a ls) :
    Calls Try.prog 99 #[.slice a ls.length cap, .int .i64 many, .int .i64 lo, .bool false] w fun e w' => e = .returned (.int .i64 (rowsN ls lo)) ∧ w = w' := by
  rcases hS with rfl | ⟨b, off, rfl, hb, hc⟩
  · go_enter Try.func99, Try.ntmps99
    go_wp2
    go_rounds 1
    go_returns
    exact ⟨rfl, rfl⟩
  have HZ := Lib.hid hc
  clear hc
  go_enter Try.func99, Try.ntmps99
  go_wp2
  go_loop [9, 10] (fun i _ => ∃ k : Nat, k ≤ ls.length ∧ i = .int .i64 k ∧ Hid (∀ r ∈ ls.take k, allB lo 100000 r = true)) (fun i _ => ls.length - (intOf i).toNat)
  case atStart => exact ⟨0, Nat.zero_le _, rfl, fun r hr => absurd hr (by simp)⟩
  case round =>
    obtain ⟨k, hk, rfl, hin⟩ := hrel
    by_cases hlt : k < ls.length
    · obtain ⟨r, ra, rc, hx, hcu, hrm, hrs⟩ := at_row HZ.out hlt
      have HX := Lib.hid hx
      clear hx
      rcases hrs with rfl | ⟨rb, ro, rfl, hrb, hrc⟩
      · have HN := Lib.hid (take_all HX.out hin.out (show allB lo 100000 [] = true from rfl))
        simp only [List.length_nil] at hcu
        go_wp2
        go_rounds 1
        go_round
        case rel => exact ⟨k + 1, by omega, by go_num, HN⟩
        case measure => simp [intOf]; omega
      have HR := Lib.hid hrc
      clear hrc
      go_wp2
      go_loop [10] (fun j => ∃ m : Nat, m ≤ r.length ∧ j = .int .i64 m ∧ Hid (∀ z ∈ r.take m, inB lo 100000 z = true)) (fun j => r.length - (intOf j).toNat)
      case atStart => exact ⟨0, Nat.zero_le _, rfl, fun r hr => absurd hr (by simp)⟩
      case round =>
        obtain ⟨m, hm2, rfl, hin2⟩ := hrel
        by_cases hml : m < r.length
        · have hzx : r[m]? = some r[m] := List.getElem?_eq_getElem hml
          obtain ⟨u, hcz, hzu⟩ := HR.out m _ hzx
          obtain ⟨z, hz⟩ : ∃ z, r[m] = z := ⟨_, rfl⟩
          rw [hz] at hzx hzu
          unfold IntE at hzu
          subst hzu
          have HZX := Lib.hid hzx
          clear hzx hz
          cases hq : inB lo 100000 z
          · have HQ := Lib.hid hq
            go_wp2_with fail
            refine (zin_any _ _ _ _).mono ?_
            rintro e w1 ⟨rfl, rfl⟩
            rw [hq]
            clear hq
            go_wp2
            go_returns
            refine ⟨ret_int ?_, rfl⟩
            unfold rowsN
            rw [if_neg]
            intro h
            rw [Bool.and_eq_true] at h
            have h2 := List.all_eq_true.1 h.2 r (List.mem_of_getElem? HX.out)
            have h3 := List.all_eq_true.1 h2 z (List.mem_of_getElem? HZX.out)
            rw [HQ.out] at h3
            cases h3
          · have HN := Lib.hid (take_all HZX.out hin2.out hq)
            go_wp2_with fail
            refine (zin_any _ _ _ _).mono ?_
            rintro e w1 ⟨rfl, rfl⟩
            rw [hq]
            clear hq
            go_wp2
            go_round
            case rel => exact ⟨m + 1, by omega, by go_num, HN⟩
            case measure => simp [intOf]; omega
        · have HN := Lib.hid (take_all HX.out hin.out (show allB lo 100000 r = true from List.all_eq_true.2 (take_end (by omega) hin2.out)))
          go_wp2
          go_round
          case rel => exact ⟨k + 1, by omega, by go_num, HN⟩
          case measure => simp [intOf]; omega
    · have hk' : k = ls.length := by omega
      have HK := Lib.hid hk'
      clear hk'
      by_cases h0 : 0 < ls.length
      · have e0 : ((ls.length : Int) == 0) = false := by rw [beq_eq_false_iff_ne]; omega
        have H0 := Lib.hid h0
        clear h0
        go_wp2
        go_returns
        refine ⟨ret_int ?_, rfl⟩
        unfold rowsN
        rw [decide_eq_true H0.out, Bool.true_and, if_pos (List.all_eq_true.2 (take_end HK.out hin.out))]
      · have e0 : ((ls.length : Int) == 0) = true := by rw [beq_iff_eq]; omega
        have H0 := Lib.hid h0
        clear h0
        go_wp2
        go_returns
        refine ⟨ret_int ?_, rfl⟩
        unfold rowsN
        rw [decide_eq_false H0.out, Bool.false_and, if_neg (by simp)]

theorem stepN_at {ss : List Int} {x s : Int} {k : Nat} (hx : ss[k]? = some s) (h : ∀ y ∈ ss.take k, y < x) (hs : ¬ s < x) : stepN ss x = k := by
  have hk : k < ss.length := by
    rcases Nat.lt_or_ge k ss.length with h' | h'
    · exact h'
    · rw [List.getElem?_eq_none h'] at hx; cases hx
  have e : ss[k] = s := by rw [List.getElem?_eq_getElem hk] at hx; exact Option.some.inj hx
  unfold stepN
  rw [show ss = ss.take k ++ (ss[k] :: ss.drop (k + 1)) by rw [← List.drop_eq_getElem_cons hk, List.take_append_drop], List.takeWhile_append_of_pos (by simpa using h), List.takeWhile_cons_of_neg (by rw [e]; simpa using hs)]
  simp
  omega
theorem stepN_end {ss : List Int} {x : Int} (h : ∀ y ∈ ss, y < x) : stepN ss x = ss.length := by
  unfold stepN
  have := List.takeWhile_append_of_pos (p := fun s => decide (s < x)) (l₁ := ss) (l₂ := []) (by simpa using h)
  rw [List.append_nil, List.takeWhile_nil, List.append_nil] at this
  rw [this]
/-- What acmeref02.Step returns. -/
def stepO (ss : List Int) (x : Int) : Value := if 1 ≤ x ∧ stepN ss x < ss.length then .tuple #[.int .i64 (stepN ss x : Nat), .bool true] else .tuple #[.int .i64 0, .bool false]
set_option maxRecDepth 100000 in
set_option maxHeartbeats 2000000 in
theorem rstep_any (ss : List Int) (gs ps : List (List Int)) (sa ga pa : Option Addr) (sc gc pc : Nat) (size : Int) (w : World) (hm : ss.length ≤ 4611686018427387904) (hS : SlA IntE w sa ss) :
    Calls Try.prog 49 #[.agg #[.slice sa ss.length sc, .slice ga gs.length gc, .slice pa ps.length pc], .int .i64 size] w fun e w' => e = .returned (stepO ss size) ∧ Below w.heap.size w w' := by
  rcases hS with rfl | ⟨b, off, rfl, hb, hc⟩
  · go_enter Try.func49, Try.ntmps49
    go_wp2
    go_rounds 1
    go_returns
    refine ⟨?_, by go_grown⟩
    unfold stepO
    rw [if_neg (by simp)]
    rfl
  have HZ := Lib.hid hc
  clear hc
  cases d1 : decide (1 ≤ size)
  · have D1 := Lib.hid d1
    by_cases h0 : 0 < ss.length
    · have d0 : decide ((0 : Int) < ss.length) = true := decide_eq_true (by omega)
      go_enter Try.func49, Try.ntmps49
      go_wp2
      go_rounds 1
      go_returns
      refine ⟨?_, by go_grown⟩
      unfold stepO
      rw [if_neg (fun h => of_decide_eq_false D1.out h.1)]
      rfl
    · have d0 : decide ((0 : Int) < ss.length) = false := decide_eq_false (by omega)
      go_enter Try.func49, Try.ntmps49
      go_wp2
      go_rounds 1
      go_returns
      refine ⟨?_, by go_grown⟩
      unfold stepO
      rw [if_neg (fun h => of_decide_eq_false D1.out h.1)]
      rfl
  · have D1 := Lib.hid d1
    go_enter Try.func49, Try.ntmps49
    go_wp2
    go_loop [6] (fun i => ∃ k : Nat, k ≤ ss.length ∧ i = .int .i64 k ∧ Hid (∀ s ∈ ss.take k, s < size)) (fun i => ss.length - (intOf i).toNat)
    case atStart => exact ⟨0, Nat.zero_le _, rfl, fun r hr => absurd hr (by simp)⟩
    case round =>
      obtain ⟨k, hk, rfl, hin⟩ := hrel
      by_cases hlt : k < ss.length
      · have hzx : ss[k]? = some ss[k] := List.getElem?_eq_getElem hlt
        obtain ⟨u, hcz, hzu⟩ := HZ.out k _ hzx
        obtain ⟨z, hz⟩ : ∃ z, ss[k] = z := ⟨_, rfl⟩
        rw [hz] at hzx hzu
        unfold IntE at hzu
        subst hzu
        have HZX := Lib.hid hzx
        clear hzx hz
        cases hq : decide (size ≤ z)
        · have HN := Lib.hid (take_all HZX.out hin.out (show z < size by have := of_decide_eq_false hq; omega))
          go_wp2
          go_round
          case rel => exact ⟨k + 1, by omega, by go_num, HN⟩
          case measure => simp [intOf]; omega
        · have HN := Lib.hid (stepN_at HZX.out hin.out (show ¬ z < size by have := of_decide_eq_true hq; omega))
          have HL := Lib.hid hlt
          go_wp2
          go_returns
          refine ⟨?_, by go_grown⟩
          unfold stepO
          rw [HN.out, if_pos ⟨of_decide_eq_true D1.out, HL.out⟩]
          rfl
      · have HN := Lib.hid (stepN_end (take_end (show k = ss.length by omega) hin.out))
        go_wp2
        go_returns
        refine ⟨?_, by go_grown⟩
        unfold stepO
        rw [if_neg (fun h => absurd h.2 (by rw [HN.out]; omega))]
        rfl

set_option maxRecDepth 100000 in
set_option maxHeartbeats 4000000 in
theorem rclass_0 (ss : List Int) (gs ps : List (List Int)) (sa ga pa : Option Addr) (sc gc pc : Nat) (pl gr : Int) (m2 : gs.length ≤ 4611686018427387904) (m3 : ps.length ≤ 4611686018427387904) (h1 : inB 0 ((ps.length : Int) - 1) pl = false) (w : World) :
    Calls Try.prog 52 #[.agg #[.slice sa ss.length sc, .slice ga gs.length gc, .slice pa ps.length pc], .agg #[.int .i64 pl, .int .i64 gr]] w fun e w' => e = .returned (.bool false) ∧ Below w.heap.size w w' := by
  go_enter Try.func52, Try.ntmps52
  go_wp2_with fail
  refine (zin_any pl 0 ((ps.length : Int) - 1) _).mono ?_
  rintro e w9 ⟨rfl, rfl⟩
  rw [h1]
  go_wp2
  go_returns
  exact ⟨rfl, (by go_grown)⟩

set_option maxRecDepth 100000 in
set_option maxHeartbeats 4000000 in
theorem rclass_1 (ss : List Int) (gs ps : List (List Int)) (sa ga pa : Option Addr) (sc gc pc : Nat) (pl gr : Int) (m2 : gs.length ≤ 4611686018427387904) (m3 : ps.length ≤ 4611686018427387904) (h1 : inB 0 ((ps.length : Int) - 1) pl = true) (h2 : inB 0 ((gs.length : Int) - 1) gr = false) (w : World) :
    Calls Try.prog 52 #[.agg #[.slice sa ss.length sc, .slice ga gs.length gc, .slice pa ps.length pc], .agg #[.int .i64 pl, .int .i64 gr]] w fun e w' => e = .returned (.bool false) ∧ Below w.heap.size w w' := by
  go_enter Try.func52, Try.ntmps52
  go_wp2_with fail
  refine (zin_any pl 0 ((ps.length : Int) - 1) _).mono ?_
  rintro e w9 ⟨rfl, rfl⟩
  rw [h1]
  go_wp2_with fail
  refine (zin_any gr 0 ((gs.length : Int) - 1) _).mono ?_
  rintro e w9 ⟨rfl, rfl⟩
  rw [h2]
  go_wp2
  go_returns
  exact ⟨rfl, (by go_grown)⟩

set_option maxRecDepth 100000 in
set_option maxHeartbeats 4000000 in
theorem rclass_2 (ss : List Int) (gs ps : List (List Int)) (sa ga pa : Option Addr) (sc gc pc : Nat) (pl gr : Int) (m2 : gs.length ≤ 4611686018427387904) (m3 : ps.length ≤ 4611686018427387904) (h1 : inB 0 ((ps.length : Int) - 1) pl = true) (h2 : inB 0 ((gs.length : Int) - 1) gr = true) (w : World) :
    Calls Try.prog 52 #[.agg #[.slice sa ss.length sc, .slice ga gs.length gc, .slice pa ps.length pc], .agg #[.int .i64 pl, .int .i64 gr]] w fun e w' => e = .returned (.bool true) ∧ Below w.heap.size w w' := by
  go_enter Try.func52, Try.ntmps52
  go_wp2_with fail
  refine (zin_any pl 0 ((ps.length : Int) - 1) _).mono ?_
  rintro e w9 ⟨rfl, rfl⟩
  rw [h1]
  go_wp2_with fail
  refine (zin_any gr 0 ((gs.length : Int) - 1) _).mono ?_
  rintro e w9 ⟨rfl, rfl⟩
  rw [h2]
  go_wp2
  go_returns
  exact ⟨rfl, (by go_grown)⟩

theorem rclass_any (ss : List Int) (gs ps : List (List Int)) (sa ga pa : Option Addr) (sc gc pc : Nat) (pl gr : Int) (m2 : gs.length ≤ 4611686018427387904) (m3 : ps.length ≤ 4611686018427387904) (w : World) :
    Calls Try.prog 52 #[.agg #[.slice sa ss.length sc, .slice ga gs.length gc, .slice pa ps.length pc], .agg #[.int .i64 pl, .int .i64 gr]] w fun e w' => e = .returned (.bool (classB gs ps (pl, gr))) ∧ Below w.heap.size w w' := by
  have e : classB gs ps (pl, gr) = (inB 0 ((ps.length : Int) - 1) pl && inB 0 ((gs.length : Int) - 1) gr) := by unfold classB allB; simp
  rw [e]
  cases h1 : inB 0 ((ps.length : Int) - 1) pl
  · exact rclass_0 ss gs ps sa ga pa sc gc pc pl gr m2 m3 h1 w
  cases h2 : inB 0 ((gs.length : Int) - 1) gr
  · exact rclass_1 ss gs ps sa ga pa sc gc pc pl gr m2 m3 h1 h2 w
  · exact rclass_2 ss gs ps sa ga pa sc gc pc pl gr m2 m3 h1 h2 w

set_option maxRecDepth 100000 in
set_option maxHeartbeats 2000000 in
/-- Lists that are the same are equal. -/
theorem equal_same (xs : List Int) (a c : Option Addr) (ca cb : Nat) (w : World) (hm : xs.length ≤ 4611686018427387904) (hS : SlA IntE w a xs) (hT : SlA IntE w c xs) :
    Calls Try.prog 98 #[.slice a xs.length ca, .slice c xs.length cb] w fun e w' => e = .returned (.bool true) ∧ Below w.heap.size w w' := by
  rcases hS with rfl | ⟨b, off, rfl, hb, hc⟩
  · go_enter Try.func98, Try.ntmps98
    go_wp2
    go_rounds 1
    go_returns
    exact ⟨rfl, Below.refl _ _⟩
  rcases hT with rfl | ⟨d, of2, rfl, hd, hcd⟩
  · go_enter Try.func98, Try.ntmps98
    go_wp2
    go_rounds 1
    go_returns
    exact ⟨rfl, Below.refl _ _⟩
  have HZ := Lib.hid hc
  have HY := Lib.hid hcd
  clear hc hcd
  have e0 : ((xs.length : Int) != xs.length) = false := by simp
  go_enter Try.func98, Try.ntmps98
  go_wp2
  go_loopw [5] (fun i wr => ∃ k : Nat, k ≤ xs.length ∧ i = .int .i64 k ∧ Hid (Below w.heap.size w wr)) (fun i _ => xs.length - (intOf i).toNat)
  case atStart => exact ⟨0, Nat.zero_le _, rfl, Below.refl _ _⟩
  case round =>
    obtain ⟨k, hk, rfl, hB⟩ := hrel
    by_cases hlt : k < xs.length
    · have hzx : xs[k]? = some xs[k] := List.getElem?_eq_getElem hlt
      obtain ⟨u, hcz, hzu⟩ := HZ.out k _ hzx
      obtain ⟨v, hcy, hyu⟩ := HY.out k _ hzx
      obtain ⟨z, hz⟩ : ∃ z, xs[k] = z := ⟨_, rfl⟩
      rw [hz] at hzu hyu
      unfold IntE at hzu hyu
      subst hzu
      subst hyu
      have hz1 : b < wr.heap.size := Nat.lt_of_lt_of_le hb hB.out.size
      have hz2 : d < wr.heap.size := Nat.lt_of_lt_of_le hd hB.out.size
      have q1 := fun dz os => ((below_regrown wr dz os).cell (p := ⟨b, off + k, none⟩) hz1).trans ((hB.out.cell (p := ⟨b, off + k, none⟩) hb).trans hcz)
      have q2 := fun dz os => ((below_regrown wr dz os).cell (p := ⟨d, of2 + k, none⟩) hz2).trans ((hB.out.cell (p := ⟨d, of2 + k, none⟩) hd).trans hcy)
      clear hzx hz hcz hcy
      go_wp2
      refine wp_region_quiet_below (by kernel_rfl) (by kernel_rfl) ?_
      repeat ((with_reducible refine wpQuiet_step (fun K hK => ?_)); go_simp; first | ((with_reducible refine hK _ ?_); clear hK K) | (apply Exists.intro; refine ⟨fun _ => ?_, hK _ ?_⟩; fail; clear hK K))
      with_reducible refine wpQuiet_nil ?_
      intro w1 hw'
      obtain ⟨⟨dq, osq⟩, hw''⟩ := hw'
      have hb1 : Below wr.heap.size wr w1 := by rw [hw'']; exact below_regrown wr dq osq
      have hB1 := Lib.hid (hB.out.trans (hb1.mono hB.out.size))
      clear hw'' hb1 q1 q2
      go_wp2
      go_roundw
      case rel => exact ⟨k + 1, by omega, by go_num, hB1⟩
      case measure => simp [intOf]; omega
    · go_wp2
      go_returns
      exact ⟨rfl, hB.out⟩

end Go.Proofs.Ytpmeahmjmpgbfaa
