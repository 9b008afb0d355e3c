/- ZoneLimits holds: the error of any table, and the zone of any class and size, or the error, are what the document says, and the table is not changed; no condition besides the statement's own. Made by tools/gen_zlimlaw.py. -/
import Derived.Test.YtpmeahmjmpgbfaaZKnown
import Derived.Test.YtpmeahmjmpgbfaaZSame
import Derived.Test.YtpmeahmjmpgbfaaOpenZ
import Derived.Test.YtpmeahmjmpgbfaaFloat1s
import Derived.Deep.DeepCutAuto
namespace Go.Proofs.Ytpmeahmjmpgbfaa
open Go.ChangeShapes Go.WideShapes Go.ChangeAt Go.RowKit
set_option linter.unusedVariables false
set_option linter.unusedSimpArgs false

/-- A table in memory. -/
def TabC (w : World) (ss : List Int) (gs ps : List (List Int)) (sa ga pa : Option Addr) : Prop := SlA IntE w sa ss ∧ SlA IntsAt w ga gs ∧ SlA IntsAt w pa ps
theorem TabC.below {w w' : World} {ss : List Int} {gs ps : List (List Int)} {sa ga pa : Option Addr} (h : TabC w ss gs ps sa ga pa) (hb : Below w.heap.size w w') : TabC w' ss gs ps sa ga pa :=
  ⟨h.1.below intE_stable hb, h.2.1.below ints_stable hb, h.2.2.below ints_stable hb⟩
theorem TabW.small {w : World} {ss : List Int} {gs ps : List (List Int)} {sa ga pa : Option Addr} {sc : Nat} (h : TabW w ss gs ps sa ga pa sc) (hS : SmallT ss gs ps) : TabC w ss gs ps sa ga pa :=
  ⟨h.2.1, rows_at h.2.2.1 hS.2.2.2.1, rows_at h.2.2.2 hS.2.2.2.2⟩
theorem OwnI.sl {w : World} {b : Nat} {v : Value} {xs : List Int} (h : OwnI w b v xs) : ∃ a c, v = .slice a xs.length c ∧ SlA IntE w a xs := by
  rcases h.2 with ⟨rfl, hn⟩ | ⟨g, cap, cur, rfl, _, hh, _⟩
  · exact ⟨none, 0, by rw [hn], .inl (List.eq_nil_of_length_eq_zero hn)⟩
  · refine ⟨_, cap, rfl, .inr ⟨g, 0, rfl, (Array.getElem?_eq_some_iff.1 hh).1, fun i x hx => ⟨.int .i64 x, ?_, rfl⟩⟩⟩
    have hc := World.ownsRow.cells h (g := g) rfl i (.int .i64 x) (by unfold cellsI; rw [List.getElem?_map, hx]; rfl)
    rw [show ((⟨g, 0, none⟩ : Addr).add i) = ⟨g, 0 + i, none⟩ by unfold Addr.add; split <;> simp_all] at hc
    exact hc
theorem OwnRows.sl {w : World} {b : Nat} {v : Value} {ls : List (List Int)} (h : OwnRows w b v ls) (hl : ∀ r ∈ ls, r.length ≤ 25) : ∃ a c, v = .slice a ls.length c ∧ SlA IntsAt w a ls := by
  obtain ⟨us, h1, h2, h3⟩ := h
  rcases h2.2 with ⟨rfl, hn⟩ | ⟨g, cap, cur, rfl, _, hh, _⟩
  · exact ⟨none, 0, by rw [hn], .inl (List.eq_nil_of_length_eq_zero hn)⟩
  · refine ⟨_, cap, rfl, .inr ⟨g, 0, rfl, (Array.getElem?_eq_some_iff.1 hh).1, fun i x hx => ?_⟩⟩
    have hi : i < us.length := by
      rw [h1]
      rcases Nat.lt_or_ge i ls.length with h | h
      · exact h
      · rw [List.getElem?_eq_none h] at hx; cases hx
    have hu := List.getElem?_eq_getElem hi
    have hc := World.ownsRow.cells h2 (g := g) rfl i _ hu
    rw [show ((⟨g, 0, none⟩ : Addr).add i) = ⟨g, 0 + i, none⟩ by unfold Addr.add; split <;> simp_all] at hc
    exact ⟨_, hc, (h3 i _ x hu hx).at (by have := hl x (List.mem_of_getElem? hx); omega)⟩
theorem copy_any (ss : List Int) (gs ps : List (List Int)) (sa ga pa : Option Addr) (sc gc pc : Nat) (w : World) (h : TabW w ss gs ps sa ga pa sc) (hS : SmallT ss gs ps) :
    Calls Try.prog 28 #[.agg #[.slice sa ss.length sc, .slice ga gs.length gc, .slice pa ps.length pc]] w fun e w' => ∃ sb gb pb sd gd pd, e = .returned (.agg #[.slice sb ss.length sd, .slice gb gs.length gd, .slice pb ps.length pd]) ∧ TabC w' ss gs ps sb gb pb ∧ Below w.heap.size w w' := by
  refine (table_any ss gs ps sa ga pa sc gc pc w h hS).mono ?_
  rintro e w' ⟨⟨v0, gv, pv, rfl, h1, h2, h3⟩, hb⟩
  obtain ⟨sb, sd, rfl, q1⟩ := h1.sl
  obtain ⟨gb, gd, rfl, q2⟩ := h2.sl hS.2.2.2.1
  obtain ⟨pb, pd, rfl, q3⟩ := h3.sl hS.2.2.2.2
  exact ⟨sb, gb, pb, sd, gd, pd, rfl, ⟨q1, q2, q3⟩, hb⟩

set_option maxRecDepth 100000 in
set_option maxHeartbeats 16000000 in
theorem zlimits_walk (ss : List Int) (gs ps : List (List Int)) (sa ga pa : Option Addr) (sc gc pc : Nat) (c0 c1 c2 : Int) (nut : Bool) (w : World) (hT : TabW w ss gs ps sa ga pa sc) (w0 : (Lit.int .i64 c0).wf = true) (w1' : (Lit.int .i64 c1).wf = true) (w2' : (Lit.int .i64 c2).wf = true) :
    Calls Try.prog 5 #[.agg #[.slice sa ss.length sc, .slice ga gs.length gc, .slice pa ps.length pc], .agg #[.int .i64 c0, .int .i64 c1, .int .i64 c2], .bool nut] w fun e w' => e = .returned (.bool true) ∧ Below w.heap.size w w' := by
  have qS := eqSk
  obtain ⟨lo, hlo⟩ : ∃ x, limLo ss gs ps c0 c1 nut c2 = x := ⟨_, rfl⟩
  obtain ⟨hi, hhi⟩ : ∃ x, limHi ss gs ps c0 c1 nut c2 = x := ⟨_, rfl⟩
  obtain ⟨le, hle⟩ : ∃ x, limE ss gs ps c0 c1 c2 = x := ⟨_, rfl⟩
  have HLO := Lib.hid (And.intro hlo (And.intro hhi hle))
  clear hlo hhi hle
  go_enter Try.func5, Try.ntmps5
  go_wp2_with fail
  refine (large_any ss gs ps sa ga pa sc gc pc 15 _ (hT.below (by go_grown))).mono ?_
  rintro e w1 ⟨⟨lb, rfl, hsm⟩, hb1⟩
  have Xb3_1 : Box w1 w.heap.size #[.slice sa ss.length sc, .slice ga gs.length gc, .slice pa ps.length pc] := Box.below (Box.alloc (Box.new w _ _) _) hb1
  have Xb4_1 : Box w1 (w.heap.size + 1) #[.int .i64 c0, .int .i64 c1, .int .i64 c2] := Box.below (Box.newAt (w.alloc _) _ _ (by simp)) hb1
  have hB1 : Below w.heap.size w w1 := stepB (by go_grown) hb1
  have hs1 := hB1.size
  clear hb1
  cases lb
  · obtain ⟨hS, -⟩ := hsm rfl
    have m1 : ss.length ≤ 4611686018427387904 := by have := hS.1; omega
    have m2 : gs.length ≤ 4611686018427387904 := by have := hS.2.1; omega
    have m3 : ps.length ≤ 4611686018427387904 := by have := hS.2.2.1; omega
    have hT1 := hT.below hB1
    have TA := hT1.small hS
    have HS := Lib.hid hS
    have HT1 := Lib.hid hT1
    clear hsm hT hT1 hS
    have cc3 := Xb3_1.2.1
    have ll3 := Xb3_1.1
    go_wp2_with fail
    refine (copy_any ss gs ps sa ga pa sc gc pc _ HT1.out HS.out).mono ?_
    rintro e w2 ⟨sb, gb, pb, sd, gd, pd, rfl, TB, hb2⟩
    have Xb3_2 : Box w2 w.heap.size #[.slice sa ss.length sc, .slice ga gs.length gc, .slice pa ps.length pc] := Box.below Xb3_1 hb2
    have Xb4_2 : Box w2 (w.heap.size + 1) #[.int .i64 c0, .int .i64 c1, .int .i64 c2] := Box.below Xb4_1 hb2
    have hB2 : Below w.heap.size w w2 := stepB (by go_grown) hb2
    have hs2 := hB2.size
    have TA_2 := (TA).below (stepB (by go_grown) hb2)
    clear hb2 TA hB1 hs1 Xb3_1 Xb4_1 cc3 ll3
    go_wp2_with fail
    refine (zcheck_any ss gs ps sb gb pb sd gd pd _ m1 m2 m3 (TB.below (by go_grown)).1 (TB.below (by go_grown)).2.1 (TB.below (by go_grown)).2.2).mono ?_
    rintro e w3 ⟨rfl, hb3⟩
    have Xb3_3 : Box w3 w.heap.size #[.slice sa ss.length sc, .slice ga gs.length gc, .slice pa ps.length pc] := Box.below (Box.alloc Xb3_2 _) hb3
    have Xb4_3 : Box w3 (w.heap.size + 1) #[.int .i64 c0, .int .i64 c1, .int .i64 c2] := Box.below (Box.alloc Xb4_2 _) hb3
    have Xb7_3 : Box w3 w2.heap.size #[.slice sb ss.length sd, .slice gb gs.length gd, .slice pb ps.length pd] := Box.below (Box.new w2 _ _) hb3
    have hB3 : Below w.heap.size w w3 := stepB (by go_grown) hb3
    have hs3 := hB3.size
    have TA_3 := (TA_2).below (stepB (by go_grown) hb3)
    have TB_3 := (TB).below (stepB (by go_grown) hb3)
    clear hb3 TA_2 TB hB2 hs2 Xb3_2 Xb4_2
    have HL5' := fun (W : World) (hW : Below w3.heap.size w3 W) => limits_any nut c0 c1 c2 ss gs ps sb gb pb sd gd pd W m1 m2 m3 ((TB_3).below hW).1 ((TB_3).below hW).2.1 ((TB_3).below hW).2.2
    unfold spanV at HL5'
    rw [HLO.out.1, HLO.out.2.1, HLO.out.2.2] at HL5'
    have HL5 := Lib.hid HL5'
    clear HL5'
    go_wp2
    have Yb3 : Box w3 w.heap.size #[.slice sa ss.length sc, .slice ga gs.length gc, .slice pa ps.length pc] := Xb3_3
    have Yb4 : Box w3 (w.heap.size + 1) #[.int .i64 c0, .int .i64 c1, .int .i64 c2] := Xb4_3
    have Yb7 : Box w3 w2.heap.size #[.slice sb ss.length sd, .slice gb gs.length gd, .slice pb ps.length pd] := Xb7_3
    have hBX : Below w.heap.size w w3 := by go_grown
    clear hB3 hs3 Xb3_3 Xb4_3 Xb7_3
    have Zb3 := Lib.hid Yb3
    have Zb4 := Lib.hid Yb4
    have Zb7 := Lib.hid Yb7
    have ZBX := Lib.hid hBX
    clear hBX Yb3 Yb4 Yb7
    refine wp_region_float1s 13 9 #[.int .i64 0, .int .i64 0] #[.int .i64 lo, .int .i64 hi] 24 (fun g w => ((w.setCell ⟨g, 0, none⟩ (.int .i64 lo)).setCell ⟨g, 1, none⟩ (.int .i64 hi))) (by kernel_rfl) (by kernel_rfl) ?A1 ?ST ?E
    case A1 =>
      intro a w K hK
      unfold wpOp
      simp only [List.getElem?_toArray, List.getElem?_cons_succ, List.getElem?_cons_zero]
      go_simp
      exact .inl hK
    case ST =>
      intro g w hb
      exact ⟨(Box.setCell (Box.setCell hb (i := 0) (by simp) (.int .i64 lo)) (i := 1) (by simp) (.int .i64 hi)), fun X hX hg => (Below.setCell (Below.setCell hX (p := ⟨g, 0, none⟩) hg (.int .i64 lo)) (p := ⟨g, 1, none⟩) hg (.int .i64 hi))⟩
    case E =>
      apply Exists.intro
      apply And.intro
      intro X' hX
      have rd4 := fun dz os => ((Zb4.out.below hX).regrown dz os).2.1
      have rd7 := fun dz os => ((Zb7.out.below hX).regrown dz os).2.1
      have kc26 := fun dz os => (lclass_any c0 c1 (Go.Sort.grow (redrawn X' dz) os)).regrown_of
      have kc30 := fun dz os => (HL5.out (Go.Sort.grow (redrawn X' dz) os) (hX.trans ((below_regrown X' dz os).mono hX.size))).regrown_of
      simp only [List.take_succ_cons, List.take_zero]
      unfold InB
      repeat ((with_reducible refine wpQuiet_step (fun K hK => ?_)); go_simp; first | ((with_reducible refine hK _ ?_); clear hK K) | (apply Exists.intro; refine ⟨fun _ => ?_, hK _ ?_⟩; (first | (go_at_call 31; with_reducible exact kc26 _ _) | (go_at_call 30; with_reducible exact kc30 _ _)); clear hK K) | (refine ite_skip (fun h => ?_) (hK _ ?_); (have h2 : (none : Option Bool) = some true := h); cases h2; clear hK K))
      exact wpQuiet_nil rfl
      apply And.intro
      intro g
      refine ⟨_, rfl, rfl, rfl, fun w hw => ?_⟩
      have c1' := hw.2.1
      have f1' := hw.2.2
      have l1' := hw.1
      simp only [execOp, Act.put, Act.eval, ptrV]
      go_simp
      intro p1_4 w4 hb4 Xb9_4 hg1
      have hsX := ZBX.out.size
      have cc9 := Xb9_4.2.1
      have ll9 := Xb9_4.1
      have TA_4 := (TA_3).below hb4
      have TB_4 := (TB_3).below hb4
      simp only [List.drop_succ_cons, List.drop_zero, Act.put, ptrV]
      have Xb3_4 : Box w4 w.heap.size #[.slice sa ss.length sc, .slice ga gs.length gc, .slice pa ps.length pc] := Zb3.out.below hb4
      have Xb4_4 : Box w4 (w.heap.size + 1) #[.int .i64 c0, .int .i64 c1, .int .i64 c2] := Zb4.out.below hb4
      have Xb7_4 : Box w4 w2.heap.size #[.slice sb ss.length sd, .slice gb gs.length gd, .slice pb ps.length pd] := Zb7.out.below hb4
      have hB4 : Below w.heap.size w w4 := ZBX.out.trans (hb4.mono hsX)
      have hs4 := hB4.size
      clear hb4 ZBX hsX hg1 cc9 ll9 Zb3 Zb4 Zb7
      have HL6' := fun (W : World) (hW : Below w4.heap.size w4 W) => rlimits_any nut c0 c1 c2 ss gs ps sa ga pa sc gc pc W m1 m2 m3 ((TA_4).below hW).1 ((TA_4).below hW).2.1 ((TA_4).below hW).2.2
      unfold spanV at HL6'
      rw [HLO.out.1, HLO.out.2.1, HLO.out.2.2] at HL6'
      have HL6 := Lib.hid HL6'
      clear HL6'
      go_wp2
      have Yb3 : Box w4 w.heap.size #[.slice sa ss.length sc, .slice ga gs.length gc, .slice pa ps.length pc] := Xb3_4
      have Yb4 : Box w4 (w.heap.size + 1) #[.int .i64 c0, .int .i64 c1, .int .i64 c2] := Xb4_4
      have Yb7 : Box w4 w2.heap.size #[.slice sb ss.length sd, .slice gb gs.length gd, .slice pb ps.length pd] := Xb7_4
      have Yb9 : Box w4 p1_4 #[.int .i64 lo, .int .i64 hi] := Xb9_4
      have hBX : Below w.heap.size w w4 := by go_grown
      clear hB4 hs4 Xb3_4 Xb4_4 Xb7_4 Xb9_4
      have Zb3 := Lib.hid Yb3
      have Zb4 := Lib.hid Yb4
      have Zb7 := Lib.hid Yb7
      have Zb9 := Lib.hid Yb9
      have ZBX := Lib.hid hBX
      clear hBX Yb3 Yb4 Yb7 Yb9
      refine wp_region_float1s 13 11 #[.int .i64 0, .int .i64 0] #[.int .i64 lo, .int .i64 hi] 24 (fun g w => ((w.setCell ⟨g, 0, none⟩ (.int .i64 lo)).setCell ⟨g, 1, none⟩ (.int .i64 hi))) (by kernel_rfl) (by kernel_rfl) ?A1 ?ST ?E
      case A1 =>
        intro a w K hK
        unfold wpOp
        simp only [List.getElem?_toArray, List.getElem?_cons_succ, List.getElem?_cons_zero]
        go_simp
        exact .inl hK
      case ST =>
        intro g w hb
        exact ⟨(Box.setCell (Box.setCell hb (i := 0) (by simp) (.int .i64 lo)) (i := 1) (by simp) (.int .i64 hi)), fun X hX hg => (Below.setCell (Below.setCell hX (p := ⟨g, 0, none⟩) hg (.int .i64 lo)) (p := ⟨g, 1, none⟩) hg (.int .i64 hi))⟩
      case E =>
        apply Exists.intro
        apply And.intro
        intro X' hX
        have rd3 := fun dz os => ((Zb3.out.below hX).regrown dz os).2.1
        have rd4 := fun dz os => ((Zb4.out.below hX).regrown dz os).2.1
        have kc39 := fun dz os => (lclass_any c0 c1 (Go.Sort.grow (redrawn X' dz) os)).regrown_of
        have kc43 := fun dz os => (HL6.out (Go.Sort.grow (redrawn X' dz) os) (hX.trans ((below_regrown X' dz os).mono hX.size))).regrown_of
        simp only [List.take_succ_cons, List.take_zero]
        unfold InB
        repeat ((with_reducible refine wpQuiet_step (fun K hK => ?_)); go_simp; first | ((with_reducible refine hK _ ?_); clear hK K) | (apply Exists.intro; refine ⟨fun _ => ?_, hK _ ?_⟩; (first | (go_at_call 31; with_reducible exact kc39 _ _) | (go_at_call 32; with_reducible exact kc43 _ _)); clear hK K) | (refine ite_skip (fun h => ?_) (hK _ ?_); (have h2 : (none : Option Bool) = some true := h); cases h2; clear hK K))
        exact wpQuiet_nil rfl
        apply And.intro
        intro g
        refine ⟨_, rfl, rfl, rfl, fun w hw => ?_⟩
        have c1' := hw.2.1
        have f1' := hw.2.2
        have l1' := hw.1
        simp only [execOp, Act.put, Act.eval, ptrV]
        go_simp
        intro p1_5 w5 hb5 Xb11_5 hg1
        have hsX := ZBX.out.size
        have cc11 := Xb11_5.2.1
        have ll11 := Xb11_5.1
        have TA_5 := (TA_4).below hb5
        have TB_5 := (TB_4).below hb5
        simp only [List.drop_succ_cons, List.drop_zero, Act.put, ptrV]
        have Xb3_5 : Box w5 w.heap.size #[.slice sa ss.length sc, .slice ga gs.length gc, .slice pa ps.length pc] := Zb3.out.below hb5
        have Xb4_5 : Box w5 (w.heap.size + 1) #[.int .i64 c0, .int .i64 c1, .int .i64 c2] := Zb4.out.below hb5
        have Xb7_5 : Box w5 w2.heap.size #[.slice sb ss.length sd, .slice gb gs.length gd, .slice pb ps.length pd] := Zb7.out.below hb5
        have Xb9_5 : Box w5 p1_4 #[.int .i64 lo, .int .i64 hi] := Zb9.out.below hb5
        have hB5 : Below w.heap.size w w5 := ZBX.out.trans (hb5.mono hsX)
        have hs5 := hB5.size
        clear hb5 ZBX hsX hg1 cc11 ll11 Zb3 Zb4 Zb7 Zb9
        have cc3 := Xb3_5.2.1
        have ll3 := Xb3_5.1
        have cc7 := Xb7_5.2.1
        have ll7 := Xb7_5.1
        go_wp2_with fail
        refine (same_any ss gs ps sb gb pb sa ga pa sd gd pd sc gc pc _ m1 m2 m3 (TB_5.below (by go_grown)).1 (TB_5.below (by go_grown)).2.1 (TB_5.below (by go_grown)).2.2 (TA_5.below (by go_grown)).1 (TA_5.below (by go_grown)).2.1 (TA_5.below (by go_grown)).2.2).mono ?_
        rintro e w6 ⟨rfl, hb6⟩
        have Xb3_6 : Box w6 w.heap.size #[.slice sa ss.length sc, .slice ga gs.length gc, .slice pa ps.length pc] := Box.below Xb3_5 hb6
        have Xb4_6 : Box w6 (w.heap.size + 1) #[.int .i64 c0, .int .i64 c1, .int .i64 c2] := Box.below Xb4_5 hb6
        have Xb7_6 : Box w6 w2.heap.size #[.slice sb ss.length sd, .slice gb gs.length gd, .slice pb ps.length pd] := Box.below Xb7_5 hb6
        have Xb9_6 : Box w6 p1_4 #[.int .i64 lo, .int .i64 hi] := Box.below Xb9_5 hb6
        have Xb11_6 : Box w6 p1_5 #[.int .i64 lo, .int .i64 hi] := Box.below Xb11_5 hb6
        have hB6 : Below w.heap.size w w6 := stepB (by go_grown) hb6
        have hs6 := hB6.size
        have TA_6 := (TA_5).below (stepB (by go_grown) hb6)
        have TB_6 := (TB_5).below (stepB (by go_grown) hb6)
        clear hb6 TA_5 TB_5 hB5 hs5 Xb3_5 Xb4_5 Xb7_5 Xb9_5 Xb11_5 cc3 ll3 cc7 ll7
        have cc3 := Xb3_6.2.1
        have ll3 := Xb3_6.1
        go_wp2_with fail
        refine (rcheck_any _ ss gs ps sa ga pa sc gc pc m1 m2 m3 (TA_6.below (by go_grown)).1 (TA_6.below (by go_grown)).2.1 (TA_6.below (by go_grown)).2.2).mono ?_
        rintro e w7 ⟨rfl, hb7⟩
        clear TA_6
        clear TB_6
        have Xb3_7 : Box w7 w.heap.size #[.slice sa ss.length sc, .slice ga gs.length gc, .slice pa ps.length pc] := Box.below Xb3_6 hb7
        have Xb4_7 : Box w7 (w.heap.size + 1) #[.int .i64 c0, .int .i64 c1, .int .i64 c2] := Box.below Xb4_6 hb7
        have Xb7_7 : Box w7 w2.heap.size #[.slice sb ss.length sd, .slice gb gs.length gd, .slice pb ps.length pd] := Box.below Xb7_6 hb7
        have Xb9_7 : Box w7 p1_4 #[.int .i64 lo, .int .i64 hi] := Box.below Xb9_6 hb7
        have Xb11_7 : Box w7 p1_5 #[.int .i64 lo, .int .i64 hi] := Box.below Xb11_6 hb7
        have hB7 : Below w.heap.size w w7 := stepB (by go_grown) hb7
        have hs7 := hB7.size
        clear hb7 hB6 hs6 Xb3_6 Xb4_6 Xb7_6 Xb9_6 Xb11_6 cc3 ll3
        have cc9 := Xb9_7.2.1
        have ll9 := Xb9_7.1
        have cc11 := Xb11_7.2.1
        have ll11 := Xb11_7.1
        go_wp2_with fail
        refine (known_any _).mono ?_
        rintro e w8 ⟨rfl, hb8⟩
        have Xb3_8 : Box w8 w.heap.size #[.slice sa ss.length sc, .slice ga gs.length gc, .slice pa ps.length pc] := Box.below Xb3_7 hb8
        have Xb4_8 : Box w8 (w.heap.size + 1) #[.int .i64 c0, .int .i64 c1, .int .i64 c2] := Box.below Xb4_7 hb8
        have Xb7_8 : Box w8 w2.heap.size #[.slice sb ss.length sd, .slice gb gs.length gd, .slice pb ps.length pd] := Box.below Xb7_7 hb8
        have hB8 : Below w.heap.size w w8 := stepB (by go_grown) hb8
        have hs8 := hB8.size
        clear hb8 hB7 hs7 Xb3_7 Xb4_7 Xb7_7 Xb9_7 Xb11_7 cc9 ll9 cc11 ll11
        go_wp2
        go_returns
        exact ⟨rfl, hB8⟩
  · go_wp2_with fail
    refine (known_any _).mono ?_
    rintro e w2 ⟨rfl, hb2⟩
    have Xb3_2 : Box w2 w.heap.size #[.slice sa ss.length sc, .slice ga gs.length gc, .slice pa ps.length pc] := Box.below Xb3_1 hb2
    have Xb4_2 : Box w2 (w.heap.size + 1) #[.int .i64 c0, .int .i64 c1, .int .i64 c2] := Box.below Xb4_1 hb2
    have hB2 : Below w.heap.size w w2 := stepB (by go_grown) hb2
    have hs2 := hB2.size
    clear hb2 hB1 hs1 Xb3_1 Xb4_1
    go_wp2
    go_returns
    exact ⟨rfl, hB2⟩
theorem zlimits_own : ownKnob Try.prog.godebug = none := by kernel_rfl
theorem zlimits_laidOut : laidOutB Try.prog = true := by kernel_rfl

set_option maxRecDepth 100000 in
theorem zlimits_lifted (os : Os) (started : os.Started) (H : Type) (enc : TypeId × Value → H) :
    ReturnsInHanded {} Try.checked os 5 .any (Rows.zoneLimitsSpec.pre6 enc Try.prog Try.f5 Rows.zoneLimitsRow.domain false) (Rows.zoneLimitsSpec.post enc Try.prog Try.f5 false true false false) := by
  refine returnsInHanded_of_change (C := Try.checked) zlimits_own started (by kernel_rfl) Try.func5
    (ChangeSpec.witness6 (enc := enc) (C := Try.checked) false ⟨#[], #[.agg #[.slice none 0 0, .slice none 0 0, .slice none 0 0], .agg #[.int .i64 0, .int .i64 0, .int .i64 0], .bool false], []⟩ 8 (by kernel_rfl) (by kernel_rfl) (by kernel_rfl) (by kernel_rfl)) ?_
  intro W base args ds gs before hval0 hW hcnd _
  have hval : ∀ (j : Nat) t v, Try.f5.params[j]? = some t → args[j]? = some v → Value.okWide Try.prog W .any base t v := hval0
  have hW' := hW
  obtain ⟨p, q, hA0, hV, rfl, hfz, hnd⟩ := hW
  have hA : DataW.TrodAll enc Try.prog W 0 (fun _ => true) true Try.f5.params.toList args.toList ds p := hA0
  rw [Try.params5] at hA hval
  obtain ⟨v0, vs0, d0, ds0, p0, q0, hargs, rfl, rfl, h0, r0⟩ := trodAll_cons hA
  obtain ⟨v1, vs1, d1, ds1, p1, q1, rfl, rfl, rfl, h1, r1⟩ := trodAll_cons r0
  obtain ⟨v2, vs2, d2, ds2, p2, q2, rfl, rfl, rfl, h2, r2⟩ := trodAll_cons r1
  obtain ⟨rfl, rfl, rfl⟩ := trodAll_nil r2
  obtain rfl : args = #[v0, v1, v2] := by cases args; simp_all
  obtain ⟨rfl, rfl⟩ := trodVars_none hV
  have k0 := h0
  have lt0 : ∀ x ∈ p0, x.block < W.heap.size := by obtain ⟨m, hm⟩ := k0; exact DataW.trod_lt m _ _ _ hm
  have k1 := h1
  have lt1 : ∀ x ∈ p1, x.block < W.heap.size := by obtain ⟨m, hm⟩ := k1; exact DataW.trod_lt m _ _ _ hm
  have k2 := h2
  have lt2 : ∀ x ∈ p2, x.block < W.heap.size := by obtain ⟨m, hm⟩ := k2; exact DataW.trod_lt m _ _ _ hm
  obtain ⟨ss, gs, ps, sa, ga, pa, sc, gc, pc, rfl, hT⟩ := open_table (hval 0 63 v0 rfl rfl) h0
  obtain ⟨c0, c1, c2, rfl, w0, w1', w2'⟩ := open_three (hval 1 64 v1 rfl rfl) h1
  obtain ⟨nut, rfl, rfl, rfl⟩ := open_bool Try.underlying4 (hval 2 4 v2 rfl rfl) h2
  clear hA0 hval0
  refine (zlimits_walk ss gs ps sa ga pa sc gc pc c0 c1 c2 nut W hT w0 w1' w2').mono fun e W' ⟨he, bel⟩ => ?_
  subst he
  exact ⟨_, rfl, _, _, _, [], _, [], hW', trodAll_mk1 (shut_bool Try.underlying4 _), (trodAll_cons_mk (Below.trod zlimits_laidOut (by kernel_rfl) (of_decide_eq_true (by kernel_rfl)) k0 bel lt0) (trodAll_cons_mk (Below.trod zlimits_laidOut (by kernel_rfl) (of_decide_eq_true (by kernel_rfl)) k1 bel lt1) (trodAll_cons_mk (Below.trod zlimits_laidOut (by kernel_rfl) (of_decide_eq_true (by kernel_rfl)) k2 bel lt2) trodAll_mk0))), rfl, bel.frame _, fun h => by cases h⟩

theorem zlimits_over : Rows.zoneLimitsRow.holds Try.pinned (OpenSpec.ofChange Rows.zoneLimitsSpec) :=
  OpenClaim.holds_of_wide 5 Try.f5 rfl rfl rfl rfl rfl rfl rfl ⟨rfl, rfl, rfl, rfl, rfl⟩ rfl rfl rfl rfl rfl (by kernel_rfl) Try.func5 (by kernel_rfl)
    (of_decide_eq_true (by kernel_rfl)) (by unfold Func.isWrapper; rw [if_neg (of_decide_eq_false (by kernel_rfl))]; exact ⟨rfl, rfl⟩)
    (fun os started H enc _ => zlimits_lifted os started H enc)

theorem zlimits_proved : Rows.ZoneLimitsSaid := zlimits_over
#print axioms zlimits_proved
end Go.Proofs.Ytpmeahmjmpgbfaa
