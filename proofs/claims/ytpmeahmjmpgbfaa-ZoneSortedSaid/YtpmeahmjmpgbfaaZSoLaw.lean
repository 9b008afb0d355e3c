/- ZoneSorted holds: with the groups that Groups returns each diameter is in one group and all plays lie in what was wanted, with fewer they do not, for all inputs; no condition besides the statement's own. Made by tools/gen_zslaw.py. -/
import Derived.Test.YtpmeahmjmpgbfaaZSo1
import Derived.Test.YtpmeahmjmpgbfaaZSo3
namespace Go.Proofs.Ytpmeahmjmpgbfaa
open Go.ChangeShapes Go.WideShapes Go.ChangeAt Go.RowKit
set_option linter.unusedVariables false
set_option linter.unusedSimpArgs false

theorem wfb {k : IntKind} {n : Int} (h : (Lit.int k n).wf = true) : k.min ≤ n ∧ n ≤ k.max := by
  simpa [Lit.wf] using h
theorem groups_none {s0 s1 n0 n1 v0 v1 : Int} (h : groupsN s0 s1 n0 n1 v0 v1 = none) (k : Nat) (h1 : 1 ≤ k) (h2 : k ≤ 50) : sortedB s0 s1 n0 n1 v0 v1 k = false := by
  unfold groupsN at h
  rw [Option.map_eq_none_iff, List.find?_eq_none] at h
  have := h (k - 1) (List.mem_range.2 (by omega))
  rw [show k - 1 + 1 = k by omega] at this
  simpa using this
theorem groups_some {s0 s1 n0 n1 v0 v1 : Int} {g : Nat} (h : groupsN s0 s1 n0 n1 v0 v1 = some g) : 1 ≤ g ∧ g ≤ 50 ∧ sortedB s0 s1 n0 n1 v0 v1 g = true ∧ ∀ k : Nat, 1 ≤ k → k < g → sortedB s0 s1 n0 n1 v0 v1 k = false := by
  unfold groupsN at h
  rw [Option.map_eq_some_iff] at h
  obtain ⟨j, hj, rfl⟩ := h
  rw [List.find?_range_eq_some] at hj
  obtain ⟨h1, h2, h3⟩ := hj
  refine ⟨by omega, by have := List.mem_range.1 h2; omega, h1, fun k k1 k2 => ?_⟩
  have := h3 (k - 1) (by omega)
  rw [show k - 1 + 1 = k by omega] at this
  simpa using this

set_option maxRecDepth 100000 in
set_option maxHeartbeats 4000000 in
theorem zsorted_walk (a0 a1 x0 x1 v0 v1 v2 v3 : Int) (w : World) (wa0 : (Lit.int .u8 a0).wf = true) (wa1 : (Lit.int .u8 a1).wf = true) (wx0 : (Lit.int .u16 x0).wf = true) (wx1 : (Lit.int .u16 x1).wf = true) (wv0 : (Lit.int .u8 v0).wf = true) (wv1 : (Lit.int .u8 v1).wf = true) (wv2 : (Lit.int .u8 v2).wf = true) (wv3 : (Lit.int .u8 v3).wf = true) :
    Calls Try.prog 13 #[.agg #[.int .u8 a0, .int .u8 a1], .agg #[.int .u16 x0, .int .u16 x1], .agg #[.int .u8 v0, .int .u8 v1, .int .u8 v2, .int .u8 v3]] w fun e w' => e = .returned (.bool true) ∧ Below w.heap.size w w' := by
  have i0 : 0 ≤ a0 ∧ a0 ≤ 255 := wfb wa0
  have i1 : 0 ≤ a1 ∧ a1 ≤ 255 := wfb wa1
  have i2 : 0 ≤ x0 ∧ x0 ≤ 65535 := wfb wx0
  have i3 : 0 ≤ x1 ∧ x1 ≤ 65535 := wfb wx1
  have i4 : 0 ≤ v0 ∧ v0 ≤ 255 := wfb wv0
  have i5 : 0 ≤ v1 ∧ v1 ≤ 255 := wfb wv1
  have i6 : 0 ≤ v2 ∧ v2 ≤ 255 := wfb wv2
  have i7 : 0 ≤ v3 ∧ v3 ≤ 255 := wfb wv3
  clear wa0 wa1 wx0 wx1 wv0 wv1 wv2 wv3
  obtain ⟨R0, r0a, r0b⟩ := mod_in (x := x0) (k := 300) i2.1 (by omega)
  obtain ⟨R1, r1a, r1b⟩ := mod_in (x := x1) (k := 300) i3.1 (by omega)
  obtain ⟨m1, hm1⟩ : ∃ m, x0 % 300 = m := ⟨_, rfl⟩
  obtain ⟨m2, hm2⟩ : ∃ m, x1 % 300 = m := ⟨_, rfl⟩
  rw [hm1] at R0 r0a r0b
  rw [hm2] at R1 r1a r1b
  obtain ⟨s0, hs0⟩ : ∃ s, 1000 + a0 = s := ⟨_, rfl⟩
  obtain ⟨s1, hs1⟩ : ∃ s, s0 + m1 = s := ⟨_, rfl⟩
  obtain ⟨n0, hn0⟩ : ∃ s, 1000 + a1 = s := ⟨_, rfl⟩
  obtain ⟨n1, hn1⟩ : ∃ s, n0 + m2 = s := ⟨_, rfl⟩
  have b1 := tdiv_bd (n := n1 - n0) (d := 2) (m := 300) (by omega) (by omega)
  have b2 := tdiv_bd (n := s1 - s0) (d := 2) (m := 300) (by omega) (by omega)
  obtain ⟨q1, hq1⟩ : ∃ s, (n1 - n0).tdiv 2 = s := ⟨_, rfl⟩
  obtain ⟨q2, hq2⟩ : ∃ s, (s1 - s0).tdiv 2 = s := ⟨_, rfl⟩
  rw [hq1] at b1
  rw [hq2] at b2
  have HH := Lib.hid (And.intro R0 (And.intro hm1 (And.intro R1 (And.intro hm2 (And.intro hq1 hq2)))))
  clear R0 hm1 R1 hm2 hq1 hq2
  obtain ⟨f15, h15⟩ : ∃ s, n0 + q1 = s := ⟨_, rfl⟩
  obtain ⟨f16, h16⟩ : ∃ s, f15 - s0 = s := ⟨_, rfl⟩
  obtain ⟨mid, hmid⟩ : ∃ s, f16 - q2 = s := ⟨_, rfl⟩
  obtain ⟨lo, hlo⟩ : ∃ s, mid - v0 = s := ⟨_, rfl⟩
  obtain ⟨hi, hhi⟩ : ∃ s, mid + v1 = s := ⟨_, rfl⟩
  have HW := Lib.hid (show IntKind.i64.wrap (a0) = a0 ∧ IntKind.i64.wrap (1000 + a0) = s0 ∧ IntKind.i64.wrap (x0) = x0 ∧ IntKind.i64.wrap (m1) = m1 ∧ IntKind.i64.wrap (s0 + m1) = s1 ∧ IntKind.i64.wrap (a1) = a1 ∧ IntKind.i64.wrap (1000 + a1) = n0 ∧ IntKind.i64.wrap (x1) = x1 ∧ IntKind.i64.wrap (m2) = m2 ∧ IntKind.i64.wrap (n0 + m2) = n1 ∧ IntKind.i64.wrap (n1 - n0) = n1 - n0 ∧ IntKind.i64.wrap (q1) = q1 ∧ IntKind.i64.wrap (n0 + q1) = f15 ∧ IntKind.i64.wrap (f15 - s0) = f16 ∧ IntKind.i64.wrap (s1 - s0) = s1 - s0 ∧ IntKind.i64.wrap (q2) = q2 ∧ IntKind.i64.wrap (f16 - q2) = mid ∧ IntKind.i64.wrap (v0) = v0 ∧ IntKind.i64.wrap (v1) = v1 ∧ IntKind.i64.wrap (v2) = v2 ∧ IntKind.i64.wrap (v3) = v3 ∧ IntKind.i64.wrap (mid - v0) = lo ∧ IntKind.i64.wrap (mid + v1) = hi from
    ⟨(IntWalk.i64_in (a0) (by omega)).trans (by omega), (IntWalk.i64_in (1000 + a0) (by omega)).trans (by omega), (IntWalk.i64_in (x0) (by omega)).trans (by omega), (IntWalk.i64_in (m1) (by omega)).trans (by omega), (IntWalk.i64_in (s0 + m1) (by omega)).trans (by omega), (IntWalk.i64_in (a1) (by omega)).trans (by omega), (IntWalk.i64_in (1000 + a1) (by omega)).trans (by omega), (IntWalk.i64_in (x1) (by omega)).trans (by omega), (IntWalk.i64_in (m2) (by omega)).trans (by omega), (IntWalk.i64_in (n0 + m2) (by omega)).trans (by omega), (IntWalk.i64_in (n1 - n0) (by omega)).trans (by omega), (IntWalk.i64_in (q1) (by omega)).trans (by omega), (IntWalk.i64_in (n0 + q1) (by omega)).trans (by omega), (IntWalk.i64_in (f15 - s0) (by omega)).trans (by omega), (IntWalk.i64_in (s1 - s0) (by omega)).trans (by omega), (IntWalk.i64_in (q2) (by omega)).trans (by omega), (IntWalk.i64_in (f16 - q2) (by omega)).trans (by omega), (IntWalk.i64_in (v0) (by omega)).trans (by omega), (IntWalk.i64_in (v1) (by omega)).trans (by omega), (IntWalk.i64_in (v2) (by omega)).trans (by omega), (IntWalk.i64_in (v3) (by omega)).trans (by omega), (IntWalk.i64_in (mid - v0) (by omega)).trans (by omega), (IntWalk.i64_in (mid + v1) (by omega)).trans (by omega)⟩)
  have HG := fun w => groups_any s0 s1 n0 n1 lo hi w
  have h1 : vspan s0 s1 0 20000000 = true := (vspan_iff _ _ _ _).2 (by omega)
  have h2 : vspan n0 n1 0 20000000 = true := (vspan_iff _ _ _ _).2 (by omega)
  have h3 : vspan lo hi (-40000000) 40000000 = true := (vspan_iff _ _ _ _).2 (by omega)
  have good : groupsV s0 s1 n0 n1 lo hi = groupsW s0 s1 n0 n1 lo hi := by unfold groupsV spansB; rw [h1, h2, h3]; rfl
  rw [good] at HG
  unfold groupsW at HG
  have HBD : Hid (0 ≤ s0 ∧ s0 ≤ s1 ∧ s1 ≤ 20000000 ∧ 0 ≤ n0 ∧ n0 ≤ n1 ∧ n1 ≤ 20000000) := Lib.hid (by omega)
  cases hg : groupsN s0 s1 n0 n1 lo hi with
  | none =>
    rw [hg] at HG
    exact zso_none (fun k => ([s0, s1, n0, n1, mid, lo, hi, 0, 0, 0, 0, m1, m2, 0, q1, f15, f16, q2] : List Int).getD k 0) a0 a1 x0 x1 v0 v1 v2 v3 HW.out.1 HW.out.2.1 HW.out.2.2.1 HH.out.1 HH.out.2.1 HW.out.2.2.2.1 HW.out.2.2.2.2.1 HW.out.2.2.2.2.2.1 HW.out.2.2.2.2.2.2.1 HW.out.2.2.2.2.2.2.2.1 HH.out.2.2.1 HH.out.2.2.2.1 HW.out.2.2.2.2.2.2.2.2.1 HW.out.2.2.2.2.2.2.2.2.2.1 HW.out.2.2.2.2.2.2.2.2.2.2.1 HH.out.2.2.2.2.1 HW.out.2.2.2.2.2.2.2.2.2.2.2.1 HW.out.2.2.2.2.2.2.2.2.2.2.2.2.1 HW.out.2.2.2.2.2.2.2.2.2.2.2.2.2.1 HW.out.2.2.2.2.2.2.2.2.2.2.2.2.2.2.1 HH.out.2.2.2.2.2 HW.out.2.2.2.2.2.2.2.2.2.2.2.2.2.2.2.1 HW.out.2.2.2.2.2.2.2.2.2.2.2.2.2.2.2.2.1 HW.out.2.2.2.2.2.2.2.2.2.2.2.2.2.2.2.2.2.1 HW.out.2.2.2.2.2.2.2.2.2.2.2.2.2.2.2.2.2.2.1 HW.out.2.2.2.2.2.2.2.2.2.2.2.2.2.2.2.2.2.2.2.1 HW.out.2.2.2.2.2.2.2.2.2.2.2.2.2.2.2.2.2.2.2.2.1 HW.out.2.2.2.2.2.2.2.2.2.2.2.2.2.2.2.2.2.2.2.2.2.1 HW.out.2.2.2.2.2.2.2.2.2.2.2.2.2.2.2.2.2.2.2.2.2.2 HBD (Lib.hid HG) (Lib.hid (groups_none hg)) w
  | some g =>
    rw [hg] at HG
    obtain ⟨g1, g2, g3, g4⟩ := groups_some hg
    have HD := fun w => inside_any s0 s1 v2 w (by omega) i6.1 (by omega) (by omega)
    obtain ⟨-, q5, q6⟩ := mod_in (x := v2) (k := s1 - s0 + 1) i6.1 (by omega)
    obtain ⟨d, hd⟩ : ∃ s, s0 + v2 % (s1 - s0 + 1) = s := ⟨_, rfl⟩
    rw [hd] at HD
    have e0 : gAt s0 s1 0 g = s0 := by unfold gAt; rw [Int.zero_mul, Int.zero_ediv]; omega
    have e1 : gAt s0 s1 g g = s1 + 1 := by unfold gAt; rw [Int.mul_ediv_cancel_left _ (by omega)]; omega
    have hS : ∀ j : Nat, j < g → (gAt s0 s1 j g ≤ gAt s0 s1 (j + 1) g - 1 ∧ gAt n0 n1 j g ≤ gAt n0 n1 (j + 1) g - 1 ∧ -1000000000000 ≤ gAt n0 n1 j g ∧ gAt n0 n1 (j + 1) g - 1 ≤ 1000000000000 ∧ -1000000000 ≤ d ∧ d ≤ 1000000000) ∧ True ∧ lo ≤ gAt n0 n1 j g - (gAt s0 s1 (j + 1) g - 1) ∧ gAt n0 n1 (j + 1) g - 1 - gAt s0 s1 j g ≤ hi := by
      intro j hj
      have hk : okG s0 s1 n0 n1 lo hi g j = true := by
        unfold sortedB at g3
        exact List.all_eq_true.1 g3 j (List.mem_range.2 hj)
      have dC := gAt_bd (lo := n0) (hi := n1) (i := j) (n := g) ⟨by omega, by omega⟩ ⟨by omega, by omega⟩ ⟨by omega, by omega⟩ (by omega)
      have dD := gAt_bd (lo := n0) (hi := n1) (i := j + 1) (n := g) ⟨by omega, by omega⟩ ⟨by omega, by omega⟩ ⟨by omega, by omega⟩ (by omega)
      rw [okG_eq] at hk
      unfold lies at hk
      simp only [Bool.and_eq_true, decide_eq_true_eq] at hk
      obtain ⟨⟨k1, k2⟩, k3, k4⟩ := hk
      exact ⟨⟨k1, k2, by omega, by omega, by omega, by omega⟩, trivial, k3, k4⟩
    exact zso_some g (fun k => ([s0, s1, n0, n1, mid, lo, hi, d, 0, 0, 0, m1, m2, 0, q1, f15, f16, q2] : List Int).getD k 0) a0 a1 x0 x1 v0 v1 v2 v3 HW.out.1 HW.out.2.1 HW.out.2.2.1 HH.out.1 HH.out.2.1 HW.out.2.2.2.1 HW.out.2.2.2.2.1 HW.out.2.2.2.2.2.1 HW.out.2.2.2.2.2.2.1 HW.out.2.2.2.2.2.2.2.1 HH.out.2.2.1 HH.out.2.2.2.1 HW.out.2.2.2.2.2.2.2.2.1 HW.out.2.2.2.2.2.2.2.2.2.1 HW.out.2.2.2.2.2.2.2.2.2.2.1 HH.out.2.2.2.2.1 HW.out.2.2.2.2.2.2.2.2.2.2.2.1 HW.out.2.2.2.2.2.2.2.2.2.2.2.2.1 HW.out.2.2.2.2.2.2.2.2.2.2.2.2.2.1 HW.out.2.2.2.2.2.2.2.2.2.2.2.2.2.2.1 HH.out.2.2.2.2.2 HW.out.2.2.2.2.2.2.2.2.2.2.2.2.2.2.2.1 HW.out.2.2.2.2.2.2.2.2.2.2.2.2.2.2.2.2.1 HW.out.2.2.2.2.2.2.2.2.2.2.2.2.2.2.2.2.2.1 HW.out.2.2.2.2.2.2.2.2.2.2.2.2.2.2.2.2.2.2.1 HW.out.2.2.2.2.2.2.2.2.2.2.2.2.2.2.2.2.2.2.2.1 HW.out.2.2.2.2.2.2.2.2.2.2.2.2.2.2.2.2.2.2.2.2.1 HW.out.2.2.2.2.2.2.2.2.2.2.2.2.2.2.2.2.2.2.2.2.2.1 HW.out.2.2.2.2.2.2.2.2.2.2.2.2.2.2.2.2.2.2.2.2.2.2 HBD (Lib.hid HG) g1 g2 (by omega) (by omega) (Lib.hid g4) (Lib.hid g3) (Lib.hid HD) (Lib.hid (show ¬ d < gAt s0 s1 0 g by rw [e0]; omega)) (Lib.hid (show d < gAt s0 s1 g g by rw [e1]; omega)) (Lib.hid i7.1) (Lib.hid hS) w

theorem zsorted_own : ownKnob Try.prog.godebug = none := by kernel_rfl
theorem zsorted_laidOut : laidOutB Try.prog = true := by kernel_rfl

set_option maxRecDepth 100000 in
theorem zsorted_lifted (os : Os) (started : os.Started) (H : Type) (enc : TypeId × Value → H) :
    ReturnsInHanded {} Try.checked os 13 .any (Rows.zoneSortedSpec.pre6 enc Try.prog Try.f13 Rows.zoneSortedRow.domain false) (Rows.zoneSortedSpec.post enc Try.prog Try.f13 false true false false) := by
  refine returnsInHanded_of_change (C := Try.checked) zsorted_own started (by kernel_rfl) Try.func13
    (ChangeSpec.witness6 (enc := enc) (C := Try.checked) false ⟨#[], #[.agg #[.int .u8 0, .int .u8 0], .agg #[.int .u16 0, .int .u16 0], .agg #[.int .u8 0, .int .u8 0, .int .u8 0, .int .u8 0]], []⟩ 8 (by kernel_rfl) (by kernel_rfl) (by kernel_rfl) (by kernel_rfl)) ?_
  intro W base args ds gs before hval0 hW hcnd _
  have hval : ∀ (j : Nat) t v, Try.f13.params[j]? = some t → args[j]? = some v → Value.okWide Try.prog W .any base t v := hval0
  have hW' := hW
  obtain ⟨p, q, hA0, hV, rfl, hfz, hnd⟩ := hW
  have hA : DataW.TrodAll enc Try.prog W 0 (fun _ => true) true Try.f13.params.toList args.toList ds p := hA0
  rw [Try.params13] at hA hval
  obtain ⟨v0, vs0, d0, ds0, p0, q0, hargs, rfl, rfl, h0, r0⟩ := trodAll_cons hA
  obtain ⟨v1, vs1, d1, ds1, p1, q1, rfl, rfl, rfl, h1, r1⟩ := trodAll_cons r0
  obtain ⟨v2, vs2, d2, ds2, p2, q2, rfl, rfl, rfl, h2, r2⟩ := trodAll_cons r1
  obtain ⟨rfl, rfl, rfl⟩ := trodAll_nil r2
  obtain rfl : args = #[v0, v1, v2] := by cases args; simp_all
  obtain ⟨rfl, rfl⟩ := trodVars_none hV
  have k0 := h0
  have lt0 : ∀ x ∈ p0, x.block < W.heap.size := by obtain ⟨m, hm⟩ := k0; exact DataW.trod_lt m _ _ _ hm
  have k1 := h1
  have lt1 : ∀ x ∈ p1, x.block < W.heap.size := by obtain ⟨m, hm⟩ := k1; exact DataW.trod_lt m _ _ _ hm
  have k2 := h2
  have lt2 : ∀ x ∈ p2, x.block < W.heap.size := by obtain ⟨m, hm⟩ := k2; exact DataW.trod_lt m _ _ _ hm
  obtain ⟨a0, a1, rfl, wa0, wa1⟩ := open_two8 (hval 0 126 v0 rfl rfl) h0
  obtain ⟨x0, x1, rfl, wx0, wx1⟩ := open_two16 (hval 1 125 v1 rfl rfl) h1
  obtain ⟨v0, v1, v2, v3, rfl, wv0, wv1, wv2, wv3⟩ := open_four8 (hval 2 117 v2 rfl rfl) h2
  clear hA0 hval0
  refine (zsorted_walk a0 a1 x0 x1 v0 v1 v2 v3 W wa0 wa1 wx0 wx1 wv0 wv1 wv2 wv3).mono fun e W' ⟨he, bel⟩ => ?_
  subst he
  exact ⟨_, rfl, _, _, _, [], _, [], hW', trodAll_mk1 (shut_bool Try.underlying4 _), (trodAll_cons_mk (Below.trod zsorted_laidOut (by kernel_rfl) (of_decide_eq_true (by kernel_rfl)) k0 bel lt0) (trodAll_cons_mk (Below.trod zsorted_laidOut (by kernel_rfl) (of_decide_eq_true (by kernel_rfl)) k1 bel lt1) (trodAll_cons_mk (Below.trod zsorted_laidOut (by kernel_rfl) (of_decide_eq_true (by kernel_rfl)) k2 bel lt2) trodAll_mk0))), rfl, bel.frame _, fun h => by cases h⟩

theorem zsorted_over : Rows.zoneSortedRow.holds Try.pinned (OpenSpec.ofChange Rows.zoneSortedSpec) :=
  OpenClaim.holds_of_wide 13 Try.f13 rfl rfl rfl rfl rfl rfl rfl ⟨rfl, rfl, rfl, rfl, rfl⟩ rfl rfl rfl rfl rfl (by kernel_rfl) Try.func13 (by kernel_rfl)
    (of_decide_eq_true (by kernel_rfl)) (by unfold Func.isWrapper; rw [if_neg (of_decide_eq_false (by kernel_rfl))]; exact ⟨rfl, rfl⟩)
    (fun os started H enc _ => zsorted_lifted os started H enc)

theorem zsorted_proved : Rows.ZoneSortedSaid := zsorted_over
#print axioms zsorted_proved
end Go.Proofs.Ytpmeahmjmpgbfaa
