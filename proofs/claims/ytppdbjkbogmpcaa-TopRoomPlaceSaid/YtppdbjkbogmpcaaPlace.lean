/- TopRoomPlace holds: a screw that is smaller by Room has a place of this allowance, for all bytes that the statement draws its forms, its depth, its size and its grade from; no condition besides the statement's own. Made by tools/gen_place.py. -/
import Derived.Test.YtppdbjkbogmpcaaPlace0
import Derived.Test.YtppdbjkbogmpcaaOpenZ
namespace Go.Proofs.Ytppdbjkbogmpcaa
open Go.ChangeShapes Go.WideShapes Go.ChangeAt Go.RowKit
set_option linter.unusedVariables false
set_option linter.unusedSimpArgs false

theorem step0 (x : Int) (h : x ≤ 10000000) : stepN [10000000] x = 0 := by
  unfold stepN
  rw [List.takeWhile_cons_of_neg (by simp; omega)]
  rfl
theorem place_lim (pl gr size : Int) (sa ga pa : Option Addr) (w : World) (s0 : 1 ≤ size) (s1 : size ≤ 10000000) (g0 : 0 ≤ gr) (g1 : gr ≤ 100000) (p0 : -100000 ≤ pl) (p1 : pl ≤ 100000) (hs : SlA IntE w sa [10000000]) (hg : SlA IntsAt w ga [[gr]]) (hp : SlA IntsAt w pa [[pl]]) :
    Calls Try.prog 31 #[.agg #[.slice sa 1 1, .slice ga 1 1, .slice pa 1 1], .agg #[.int .i64 0, .int .i64 0], .bool false, .int .i64 size] w fun e w' => e = .returned (.tuple #[.agg #[.int .i64 (size - pl - gr), .int .i64 (size - pl)], .int .i64 0]) ∧ Below w.heap.size w w' := by
  have h := limits_any false 0 0 size [10000000] [[gr]] [[pl]] sa ga pa 1 1 1 w (by simp) (by simp) (by simp) hs hg hp
  have hc : checkN [10000000] [[gr]] [[pl]] = 0 := by
    have h1 : longB [10000000] [[gr]] [[pl]] = false := by simp [longB]
    have h2 : fullB [10000000] [[gr]] [[pl]] = true := by simp [fullB, lenB]
    have h3 : stepsB [10000000] = true := by decide
    have h4 : rowsB [[gr]] [[pl]] = true := by simp [rowsB, allB, inB]; omega
    unfold checkN
    rw [h1, h2, h3, h4]
    rfl
  have hcl : classB [[gr]] [[pl]] (0, 0) = true := by simp [classB, allB, inB]
  have hst := step0 size s1
  have he : limE [10000000] [[gr]] [[pl]] 0 0 size = 0 := by
    unfold limE colE
    rw [hc, if_neg (by omega), hcl, if_neg (by decide), hst, if_neg (by simp; omega)]
  have e1 : limLo [10000000] [[gr]] [[pl]] 0 0 false size = size - pl - gr := by
    unfold limLo
    rw [he, if_pos rfl, hst]
    simp [zoLo, numN]
  have e2 : limHi [10000000] [[gr]] [[pl]] 0 0 false size = size - pl := by
    unfold limHi
    rw [he, if_pos rfl, hst]
    simp [zoHi, numN]
  rw [he, e1, e2] at h
  exact h

theorem wf_bdz {k : IntKind} {n : Int} (h : (Lit.int k n).wf = true) : k.min ≤ n ∧ n ≤ k.max := by
  simpa [Lit.wf] using h
theorem wf8 {z : Int} (h : (Lit.int .u8 z).wf = true) : 0 ≤ z ∧ z ≤ 255 := wf_bdz h

theorem pub_ok {p a b d : Int} (hp : 9000 ≤ p ∧ p ≤ 10020) (ha : 0 ≤ a ∧ a ≤ 255) (hb : 0 ≤ b ∧ b ≤ 255) (hd : 0 ≤ d ∧ d ≤ 255) : okB ⟨p, 400 + a, 400 + b, 1 + 5 * d, 5 * d, 1, false, 0⟩ = true := by
  have h1 : limB ⟨p, 400 + a, 400 + b, 1 + 5 * d, 5 * d, 1, false, 0⟩ = true := by rw [lim_iff]; simp only; omega
  have h2 : openB ⟨p, 400 + a, 400 + b, 1 + 5 * d, 5 * d, 1, false, 0⟩ = true := by
    unfold openB
    simp only
    rw [decide_eq_true_eq, Int.max_eq_left (by omega)]
    have h3 : (1 + 5 * d) * (400 + a + (400 + b)) ≤ 1276 * 1310 := Int.mul_le_mul (by omega) (by omega) (by omega) (by omega)
    omega
  unfold okB
  rw [h1, h2, decide_eq_true (by simp only; omega)]
  rfl

theorem place_walk (xa xb xc xd ya yb yc yd za zb zc zd : Int) (w : World) (mxa : (Lit.int .u8 xa).wf = true) (mxb : (Lit.int .u8 xb).wf = true) (mxc : (Lit.int .u8 xc).wf = true) (mxd : (Lit.int .u8 xd).wf = true) (mya : (Lit.int .u8 ya).wf = true) (myb : (Lit.int .u8 yb).wf = true) (myc : (Lit.int .u8 yc).wf = true) (myd : (Lit.int .u8 yd).wf = true) (mza : (Lit.int .u8 za).wf = true) (mzb : (Lit.int .u8 zb).wf = true) (mzc : (Lit.int .u8 zc).wf = true) (mzd : (Lit.int .u8 zd).wf = true) :
    Calls Try.prog 14 #[.agg #[.int .u8 xa, .int .u8 xb, .int .u8 xc, .int .u8 xd], .agg #[.int .u8 ya, .int .u8 yb, .int .u8 yc, .int .u8 yd], .agg #[.int .u8 za, .int .u8 zb, .int .u8 zc, .int .u8 zd]] w fun e w' => e = .returned (.bool true) ∧ Below w.heap.size w w' := by
  have bxa := wf8 mxa
  have bxb := wf8 mxb
  have bxc := wf8 mxc
  have bxd := wf8 mxd
  have bya := wf8 mya
  have byb := wf8 myb
  have byc := wf8 myc
  have byd := wf8 myd
  have bza := wf8 mza
  have bzb := wf8 mzb
  have bzc := wf8 mzc
  have bzd := wf8 mzd
  have hk1 := pub_ok (p := 9000 + 4 * xa) (a := xb) (b := xc) (d := xd) (by omega) bxb bxc bxd
  have hk2 := pub_ok (p := 9000 + 4 * xa) (a := yb) (b := yc) (d := yd) (by omega) byb byc byd
  have hv : vspan (8 * za - 1200) (8 * za - 1200 + 8 * zb) (-200000) 200000 = true := by unfold vspan; exact decide_eq_true (by omega)
  have ht : tlB 1 0 false 1 0 false = true := by decide
  obtain ⟨c, c0, c1, HR⟩ : ∃ c : Int, 0 ≤ c ∧ c ≤ 49000 ∧ ∀ w : World, Calls Try.prog 68 #[.agg #[.int .i64 (9000 + 4 * xa), .int .i64 (400 + xb), .int .i64 (400 + xc), .int .i64 (1 + 5 * xd), .int .i64 (5 * xd), .int .i64 1, .bool false, .int .i64 0], .agg #[.int .i64 (9000 + 4 * xa), .int .i64 (400 + yb), .int .i64 (400 + yc), .int .i64 (1 + 5 * yd), .int .i64 (5 * yd), .int .i64 1, .bool false, .int .i64 0], .agg #[.int .i64 (8 * za - 1200), .int .i64 (8 * za - 1200 + 8 * zb)]] w fun e w' => e = .returned (.tuple #[.int .i64 c, .int .i64 0]) ∧ Below w.heap.size w w' := by
    by_cases hn : ovl (8 * za - 1200) (8 * za - 1200 + 8 * zb) (400 + xb) (400 + yb) + ovl (8 * za - 1200) (8 * za - 1200 + 8 * zb) (400 + xc) (400 + yc) ≤ 0
    · exact ⟨0, by omega, by omega, fun w => room_zero _ _ _ _ _ _ _ _ _ _ _ _ _ _ _ _ _ _ w hk1 hk2 rfl ht hv hn⟩
    · have q : ∀ u v : Int, 0 ≤ u → u ≤ 255 → 0 ≤ v → v ≤ 255 → ovl (8 * za - 1200) (8 * za - 1200 + 8 * zb) (400 + u) (400 + v) ≤ 4500 * 255 := by
        intro u v u0 u1 v0 v1
        have z1 := mul_bd (x := 8 * za - 1200) (y := 400 + v - (400 + u)) (A := 4500) (B := 255) (by omega) (by omega) (by omega) (by omega)
        have z2 := mul_bd (x := 8 * za - 1200 + 8 * zb) (y := 400 + v - (400 + u)) (A := 4500) (B := 255) (by omega) (by omega) (by omega) (by omega)
        unfold ovl
        exact Int.max_le.2 ⟨z1.2, z2.2⟩
      have q1 := q xb yb (by omega) (by omega) (by omega) (by omega)
      have q2 := q xc yc (by omega) (by omega) (by omega) (by omega)
      generalize hN : ovl (8 * za - 1200) (8 * za - 1200 + 8 * zb) (400 + xb) (400 + yb) + ovl (8 * za - 1200) (8 * za - 1200 + 8 * zb) (400 + xc) (400 + yc) = n at *
      have hd : 800 ≤ 400 + xb + (400 + xc) := by omega
      refine ⟨upTo n (400 + xb + (400 + xc)), ?_, ?_, fun w => ?_⟩
      · exact Int.ediv_nonneg (by omega) (by omega)
      · have : upTo n (400 + xb + (400 + xc)) ≤ n := by
          have := upTo_bd (n := n) (d := 400 + xb + (400 + xc)) (m := n) (by omega) ⟨by omega, by omega⟩
          exact this.2
        have h2 : upTo n (400 + xb + (400 + xc)) ≤ 3000 := by
          unfold upTo
          have : (n + (400 + xb + (400 + xc)) - 1) / (400 + xb + (400 + xc)) < 3001 := Int.ediv_lt_of_lt_mul (by omega) (by omega)
          omega
        omega
      · have h := room_good _ _ _ _ _ _ _ _ _ _ _ _ _ _ _ _ _ _ w hk1 hk2 rfl ht hv (by rw [hN]; omega) (by omega)
        rw [hN] at h
        exact h
  refine place_way w xa xb xc xd ya yb yc yd za zb zc zd c bxa.1 bxa.2 bxb.1 bxb.2 bxc.1 bxc.2 bxd.1 bxd.2 bya.1 bya.2 byb.1 byb.2 byc.1 byc.2 byd.1 byd.2 bza.1 bza.2 bzb.1 bzb.2 bzc.1 bzc.2 bzd.1 bzd.2 c0 (by omega) (Lib.hid fun w => pubForm_any xa xb xc xd bxa.1 bxa.2 bxb.1 bxb.2 bxc.1 bxc.2 bxd.1 bxd.2 w) (Lib.hid fun w => pubForm_any ya yb yc yd bya.1 bya.2 byb.1 byb.2 byc.1 byc.2 byd.1 byd.2 w) (Lib.hid fun w => pubDepth_any w za zb bza.1 bza.2 bzb.1 bzb.2) (Lib.hid HR) (Lib.hid fun w => pubTable_any _ _ _ w) (Lib.hid fun sa ga pa w h1 h2 h3 => place_lim _ _ _ sa ga pa w (by omega) (by omega) bzd.1 (by omega) (by omega) (by omega) h1 h2 h3) (Lib.hid fun w => pubTable_any _ _ _ w) (Lib.hid fun sa ga pa w h1 h2 h3 => place_lim _ _ _ sa ga pa w (by omega) (by omega) bzd.1 (by omega) (by omega) (by omega) h1 h2 h3)

theorem place_own : ownKnob Try.prog.godebug = none := by kernel_rfl
theorem place_laidOut : laidOutB Try.prog = true := by kernel_rfl

set_option maxRecDepth 100000 in
theorem place_lifted (os : Os) (started : os.Started) (H : Type) (enc : TypeId × Value → H) :
    ReturnsInHanded {} Try.checked os 14 .any (Rows.topRoomPlaceSpec.pre6 enc Try.prog Try.f14 Rows.topRoomPlaceRow.domain false) (Rows.topRoomPlaceSpec.post enc Try.prog Try.f14 false true false false) := by
  refine returnsInHanded_of_change (C := Try.checked) place_own started (by kernel_rfl) Try.func14
    (ChangeSpec.witness6 (enc := enc) (C := Try.checked) false ⟨#[], #[.agg #[.int .u8 0, .int .u8 0, .int .u8 0, .int .u8 0], .agg #[.int .u8 0, .int .u8 0, .int .u8 0, .int .u8 0], .agg #[.int .u8 0, .int .u8 0, .int .u8 0, .int .u8 0]], []⟩ 8 (by kernel_rfl) (by kernel_rfl) (by kernel_rfl) (by kernel_rfl)) ?_
  intro W base args ds gs before hval0 hW hcnd _
  have hval : ∀ (j : Nat) t v, Try.f14.params[j]? = some t → args[j]? = some v → Value.okWide Try.prog W .any base t v := hval0
  have hW' := hW
  obtain ⟨p, q, hA0, hV, rfl, hfz, hnd⟩ := hW
  have hA : DataW.TrodAll enc Try.prog W 0 (fun _ => true) true Try.f14.params.toList args.toList ds p := hA0
  rw [Try.params14] at hA hval
  obtain ⟨v0, vs0, d0, ds0, p0, q0, hargs, rfl, rfl, h0, r0⟩ := trodAll_cons hA
  obtain ⟨v1, vs1, d1, ds1, p1, q1, rfl, rfl, rfl, h1, r1⟩ := trodAll_cons r0
  obtain ⟨v2, vs2, d2, ds2, p2, q2, rfl, rfl, rfl, h2, r2⟩ := trodAll_cons r1
  obtain ⟨rfl, rfl, rfl⟩ := trodAll_nil r2
  obtain rfl : args = #[v0, v1, v2] := by cases args; simp_all
  obtain ⟨rfl, rfl⟩ := trodVars_none hV
  have k0 := h0
  have lt0 : ∀ x ∈ p0, x.block < W.heap.size := by obtain ⟨m, hm⟩ := k0; exact DataW.trod_lt m _ _ _ hm
  have k1 := h1
  have lt1 : ∀ x ∈ p1, x.block < W.heap.size := by obtain ⟨m, hm⟩ := k1; exact DataW.trod_lt m _ _ _ hm
  have k2 := h2
  have lt2 : ∀ x ∈ p2, x.block < W.heap.size := by obtain ⟨m, hm⟩ := k2; exact DataW.trod_lt m _ _ _ hm
  obtain ⟨xa, xb, xc, xd, rfl, mxa, mxb, mxc, mxd⟩ := open_four8 (hval 0 117 v0 rfl rfl) h0
  obtain ⟨ya, yb, yc, yd, rfl, mya, myb, myc, myd⟩ := open_four8 (hval 1 117 v1 rfl rfl) h1
  obtain ⟨za, zb, zc, zd, rfl, mza, mzb, mzc, mzd⟩ := open_four8 (hval 2 117 v2 rfl rfl) h2
  clear hA0 hval0
  refine (place_walk xa xb xc xd ya yb yc yd za zb zc zd W mxa mxb mxc mxd mya myb myc myd mza mzb mzc mzd).mono fun e W' ⟨he, bel⟩ => ?_
  subst he
  exact ⟨_, rfl, _, _, _, [], _, [], hW', trodAll_mk1 (shut_bool Try.underlying4 _), (trodAll_cons_mk (Below.trod place_laidOut (by kernel_rfl) (of_decide_eq_true (by kernel_rfl)) k0 bel lt0) (trodAll_cons_mk (Below.trod place_laidOut (by kernel_rfl) (of_decide_eq_true (by kernel_rfl)) k1 bel lt1) (trodAll_cons_mk (Below.trod place_laidOut (by kernel_rfl) (of_decide_eq_true (by kernel_rfl)) k2 bel lt2) trodAll_mk0))), rfl, bel.frame _, fun h => by cases h⟩

theorem place_over : Rows.topRoomPlaceRow.holds Try.pinned (OpenSpec.ofChange Rows.topRoomPlaceSpec) :=
  OpenClaim.holds_of_wide 14 Try.f14 rfl rfl rfl rfl rfl rfl rfl ⟨rfl, rfl, rfl, rfl, rfl⟩ rfl rfl rfl rfl rfl (by kernel_rfl) Try.func14 (by kernel_rfl)
    (of_decide_eq_true (by kernel_rfl)) (by unfold Func.isWrapper; rw [if_neg (of_decide_eq_false (by kernel_rfl))]; exact ⟨rfl, rfl⟩)
    (fun os started H enc _ => place_lifted os started H enc)

theorem place_proved : Rows.TopRoomPlaceSaid := place_over
#print axioms place_proved
end Go.Proofs.Ytppdbjkbogmpcaa
