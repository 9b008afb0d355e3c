/- bolt.Learn: true frictions lie in what it returns. Made by tools/cxvc.py. -/
import Derived.Test.YtknphpihipkdpaaBLearnN0TN
set_option linter.unusedSimpArgs false
set_option linter.unusedVariables false
set_option maxRecDepth 100000
set_option maxHeartbeats 4000000
namespace Go.Proofs.Ytknphpihipkdpaa.Cx
open Go Go.RowKit

set_option maxRecDepth 100000 in
theorem blen0_goal {x0 x1 x2 x3 x4 x5 x6 x7 x8 x9 x10 x11 x12 x13 x14 x15 x16 x17 x18 x19 x20 x21 x22 x23 x24 x25 : Int} (b_x0 : 1 ≤ x0 ∧ x0 ≤ 100000) (b_x1 : 0 ≤ x1 ∧ x1 ≤ 100000) (b_x2 : 0 ≤ x2 ∧ x2 ≤ 100000) (b_x3 : 0 ≤ x3 ∧ x3 ≤ 1000) (b_x4 : 0 ≤ x4 ∧ x4 ≤ 1000) (b_x5 : 0 ≤ x5 ∧ x5 ≤ 1000) (b_x6 : 0 ≤ x6 ∧ x6 ≤ 1000) (b_x7 : 1 ≤ x7 ∧ x7 ≤ 100000000) (b_x8 : 1 ≤ x8 ∧ x8 ≤ 100000000) (b_x9 : 1 ≤ x9 ∧ x9 ≤ 100000) (b_x10 : 1 ≤ x10 ∧ x10 ≤ 100000) (b_x11 : 1 ≤ x11 ∧ x11 ≤ 100000000) (b_x12 : 1 ≤ x12 ∧ x12 ≤ 100000000) (b_x13 : 0 ≤ x13 ∧ x13 ≤ 10000000000000) (b_x14 : 0 ≤ x14 ∧ x14 ≤ 10000000000000) (b_x15 : 0 ≤ x15 ∧ x15 ≤ 100000000) (b_x16 : 0 ≤ x16 ∧ x16 ≤ 100000000) (b_x17 : 0 ≤ x17 ∧ x17 ≤ 1000) (b_x18 : 0 ≤ x18 ∧ x18 ≤ 1000) (b_x19 : 1000 ≤ x19 ∧ x19 ≤ 300000000) (b_x20 : 0 ≤ x20 ∧ x20 ≤ 1001) (b_x21 : 0 ≤ x21 ∧ x21 ≤ 1000) (b_x22 : 0 ≤ x22 ∧ x22 ≤ 1000) (b_x23 : 0 ≤ x23 ∧ x23 ≤ 1000) (b_x24 : 0 ≤ x24 ∧ x24 ≤ 1000) (b_x25 : 0 ≤ x25 ∧ x25 ≤ 1000000000000000000) (v0 : x3 ≤ x4) (v1 : x5 ≤ x6) (v5 : x13 ≤ x14) (v6 : x15 ≤ x16) (v7 : x3 ≤ x17) (v8 : x17 ≤ x4) (v9 : x5 ≤ x18) (v10 : x18 ≤ x6) (v2 : x7 ≤ x8) (v3 : x9 ≤ x10) (v4 : x11 ≤ x12) (i0 : x3 ≤ x20) (i1 : x19 ≤ x25) (i2 : x20 ≤ x4 + 1) (i3 : x17 + 1 ≤ x20 → x21 ≤ x17 ∧ x17 ≤ x22 ∧ x23 ≤ x18 ∧ x18 ≤ x24) (i4 : (x21 = 1000 ∧ x22 = 0 ∧ x23 = 1000 ∧ x24 = 0) ∨ (x3 ≤ x21 ∧ x22 ≤ x4 ∧ x5 ≤ x23 ∧ x24 ≤ x6)) (ha : x19 = 1000 * x0 + x1 * x17 + x2 * x18) (h1 : 1000 * x13 + 1 ≤ x16 * x19 + x19) (h2 : x15 * x19 ≤ 1000 * x14) : ((blen0VT x0 x1 x2 x3 x4 x5 x6 x7 x8 x9 x10 x11 x12 x13 x14 x15 x16 x17 x18 x19 x20 x21 x22 x23 x24 x25).dt (endQ (fun b => bleInv x0 x1 x2 x3 x4 x5 x6 x7 x8 x9 x10 x11 x12 x13 x14 x15 x16 x17 x18 x19 b ∧ bleMu x0 x1 x2 x3 x4 x5 x6 x7 x8 x9 x10 x11 x12 x13 x14 x15 x16 x17 x18 x19 b < bleMu x0 x1 x2 x3 x4 x5 x6 x7 x8 x9 x10 x11 x12 x13 x14 x15 x16 x17 x18 x19 (.n0 x20 x21 x22 x23 x24 x25)) (blePost x0 x1 x2 x3 x4 x5 x6 x7 x8 x9 x10 x11 x12 x13 x14 x15 x16 x17 x18 x19))).goal (blen0Env x0 x1 x2 x3 x4 x5 x6 x7 x8 x9 x10 x11 x12 x13 x14 x15 x16 x17 x18 x19 x20 x21 x22 x23 x24 x25) := by
  have e0 : Is (blen0Env x0 x1 x2 x3 x4 x5 x6 x7 x8 x9 x10 x11 x12 x13 x14 x15 x16 x17 x18 x19 x20 x21 x22 x23 x24 x25) (.v 0) x0 := ⟨rfl⟩
  have e1 : Is (blen0Env x0 x1 x2 x3 x4 x5 x6 x7 x8 x9 x10 x11 x12 x13 x14 x15 x16 x17 x18 x19 x20 x21 x22 x23 x24 x25) (.v 1) x1 := ⟨rfl⟩
  have e2 : Is (blen0Env x0 x1 x2 x3 x4 x5 x6 x7 x8 x9 x10 x11 x12 x13 x14 x15 x16 x17 x18 x19 x20 x21 x22 x23 x24 x25) (.v 2) x2 := ⟨rfl⟩
  have e3 : Is (blen0Env x0 x1 x2 x3 x4 x5 x6 x7 x8 x9 x10 x11 x12 x13 x14 x15 x16 x17 x18 x19 x20 x21 x22 x23 x24 x25) (.v 3) x3 := ⟨rfl⟩
  have e4 : Is (blen0Env x0 x1 x2 x3 x4 x5 x6 x7 x8 x9 x10 x11 x12 x13 x14 x15 x16 x17 x18 x19 x20 x21 x22 x23 x24 x25) (.v 4) x4 := ⟨rfl⟩
  have e5 : Is (blen0Env x0 x1 x2 x3 x4 x5 x6 x7 x8 x9 x10 x11 x12 x13 x14 x15 x16 x17 x18 x19 x20 x21 x22 x23 x24 x25) (.v 5) x5 := ⟨rfl⟩
  have e6 : Is (blen0Env x0 x1 x2 x3 x4 x5 x6 x7 x8 x9 x10 x11 x12 x13 x14 x15 x16 x17 x18 x19 x20 x21 x22 x23 x24 x25) (.v 6) x6 := ⟨rfl⟩
  have e7 : Is (blen0Env x0 x1 x2 x3 x4 x5 x6 x7 x8 x9 x10 x11 x12 x13 x14 x15 x16 x17 x18 x19 x20 x21 x22 x23 x24 x25) (.v 7) x7 := ⟨rfl⟩
  have e8 : Is (blen0Env x0 x1 x2 x3 x4 x5 x6 x7 x8 x9 x10 x11 x12 x13 x14 x15 x16 x17 x18 x19 x20 x21 x22 x23 x24 x25) (.v 8) x8 := ⟨rfl⟩
  have e9 : Is (blen0Env x0 x1 x2 x3 x4 x5 x6 x7 x8 x9 x10 x11 x12 x13 x14 x15 x16 x17 x18 x19 x20 x21 x22 x23 x24 x25) (.v 9) x9 := ⟨rfl⟩
  have e10 : Is (blen0Env x0 x1 x2 x3 x4 x5 x6 x7 x8 x9 x10 x11 x12 x13 x14 x15 x16 x17 x18 x19 x20 x21 x22 x23 x24 x25) (.v 10) x10 := ⟨rfl⟩
  have e11 : Is (blen0Env x0 x1 x2 x3 x4 x5 x6 x7 x8 x9 x10 x11 x12 x13 x14 x15 x16 x17 x18 x19 x20 x21 x22 x23 x24 x25) (.v 11) x11 := ⟨rfl⟩
  have e12 : Is (blen0Env x0 x1 x2 x3 x4 x5 x6 x7 x8 x9 x10 x11 x12 x13 x14 x15 x16 x17 x18 x19 x20 x21 x22 x23 x24 x25) (.v 12) x12 := ⟨rfl⟩
  have e13 : Is (blen0Env x0 x1 x2 x3 x4 x5 x6 x7 x8 x9 x10 x11 x12 x13 x14 x15 x16 x17 x18 x19 x20 x21 x22 x23 x24 x25) (.v 13) x13 := ⟨rfl⟩
  have e14 : Is (blen0Env x0 x1 x2 x3 x4 x5 x6 x7 x8 x9 x10 x11 x12 x13 x14 x15 x16 x17 x18 x19 x20 x21 x22 x23 x24 x25) (.v 14) x14 := ⟨rfl⟩
  have e15 : Is (blen0Env x0 x1 x2 x3 x4 x5 x6 x7 x8 x9 x10 x11 x12 x13 x14 x15 x16 x17 x18 x19 x20 x21 x22 x23 x24 x25) (.v 15) x15 := ⟨rfl⟩
  have e16 : Is (blen0Env x0 x1 x2 x3 x4 x5 x6 x7 x8 x9 x10 x11 x12 x13 x14 x15 x16 x17 x18 x19 x20 x21 x22 x23 x24 x25) (.v 16) x16 := ⟨rfl⟩
  have e17 : Is (blen0Env x0 x1 x2 x3 x4 x5 x6 x7 x8 x9 x10 x11 x12 x13 x14 x15 x16 x17 x18 x19 x20 x21 x22 x23 x24 x25) (.v 17) x17 := ⟨rfl⟩
  have e18 : Is (blen0Env x0 x1 x2 x3 x4 x5 x6 x7 x8 x9 x10 x11 x12 x13 x14 x15 x16 x17 x18 x19 x20 x21 x22 x23 x24 x25) (.v 18) x18 := ⟨rfl⟩
  have e19 : Is (blen0Env x0 x1 x2 x3 x4 x5 x6 x7 x8 x9 x10 x11 x12 x13 x14 x15 x16 x17 x18 x19 x20 x21 x22 x23 x24 x25) (.v 19) x19 := ⟨rfl⟩
  have e20 : Is (blen0Env x0 x1 x2 x3 x4 x5 x6 x7 x8 x9 x10 x11 x12 x13 x14 x15 x16 x17 x18 x19 x20 x21 x22 x23 x24 x25) (.v 20) x20 := ⟨rfl⟩
  have e21 : Is (blen0Env x0 x1 x2 x3 x4 x5 x6 x7 x8 x9 x10 x11 x12 x13 x14 x15 x16 x17 x18 x19 x20 x21 x22 x23 x24 x25) (.v 21) x21 := ⟨rfl⟩
  have e22 : Is (blen0Env x0 x1 x2 x3 x4 x5 x6 x7 x8 x9 x10 x11 x12 x13 x14 x15 x16 x17 x18 x19 x20 x21 x22 x23 x24 x25) (.v 22) x22 := ⟨rfl⟩
  have e23 : Is (blen0Env x0 x1 x2 x3 x4 x5 x6 x7 x8 x9 x10 x11 x12 x13 x14 x15 x16 x17 x18 x19 x20 x21 x22 x23 x24 x25) (.v 23) x23 := ⟨rfl⟩
  have e24 : Is (blen0Env x0 x1 x2 x3 x4 x5 x6 x7 x8 x9 x10 x11 x12 x13 x14 x15 x16 x17 x18 x19 x20 x21 x22 x23 x24 x25) (.v 24) x24 := ⟨rfl⟩
  have e25 : Is (blen0Env x0 x1 x2 x3 x4 x5 x6 x7 x8 x9 x10 x11 x12 x13 x14 x15 x16 x17 x18 x19 x20 x21 x22 x23 x24 x25) (.v 25) x25 := ⟨rfl⟩
  unfold blen0VT
  simp only [VT.dt, askN]
  obtain ⟨u1, u1s, b_u1⟩ := blen0_au1 b_x20 b_x21
  obtain ⟨u2, u2s, b_u2⟩ := blen0_au2 b_x20 b_x22
  obtain ⟨m3, m3e, m3f1, m3f2, m3f3, m3f4, b_m3⟩ := blen0_am3 b_x1 b_x3
  obtain ⟨w4, w4s, b_w4⟩ := blen0_aw4 b_m3
  obtain ⟨m5, m5e, m5f1, m5f2, m5f3, m5f4, b_m5⟩ := blen0_am5 b_x2 b_x5
  obtain ⟨w6, w6s, b_w6⟩ := blen0_aw6 b_m5
  obtain ⟨w7, w7s, b_w7⟩ := blen0_aw7 b_x13
  obtain ⟨w8, w8s, b_w8⟩ := blen0_aw8 b_x16
  obtain ⟨q9, q9e, q9h, b_q9⟩ := blen0_aq9 b_w7 b_w8
  obtain ⟨m10, m10e, m10f1, m10f2, m10f3, m10f4, b_m10⟩ := blen0_am10 b_q9 b_w8
  have q9d := qD_is q9h m10e.out
  obtain ⟨u11, u11s, b_u11⟩ := blen0_au11 b_q9 b_w4 b_w6 b_x0
  obtain ⟨m12, m12e, m12f1, m12f2, m12f3, m12f4, b_m12⟩ := blen0_am12 b_x1 b_x20
  obtain ⟨w13, w13s, b_w13⟩ := blen0_aw13 b_m12
  obtain ⟨w14, w14s, b_w14⟩ := blen0_aw14 b_q9 b_u11 b_w13 b_x0
  obtain ⟨q15, q15e, q15h, b_q15⟩ := blen0_aq15 b_w14 b_x2
  obtain ⟨m16, m16e, m16f1, m16f2, m16f3, m16f4, b_m16⟩ := blen0_am16 b_q15 b_x2
  have q15d := qZ_is q15h m16e.out
  obtain ⟨u17, u17s, b_u17⟩ := blen0_au17 b_q15 b_x5
  obtain ⟨u18, u18s, b_u18⟩ := blen0_au18 b_q15 b_u17 b_x23
  obtain ⟨w19, w19s, b_w19⟩ := blen0_aw19 b_w13 b_x0 b_x25
  obtain ⟨q20, q20e, q20h, b_q20⟩ := blen0_aq20 b_w19 b_x2
  obtain ⟨m21, m21e, m21f1, m21f2, m21f3, m21f4, b_m21⟩ := blen0_am21 b_q20 b_x2
  have q20d := qZ_is q20h m21e.out
  obtain ⟨u22, u22s, b_u22⟩ := blen0_au22 b_q20 b_x6
  obtain ⟨u23, u23s, b_u23⟩ := blen0_au23 b_q20 b_u22 b_x24
  obtain ⟨u24, u24s, b_u24⟩ := blen0_au24 b_q20 b_x6
  obtain ⟨u25, u25s, b_u25⟩ := blen0_au25 b_q20 b_u24 b_x24
  obtain ⟨u26, u26s, b_u26⟩ := blen0_au26 b_q15 b_x5
  obtain ⟨u27, u27s, b_u27⟩ := blen0_au27 b_q15 b_u26 b_x23
  have rf1 := blen0_rf1 b_x5 i4
  have rf2 := blen0_rf2 b_x6 i4
  obtain ⟨m28, m28e, m28f1, m28f2, m28f3, m28f4, b_m28⟩ := blen0_am28 b_x1 b_x17
  obtain ⟨m29, m29e, m29f1, m29f2, m29f3, m29f4, b_m29⟩ := blen0_am29 b_x18 b_x2
  have rf3 : x19 = 1000 * x0 + m28 + m29 := by
    have h := ha
    rw [m28e.out, (Int.mul_comm x2 x18).trans m29e.out] at h
    exact h
  obtain ⟨m30, m30e, m30f1, m30f2, m30f3, m30f4, b_m30⟩ := blen0_am30 b_x16 b_x19
  have rf4 : 1000 * x13 + 1 ≤ m30 + x19 := by
    have h := h1
    rw [m30e.out] at h
    exact h
  obtain ⟨m31, m31e, m31f1, m31f2, m31f3, m31f4, b_m31⟩ := blen0_am31 b_x15 b_x19
  have rf5 : m31 ≤ 1000 * x14 := by
    have h := h2
    rw [m31e.out] at h
    exact h
  have rf6 := blen0_rf6  v7
  have rf6_0 := blen0_rf6_0 b_x1 rf6 m28e m3e
  have rf7 := blen0_rf7  v8
  obtain ⟨m32, m32e, m32f1, m32f2, m32f3, m32f4, b_m32⟩ := blen0_am32 b_x1 b_x4
  have rf7_0 := blen0_rf7_0 b_x1 rf7 m28e m32e
  have rf8 := blen0_rf8  v9
  have rf8_0 := blen0_rf8_0 b_x2 rf8 m29e m5e
  have rf9 := blen0_rf9  v10
  obtain ⟨m33, m33e, m33f1, m33f2, m33f3, m33f4, b_m33⟩ := blen0_am33 b_x2 b_x6
  have rf9_0 := blen0_rf9_0 b_x2 rf9 m29e m33e
  have rf10 := blen0_rf10 b_w8 q9h m30e w8s
  have rf11 := blen0_rf11 b_x2 m16e m29e
  have rf12 := blen0_rf12 b_x2 m16e m29e
  have rf13 := blen0_rf13 b_x2 m16e m29e
  have rf14 := blen0_rf14 b_x2 m16e m29e
  have rf15 := blen0_rf15 b_x2 m16e m29e
  have rf16 := blen0_rf16 b_x2 m16e m29e
  have rf17 := blen0_rf17 b_x2 m16e m29e
  have rf18 := blen0_rf18 b_x2 m16e m29e
  have rf19 := blen0_rf19 b_x2 m21e m29e
  have rf20 := blen0_rf20 b_x2 m21e m29e
  have rf21 := blen0_rf21 b_x2 m21e m29e
  have rf22 := blen0_rf22 b_x2 m21e m29e
  have rf23 := blen0_rf23 b_x2 m21e m29e
  have rf24 := blen0_rf24 b_x2 m21e m29e
  have rf25 := blen0_rf25 b_x2 m21e m29e
  have rf26 := blen0_rf26 b_x2 m21e m29e
  have rf27 := blen0_rf27 b_x1 m28e m12e
  have rf28 := blen0_rf28 b_x1 m28e m12e
  obtain ⟨h0, h1, h2, h18, h21, h22, h23, h28, h29, h31, h32, h33, h34, h35, h36, h37, h38⟩ := blen0_g0 (ρ := blen0Env x0 x1 x2 x3 x4 x5 x6 x7 x8 x9 x10 x11 x12 x13 x14 x15 x16 x17 x18 x19 x20 x21 x22 x23 x24 x25) e20 e21 ⟨u1s⟩ e22 ⟨u2s⟩ e1 e3 m3e ⟨w4s⟩ e2 e5 m5e ⟨w6s⟩ e0 e13 e16 q9e ⟨w7s⟩ ⟨w8s⟩ ⟨u11s⟩ m12e ⟨w13s⟩ q15e ⟨w14s⟩ ⟨u17s⟩ e23 ⟨u18s⟩ e25 q20e ⟨w19s⟩ e6 ⟨u22s⟩ e24 ⟨u23s⟩ ⟨u24s⟩ ⟨u25s⟩ m21e ⟨u26s⟩ ⟨u27s⟩ m16e rf1 rf2 b_x20 b_x21 b_u1 b_x22 b_u2 b_x1 b_x3 b_w4 b_m3 b_x2 b_x5 b_w6 b_m5 b_x0 b_x13 b_x16 b_q9 b_w7 b_w8 b_u11 b_w13 b_m12 b_q15 b_w14 b_u17 b_x23 b_u18 b_x25 b_q20 b_w19 b_x6 b_u22 b_x24 b_u23 b_u24 b_u25 b_m21 b_u26 b_u27 b_m16
  refine ask_p (fun g => ?_) (fun g => ?_)
  · have k0 := Zleqt e20 e4 g; clear g
    refine ask_p (fun g => ?_) (fun g => ?_)
    · have k1 := Zleqt e2 (Zc 0) g; clear g
      refine ask_p (fun g => ?_) (fun g => ?_)
      · have k2 := Zleqt h18 (Zc 0) g; clear g
        refine ask_p (fun g => ?_) (fun g => ?_)
        · have k3 := Zleqt (Zc 0) h23 g; clear g
          refine aT (Pleq e5 e6 (blen0_d0 v1)) ?_
          exact endQ_next (ble_mkn0 ((IE.Z_den _ blen00).trans h0.out) ((IE.Z_den _ blen01).trans h1.out) ((IE.Z_den _ blen02).trans h2.out) ((IE.Z_den _ blen037).trans h37.out) ((IE.Z_den _ blen038).trans h38.out) rfl ⟨⟨(blen0_d1 b_x20 b_x4 k0), (blen0_d2 b_x20 b_x21 b_x4 k0 u1s), (blen0_d3 b_x20 b_x22 b_x4 k0 u2s), (blen0_d4 b_x5), (blen0_d5 b_x6), (blen0_d6 b_x25), (blen0_d7 i0), (blen0_d8 i1), (blen0_d9 k0), (blen0_d10 b_u2 i3 u1s v9 v10), (blen0_d11 b_x3 b_x4 k0 u1s i0 u2s i4)⟩, toNat_lt_of (blen0_d12) (blen0_d13 k0)⟩)
        have k3 := Zleqf (Zc 0) h23 g; clear g
        exact endQ_next (ble_mkn0 ((IE.Z_den _ blen00).trans h0.out) rfl rfl rfl rfl rfl ⟨⟨(blen0_d1 b_x20 b_x4 k0), (blen0_d14 b_x21), (blen0_d15 b_x22), (blen0_d16 b_x23), (blen0_d17 b_x24), (blen0_d6 b_x25), (blen0_d7 i0), (blen0_d8 i1), (blen0_d9 k0), (blen0_d18 i3 rf28 rf3 m29f1 k3 i1 w13s), (blen0_d19 i4)⟩, toNat_lt_of (blen0_d12) (blen0_d13 k0)⟩)
      have k2 := Zleqf h18 (Zc 0) g; clear g
      exact endQ_next (ble_mkn0 ((IE.Z_den _ blen00).trans h0.out) rfl rfl rfl rfl rfl ⟨⟨(blen0_d1 b_x20 b_x4 k0), (blen0_d14 b_x21), (blen0_d15 b_x22), (blen0_d16 b_x23), (blen0_d17 b_x24), (blen0_d6 b_x25), (blen0_d7 i0), (blen0_d8 i1), (blen0_d9 k0), (blen0_d20 b_w7 rf27 k1 rf3 rf6_0 m29f3 rf8_0 k2 rf4 rf10 u11s w13s w7s w4s w6s), (blen0_d19 i4)⟩, toNat_lt_of (blen0_d12) (blen0_d13 k0)⟩)
    have k1 := Zleqf e2 (Zc 0) g; clear g
    refine aF (Neql e2 (Zc 0) (blen0_d21 k1)) ?_
    refine aF (Neql e2 (Zc 0) (blen0_d21 k1)) ?_
    refine ask_p (fun g => ?_) (fun g => ?_)
    · have k4 := Zleqt h36 (Zc 0) g; clear g
      refine aF (Neql e2 (Zc 0) (blen0_d21 k1)) ?_
      refine aF (Neql e2 (Zc 0) (blen0_d21 k1)) ?_
      refine ask_p (fun g => ?_) (fun g => ?_)
      · have k7 := Zleqt h33 (Zc 0) g; clear g
        refine ask_p (fun g => ?_) (fun g => ?_)
        · have k8 := Zleqt h34 h31 g; clear g
          exact endQ_next (ble_mkn0 ((IE.Z_den _ blen00).trans h0.out) ((IE.Z_den _ blen01).trans h1.out) ((IE.Z_den _ blen02).trans h2.out) ((IE.Z_den _ blen035).trans h35.out) ((IE.Z_den _ blen032).trans h32.out) rfl ⟨⟨(blen0_d1 b_x20 b_x4 k0), (blen0_d2 b_x20 b_x21 b_x4 k0 u1s), (blen0_d3 b_x20 b_x22 b_x4 k0 u2s), (blen0_d22 b_x23 b_x5 u26s u27s), (blen0_d23 b_x24 b_x6 u24s u25s), (blen0_d6 b_x25), (blen0_d7 i0), (blen0_d8 i1), (blen0_d9 k0), (blen0_d24 b_u2 b_u27 b_w7 i3 rf27 rf28 u1s q15d rf13 u26s v9 v10 rf25 q20d u24s u25s k1 rf3 rf6_0 w14s rf8_0 w19s i1 rf4 rf10 u11s w13s w7s w4s w6s), (blen0_d25 b_x20 b_x3 b_x5 b_x6 k0 u1s i0 u2s u26s u27s u24s u25s i4)⟩, toNat_lt_of (blen0_d12) (blen0_d13 k0)⟩)
        have k8 := Zleqf h34 h31 g; clear g
        exact endQ_next (ble_mkn0 ((IE.Z_den _ blen00).trans h0.out) rfl rfl rfl rfl rfl ⟨⟨(blen0_d1 b_x20 b_x4 k0), (blen0_d14 b_x21), (blen0_d15 b_x22), (blen0_d16 b_x23), (blen0_d17 b_x24), (blen0_d6 b_x25), (blen0_d7 i0), (blen0_d8 i1), (blen0_d9 k0), (blen0_d26 b_w7 i3 rf27 rf28 v9 v10 rf13 rf25 k1 k8 rf3 rf6_0 q15d rf8_0 q20d w14s w19s u26s u24s i1 rf4 rf10 u11s w13s w7s w4s w6s), (blen0_d19 i4)⟩, toNat_lt_of (blen0_d12) (blen0_d13 k0)⟩)
      have k7 := Zleqf h33 (Zc 0) g; clear g
      refine aF (Nleq h34 h28 (blen0_d27 b_u22 b_x5 u26s q20d k1 k7)) ?_
      exact endQ_next (ble_mkn0 ((IE.Z_den _ blen00).trans h0.out) rfl rfl rfl rfl rfl ⟨⟨(blen0_d1 b_x20 b_x4 k0), (blen0_d14 b_x21), (blen0_d15 b_x22), (blen0_d16 b_x23), (blen0_d17 b_x24), (blen0_d6 b_x25), (blen0_d7 i0), (blen0_d8 i1), (blen0_d9 k0), (blen0_d28 i3 rf28 k1 k7 rf3 m29f1 q20d w19s i1 w13s), (blen0_d19 i4)⟩, toNat_lt_of (blen0_d12) (blen0_d13 k0)⟩)
    have k4 := Zleqf h36 (Zc 0) g; clear g
    refine aF (Neql e2 (Zc 0) (blen0_d21 k1)) ?_
    refine aF (Neql e2 (Zc 0) (blen0_d21 k1)) ?_
    refine aT (Pleq h33 (Zc 0) (blen0_d29 b_w7 w19s k1 q20d rf3 rf8_0 i1 k4 q15d rf4 rf10 rf6_0 w14s w7s u11s w4s w6s)) ?_
    refine ask_p (fun g => ?_) (fun g => ?_)
    · have k8 := Zleqt h21 h31 g; clear g
      exact endQ_next (ble_mkn0 ((IE.Z_den _ blen00).trans h0.out) ((IE.Z_den _ blen01).trans h1.out) ((IE.Z_den _ blen02).trans h2.out) ((IE.Z_den _ blen022).trans h22.out) ((IE.Z_den _ blen032).trans h32.out) rfl ⟨⟨(blen0_d1 b_x20 b_x4 k0), (blen0_d2 b_x20 b_x21 b_x4 k0 u1s), (blen0_d3 b_x20 b_x22 b_x4 k0 u2s), (blen0_d30 b_x23 b_x5 u17s u18s), (blen0_d23 b_x24 b_x6 u24s u25s), (blen0_d6 b_x25), (blen0_d7 i0), (blen0_d8 i1), (blen0_d9 k0), (blen0_d31 b_u18 b_u2 b_w7 i3 rf27 rf28 u1s rf11 u17s v9 v10 rf25 q20d u24s u25s k1 k4 rf3 rf6_0 w14s rf8_0 w19s i1 rf4 rf10 u11s w13s w7s w4s w6s), (blen0_d32 b_x20 b_x4 b_x5 b_x6 k0 u1s i0 u2s u17s u18s u24s u25s i4)⟩, toNat_lt_of (blen0_d12) (blen0_d13 k0)⟩)
    have k8 := Zleqf h21 h31 g; clear g
    exact endQ_next (ble_mkn0 ((IE.Z_den _ blen00).trans h0.out) rfl rfl rfl rfl rfl ⟨⟨(blen0_d1 b_x20 b_x4 k0), (blen0_d14 b_x21), (blen0_d15 b_x22), (blen0_d16 b_x23), (blen0_d17 b_x24), (blen0_d6 b_x25), (blen0_d7 i0), (blen0_d8 i1), (blen0_d9 k0), (blen0_d33 b_w7 i3 rf27 rf28 v9 v10 rf11 rf25 k1 k4 k8 rf3 rf6_0 rf8_0 q20d w14s u17s u24s i1 rf4 rf10 w19s u11s w13s w7s w4s w6s), (blen0_d19 i4)⟩, toNat_lt_of (blen0_d12) (blen0_d13 k0)⟩)
  have k0 := Zleqf e20 e4 g; clear g
  refine aT (Pleq e21 e22 (blen0_d34 i3 k0 v8)) ?_
  exact endQ_done (ble_mkR rfl rfl rfl rfl rfl ⟨(blen0_d35), (blen0_d36 i3 v8 k0), (blen0_d37 i3 k0 v8), (blen0_d38 b_x3 b_x4 i4), (blen0_d39 b_x5 b_x6 i4), (blen0_d40 b_x21 b_x22 b_x23 b_x24)⟩)
theorem blen0_sat {x0 x1 x2 x3 x4 x5 x6 x7 x8 x9 x10 x11 x12 x13 x14 x15 x16 x17 x18 x19 x20 x21 x22 x23 x24 x25 : Int} (b_x0 : 1 ≤ x0 ∧ x0 ≤ 100000) (b_x1 : 0 ≤ x1 ∧ x1 ≤ 100000) (b_x2 : 0 ≤ x2 ∧ x2 ≤ 100000) (b_x3 : 0 ≤ x3 ∧ x3 ≤ 1000) (b_x4 : 0 ≤ x4 ∧ x4 ≤ 1000) (b_x5 : 0 ≤ x5 ∧ x5 ≤ 1000) (b_x6 : 0 ≤ x6 ∧ x6 ≤ 1000) (b_x7 : 1 ≤ x7 ∧ x7 ≤ 100000000) (b_x8 : 1 ≤ x8 ∧ x8 ≤ 100000000) (b_x9 : 1 ≤ x9 ∧ x9 ≤ 100000) (b_x10 : 1 ≤ x10 ∧ x10 ≤ 100000) (b_x11 : 1 ≤ x11 ∧ x11 ≤ 100000000) (b_x12 : 1 ≤ x12 ∧ x12 ≤ 100000000) (b_x13 : 0 ≤ x13 ∧ x13 ≤ 10000000000000) (b_x14 : 0 ≤ x14 ∧ x14 ≤ 10000000000000) (b_x15 : 0 ≤ x15 ∧ x15 ≤ 100000000) (b_x16 : 0 ≤ x16 ∧ x16 ≤ 100000000) (b_x17 : 0 ≤ x17 ∧ x17 ≤ 1000) (b_x18 : 0 ≤ x18 ∧ x18 ≤ 1000) (b_x19 : 1000 ≤ x19 ∧ x19 ≤ 300000000) (v0 : x3 ≤ x4) (v1 : x5 ≤ x6) (v5 : x13 ≤ x14) (v6 : x15 ≤ x16) (v7 : x3 ≤ x17) (v8 : x17 ≤ x4) (v9 : x5 ≤ x18) (v10 : x18 ≤ x6) (v2 : x7 ≤ x8) (v3 : x9 ≤ x10) (v4 : x11 ≤ x12) (ha : x19 = 1000 * x0 + x1 * x17 + x2 * x18) (h1 : 1000 * x13 + 1 ≤ x16 * x19 + x19) (h2 : x15 * x19 ≤ 1000 * x14) (hI : bleInv x0 x1 x2 x3 x4 x5 x6 x7 x8 x9 x10 x11 x12 x13 x14 x15 x16 x17 x18 x19 (.n0 x20 x21 x22 x23 x24 x25)) : ∃ l, (ablD x0 x1 x2 x3 x4 x5 x6 x7 x8 x9 x10 x11 x12 x13 x14 x15 x16 (.n0 x20 x21 x22 x23 x24 x25)).eval = some l ∧ (endQ (fun b => bleInv x0 x1 x2 x3 x4 x5 x6 x7 x8 x9 x10 x11 x12 x13 x14 x15 x16 x17 x18 x19 b ∧ bleMu x0 x1 x2 x3 x4 x5 x6 x7 x8 x9 x10 x11 x12 x13 x14 x15 x16 x17 x18 x19 b < bleMu x0 x1 x2 x3 x4 x5 x6 x7 x8 x9 x10 x11 x12 x13 x14 x15 x16 x17 x18 x19 (.n0 x20 x21 x22 x23 x24 x25)) (blePost x0 x1 x2 x3 x4 x5 x6 x7 x8 x9 x10 x11 x12 x13 x14 x15 x16 x17 x18 x19)) l = true := by
  obtain ⟨b_x20, b_x21, b_x22, b_x23, b_x24, b_x25, i0, i1, i2, i3, i4⟩ := hI
  rw [blen0_eq]
  exact VT.eval_of _ (blen0_goal b_x0 b_x1 b_x2 b_x3 b_x4 b_x5 b_x6 b_x7 b_x8 b_x9 b_x10 b_x11 b_x12 b_x13 b_x14 b_x15 b_x16 b_x17 b_x18 b_x19 b_x20 b_x21 b_x22 b_x23 b_x24 b_x25 v0 v1 v5 v6 v7 v8 v9 v10 v2 v3 v4 i0 i1 i2 i3 i4 ha h1 h2)
end Go.Proofs.Ytknphpihipkdpaa.Cx
