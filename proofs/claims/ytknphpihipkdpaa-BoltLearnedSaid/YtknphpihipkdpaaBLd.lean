/- BoltLearned holds, for all inputs: by the evaluator at symbols. Made by tools/cxlaw.py. -/
import Derived.Test.YtknphpihipkdpaaBLdTG
import Derived.Test.YtknphpihipkdpaaBLdC0TG
import Derived.Test.YtknphpihipkdpaaBLdC1TG
import Derived.Test.YtknphpihipkdpaaCxMX
import Derived.Test.YtknphpihipkdpaaCxKn09
import Derived.Test.YtknphpihipkdpaaCxOpen
import Derived.Test.YtknphpihipkdpaaCxUp
set_option linter.unusedVariables false
set_option linter.unusedSimpArgs false
namespace Go.Proofs.Ytknphpihipkdpaa
open Go.ChangeShapes Go.WideShapes Go.ChangeAt Go.RowKit
open Cx (Env IE BE DT KnownB)

set_option maxRecDepth 100000 in
theorem bld_open0 {H : Type} {enc : TypeId × Value → H} {w : World} {base : Nat} {spare : Nat → Bool} {held : Bool} {r : Reach} {b0 : Nat} {vv : Value} {d : DataW H} {p : List MemPlace} (hval : Value.okWide Try.prog w r b0 69 vv) (h : DataW.Trod enc Try.prog w base spare held 69 vv d p) :
    ∃ (x0 : Int) (x1 : Int) (x2 : Int) (x3 : Int) (x4 : Int) (x5 : Int) (x6 : Int) (x7 : Int) (x8 : Int) (x9 : Int) (x10 : Int) (x11 : Int) (x12 : Int) (x13 : Int) (x14 : Int) (x15 : Int) (x16 : Int) (x17 : Int) (x18 : Int) (x19 : Int) (x20 : Int) (x21 : Int) (x22 : Int) (x23 : Int) (x24 : Int) (x25 : Int), vv = .agg #[.int .u8 x0, .int .u8 x1, .int .u8 x2, .int .u8 x3, .int .u8 x4, .int .u8 x5, .int .u8 x6, .int .u8 x7, .int .u8 x8, .int .u8 x9, .int .u8 x10, .int .u8 x11, .int .u8 x12, .int .u8 x13, .int .u16 x14, .int .u16 x15, .int .u16 x16, .int .u16 x17, .int .u8 x18, .int .u8 x19, .int .u8 x20, .int .u8 x21, .int .u8 x22, .int .u8 x23, .int .u8 x24, .int .u8 x25] ∧ (Lit.int .u8 x0).wf = true ∧ (Lit.int .u8 x1).wf = true ∧ (Lit.int .u8 x2).wf = true ∧ (Lit.int .u8 x3).wf = true ∧ (Lit.int .u8 x4).wf = true ∧ (Lit.int .u8 x5).wf = true ∧ (Lit.int .u8 x6).wf = true ∧ (Lit.int .u8 x7).wf = true ∧ (Lit.int .u8 x8).wf = true ∧ (Lit.int .u8 x9).wf = true ∧ (Lit.int .u8 x10).wf = true ∧ (Lit.int .u8 x11).wf = true ∧ (Lit.int .u8 x12).wf = true ∧ (Lit.int .u8 x13).wf = true ∧ (Lit.int .u16 x14).wf = true ∧ (Lit.int .u16 x15).wf = true ∧ (Lit.int .u16 x16).wf = true ∧ (Lit.int .u16 x17).wf = true ∧ (Lit.int .u8 x18).wf = true ∧ (Lit.int .u8 x19).wf = true ∧ (Lit.int .u8 x20).wf = true ∧ (Lit.int .u8 x21).wf = true ∧ (Lit.int .u8 x22).wf = true ∧ (Lit.int .u8 x23).wf = true ∧ (Lit.int .u8 x24).wf = true ∧ (Lit.int .u8 x25).wf = true := by
  obtain ⟨cs, rfl, hsz⟩ := okWide_struct Try.underlying69 hval
  obtain ⟨l⟩ := cs
  obtain ⟨fuel, hf⟩ := h
  have hl : l.length = 26 := hsz.trans (by kernel_rfl)
  obtain ⟨nA0, yA0, tA0⟩ := trodS Try.underlying69 hf 0 _ rfl (o := 0) (c := 3) (ty := 62) rfl rfl (by kernel_rfl)
  obtain ⟨nA1, yA1, tA1⟩ := trodS Try.underlying69 hf 1 _ rfl (o := 3) (c := 4) (ty := 63) rfl rfl (by kernel_rfl)
  obtain ⟨nA2, yA2, tA2⟩ := trodS Try.underlying69 hf 2 _ rfl (o := 7) (c := 6) (ty := 64) rfl rfl (by kernel_rfl)
  obtain ⟨nA4, yA4, tA4⟩ := trodS Try.underlying69 hf 4 _ rfl (o := 14) (c := 4) (ty := 66) rfl rfl (by kernel_rfl)
  obtain ⟨nA5, yA5, tA5⟩ := trodS Try.underlying69 hf 5 _ rfl (o := 18) (c := 8) (ty := 67) rfl rfl (by kernel_rfl)
  obtain ⟨n0, y0, t0⟩ := trodE Try.underlying62 tA0 0 (by decide) (o := 0) (c := 1) (by kernel_rfl) rfl
  rw [sub_of (s := 0) rfl (by decide)] at t0
  obtain ⟨x0, g0, w0⟩ := leafI Try.underlying5 t0
  obtain ⟨n1, y1, t1⟩ := trodE Try.underlying62 tA0 1 (by decide) (o := 1) (c := 1) (by kernel_rfl) rfl
  rw [sub_of (s := 1) rfl (by decide)] at t1
  obtain ⟨x1, g1, w1⟩ := leafI Try.underlying5 t1
  obtain ⟨n2, y2, t2⟩ := trodE Try.underlying62 tA0 2 (by decide) (o := 2) (c := 1) (by kernel_rfl) rfl
  rw [sub_of (s := 2) rfl (by decide)] at t2
  obtain ⟨x2, g2, w2⟩ := leafI Try.underlying5 t2
  obtain ⟨n3, y3, t3⟩ := trodE Try.underlying63 tA1 0 (by decide) (o := 0) (c := 1) (by kernel_rfl) rfl
  rw [sub_of (s := 3) rfl (by decide)] at t3
  obtain ⟨x3, g3, w3⟩ := leafI Try.underlying5 t3
  obtain ⟨n4, y4, t4⟩ := trodE Try.underlying63 tA1 1 (by decide) (o := 1) (c := 1) (by kernel_rfl) rfl
  rw [sub_of (s := 4) rfl (by decide)] at t4
  obtain ⟨x4, g4, w4⟩ := leafI Try.underlying5 t4
  obtain ⟨n5, y5, t5⟩ := trodE Try.underlying63 tA1 2 (by decide) (o := 2) (c := 1) (by kernel_rfl) rfl
  rw [sub_of (s := 5) rfl (by decide)] at t5
  obtain ⟨x5, g5, w5⟩ := leafI Try.underlying5 t5
  obtain ⟨n6, y6, t6⟩ := trodE Try.underlying63 tA1 3 (by decide) (o := 3) (c := 1) (by kernel_rfl) rfl
  rw [sub_of (s := 6) rfl (by decide)] at t6
  obtain ⟨x6, g6, w6⟩ := leafI Try.underlying5 t6
  obtain ⟨n7, y7, t7⟩ := trodE Try.underlying64 tA2 0 (by decide) (o := 0) (c := 1) (by kernel_rfl) rfl
  rw [sub_of (s := 7) rfl (by decide)] at t7
  obtain ⟨x7, g7, w7⟩ := leafI Try.underlying5 t7
  obtain ⟨n8, y8, t8⟩ := trodE Try.underlying64 tA2 1 (by decide) (o := 1) (c := 1) (by kernel_rfl) rfl
  rw [sub_of (s := 8) rfl (by decide)] at t8
  obtain ⟨x8, g8, w8⟩ := leafI Try.underlying5 t8
  obtain ⟨n9, y9, t9⟩ := trodE Try.underlying64 tA2 2 (by decide) (o := 2) (c := 1) (by kernel_rfl) rfl
  rw [sub_of (s := 9) rfl (by decide)] at t9
  obtain ⟨x9, g9, w9⟩ := leafI Try.underlying5 t9
  obtain ⟨n10, y10, t10⟩ := trodE Try.underlying64 tA2 3 (by decide) (o := 3) (c := 1) (by kernel_rfl) rfl
  rw [sub_of (s := 10) rfl (by decide)] at t10
  obtain ⟨x10, g10, w10⟩ := leafI Try.underlying5 t10
  obtain ⟨n11, y11, t11⟩ := trodE Try.underlying64 tA2 4 (by decide) (o := 4) (c := 1) (by kernel_rfl) rfl
  rw [sub_of (s := 11) rfl (by decide)] at t11
  obtain ⟨x11, g11, w11⟩ := leafI Try.underlying5 t11
  obtain ⟨n12, y12, t12⟩ := trodE Try.underlying64 tA2 5 (by decide) (o := 5) (c := 1) (by kernel_rfl) rfl
  rw [sub_of (s := 12) rfl (by decide)] at t12
  obtain ⟨x12, g12, w12⟩ := leafI Try.underlying5 t12
  obtain ⟨n13, y13, t13⟩ := trodS Try.underlying69 hf 3 _ rfl (o := 13) (c := 1) (ty := 5) rfl rfl (by kernel_rfl)
  obtain ⟨x13, g13, w13⟩ := leafI Try.underlying5 t13
  obtain ⟨n14, y14, t14⟩ := trodE Try.underlying66 tA4 0 (by decide) (o := 0) (c := 1) (by kernel_rfl) rfl
  rw [sub_of (s := 14) rfl (by decide)] at t14
  obtain ⟨x14, g14, w14⟩ := leafI Try.underlying65 t14
  obtain ⟨n15, y15, t15⟩ := trodE Try.underlying66 tA4 1 (by decide) (o := 1) (c := 1) (by kernel_rfl) rfl
  rw [sub_of (s := 15) rfl (by decide)] at t15
  obtain ⟨x15, g15, w15⟩ := leafI Try.underlying65 t15
  obtain ⟨n16, y16, t16⟩ := trodE Try.underlying66 tA4 2 (by decide) (o := 2) (c := 1) (by kernel_rfl) rfl
  rw [sub_of (s := 16) rfl (by decide)] at t16
  obtain ⟨x16, g16, w16⟩ := leafI Try.underlying65 t16
  obtain ⟨n17, y17, t17⟩ := trodE Try.underlying66 tA4 3 (by decide) (o := 3) (c := 1) (by kernel_rfl) rfl
  rw [sub_of (s := 17) rfl (by decide)] at t17
  obtain ⟨x17, g17, w17⟩ := leafI Try.underlying65 t17
  obtain ⟨n18, y18, t18⟩ := trodE Try.underlying67 tA5 0 (by decide) (o := 0) (c := 1) (by kernel_rfl) rfl
  rw [sub_of (s := 18) rfl (by decide)] at t18
  obtain ⟨x18, g18, w18⟩ := leafI Try.underlying5 t18
  obtain ⟨n19, y19, t19⟩ := trodE Try.underlying67 tA5 1 (by decide) (o := 1) (c := 1) (by kernel_rfl) rfl
  rw [sub_of (s := 19) rfl (by decide)] at t19
  obtain ⟨x19, g19, w19⟩ := leafI Try.underlying5 t19
  obtain ⟨n20, y20, t20⟩ := trodE Try.underlying67 tA5 2 (by decide) (o := 2) (c := 1) (by kernel_rfl) rfl
  rw [sub_of (s := 20) rfl (by decide)] at t20
  obtain ⟨x20, g20, w20⟩ := leafI Try.underlying5 t20
  obtain ⟨n21, y21, t21⟩ := trodE Try.underlying67 tA5 3 (by decide) (o := 3) (c := 1) (by kernel_rfl) rfl
  rw [sub_of (s := 21) rfl (by decide)] at t21
  obtain ⟨x21, g21, w21⟩ := leafI Try.underlying5 t21
  obtain ⟨n22, y22, t22⟩ := trodE Try.underlying67 tA5 4 (by decide) (o := 4) (c := 1) (by kernel_rfl) rfl
  rw [sub_of (s := 22) rfl (by decide)] at t22
  obtain ⟨x22, g22, w22⟩ := leafI Try.underlying5 t22
  obtain ⟨n23, y23, t23⟩ := trodE Try.underlying67 tA5 5 (by decide) (o := 5) (c := 1) (by kernel_rfl) rfl
  rw [sub_of (s := 23) rfl (by decide)] at t23
  obtain ⟨x23, g23, w23⟩ := leafI Try.underlying5 t23
  obtain ⟨n24, y24, t24⟩ := trodE Try.underlying67 tA5 6 (by decide) (o := 6) (c := 1) (by kernel_rfl) rfl
  rw [sub_of (s := 24) rfl (by decide)] at t24
  obtain ⟨x24, g24, w24⟩ := leafI Try.underlying5 t24
  obtain ⟨n25, y25, t25⟩ := trodE Try.underlying67 tA5 7 (by decide) (o := 7) (c := 1) (by kernel_rfl) rfl
  rw [sub_of (s := 25) rfl (by decide)] at t25
  obtain ⟨x25, g25, w25⟩ := leafI Try.underlying5 t25
  refine ⟨x0, x1, x2, x3, x4, x5, x6, x7, x8, x9, x10, x11, x12, x13, x14, x15, x16, x17, x18, x19, x20, x21, x22, x23, x24, x25, ?_, w0, w1, w2, w3, w4, w5, w6, w7, w8, w9, w10, w11, w12, w13, w14, w15, w16, w17, w18, w19, w20, w21, w22, w23, w24, w25⟩
  clear hval hsz hf t0 t1 t2 t3 t4 t5 t6 t7 t8 t9 t10 t11 t12 t13 t14 t15 t16 t17 t18 t19 t20 t21 t22 t23 t24 t25
  match l, hl with
  | [k0, k1, k2, k3, k4, k5, k6, k7, k8, k9, k10, k11, k12, k13, k14, k15, k16, k17, k18, k19, k20, k21, k22, k23, k24, k25], _ =>
    simp [Value.cells] at g0 g1 g2 g3 g4 g5 g6 g7 g8 g9 g10 g11 g12 g13 g14 g15 g16 g17 g18 g19 g20 g21 g22 g23 g24 g25
    subst g0 g1 g2 g3 g4 g5 g6 g7 g8 g9 g10 g11 g12 g13 g14 g15 g16 g17 g18 g19 g20 g21 g22 g23 g24 g25
    rfl

set_option maxRecDepth 100000 in
theorem bld_open1 {H : Type} {enc : TypeId × Value → H} {w : World} {base : Nat} {spare : Nat → Bool} {held : Bool} {r : Reach} {b0 : Nat} {vv : Value} {d : DataW H} {p : List MemPlace} (hval : Value.okWide Try.prog w r b0 70 vv) (h : DataW.Trod enc Try.prog w base spare held 70 vv d p) :
    ∃ (x0 : Int) (x1 : Int), vv = .agg #[.int .u8 x0, .int .u8 x1] ∧ (Lit.int .u8 x0).wf = true ∧ (Lit.int .u8 x1).wf = true := by
  obtain ⟨cs, rfl, hsz⟩ := okWide_arr Try.underlying70 hval
  obtain ⟨l⟩ := cs
  obtain ⟨fuel, hf⟩ := h
  have hl : l.length = 2 := hsz.trans (by kernel_rfl)
  obtain ⟨n0, y0, t0⟩ := trodE Try.underlying70 hf 0 (by decide) (o := 0) (c := 1) (by kernel_rfl) rfl
  obtain ⟨x0, g0, w0⟩ := leafI Try.underlying5 t0
  obtain ⟨n1, y1, t1⟩ := trodE Try.underlying70 hf 1 (by decide) (o := 1) (c := 1) (by kernel_rfl) rfl
  obtain ⟨x1, g1, w1⟩ := leafI Try.underlying5 t1
  refine ⟨x0, x1, ?_, w0, w1⟩
  clear hval hsz hf t0 t1
  match l, hl with
  | [k0, k1], _ =>
    simp [Value.cells] at g0 g1
    subst g0 g1
    rfl

noncomputable def bld_a0 : List Cx.CV := [(.agg [(.int .i64 (.bin .add .i64 (.c 1) (.bin .mul .i64 (.c 10) (.bin .conv .i64 (.v 0) (.c 0))))), (.int .i64 (.bin .mul .i64 (.c 20) (.bin .conv .i64 (.v 1) (.c 0)))), (.int .i64 (.bin .mul .i64 (.c 30) (.bin .conv .i64 (.v 2) (.c 0)))), (.int .i64 (.bin .conv .i64 (.v 3) (.c 0))), (.int .i64 (.bin .add .i64 (.bin .conv .i64 (.v 3) (.c 0)) (.bin .rem .i64 (.bin .conv .i64 (.v 4) (.c 0)) (.c 60)))), (.int .i64 (.bin .conv .i64 (.v 5) (.c 0))), (.int .i64 (.bin .add .i64 (.bin .conv .i64 (.v 5) (.c 0)) (.bin .rem .i64 (.bin .conv .i64 (.v 6) (.c 0)) (.c 60)))), (.int .i64 (.bin .add .i64 (.c 1) (.bin .mul .i64 (.c 100) (.bin .conv .i64 (.v 7) (.c 0))))), (.int .i64 (.bin .add .i64 (.bin .add .i64 (.c 1) (.bin .mul .i64 (.c 100) (.bin .conv .i64 (.v 7) (.c 0)))) (.bin .mul .i64 (.c 10) (.bin .conv .i64 (.v 8) (.c 0))))), (.int .i64 (.bin .add .i64 (.c 1) (.bin .conv .i64 (.v 9) (.c 0)))), (.int .i64 (.bin .add .i64 (.bin .add .i64 (.c 1) (.bin .conv .i64 (.v 9) (.c 0))) (.bin .rem .i64 (.bin .conv .i64 (.v 10) (.c 0)) (.c 20)))), (.int .i64 (.bin .add .i64 (.c 1) (.bin .mul .i64 (.c 100) (.bin .conv .i64 (.v 11) (.c 0))))), (.int .i64 (.bin .add .i64 (.bin .add .i64 (.c 1) (.bin .mul .i64 (.c 100) (.bin .conv .i64 (.v 11) (.c 0)))) (.bin .mul .i64 (.c 10) (.bin .conv .i64 (.v 12) (.c 0)))))]), (.agg [(.int .i64 (.bin .mul .i64 (.c 500) (.bin .conv .i64 (.v 14) (.c 0)))), (.int .i64 (.bin .add .i64 (.bin .mul .i64 (.c 500) (.bin .conv .i64 (.v 14) (.c 0))) (.bin .conv .i64 (.v 15) (.c 0))))]), (.agg [(.int .i64 (.bin .mx .i64 (.c 0) (.bin .sub .i64 (.bin .quo .i64 (.bin .mul .i64 (.c 1000) (.bin .add .i64 (.bin .mul .i64 (.c 500) (.bin .conv .i64 (.v 14) (.c 0))) (.bin .quo .i64 (.bin .mul .i64 (.bin .conv .i64 (.v 20) (.c 0)) (.bin .sub .i64 (.bin .add .i64 (.bin .mul .i64 (.c 500) (.bin .conv .i64 (.v 14) (.c 0))) (.bin .conv .i64 (.v 15) (.c 0))) (.bin .mul .i64 (.c 500) (.bin .conv .i64 (.v 14) (.c 0))))) (.c 255)))) (.bin .add .i64 (.bin .add .i64 (.bin .mul .i64 (.c 1000) (.bin .add .i64 (.c 1) (.bin .mul .i64 (.c 10) (.bin .conv .i64 (.v 0) (.c 0))))) (.bin .mul .i64 (.bin .mul .i64 (.c 20) (.bin .conv .i64 (.v 1) (.c 0))) (.bin .add .i64 (.bin .conv .i64 (.v 3) (.c 0)) (.bin .quo .i64 (.bin .mul .i64 (.bin .conv .i64 (.v 18) (.c 0)) (.bin .sub .i64 (.bin .add .i64 (.bin .conv .i64 (.v 3) (.c 0)) (.bin .rem .i64 (.bin .conv .i64 (.v 4) (.c 0)) (.c 60))) (.bin .conv .i64 (.v 3) (.c 0)))) (.c 255))))) (.bin .mul .i64 (.bin .mul .i64 (.c 30) (.bin .conv .i64 (.v 2) (.c 0))) (.bin .add .i64 (.bin .conv .i64 (.v 5) (.c 0)) (.bin .quo .i64 (.bin .mul .i64 (.bin .conv .i64 (.v 19) (.c 0)) (.bin .sub .i64 (.bin .add .i64 (.bin .conv .i64 (.v 5) (.c 0)) (.bin .rem .i64 (.bin .conv .i64 (.v 6) (.c 0)) (.c 60))) (.bin .conv .i64 (.v 5) (.c 0)))) (.c 255)))))) (.bin .conv .i64 (.v 26) (.c 0))))), (.int .i64 (.bin .add .i64 (.bin .quo .i64 (.bin .mul .i64 (.c 1000) (.bin .add .i64 (.bin .mul .i64 (.c 500) (.bin .conv .i64 (.v 14) (.c 0))) (.bin .quo .i64 (.bin .mul .i64 (.bin .conv .i64 (.v 20) (.c 0)) (.bin .sub .i64 (.bin .add .i64 (.bin .mul .i64 (.c 500) (.bin .conv .i64 (.v 14) (.c 0))) (.bin .conv .i64 (.v 15) (.c 0))) (.bin .mul .i64 (.c 500) (.bin .conv .i64 (.v 14) (.c 0))))) (.c 255)))) (.bin .add .i64 (.bin .add .i64 (.bin .mul .i64 (.c 1000) (.bin .add .i64 (.c 1) (.bin .mul .i64 (.c 10) (.bin .conv .i64 (.v 0) (.c 0))))) (.bin .mul .i64 (.bin .mul .i64 (.c 20) (.bin .conv .i64 (.v 1) (.c 0))) (.bin .add .i64 (.bin .conv .i64 (.v 3) (.c 0)) (.bin .quo .i64 (.bin .mul .i64 (.bin .conv .i64 (.v 18) (.c 0)) (.bin .sub .i64 (.bin .add .i64 (.bin .conv .i64 (.v 3) (.c 0)) (.bin .rem .i64 (.bin .conv .i64 (.v 4) (.c 0)) (.c 60))) (.bin .conv .i64 (.v 3) (.c 0)))) (.c 255))))) (.bin .mul .i64 (.bin .mul .i64 (.c 30) (.bin .conv .i64 (.v 2) (.c 0))) (.bin .add .i64 (.bin .conv .i64 (.v 5) (.c 0)) (.bin .quo .i64 (.bin .mul .i64 (.bin .conv .i64 (.v 19) (.c 0)) (.bin .sub .i64 (.bin .add .i64 (.bin .conv .i64 (.v 5) (.c 0)) (.bin .rem .i64 (.bin .conv .i64 (.v 6) (.c 0)) (.c 60))) (.bin .conv .i64 (.v 5) (.c 0)))) (.c 255)))))) (.bin .conv .i64 (.v 27) (.c 0))))])]
noncomputable def bld_r0 : Cx.CV := .tup [.agg [.int .i64 (.v 28), .int .i64 (.v 29)], .agg [.int .i64 (.v 30), .int .i64 (.v 31)], .int .i64 (.v 32)]
noncomputable def bld_a1 : List Cx.CV := [(.agg [(.int .i64 (.bin .add .i64 (.c 1) (.bin .mul .i64 (.c 10) (.bin .conv .i64 (.v 0) (.c 0))))), (.int .i64 (.bin .mul .i64 (.c 20) (.bin .conv .i64 (.v 1) (.c 0)))), (.int .i64 (.bin .mul .i64 (.c 30) (.bin .conv .i64 (.v 2) (.c 0)))), (.int .i64 (.bin .conv .i64 (.v 3) (.c 0))), (.int .i64 (.bin .add .i64 (.bin .conv .i64 (.v 3) (.c 0)) (.bin .rem .i64 (.bin .conv .i64 (.v 4) (.c 0)) (.c 60)))), (.int .i64 (.bin .conv .i64 (.v 5) (.c 0))), (.int .i64 (.bin .add .i64 (.bin .conv .i64 (.v 5) (.c 0)) (.bin .rem .i64 (.bin .conv .i64 (.v 6) (.c 0)) (.c 60)))), (.int .i64 (.bin .add .i64 (.c 1) (.bin .mul .i64 (.c 100) (.bin .conv .i64 (.v 7) (.c 0))))), (.int .i64 (.bin .add .i64 (.bin .add .i64 (.c 1) (.bin .mul .i64 (.c 100) (.bin .conv .i64 (.v 7) (.c 0)))) (.bin .mul .i64 (.c 10) (.bin .conv .i64 (.v 8) (.c 0))))), (.int .i64 (.bin .add .i64 (.c 1) (.bin .conv .i64 (.v 9) (.c 0)))), (.int .i64 (.bin .add .i64 (.bin .add .i64 (.c 1) (.bin .conv .i64 (.v 9) (.c 0))) (.bin .rem .i64 (.bin .conv .i64 (.v 10) (.c 0)) (.c 20)))), (.int .i64 (.bin .add .i64 (.c 1) (.bin .mul .i64 (.c 100) (.bin .conv .i64 (.v 11) (.c 0))))), (.int .i64 (.bin .add .i64 (.bin .add .i64 (.c 1) (.bin .mul .i64 (.c 100) (.bin .conv .i64 (.v 11) (.c 0)))) (.bin .mul .i64 (.c 10) (.bin .conv .i64 (.v 12) (.c 0)))))]), (.agg [(.int .i64 (.c 0)), (.int .i64 (.c 0))]), (.agg [(.int .i64 (.bin .mx .i64 (.c 0) (.bin .sub .i64 (.bin .quo .i64 (.bin .mul .i64 (.c 1000) (.bin .add .i64 (.c 0) (.bin .quo .i64 (.bin .mul .i64 (.bin .conv .i64 (.v 20) (.c 0)) (.c 0)) (.c 255)))) (.bin .add .i64 (.bin .add .i64 (.bin .mul .i64 (.c 1000) (.bin .add .i64 (.c 1) (.bin .mul .i64 (.c 10) (.bin .conv .i64 (.v 0) (.c 0))))) (.bin .mul .i64 (.bin .mul .i64 (.c 20) (.bin .conv .i64 (.v 1) (.c 0))) (.bin .add .i64 (.bin .conv .i64 (.v 3) (.c 0)) (.bin .quo .i64 (.bin .mul .i64 (.bin .conv .i64 (.v 18) (.c 0)) (.bin .sub .i64 (.bin .add .i64 (.bin .conv .i64 (.v 3) (.c 0)) (.bin .rem .i64 (.bin .conv .i64 (.v 4) (.c 0)) (.c 60))) (.bin .conv .i64 (.v 3) (.c 0)))) (.c 255))))) (.bin .mul .i64 (.bin .mul .i64 (.c 30) (.bin .conv .i64 (.v 2) (.c 0))) (.bin .add .i64 (.bin .conv .i64 (.v 5) (.c 0)) (.bin .quo .i64 (.bin .mul .i64 (.bin .conv .i64 (.v 19) (.c 0)) (.bin .sub .i64 (.bin .add .i64 (.bin .conv .i64 (.v 5) (.c 0)) (.bin .rem .i64 (.bin .conv .i64 (.v 6) (.c 0)) (.c 60))) (.bin .conv .i64 (.v 5) (.c 0)))) (.c 255)))))) (.bin .conv .i64 (.v 26) (.c 0))))), (.int .i64 (.bin .add .i64 (.bin .quo .i64 (.bin .mul .i64 (.c 1000) (.bin .add .i64 (.c 0) (.bin .quo .i64 (.bin .mul .i64 (.bin .conv .i64 (.v 20) (.c 0)) (.c 0)) (.c 255)))) (.bin .add .i64 (.bin .add .i64 (.bin .mul .i64 (.c 1000) (.bin .add .i64 (.c 1) (.bin .mul .i64 (.c 10) (.bin .conv .i64 (.v 0) (.c 0))))) (.bin .mul .i64 (.bin .mul .i64 (.c 20) (.bin .conv .i64 (.v 1) (.c 0))) (.bin .add .i64 (.bin .conv .i64 (.v 3) (.c 0)) (.bin .quo .i64 (.bin .mul .i64 (.bin .conv .i64 (.v 18) (.c 0)) (.bin .sub .i64 (.bin .add .i64 (.bin .conv .i64 (.v 3) (.c 0)) (.bin .rem .i64 (.bin .conv .i64 (.v 4) (.c 0)) (.c 60))) (.bin .conv .i64 (.v 3) (.c 0)))) (.c 255))))) (.bin .mul .i64 (.bin .mul .i64 (.c 30) (.bin .conv .i64 (.v 2) (.c 0))) (.bin .add .i64 (.bin .conv .i64 (.v 5) (.c 0)) (.bin .quo .i64 (.bin .mul .i64 (.bin .conv .i64 (.v 19) (.c 0)) (.bin .sub .i64 (.bin .add .i64 (.bin .conv .i64 (.v 5) (.c 0)) (.bin .rem .i64 (.bin .conv .i64 (.v 6) (.c 0)) (.c 60))) (.bin .conv .i64 (.v 5) (.c 0)))) (.c 255)))))) (.bin .conv .i64 (.v 27) (.c 0))))])]
noncomputable def bld_r1 : Cx.CV := .tup [.agg [.int .i64 (.v 33), .int .i64 (.v 34)], .agg [.int .i64 (.v 35), .int .i64 (.v 36)], .int .i64 (.v 37)]
noncomputable def bld_C : Cx.Ctx := Cx.ctxOf Try.prog (Cx.memoX 41 bld_a0 bld_r0 (Cx.memoX 41 bld_a1 bld_r1 (Cx.memoU 102 (Cx.memoB [21]))))

set_option maxRecDepth 100000 in
theorem bld_ok : DT.ok (Cx.runOf bld_C 1000 9 [.agg [.int .u8 (.v 0), .int .u8 (.v 1), .int .u8 (.v 2), .int .u8 (.v 3), .int .u8 (.v 4), .int .u8 (.v 5), .int .u8 (.v 6), .int .u8 (.v 7), .int .u8 (.v 8), .int .u8 (.v 9), .int .u8 (.v 10), .int .u8 (.v 11), .int .u8 (.v 12), .int .u8 (.v 13), .int .u16 (.v 14), .int .u16 (.v 15), .int .u16 (.v 16), .int .u16 (.v 17), .int .u8 (.v 18), .int .u8 (.v 19), .int .u8 (.v 20), .int .u8 (.v 21), .int .u8 (.v 22), .int .u8 (.v 23), .int .u8 (.v 24), .int .u8 (.v 25)], .agg [.int .u8 (.v 26), .int .u8 (.v 27)]]) Cx.bdTree [] [] = true := by kernel_rfl

def bld_e (x0 x1 x2 x3 x4 x5 x6 x7 x8 x9 x10 x11 x12 x13 x14 x15 x16 x17 x18 x19 x20 x21 x22 x23 x24 x25 x26 x27 : Int) : Env := ⟨fun i => ([x0, x1, x2, x3, x4, x5, x6, x7, x8, x9, x10, x11, x12, x13, x14, x15, x16, x17, x18, x19, x20, x21, x22, x23, x24, x25, x26, x27] : List Int).getD i 0, fun i => ([] : List Bool).getD i false⟩
theorem zero_bd {x : Int} (h : x = 0) : 0 ≤ x ∧ x ≤ 0 := by omega
theorem bld_walk (x0 : Int) (x1 : Int) (x2 : Int) (x3 : Int) (x4 : Int) (x5 : Int) (x6 : Int) (x7 : Int) (x8 : Int) (x9 : Int) (x10 : Int) (x11 : Int) (x12 : Int) (x13 : Int) (x14 : Int) (x15 : Int) (x16 : Int) (x17 : Int) (x18 : Int) (x19 : Int) (x20 : Int) (x21 : Int) (x22 : Int) (x23 : Int) (x24 : Int) (x25 : Int) (x26 : Int) (x27 : Int) (w : World) (wx0 : (Lit.int .u8 x0).wf = true) (wx1 : (Lit.int .u8 x1).wf = true) (wx2 : (Lit.int .u8 x2).wf = true) (wx3 : (Lit.int .u8 x3).wf = true) (wx4 : (Lit.int .u8 x4).wf = true) (wx5 : (Lit.int .u8 x5).wf = true) (wx6 : (Lit.int .u8 x6).wf = true) (wx7 : (Lit.int .u8 x7).wf = true) (wx8 : (Lit.int .u8 x8).wf = true) (wx9 : (Lit.int .u8 x9).wf = true) (wx10 : (Lit.int .u8 x10).wf = true) (wx11 : (Lit.int .u8 x11).wf = true) (wx12 : (Lit.int .u8 x12).wf = true) (wx13 : (Lit.int .u8 x13).wf = true) (wx14 : (Lit.int .u16 x14).wf = true) (wx15 : (Lit.int .u16 x15).wf = true) (wx16 : (Lit.int .u16 x16).wf = true) (wx17 : (Lit.int .u16 x17).wf = true) (wx18 : (Lit.int .u8 x18).wf = true) (wx19 : (Lit.int .u8 x19).wf = true) (wx20 : (Lit.int .u8 x20).wf = true) (wx21 : (Lit.int .u8 x21).wf = true) (wx22 : (Lit.int .u8 x22).wf = true) (wx23 : (Lit.int .u8 x23).wf = true) (wx24 : (Lit.int .u8 x24).wf = true) (wx25 : (Lit.int .u8 x25).wf = true) (wx26 : (Lit.int .u8 x26).wf = true) (wx27 : (Lit.int .u8 x27).wf = true) :
    Calls Try.prog 9 #[.agg #[.int .u8 x0, .int .u8 x1, .int .u8 x2, .int .u8 x3, .int .u8 x4, .int .u8 x5, .int .u8 x6, .int .u8 x7, .int .u8 x8, .int .u8 x9, .int .u8 x10, .int .u8 x11, .int .u8 x12, .int .u8 x13, .int .u16 x14, .int .u16 x15, .int .u16 x16, .int .u16 x17, .int .u8 x18, .int .u8 x19, .int .u8 x20, .int .u8 x21, .int .u8 x22, .int .u8 x23, .int .u8 x24, .int .u8 x25], .agg #[.int .u8 x26, .int .u8 x27]] w fun e w' => e = .returned (.bool true) ∧ Below w.heap.size w w' := by
  have hM : ∀ f ∈ [21], KnownB Try.prog f := fun f hf => by
    simp only [List.mem_cons, List.not_mem_nil, or_false] at hf
    subst hf
    · exact Cx.CxKn09_known
  obtain ⟨n0, v0, hv0, p0⟩ := Cx.K0.bd_con0 (ρ := bld_e x0 x1 x2 x3 x4 x5 x6 x7 x8 x9 x10 x11 x12 x13 x14 x15 x16 x17 x18 x19 x20 x21 x22 x23 x24 x25 x26 x27) ⟨rfl⟩ (rng_u8 wx0) ⟨rfl⟩ (rng_u8 wx1) ⟨rfl⟩ (rng_u8 wx2) ⟨rfl⟩ (rng_u8 wx3) ⟨rfl⟩ (rng_u8 wx4) ⟨rfl⟩ (rng_u8 wx5) ⟨rfl⟩ (rng_u8 wx6) ⟨rfl⟩ (rng_u8 wx7) ⟨rfl⟩ (rng_u8 wx8) ⟨rfl⟩ (rng_u8 wx9) ⟨rfl⟩ (rng_u8 wx10) ⟨rfl⟩ (rng_u8 wx11) ⟨rfl⟩ (rng_u8 wx12) ⟨rfl⟩ (rng_u8 wx13) ⟨rfl⟩ (rng_u16 wx14) ⟨rfl⟩ (rng_u16 wx15) ⟨rfl⟩ (rng_u16 wx16) ⟨rfl⟩ (rng_u16 wx17) ⟨rfl⟩ (rng_u8 wx18) ⟨rfl⟩ (rng_u8 wx19) ⟨rfl⟩ (rng_u8 wx20) ⟨rfl⟩ (rng_u8 wx21) ⟨rfl⟩ (rng_u8 wx22) ⟨rfl⟩ (rng_u8 wx23) ⟨rfl⟩ (rng_u8 wx24) ⟨rfl⟩ (rng_u8 wx25) ⟨rfl⟩ (rng_u8 wx26) ⟨rfl⟩ (rng_u8 wx27)
  obtain ⟨n1, v1, hv1, p1⟩ := Cx.K1.bd_con1 (ρ := bld_e x0 x1 x2 x3 x4 x5 x6 x7 x8 x9 x10 x11 x12 x13 x14 x15 x16 x17 x18 x19 x20 x21 x22 x23 x24 x25 x26 x27) ⟨rfl⟩ (rng_u8 wx0) ⟨rfl⟩ (rng_u8 wx1) ⟨rfl⟩ (rng_u8 wx2) ⟨rfl⟩ (rng_u8 wx3) ⟨rfl⟩ (rng_u8 wx4) ⟨rfl⟩ (rng_u8 wx5) ⟨rfl⟩ (rng_u8 wx6) ⟨rfl⟩ (rng_u8 wx7) ⟨rfl⟩ (rng_u8 wx8) ⟨rfl⟩ (rng_u8 wx9) ⟨rfl⟩ (rng_u8 wx10) ⟨rfl⟩ (rng_u8 wx11) ⟨rfl⟩ (rng_u8 wx12) ⟨rfl⟩ (rng_u8 wx13) ⟨rfl⟩ (rng_u16 wx14) ⟨rfl⟩ (rng_u16 wx15) ⟨rfl⟩ (rng_u16 wx16) ⟨rfl⟩ (rng_u16 wx17) ⟨rfl⟩ (rng_u8 wx18) ⟨rfl⟩ (rng_u8 wx19) ⟨rfl⟩ (rng_u8 wx20) ⟨rfl⟩ (rng_u8 wx21) ⟨rfl⟩ (rng_u8 wx22) ⟨rfl⟩ (rng_u8 wx23) ⟨rfl⟩ (rng_u8 wx24) ⟨rfl⟩ (rng_u8 wx25) ⟨rfl⟩ (rng_u8 wx26) ⟨rfl⟩ (rng_u8 wx27)
  let ρ1 : Env := ⟨fun i => ([x0, x1, x2, x3, x4, x5, x6, x7, x8, x9, x10, x11, x12, x13, x14, x15, x16, x17, x18, x19, x20, x21, x22, x23, x24, x25, x26, x27, v0.1, v0.2.1, v0.2.2.1, v0.2.2.2.1, v0.2.2.2.2, v1.1, v1.2.1, v1.2.2.1, v1.2.2.2.1, v1.2.2.2.2] : List Int).getD i 0, fun i => ([] : List Bool).getD i false⟩
  have K0 : Cx.Ctr Try.prog ρ1 41 (Cx.CV.xsl ρ1 bld_a0) .nil 0 [] (bld_r0.xs ρ1) .nil 0 := ((Cx.ablknown (ρ := ρ1) Cx.memo0_ok).ctr ⟨[(Cx.IE.den (bld_e x0 x1 x2 x3 x4 x5 x6 x7 x8 x9 x10 x11 x12 x13 x14 x15 x16 x17 x18 x19 x20 x21 x22 x23 x24 x25 x26 x27) Cx.bd3), (Cx.IE.den (bld_e x0 x1 x2 x3 x4 x5 x6 x7 x8 x9 x10 x11 x12 x13 x14 x15 x16 x17 x18 x19 x20 x21 x22 x23 x24 x25 x26 x27) Cx.bd6), (Cx.IE.den (bld_e x0 x1 x2 x3 x4 x5 x6 x7 x8 x9 x10 x11 x12 x13 x14 x15 x16 x17 x18 x19 x20 x21 x22 x23 x24 x25 x26 x27) Cx.bd19), (Cx.IE.den (bld_e x0 x1 x2 x3 x4 x5 x6 x7 x8 x9 x10 x11 x12 x13 x14 x15 x16 x17 x18 x19 x20 x21 x22 x23 x24 x25 x26 x27) Cx.bd7), (Cx.IE.den (bld_e x0 x1 x2 x3 x4 x5 x6 x7 x8 x9 x10 x11 x12 x13 x14 x15 x16 x17 x18 x19 x20 x21 x22 x23 x24 x25 x26 x27) Cx.bd11), (Cx.IE.den (bld_e x0 x1 x2 x3 x4 x5 x6 x7 x8 x9 x10 x11 x12 x13 x14 x15 x16 x17 x18 x19 x20 x21 x22 x23 x24 x25 x26 x27) Cx.bd20), (Cx.IE.den (bld_e x0 x1 x2 x3 x4 x5 x6 x7 x8 x9 x10 x11 x12 x13 x14 x15 x16 x17 x18 x19 x20 x21 x22 x23 x24 x25 x26 x27) Cx.bd24), (Cx.IE.den (bld_e x0 x1 x2 x3 x4 x5 x6 x7 x8 x9 x10 x11 x12 x13 x14 x15 x16 x17 x18 x19 x20 x21 x22 x23 x24 x25 x26 x27) Cx.bd33), (Cx.IE.den (bld_e x0 x1 x2 x3 x4 x5 x6 x7 x8 x9 x10 x11 x12 x13 x14 x15 x16 x17 x18 x19 x20 x21 x22 x23 x24 x25 x26 x27) Cx.bd36), (Cx.IE.den (bld_e x0 x1 x2 x3 x4 x5 x6 x7 x8 x9 x10 x11 x12 x13 x14 x15 x16 x17 x18 x19 x20 x21 x22 x23 x24 x25 x26 x27) Cx.bd38), (Cx.IE.den (bld_e x0 x1 x2 x3 x4 x5 x6 x7 x8 x9 x10 x11 x12 x13 x14 x15 x16 x17 x18 x19 x20 x21 x22 x23 x24 x25 x26 x27) Cx.bd41), (Cx.IE.den (bld_e x0 x1 x2 x3 x4 x5 x6 x7 x8 x9 x10 x11 x12 x13 x14 x15 x16 x17 x18 x19 x20 x21 x22 x23 x24 x25 x26 x27) Cx.bd44), (Cx.IE.den (bld_e x0 x1 x2 x3 x4 x5 x6 x7 x8 x9 x10 x11 x12 x13 x14 x15 x16 x17 x18 x19 x20 x21 x22 x23 x24 x25 x26 x27) Cx.bd47), (Cx.IE.den (bld_e x0 x1 x2 x3 x4 x5 x6 x7 x8 x9 x10 x11 x12 x13 x14 x15 x16 x17 x18 x19 x20 x21 x22 x23 x24 x25 x26 x27) Cx.bd49), (Cx.IE.den (bld_e x0 x1 x2 x3 x4 x5 x6 x7 x8 x9 x10 x11 x12 x13 x14 x15 x16 x17 x18 x19 x20 x21 x22 x23 x24 x25 x26 x27) Cx.bd51), (Cx.IE.den (bld_e x0 x1 x2 x3 x4 x5 x6 x7 x8 x9 x10 x11 x12 x13 x14 x15 x16 x17 x18 x19 x20 x21 x22 x23 x24 x25 x26 x27) Cx.bd108), (Cx.IE.den (bld_e x0 x1 x2 x3 x4 x5 x6 x7 x8 x9 x10 x11 x12 x13 x14 x15 x16 x17 x18 x19 x20 x21 x22 x23 x24 x25 x26 x27) Cx.bd110)], []⟩ n0 v0 hv0)
  have K1 : Cx.Ctr Try.prog ρ1 41 (Cx.CV.xsl ρ1 bld_a1) .nil 0 [] (bld_r1.xs ρ1) .nil 0 := ((Cx.ablknown (ρ := ρ1) Cx.memo0_ok).ctr ⟨[(Cx.IE.den (bld_e x0 x1 x2 x3 x4 x5 x6 x7 x8 x9 x10 x11 x12 x13 x14 x15 x16 x17 x18 x19 x20 x21 x22 x23 x24 x25 x26 x27) Cx.bd3), (Cx.IE.den (bld_e x0 x1 x2 x3 x4 x5 x6 x7 x8 x9 x10 x11 x12 x13 x14 x15 x16 x17 x18 x19 x20 x21 x22 x23 x24 x25 x26 x27) Cx.bd6), (Cx.IE.den (bld_e x0 x1 x2 x3 x4 x5 x6 x7 x8 x9 x10 x11 x12 x13 x14 x15 x16 x17 x18 x19 x20 x21 x22 x23 x24 x25 x26 x27) Cx.bd19), (Cx.IE.den (bld_e x0 x1 x2 x3 x4 x5 x6 x7 x8 x9 x10 x11 x12 x13 x14 x15 x16 x17 x18 x19 x20 x21 x22 x23 x24 x25 x26 x27) Cx.bd7), (Cx.IE.den (bld_e x0 x1 x2 x3 x4 x5 x6 x7 x8 x9 x10 x11 x12 x13 x14 x15 x16 x17 x18 x19 x20 x21 x22 x23 x24 x25 x26 x27) Cx.bd11), (Cx.IE.den (bld_e x0 x1 x2 x3 x4 x5 x6 x7 x8 x9 x10 x11 x12 x13 x14 x15 x16 x17 x18 x19 x20 x21 x22 x23 x24 x25 x26 x27) Cx.bd20), (Cx.IE.den (bld_e x0 x1 x2 x3 x4 x5 x6 x7 x8 x9 x10 x11 x12 x13 x14 x15 x16 x17 x18 x19 x20 x21 x22 x23 x24 x25 x26 x27) Cx.bd24), (Cx.IE.den (bld_e x0 x1 x2 x3 x4 x5 x6 x7 x8 x9 x10 x11 x12 x13 x14 x15 x16 x17 x18 x19 x20 x21 x22 x23 x24 x25 x26 x27) Cx.bd33), (Cx.IE.den (bld_e x0 x1 x2 x3 x4 x5 x6 x7 x8 x9 x10 x11 x12 x13 x14 x15 x16 x17 x18 x19 x20 x21 x22 x23 x24 x25 x26 x27) Cx.bd36), (Cx.IE.den (bld_e x0 x1 x2 x3 x4 x5 x6 x7 x8 x9 x10 x11 x12 x13 x14 x15 x16 x17 x18 x19 x20 x21 x22 x23 x24 x25 x26 x27) Cx.bd38), (Cx.IE.den (bld_e x0 x1 x2 x3 x4 x5 x6 x7 x8 x9 x10 x11 x12 x13 x14 x15 x16 x17 x18 x19 x20 x21 x22 x23 x24 x25 x26 x27) Cx.bd41), (Cx.IE.den (bld_e x0 x1 x2 x3 x4 x5 x6 x7 x8 x9 x10 x11 x12 x13 x14 x15 x16 x17 x18 x19 x20 x21 x22 x23 x24 x25 x26 x27) Cx.bd44), (Cx.IE.den (bld_e x0 x1 x2 x3 x4 x5 x6 x7 x8 x9 x10 x11 x12 x13 x14 x15 x16 x17 x18 x19 x20 x21 x22 x23 x24 x25 x26 x27) Cx.bd47), (Cx.IE.den (bld_e x0 x1 x2 x3 x4 x5 x6 x7 x8 x9 x10 x11 x12 x13 x14 x15 x16 x17 x18 x19 x20 x21 x22 x23 x24 x25 x26 x27) (.c 0)), (Cx.IE.den (bld_e x0 x1 x2 x3 x4 x5 x6 x7 x8 x9 x10 x11 x12 x13 x14 x15 x16 x17 x18 x19 x20 x21 x22 x23 x24 x25 x26 x27) (.c 0)), (Cx.IE.den (bld_e x0 x1 x2 x3 x4 x5 x6 x7 x8 x9 x10 x11 x12 x13 x14 x15 x16 x17 x18 x19 x20 x21 x22 x23 x24 x25 x26 x27) Cx.bd112), (Cx.IE.den (bld_e x0 x1 x2 x3 x4 x5 x6 x7 x8 x9 x10 x11 x12 x13 x14 x15 x16 x17 x18 x19 x20 x21 x22 x23 x24 x25 x26 x27) Cx.bd113)], []⟩ n1 v1 hv1)
  exact Cx.law_of (ρ := ρ1) (Cx.ctxOf_ok Cx.try_ok _) (Cx.memoX_ok K0 (by kernel_rfl) rfl (Cx.memoX_ok K1 (by kernel_rfl) rfl (Cx.memoU_ok Cx.up_known (Cx.memoB_ok hM)))) bld_ok (DT.good_of _ _ (Cx.bd_goal ⟨rfl⟩ (rng_u8 wx0) ⟨rfl⟩ (rng_u8 wx1) ⟨rfl⟩ (rng_u8 wx2) ⟨rfl⟩ (rng_u8 wx3) ⟨rfl⟩ (rng_u8 wx4) ⟨rfl⟩ (rng_u8 wx5) ⟨rfl⟩ (rng_u8 wx6) ⟨rfl⟩ (rng_u8 wx7) ⟨rfl⟩ (rng_u8 wx8) ⟨rfl⟩ (rng_u8 wx9) ⟨rfl⟩ (rng_u8 wx10) ⟨rfl⟩ (rng_u8 wx11) ⟨rfl⟩ (rng_u8 wx12) ⟨rfl⟩ (rng_u8 wx13) ⟨rfl⟩ (rng_u16 wx14) ⟨rfl⟩ (rng_u16 wx15) ⟨rfl⟩ (rng_u16 wx16) ⟨rfl⟩ (rng_u16 wx17) ⟨rfl⟩ (rng_u8 wx18) ⟨rfl⟩ (rng_u8 wx19) ⟨rfl⟩ (rng_u8 wx20) ⟨rfl⟩ (rng_u8 wx21) ⟨rfl⟩ (rng_u8 wx22) ⟨rfl⟩ (rng_u8 wx23) ⟨rfl⟩ (rng_u8 wx24) ⟨rfl⟩ (rng_u8 wx25) ⟨rfl⟩ (rng_u8 wx26) ⟨rfl⟩ (rng_u8 wx27) ⟨rfl⟩ p0.2.2.2.2.2.1 ⟨rfl⟩ p0.2.2.2.2.2.2.1 ⟨rfl⟩ p0.2.2.2.2.2.2.2.1 ⟨rfl⟩ p0.2.2.2.2.2.2.2.2 ⟨rfl⟩ (zero_bd p0.1) ⟨rfl⟩ p1.2.2.2.2.2.1 ⟨rfl⟩ p1.2.2.2.2.2.2.1 ⟨rfl⟩ p1.2.2.2.2.2.2.2.1 ⟨rfl⟩ p1.2.2.2.2.2.2.2.2 ⟨rfl⟩ (zero_bd p1.1) p0 p1)) (.cons (.agg (.cons (.int .u8 (.v 0)) (.cons (.int .u8 (.v 1)) (.cons (.int .u8 (.v 2)) (.cons (.int .u8 (.v 3)) (.cons (.int .u8 (.v 4)) (.cons (.int .u8 (.v 5)) (.cons (.int .u8 (.v 6)) (.cons (.int .u8 (.v 7)) (.cons (.int .u8 (.v 8)) (.cons (.int .u8 (.v 9)) (.cons (.int .u8 (.v 10)) (.cons (.int .u8 (.v 11)) (.cons (.int .u8 (.v 12)) (.cons (.int .u8 (.v 13)) (.cons (.int .u16 (.v 14)) (.cons (.int .u16 (.v 15)) (.cons (.int .u16 (.v 16)) (.cons (.int .u16 (.v 17)) (.cons (.int .u8 (.v 18)) (.cons (.int .u8 (.v 19)) (.cons (.int .u8 (.v 20)) (.cons (.int .u8 (.v 21)) (.cons (.int .u8 (.v 22)) (.cons (.int .u8 (.v 23)) (.cons (.int .u8 (.v 24)) (.cons (.int .u8 (.v 25)) .nil))))))))))))))))))))))))))) (.cons (.agg (.cons (.int .u8 (.v 26)) (.cons (.int .u8 (.v 27)) .nil))) .nil)) w

theorem bld_own : ownKnob Try.prog.godebug = none := by kernel_rfl
theorem bld_laidOut : laidOutB Try.prog = true := by kernel_rfl

set_option maxRecDepth 100000 in
theorem bld_lifted (os : Os) (started : os.Started) (H : Type) (enc : TypeId × Value → H) :
    ReturnsInHanded {} Try.checked os 9 .any (Rows.boltLearnedSpec.pre6 enc Try.prog Try.f9 Rows.boltLearnedRow.domain false) (Rows.boltLearnedSpec.post enc Try.prog Try.f9 false true false false) := by
  refine returnsInHanded_of_change (C := Try.checked) bld_own started (by kernel_rfl) Try.func9
    (ChangeSpec.witness6 (enc := enc) (C := Try.checked) false ⟨#[], #[.agg #[.int .u8 0, .int .u8 0, .int .u8 0, .int .u8 0, .int .u8 0, .int .u8 0, .int .u8 0, .int .u8 0, .int .u8 0, .int .u8 0, .int .u8 0, .int .u8 0, .int .u8 0, .int .u8 0, .int .u16 0, .int .u16 0, .int .u16 0, .int .u16 0, .int .u8 0, .int .u8 0, .int .u8 0, .int .u8 0, .int .u8 0, .int .u8 0, .int .u8 0, .int .u8 0], .agg #[.int .u8 0, .int .u8 0]], []⟩ 8 (by kernel_rfl) (by kernel_rfl) (by kernel_rfl) (by kernel_rfl)) ?_
  intro W base args ds gs before hval0 hW hcnd _
  have hval : ∀ (j : Nat) t v, Try.f9.params[j]? = some t → args[j]? = some v → Value.okWide Try.prog W .any base t v := hval0
  have hW' := hW
  obtain ⟨p, q, hA0, hV, rfl, hfz, hnd⟩ := hW
  have hA : DataW.TrodAll enc Try.prog W 0 (fun _ => true) true Try.f9.params.toList args.toList ds p := hA0
  rw [Try.params9] at hA hval
  obtain ⟨v0, vs0, d0, ds0, p0, q0, hargs, rfl, rfl, h0, r0⟩ := trodAll_cons hA
  obtain ⟨v1, vs1, d1, ds1, p1, q1, rfl, rfl, rfl, h1, r1⟩ := trodAll_cons r0
  obtain ⟨rfl, rfl, rfl⟩ := trodAll_nil r1
  obtain rfl : args = #[v0, v1] := by cases args; simp_all
  obtain ⟨rfl, rfl⟩ := trodVars_none hV
  have k0 := h0
  have lt0 : ∀ x ∈ p0, x.block < W.heap.size := by obtain ⟨m, hm⟩ := k0; exact DataW.trod_lt m _ _ _ hm
  have k1 := h1
  have lt1 : ∀ x ∈ p1, x.block < W.heap.size := by obtain ⟨m, hm⟩ := k1; exact DataW.trod_lt m _ _ _ hm
  obtain ⟨x0, x1, x2, x3, x4, x5, x6, x7, x8, x9, x10, x11, x12, x13, x14, x15, x16, x17, x18, x19, x20, x21, x22, x23, x24, x25, rfl, wx0, wx1, wx2, wx3, wx4, wx5, wx6, wx7, wx8, wx9, wx10, wx11, wx12, wx13, wx14, wx15, wx16, wx17, wx18, wx19, wx20, wx21, wx22, wx23, wx24, wx25⟩ := bld_open0 (hval 0 69 v0 rfl rfl) h0
  obtain ⟨x26, x27, rfl, wx26, wx27⟩ := bld_open1 (hval 1 70 v1 rfl rfl) h1
  clear hA0 hval0
  refine (bld_walk x0 x1 x2 x3 x4 x5 x6 x7 x8 x9 x10 x11 x12 x13 x14 x15 x16 x17 x18 x19 x20 x21 x22 x23 x24 x25 x26 x27 W wx0 wx1 wx2 wx3 wx4 wx5 wx6 wx7 wx8 wx9 wx10 wx11 wx12 wx13 wx14 wx15 wx16 wx17 wx18 wx19 wx20 wx21 wx22 wx23 wx24 wx25 wx26 wx27).mono fun e W' ⟨he, bel⟩ => ?_
  subst he
  exact ⟨_, rfl, _, _, _, [], _, [], hW', trodAll_mk1 (shut_bool Try.underlying4 _), (trodAll_cons_mk (Below.trod bld_laidOut (by kernel_rfl) (of_decide_eq_true (by kernel_rfl)) k0 bel lt0) (trodAll_cons_mk (Below.trod bld_laidOut (by kernel_rfl) (of_decide_eq_true (by kernel_rfl)) k1 bel lt1) trodAll_mk0)), rfl, bel.frame _, fun h => by cases h⟩

theorem bld_over : Rows.boltLearnedRow.holds Try.pinned (OpenSpec.ofChange Rows.boltLearnedSpec) :=
  OpenClaim.holds_of_wide 9 Try.f9 rfl rfl rfl rfl rfl rfl rfl ⟨rfl, rfl, rfl, rfl, rfl⟩ rfl rfl rfl rfl rfl (by kernel_rfl) Try.func9 (by kernel_rfl)
    (of_decide_eq_true (by kernel_rfl)) (by unfold Func.isWrapper; rw [if_neg (of_decide_eq_false (by kernel_rfl))]; exact ⟨rfl, rfl⟩)
    (fun os started H enc _ => bld_lifted os started H enc)

theorem bld_proved : Rows.BoltLearnedSaid := bld_over
#print axioms bld_proved

end Go.Proofs.Ytknphpihipkdpaa
