/- More arguments opened. Made by tools/gen_open2.py. -/
import Derived.Test.YtloleaahelmdjaaOpen
namespace Go.Proofs.Ytloleaahelmdjaa
open Go.ChangeShapes Go.WideShapes Go.RowKit Go.Deep
set_option maxRecDepth 100000

set_option maxRecDepth 100000 in
theorem open_two16 {H : Type} {enc : TypeId × Value → H} {w : World} {base : Nat} {spare : Nat → Bool} {held : Bool} {r : Reach} {b0 : Nat} {v : Value} {d : DataW H} {p : List MemPlace} (hval : Value.okWide Try.prog w r b0 82 v) (h : DataW.Trod enc Try.prog w base spare held 82 v d p) :
    ∃ (x : Int) (y : Int), v = .agg #[.int .u16 x, .int .u16 y] ∧ (Lit.int .u16 x).wf = true ∧ (Lit.int .u16 y).wf = true := by
  obtain ⟨cs, rfl, hsz⟩ := okWide_arr Try.underlying82 hval
  obtain ⟨l⟩ := cs
  obtain ⟨fuel, hf⟩ := h
  have hl : l.length = 2 := hsz.trans (by kernel_rfl)
  obtain ⟨n0, y0, t0⟩ := trodE Try.underlying82 hf 0 (by decide) (o := 0) (c := 1) (by kernel_rfl) rfl
  obtain ⟨x, g0, w0⟩ := leafI Try.underlying69 t0
  obtain ⟨n1, y1, t1⟩ := trodE Try.underlying82 hf 1 (by decide) (o := 1) (c := 1) (by kernel_rfl) rfl
  obtain ⟨y, g1, w1⟩ := leafI Try.underlying69 t1
  refine ⟨x, y, ?_, w0, w1⟩
  clear hval hsz hf t0 t1
  match l, hl with
  | [c0, c1], _ =>
    simp [Value.cells] at g0 g1
    subst g0 g1
    rfl

set_option maxRecDepth 100000 in
theorem open_four16 {H : Type} {enc : TypeId × Value → H} {w : World} {base : Nat} {spare : Nat → Bool} {held : Bool} {r : Reach} {b0 : Nat} {v : Value} {d : DataW H} {p : List MemPlace} (hval : Value.okWide Try.prog w r b0 83 v) (h : DataW.Trod enc Try.prog w base spare held 83 v d p) :
    ∃ (x : Int) (y : Int) (z : Int) (u : Int), v = .agg #[.int .u16 x, .int .u16 y, .int .u16 z, .int .u16 u] ∧ (Lit.int .u16 x).wf = true ∧ (Lit.int .u16 y).wf = true ∧ (Lit.int .u16 z).wf = true ∧ (Lit.int .u16 u).wf = true := by
  obtain ⟨cs, rfl, hsz⟩ := okWide_arr Try.underlying83 hval
  obtain ⟨l⟩ := cs
  obtain ⟨fuel, hf⟩ := h
  have hl : l.length = 4 := hsz.trans (by kernel_rfl)
  obtain ⟨n0, y0, t0⟩ := trodE Try.underlying83 hf 0 (by decide) (o := 0) (c := 1) (by kernel_rfl) rfl
  obtain ⟨x, g0, w0⟩ := leafI Try.underlying69 t0
  obtain ⟨n1, y1, t1⟩ := trodE Try.underlying83 hf 1 (by decide) (o := 1) (c := 1) (by kernel_rfl) rfl
  obtain ⟨y, g1, w1⟩ := leafI Try.underlying69 t1
  obtain ⟨n2, y2, t2⟩ := trodE Try.underlying83 hf 2 (by decide) (o := 2) (c := 1) (by kernel_rfl) rfl
  obtain ⟨z, g2, w2⟩ := leafI Try.underlying69 t2
  obtain ⟨n3, y3, t3⟩ := trodE Try.underlying83 hf 3 (by decide) (o := 3) (c := 1) (by kernel_rfl) rfl
  obtain ⟨u, g3, w3⟩ := leafI Try.underlying69 t3
  refine ⟨x, y, z, u, ?_, w0, w1, w2, w3⟩
  clear hval hsz hf t0 t1 t2 t3
  match l, hl with
  | [c0, c1, c2, c3], _ =>
    simp [Value.cells] at g0 g1 g2 g3
    subst g0 g1 g2 g3
    rfl

end Go.Proofs.Ytloleaahelmdjaa
