/- Arguments opened: structs, arrays and nested structs of integers and bools, as flat cells. -/
import Derived.Test.YtloleaahelmdjaaRows
import Derived.WalkKit
import Derived.ProofKit
import Derived.OpenShut
import Derived.ChangeOld
import Derived.Below
import Derived.Deep.Fields
namespace Go.Proofs.Ytloleaahelmdjaa
open Go.ChangeShapes Go.WideShapes Go.RowKit Go.Deep

section
variable {H : Type} {enc : TypeId × Value → H} {P : Program} {w : World} {base : Nat} {spare : Nat → Bool} {held : Bool}

/-- A part of a struct. -/
theorem trodS {t : TypeId} {fs : Array Field} {fuel : Nat} {l : List Value} {x : DataW H × List MemPlace} (hs : P.underlying t = some (.struct fs)) (h : DataW.trod enc P w base spare held fuel t l = some x)
    (j : Nat) (f : Field) (hj : fs[j]? = some f) {o c : Nat} {ty : TypeId} (ho : f.offset = o) (hty : f.type = ty) (hc : P.cellsOf ty = c) : ∃ n y, DataW.trod enc P w base spare held n ty ((l.drop o).take c) = some y := by
  subst ho hty hc
  obtain ⟨xs, n, _, hx, hl, hlen, hg⟩ := DataW.trod_struct hs h
  have hjl : j < xs.length := by rw [hlen]; exact (Array.getElem?_eq_some_iff.1 hj).1
  exact ⟨n, xs[j], by rw [hg j f hj]; exact List.getElem?_eq_getElem hjl⟩

/-- An element of an array. -/
theorem trodE {t e : TypeId} {m fuel : Nat} {l : List Value} {x : DataW H × List MemPlace} (hs : P.underlying t = some (.array m e)) (h : DataW.trod enc P w base spare held fuel t l = some x)
    (j : Nat) (hj : j < m) {o c : Nat} (hc : P.cellsOf e = c) (ho : j * c = o) : ∃ n y, DataW.trod enc P w base spare held n e ((l.drop o).take c) = some y := by
  subst ho hc
  obtain ⟨xs, n, _, hx, hl, hlen, hg⟩ := DataW.trod_array hs h
  have hjl : j < xs.length := by omega
  exact ⟨n, xs[j], by rw [hg j hj]; exact List.getElem?_eq_getElem hjl⟩

theorem okWide_arr {r : Reach} {b0 : Nat} {v : Value} {n : Nat} {e : TypeId} {t : TypeId} (ht : P.underlying t = some (.array n e)) (h : Value.okWide P w r b0 t v) : ∃ cs, v = .agg cs ∧ cs.size = P.cellsOf t := by
  simp only [Value.okWide, ht] at h
  obtain ⟨cs, h1, h2, _⟩ := h
  exact ⟨cs, h1, h2⟩

theorem head_of {l : List Value} {i : Nat} {v : Value} (h : (l.drop i).take 1 = [v]) : l[i]? = some v := by
  have h9 := congrArg (fun m => m[0]?) h
  simpa [List.getElem?_take, List.getElem?_drop] using h9

theorem leafI {t : TypeId} {k : IntKind} {i n : Nat} {l : List Value} {y : DataW H × List MemPlace} (ht : P.underlying t = some (.int k)) (h : DataW.trod enc P w base spare held n t ((l.drop i).take 1) = some y) :
    ∃ z, l[i]? = some (.int k z) ∧ (Lit.int k z).wf = true := by
  obtain ⟨z, hz, _, hw⟩ := DataW.trod_int ht h
  exact ⟨z, head_of hz, hw⟩
theorem leafB {t : TypeId} {i n : Nat} {l : List Value} {y : DataW H × List MemPlace} (ht : P.underlying t = some .bool) (h : DataW.trod enc P w base spare held n t ((l.drop i).take 1) = some y) :
    ∃ b, l[i]? = some (.bool b) := by
  obtain ⟨z, hz, _⟩ := DataW.trod_bool ht h
  exact ⟨z, head_of hz⟩
end


/-! OPENERS -/
set_option maxRecDepth 100000 in
theorem open_cut {H : Type} {enc : TypeId × Value → H} {w : World} {base : Nat} {spare : Nat → Bool} {held : Bool} {r : Reach} {b0 : Nat} {v : Value} {d : DataW H} {p : List MemPlace} (hval : Value.okWide Try.prog w r b0 71 v) (h : DataW.Trod enc Try.prog w base spare held 71 v d p) :
    ∃ (xp : Int) (xl : Int) (xr : Int) (xa : Int) (xb : Int) (xs : Int) (xt : Int) (xh : Bool), v = .agg #[.int .u16 xp, .int .u16 xl, .int .u16 xr, .int .u16 xa, .int .u16 xb, .int .u8 xs, .int .u8 xt, .bool xh] ∧ (Lit.int .u16 xp).wf = true ∧ (Lit.int .u16 xl).wf = true ∧ (Lit.int .u16 xr).wf = true ∧ (Lit.int .u16 xa).wf = true ∧ (Lit.int .u16 xb).wf = true ∧ (Lit.int .u8 xs).wf = true ∧ (Lit.int .u8 xt).wf = true := by
  obtain ⟨cs, rfl, hsz⟩ := okWide_struct Try.underlying71 hval
  obtain ⟨l⟩ := cs
  obtain ⟨fuel, hf⟩ := h
  have hl : l.length = 8 := hsz.trans (by kernel_rfl)
  obtain ⟨n0, y0, t0⟩ := trodS Try.underlying71 hf 0 _ rfl (o := 0) (c := 1) (ty := 69) rfl rfl (by kernel_rfl)
  obtain ⟨xp, g0, w0⟩ := leafI Try.underlying69 t0
  obtain ⟨n1, y1, t1⟩ := trodS Try.underlying71 hf 1 _ rfl (o := 1) (c := 1) (ty := 69) rfl rfl (by kernel_rfl)
  obtain ⟨xl, g1, w1⟩ := leafI Try.underlying69 t1
  obtain ⟨n2, y2, t2⟩ := trodS Try.underlying71 hf 2 _ rfl (o := 2) (c := 1) (ty := 69) rfl rfl (by kernel_rfl)
  obtain ⟨xr, g2, w2⟩ := leafI Try.underlying69 t2
  obtain ⟨n3, y3, t3⟩ := trodS Try.underlying71 hf 3 _ rfl (o := 3) (c := 1) (ty := 69) rfl rfl (by kernel_rfl)
  obtain ⟨xa, g3, w3⟩ := leafI Try.underlying69 t3
  obtain ⟨n4, y4, t4⟩ := trodS Try.underlying71 hf 4 _ rfl (o := 4) (c := 1) (ty := 69) rfl rfl (by kernel_rfl)
  obtain ⟨xb, g4, w4⟩ := leafI Try.underlying69 t4
  obtain ⟨n5, y5, t5⟩ := trodS Try.underlying71 hf 5 _ rfl (o := 5) (c := 1) (ty := 5) rfl rfl (by kernel_rfl)
  obtain ⟨xs, g5, w5⟩ := leafI Try.underlying5 t5
  obtain ⟨n6, y6, t6⟩ := trodS Try.underlying71 hf 6 _ rfl (o := 6) (c := 1) (ty := 5) rfl rfl (by kernel_rfl)
  obtain ⟨xt, g6, w6⟩ := leafI Try.underlying5 t6
  obtain ⟨n7, y7, t7⟩ := trodS Try.underlying71 hf 7 _ rfl (o := 7) (c := 1) (ty := 4) rfl rfl (by kernel_rfl)
  obtain ⟨xh, g7⟩ := leafB Try.underlying4 t7
  refine ⟨xp, xl, xr, xa, xb, xs, xt, xh, ?_, w0, w1, w2, w3, w4, w5, w6⟩
  clear hval hsz hf t0 t1 t2 t3 t4 t5 t6 t7
  match l, hl with
  | [c0, c1, c2, c3, c4, c5, c6, c7], _ =>
    simp [Value.cells] at g0 g1 g2 g3 g4 g5 g6 g7
    subst g0 g1 g2 g3 g4 g5 g6 g7
    rfl

set_option maxRecDepth 100000 in
theorem open_form {H : Type} {enc : TypeId × Value → H} {w : World} {base : Nat} {spare : Nat → Bool} {held : Bool} {r : Reach} {b0 : Nat} {v : Value} {d : DataW H} {p : List MemPlace} (hval : Value.okWide Try.prog w r b0 23 v) (h : DataW.Trod enc Try.prog w base spare held 23 v d p) :
    ∃ (xp : Int) (xl : Int) (xr : Int) (xa : Int) (xb : Int) (xs : Int) (xh : Bool) (xt : Int), v = .agg #[.int .i64 xp, .int .i64 xl, .int .i64 xr, .int .i64 xa, .int .i64 xb, .int .i64 xs, .bool xh, .int .i64 xt] ∧ (Lit.int .i64 xp).wf = true ∧ (Lit.int .i64 xl).wf = true ∧ (Lit.int .i64 xr).wf = true ∧ (Lit.int .i64 xa).wf = true ∧ (Lit.int .i64 xb).wf = true ∧ (Lit.int .i64 xs).wf = true ∧ (Lit.int .i64 xt).wf = true := by
  obtain ⟨cs, rfl, hsz⟩ := okWide_struct Try.underlying23 hval
  obtain ⟨l⟩ := cs
  obtain ⟨fuel, hf⟩ := h
  have hl : l.length = 8 := hsz.trans (by kernel_rfl)
  obtain ⟨n0, y0, t0⟩ := trodS Try.underlying23 hf 0 _ rfl (o := 0) (c := 1) (ty := 3) rfl rfl (by kernel_rfl)
  obtain ⟨xp, g0, w0⟩ := leafI Try.underlying3 t0
  obtain ⟨n1, y1, t1⟩ := trodS Try.underlying23 hf 1 _ rfl (o := 1) (c := 1) (ty := 3) rfl rfl (by kernel_rfl)
  obtain ⟨xl, g1, w1⟩ := leafI Try.underlying3 t1
  obtain ⟨n2, y2, t2⟩ := trodS Try.underlying23 hf 2 _ rfl (o := 2) (c := 1) (ty := 3) rfl rfl (by kernel_rfl)
  obtain ⟨xr, g2, w2⟩ := leafI Try.underlying3 t2
  obtain ⟨n3, y3, t3⟩ := trodS Try.underlying23 hf 3 _ rfl (o := 3) (c := 1) (ty := 3) rfl rfl (by kernel_rfl)
  obtain ⟨xa, g3, w3⟩ := leafI Try.underlying3 t3
  obtain ⟨n4, y4, t4⟩ := trodS Try.underlying23 hf 4 _ rfl (o := 4) (c := 1) (ty := 3) rfl rfl (by kernel_rfl)
  obtain ⟨xb, g4, w4⟩ := leafI Try.underlying3 t4
  obtain ⟨n5, y5, t5⟩ := trodS Try.underlying23 hf 5 _ rfl (o := 5) (c := 1) (ty := 3) rfl rfl (by kernel_rfl)
  obtain ⟨xs, g5, w5⟩ := leafI Try.underlying3 t5
  obtain ⟨n6, y6, t6⟩ := trodS Try.underlying23 hf 6 _ rfl (o := 6) (c := 1) (ty := 4) rfl rfl (by kernel_rfl)
  obtain ⟨xh, g6⟩ := leafB Try.underlying4 t6
  obtain ⟨n7, y7, t7⟩ := trodS Try.underlying23 hf 7 _ rfl (o := 7) (c := 1) (ty := 3) rfl rfl (by kernel_rfl)
  obtain ⟨xt, g7, w7⟩ := leafI Try.underlying3 t7
  refine ⟨xp, xl, xr, xa, xb, xs, xh, xt, ?_, w0, w1, w2, w3, w4, w5, w7⟩
  clear hval hsz hf t0 t1 t2 t3 t4 t5 t6 t7
  match l, hl with
  | [c0, c1, c2, c3, c4, c5, c6, c7], _ =>
    simp [Value.cells] at g0 g1 g2 g3 g4 g5 g6 g7
    subst g0 g1 g2 g3 g4 g5 g6 g7
    rfl

set_option maxRecDepth 100000 in
theorem open_span {H : Type} {enc : TypeId × Value → H} {w : World} {base : Nat} {spare : Nat → Bool} {held : Bool} {r : Reach} {b0 : Nat} {v : Value} {d : DataW H} {p : List MemPlace} (hval : Value.okWide Try.prog w r b0 43 v) (h : DataW.Trod enc Try.prog w base spare held 43 v d p) :
    ∃ (x : Int) (y : Int), v = .agg #[.int .i64 x, .int .i64 y] ∧ (Lit.int .i64 x).wf = true ∧ (Lit.int .i64 y).wf = true := by
  obtain ⟨cs, rfl, hsz⟩ := okWide_struct Try.underlying43 hval
  obtain ⟨l⟩ := cs
  obtain ⟨fuel, hf⟩ := h
  have hl : l.length = 2 := hsz.trans (by kernel_rfl)
  obtain ⟨n0, y0, t0⟩ := trodS Try.underlying43 hf 0 _ rfl (o := 0) (c := 1) (ty := 3) rfl rfl (by kernel_rfl)
  obtain ⟨x, g0, w0⟩ := leafI Try.underlying3 t0
  obtain ⟨n1, y1, t1⟩ := trodS Try.underlying43 hf 1 _ rfl (o := 1) (c := 1) (ty := 3) rfl rfl (by kernel_rfl)
  obtain ⟨y, g1, w1⟩ := leafI Try.underlying3 t1
  refine ⟨x, y, ?_, w0, w1⟩
  clear hval hsz hf t0 t1
  match l, hl with
  | [c0, c1], _ =>
    simp [Value.cells] at g0 g1
    subst g0 g1
    rfl

set_option maxRecDepth 100000 in
theorem open_move {H : Type} {enc : TypeId × Value → H} {w : World} {base : Nat} {spare : Nat → Bool} {held : Bool} {r : Reach} {b0 : Nat} {v : Value} {d : DataW H} {p : List MemPlace} (hval : Value.okWide Try.prog w r b0 40 v) (h : DataW.Trod enc Try.prog w base spare held 40 v d p) :
    ∃ (xa : Int) (xd : Int) (xx : Int) (xs : Int) (xr : Int), v = .agg #[.int .i64 xa, .int .i64 xd, .int .i64 xx, .int .i64 xs, .int .i64 xr] ∧ (Lit.int .i64 xa).wf = true ∧ (Lit.int .i64 xd).wf = true ∧ (Lit.int .i64 xx).wf = true ∧ (Lit.int .i64 xs).wf = true ∧ (Lit.int .i64 xr).wf = true := by
  obtain ⟨cs, rfl, hsz⟩ := okWide_struct Try.underlying40 hval
  obtain ⟨l⟩ := cs
  obtain ⟨fuel, hf⟩ := h
  have hl : l.length = 5 := hsz.trans (by kernel_rfl)
  obtain ⟨n0, y0, t0⟩ := trodS Try.underlying40 hf 0 _ rfl (o := 0) (c := 1) (ty := 3) rfl rfl (by kernel_rfl)
  obtain ⟨xa, g0, w0⟩ := leafI Try.underlying3 t0
  obtain ⟨n1, y1, t1⟩ := trodS Try.underlying40 hf 1 _ rfl (o := 1) (c := 1) (ty := 3) rfl rfl (by kernel_rfl)
  obtain ⟨xd, g1, w1⟩ := leafI Try.underlying3 t1
  obtain ⟨n2, y2, t2⟩ := trodS Try.underlying40 hf 2 _ rfl (o := 2) (c := 1) (ty := 3) rfl rfl (by kernel_rfl)
  obtain ⟨xx, g2, w2⟩ := leafI Try.underlying3 t2
  obtain ⟨n3, y3, t3⟩ := trodS Try.underlying40 hf 3 _ rfl (o := 3) (c := 1) (ty := 3) rfl rfl (by kernel_rfl)
  obtain ⟨xs, g3, w3⟩ := leafI Try.underlying3 t3
  obtain ⟨n4, y4, t4⟩ := trodS Try.underlying40 hf 4 _ rfl (o := 4) (c := 1) (ty := 3) rfl rfl (by kernel_rfl)
  obtain ⟨xr, g4, w4⟩ := leafI Try.underlying3 t4
  refine ⟨xa, xd, xx, xs, xr, ?_, w0, w1, w2, w3, w4⟩
  clear hval hsz hf t0 t1 t2 t3 t4
  match l, hl with
  | [c0, c1, c2, c3, c4], _ =>
    simp [Value.cells] at g0 g1 g2 g3 g4
    subst g0 g1 g2 g3 g4
    rfl

set_option maxRecDepth 100000 in
theorem open_three {H : Type} {enc : TypeId × Value → H} {w : World} {base : Nat} {spare : Nat → Bool} {held : Bool} {r : Reach} {b0 : Nat} {v : Value} {d : DataW H} {p : List MemPlace} (hval : Value.okWide Try.prog w r b0 72 v) (h : DataW.Trod enc Try.prog w base spare held 72 v d p) :
    ∃ (x : Int) (y : Int) (z : Int), v = .agg #[.int .u16 x, .int .u16 y, .int .u16 z] ∧ (Lit.int .u16 x).wf = true ∧ (Lit.int .u16 y).wf = true ∧ (Lit.int .u16 z).wf = true := by
  obtain ⟨cs, rfl, hsz⟩ := okWide_arr Try.underlying72 hval
  obtain ⟨l⟩ := cs
  obtain ⟨fuel, hf⟩ := h
  have hl : l.length = 3 := hsz.trans (by kernel_rfl)
  obtain ⟨n0, y0, t0⟩ := trodE Try.underlying72 hf 0 (by decide) (o := 0) (c := 1) (by kernel_rfl) rfl
  obtain ⟨x, g0, w0⟩ := leafI Try.underlying69 t0
  obtain ⟨n1, y1, t1⟩ := trodE Try.underlying72 hf 1 (by decide) (o := 1) (c := 1) (by kernel_rfl) rfl
  obtain ⟨y, g1, w1⟩ := leafI Try.underlying69 t1
  obtain ⟨n2, y2, t2⟩ := trodE Try.underlying72 hf 2 (by decide) (o := 2) (c := 1) (by kernel_rfl) rfl
  obtain ⟨z, g2, w2⟩ := leafI Try.underlying69 t2
  refine ⟨x, y, z, ?_, w0, w1, w2⟩
  clear hval hsz hf t0 t1 t2
  match l, hl with
  | [c0, c1, c2], _ =>
    simp [Value.cells] at g0 g1 g2
    subst g0 g1 g2
    rfl

end Go.Proofs.Ytloleaahelmdjaa
