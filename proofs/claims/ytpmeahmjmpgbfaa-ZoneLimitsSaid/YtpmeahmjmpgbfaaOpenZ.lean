/- Arguments opened: structs, arrays and nested structs of integers and bools, as flat cells. -/
import Derived.Test.YtpmeahmjmpgbfaaRows
import Derived.WalkKit
import Derived.ProofKit
import Derived.OpenShut
import Derived.ChangeOld
import Derived.Below
import Derived.Deep.Fields
namespace Go.Proofs.Ytpmeahmjmpgbfaa
open Go.ChangeShapes Go.WideShapes Go.RowKit Go.Deep

section
variable {H : Type} {enc : TypeId × Value → H} {P : Program} {w : World} {base : Nat} {spare : Nat → Bool} {held : Bool}

/-- A part of a struct. -/
theorem trodS {t : TypeId} {fs : Array Field} {fuel : Nat} {l : List Value} {x : DataW H × List MemPlace} (hs : P.underlying t = some (.struct fs)) (h : DataW.trod enc P w base spare held fuel t l = some x)
    (j : Nat) (f : Field) (hj : fs[j]? = some f) {o c : Nat} {ty : TypeId} (ho : f.offset = o) (hty : f.type = ty) (hc : P.cellsOf ty = c) : ∃ n y, DataW.trod enc P w base spare held n ty ((l.drop o).take c) = some y := by
  subst ho hty hc
  obtain ⟨xs, n, _, hx, hl, hlen, hg⟩ := DataW.trod_struct hs h
  have hjl : j < xs.length := by rw [hlen]; exact (Array.getElem?_eq_some_iff.1 hj).1
  exact ⟨n, xs[j], by rw [hg j f hj]; exact List.getElem?_eq_getElem hjl⟩

/-- An element of an array. -/
theorem trodE {t e : TypeId} {m fuel : Nat} {l : List Value} {x : DataW H × List MemPlace} (hs : P.underlying t = some (.array m e)) (h : DataW.trod enc P w base spare held fuel t l = some x)
    (j : Nat) (hj : j < m) {o c : Nat} (hc : P.cellsOf e = c) (ho : j * c = o) : ∃ n y, DataW.trod enc P w base spare held n e ((l.drop o).take c) = some y := by
  subst ho hc
  obtain ⟨xs, n, _, hx, hl, hlen, hg⟩ := DataW.trod_array hs h
  have hjl : j < xs.length := by omega
  exact ⟨n, xs[j], by rw [hg j hj]; exact List.getElem?_eq_getElem hjl⟩

theorem okWide_arr {r : Reach} {b0 : Nat} {v : Value} {n : Nat} {e : TypeId} {t : TypeId} (ht : P.underlying t = some (.array n e)) (h : Value.okWide P w r b0 t v) : ∃ cs, v = .agg cs ∧ cs.size = P.cellsOf t := by
  simp only [Value.okWide, ht] at h
  obtain ⟨cs, h1, h2, _⟩ := h
  exact ⟨cs, h1, h2⟩

theorem head_of {l : List Value} {i : Nat} {v : Value} (h : (l.drop i).take 1 = [v]) : l[i]? = some v := by
  have h9 := congrArg (fun m => m[0]?) h
  simpa [List.getElem?_take, List.getElem?_drop] using h9

theorem leafI {t : TypeId} {k : IntKind} {i n : Nat} {l : List Value} {y : DataW H × List MemPlace} (ht : P.underlying t = some (.int k)) (h : DataW.trod enc P w base spare held n t ((l.drop i).take 1) = some y) :
    ∃ z, l[i]? = some (.int k z) ∧ (Lit.int k z).wf = true := by
  obtain ⟨z, hz, _, hw⟩ := DataW.trod_int ht h
  exact ⟨z, head_of hz, hw⟩
theorem leafB {t : TypeId} {i n : Nat} {l : List Value} {y : DataW H × List MemPlace} (ht : P.underlying t = some .bool) (h : DataW.trod enc P w base spare held n t ((l.drop i).take 1) = some y) :
    ∃ b, l[i]? = some (.bool b) := by
  obtain ⟨z, hz, _⟩ := DataW.trod_bool ht h
  exact ⟨z, head_of hz⟩
end


/-! OPENERS -/
set_option maxRecDepth 100000 in
theorem open_four8 {H : Type} {enc : TypeId × Value → H} {w : World} {base : Nat} {spare : Nat → Bool} {held : Bool} {r : Reach} {b0 : Nat} {v : Value} {d : DataW H} {p : List MemPlace} (hval : Value.okWide Try.prog w r b0 117 v) (h : DataW.Trod enc Try.prog w base spare held 117 v d p) :
    ∃ (x : Int) (y : Int) (z : Int) (u : Int), v = .agg #[.int .u8 x, .int .u8 y, .int .u8 z, .int .u8 u] ∧ (Lit.int .u8 x).wf = true ∧ (Lit.int .u8 y).wf = true ∧ (Lit.int .u8 z).wf = true ∧ (Lit.int .u8 u).wf = true := by
  obtain ⟨cs, rfl, hsz⟩ := okWide_arr Try.underlying117 hval
  obtain ⟨l⟩ := cs
  obtain ⟨fuel, hf⟩ := h
  have hl : l.length = 4 := hsz.trans (by kernel_rfl)
  obtain ⟨n0, y0, t0⟩ := trodE Try.underlying117 hf 0 (by decide) (o := 0) (c := 1) (by kernel_rfl) rfl
  obtain ⟨x, g0, w0⟩ := leafI Try.underlying5 t0
  obtain ⟨n1, y1, t1⟩ := trodE Try.underlying117 hf 1 (by decide) (o := 1) (c := 1) (by kernel_rfl) rfl
  obtain ⟨y, g1, w1⟩ := leafI Try.underlying5 t1
  obtain ⟨n2, y2, t2⟩ := trodE Try.underlying117 hf 2 (by decide) (o := 2) (c := 1) (by kernel_rfl) rfl
  obtain ⟨z, g2, w2⟩ := leafI Try.underlying5 t2
  obtain ⟨n3, y3, t3⟩ := trodE Try.underlying117 hf 3 (by decide) (o := 3) (c := 1) (by kernel_rfl) rfl
  obtain ⟨u, g3, w3⟩ := leafI Try.underlying5 t3
  refine ⟨x, y, z, u, ?_, w0, w1, w2, w3⟩
  clear hval hsz hf t0 t1 t2 t3
  match l, hl with
  | [c0, c1, c2, c3], _ =>
    simp [Value.cells] at g0 g1 g2 g3
    subst g0 g1 g2 g3
    rfl

set_option maxRecDepth 100000 in
theorem open_two8 {H : Type} {enc : TypeId × Value → H} {w : World} {base : Nat} {spare : Nat → Bool} {held : Bool} {r : Reach} {b0 : Nat} {v : Value} {d : DataW H} {p : List MemPlace} (hval : Value.okWide Try.prog w r b0 126 v) (h : DataW.Trod enc Try.prog w base spare held 126 v d p) :
    ∃ (x : Int) (y : Int), v = .agg #[.int .u8 x, .int .u8 y] ∧ (Lit.int .u8 x).wf = true ∧ (Lit.int .u8 y).wf = true := by
  obtain ⟨cs, rfl, hsz⟩ := okWide_arr Try.underlying126 hval
  obtain ⟨l⟩ := cs
  obtain ⟨fuel, hf⟩ := h
  have hl : l.length = 2 := hsz.trans (by kernel_rfl)
  obtain ⟨n0, y0, t0⟩ := trodE Try.underlying126 hf 0 (by decide) (o := 0) (c := 1) (by kernel_rfl) rfl
  obtain ⟨x, g0, w0⟩ := leafI Try.underlying5 t0
  obtain ⟨n1, y1, t1⟩ := trodE Try.underlying126 hf 1 (by decide) (o := 1) (c := 1) (by kernel_rfl) rfl
  obtain ⟨y, g1, w1⟩ := leafI Try.underlying5 t1
  refine ⟨x, y, ?_, w0, w1⟩
  clear hval hsz hf t0 t1
  match l, hl with
  | [c0, c1], _ =>
    simp [Value.cells] at g0 g1
    subst g0 g1
    rfl

set_option maxRecDepth 100000 in
theorem open_two16 {H : Type} {enc : TypeId × Value → H} {w : World} {base : Nat} {spare : Nat → Bool} {held : Bool} {r : Reach} {b0 : Nat} {v : Value} {d : DataW H} {p : List MemPlace} (hval : Value.okWide Try.prog w r b0 125 v) (h : DataW.Trod enc Try.prog w base spare held 125 v d p) :
    ∃ (x : Int) (y : Int), v = .agg #[.int .u16 x, .int .u16 y] ∧ (Lit.int .u16 x).wf = true ∧ (Lit.int .u16 y).wf = true := by
  obtain ⟨cs, rfl, hsz⟩ := okWide_arr Try.underlying125 hval
  obtain ⟨l⟩ := cs
  obtain ⟨fuel, hf⟩ := h
  have hl : l.length = 2 := hsz.trans (by kernel_rfl)
  obtain ⟨n0, y0, t0⟩ := trodE Try.underlying125 hf 0 (by decide) (o := 0) (c := 1) (by kernel_rfl) rfl
  obtain ⟨x, g0, w0⟩ := leafI Try.underlying52 t0
  obtain ⟨n1, y1, t1⟩ := trodE Try.underlying125 hf 1 (by decide) (o := 1) (c := 1) (by kernel_rfl) rfl
  obtain ⟨y, g1, w1⟩ := leafI Try.underlying52 t1
  refine ⟨x, y, ?_, w0, w1⟩
  clear hval hsz hf t0 t1
  match l, hl with
  | [c0, c1], _ =>
    simp [Value.cells] at g0 g1
    subst g0 g1
    rfl

set_option maxRecDepth 100000 in
theorem open_span {H : Type} {enc : TypeId × Value → H} {w : World} {base : Nat} {spare : Nat → Bool} {held : Bool} {r : Reach} {b0 : Nat} {v : Value} {d : DataW H} {p : List MemPlace} (hval : Value.okWide Try.prog w r b0 24 v) (h : DataW.Trod enc Try.prog w base spare held 24 v d p) :
    ∃ (x : Int) (y : Int), v = .agg #[.int .i64 x, .int .i64 y] ∧ (Lit.int .i64 x).wf = true ∧ (Lit.int .i64 y).wf = true := by
  obtain ⟨cs, rfl, hsz⟩ := okWide_struct Try.underlying24 hval
  obtain ⟨l⟩ := cs
  obtain ⟨fuel, hf⟩ := h
  have hl : l.length = 2 := hsz.trans (by kernel_rfl)
  obtain ⟨n0, y0, t0⟩ := trodS Try.underlying24 hf 0 _ rfl (o := 0) (c := 1) (ty := 3) rfl rfl (by kernel_rfl)
  obtain ⟨x, g0, w0⟩ := leafI Try.underlying3 t0
  obtain ⟨n1, y1, t1⟩ := trodS Try.underlying24 hf 1 _ rfl (o := 1) (c := 1) (ty := 3) rfl rfl (by kernel_rfl)
  obtain ⟨y, g1, w1⟩ := leafI Try.underlying3 t1
  refine ⟨x, y, ?_, w0, w1⟩
  clear hval hsz hf t0 t1
  match l, hl with
  | [c0, c1], _ =>
    simp [Value.cells] at g0 g1
    subst g0 g1
    rfl

set_option maxRecDepth 100000 in
theorem open_coat {H : Type} {enc : TypeId × Value → H} {w : World} {base : Nat} {spare : Nat → Bool} {held : Bool} {r : Reach} {b0 : Nat} {v : Value} {d : DataW H} {p : List MemPlace} (hval : Value.okWide Try.prog w r b0 78 v) (h : DataW.Trod enc Try.prog w base spare held 78 v d p) :
    ∃ (x : Int) (y : Int) (z : Int) (u : Int), v = .agg #[.int .i64 x, .int .i64 y, .int .i64 z, .int .i64 u] ∧ (Lit.int .i64 x).wf = true ∧ (Lit.int .i64 y).wf = true ∧ (Lit.int .i64 z).wf = true ∧ (Lit.int .i64 u).wf = true := by
  obtain ⟨cs, rfl, hsz⟩ := okWide_struct Try.underlying78 hval
  obtain ⟨l⟩ := cs
  obtain ⟨fuel, hf⟩ := h
  have hl : l.length = 4 := hsz.trans (by kernel_rfl)
  obtain ⟨n0, y0, t0⟩ := trodS Try.underlying78 hf 0 _ rfl (o := 0) (c := 2) (ty := 24) rfl rfl (by kernel_rfl)
  obtain ⟨m0, z0, u0⟩ := trodS Try.underlying24 t0 0 _ rfl (o := 0) (c := 1) (ty := 3) rfl rfl (by kernel_rfl)
  obtain ⟨x, g0, w0⟩ := leafI Try.underlying3 u0
  obtain ⟨m1, z1, u1⟩ := trodS Try.underlying24 t0 1 _ rfl (o := 1) (c := 1) (ty := 3) rfl rfl (by kernel_rfl)
  obtain ⟨y, g1, w1⟩ := leafI Try.underlying3 u1
  obtain ⟨n1, y1, t1⟩ := trodS Try.underlying78 hf 1 _ rfl (o := 2) (c := 2) (ty := 76) rfl rfl (by kernel_rfl)
  obtain ⟨m2, z2, u2⟩ := trodS Try.underlying76 t1 0 _ rfl (o := 0) (c := 1) (ty := 3) rfl rfl (by kernel_rfl)
  obtain ⟨z, g2, w2⟩ := leafI Try.underlying3 u2
  obtain ⟨m3, z3, u3⟩ := trodS Try.underlying76 t1 1 _ rfl (o := 1) (c := 1) (ty := 3) rfl rfl (by kernel_rfl)
  obtain ⟨u, g3, w3⟩ := leafI Try.underlying3 u3
  refine ⟨x, y, z, u, ?_, w0, w1, w2, w3⟩
  clear hval hsz hf t0 u0 u1 t1 u2 u3
  match l, hl with
  | [c0, c1, c2, c3], _ =>
    simp [Value.cells] at g0 g1 g2 g3
    subst g0 g1 g2 g3
    rfl

end Go.Proofs.Ytpmeahmjmpgbfaa
