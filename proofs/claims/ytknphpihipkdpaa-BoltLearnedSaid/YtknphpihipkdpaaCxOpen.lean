/- Arguments opened, as flat cells: what every opener wants. -/
import Derived.Test.YtknphpihipkdpaaRows
import Derived.Test.YtknphpihipkdpaaChecked
import Derived.Test.YtknphpihipkdpaaCxTry
import Derived.WalkKit
import Derived.ProofKit
import Derived.OpenShut
import Derived.ChangeOld
import Derived.Below
import Derived.Deep.Fields
namespace Go.Proofs.Ytknphpihipkdpaa
open Go.ChangeShapes Go.WideShapes Go.RowKit Go.Deep

section
variable {H : Type} {enc : TypeId × Value → H} {P : Program} {w : World} {base : Nat} {spare : Nat → Bool} {held : Bool}

/-- A part of a struct. -/
theorem trodS {t : TypeId} {fs : Array Field} {fuel : Nat} {l : List Value} {x : DataW H × List MemPlace} (hs : P.underlying t = some (.struct fs)) (h : DataW.trod enc P w base spare held fuel t l = some x)
    (j : Nat) (f : Field) (hj : fs[j]? = some f) {o c : Nat} {ty : TypeId} (ho : f.offset = o) (hty : f.type = ty) (hc : P.cellsOf ty = c) : ∃ n y, DataW.trod enc P w base spare held n ty ((l.drop o).take c) = some y := by
  subst ho hty hc
  obtain ⟨xs, n, _, hx, hl, hlen, hg⟩ := DataW.trod_struct hs h
  have hjl : j < xs.length := by rw [hlen]; exact (Array.getElem?_eq_some_iff.1 hj).1
  exact ⟨n, xs[j], by rw [hg j f hj]; exact List.getElem?_eq_getElem hjl⟩

/-- An element of an array. -/
theorem trodE {t e : TypeId} {m fuel : Nat} {l : List Value} {x : DataW H × List MemPlace} (hs : P.underlying t = some (.array m e)) (h : DataW.trod enc P w base spare held fuel t l = some x)
    (j : Nat) (hj : j < m) {o c : Nat} (hc : P.cellsOf e = c) (ho : j * c = o) : ∃ n y, DataW.trod enc P w base spare held n e ((l.drop o).take c) = some y := by
  subst ho hc
  obtain ⟨xs, n, _, hx, hl, hlen, hg⟩ := DataW.trod_array hs h
  have hjl : j < xs.length := by omega
  exact ⟨n, xs[j], by rw [hg j hj]; exact List.getElem?_eq_getElem hjl⟩

theorem okWide_arr {r : Reach} {b0 : Nat} {v : Value} {n : Nat} {e : TypeId} {t : TypeId} (ht : P.underlying t = some (.array n e)) (h : Value.okWide P w r b0 t v) : ∃ cs, v = .agg cs ∧ cs.size = P.cellsOf t := by
  simp only [Value.okWide, ht] at h
  obtain ⟨cs, h1, h2, _⟩ := h
  exact ⟨cs, h1, h2⟩

theorem head_of {l : List Value} {i : Nat} {v : Value} (h : (l.drop i).take 1 = [v]) : l[i]? = some v := by
  have h9 := congrArg (fun m => m[0]?) h
  simpa [List.getElem?_take, List.getElem?_drop] using h9

theorem leafI {t : TypeId} {k : IntKind} {i n : Nat} {l : List Value} {y : DataW H × List MemPlace} (ht : P.underlying t = some (.int k)) (h : DataW.trod enc P w base spare held n t ((l.drop i).take 1) = some y) :
    ∃ z, l[i]? = some (.int k z) ∧ (Lit.int k z).wf = true := by
  obtain ⟨z, hz, _, hw⟩ := DataW.trod_int ht h
  exact ⟨z, head_of hz, hw⟩
/-- A slice that is only measured. -/
theorem leafL {t e : TypeId} {i n : Nat} {l : List Value} {y : DataW H × List MemPlace} (ht : P.underlying t = some (.slice e)) (h : DataW.trod enc P w base spare held n t ((l.drop i).take 1) = some y) :
    ∃ (a : Option Addr) (m c : Nat), l[i]? = some (.slice a m c) ∧ m ≤ 9223372036854775807 := by
  rcases DataW.trod_slice ht h with ⟨h0, _⟩ | ⟨a, len, cap, elems, rest, n, _, h0, _, _, hl, hm, hlen, hel, _, _⟩
  · exact ⟨none, 0, 0, head_of h0, Nat.zero_le _⟩
  · exact ⟨some a, len, cap, head_of h0, by unfold maxLen at hm; omega⟩
theorem leafB {t : TypeId} {i n : Nat} {l : List Value} {y : DataW H × List MemPlace} (ht : P.underlying t = some .bool) (h : DataW.trod enc P w base spare held n t ((l.drop i).take 1) = some y) :
    ∃ b, l[i]? = some (.bool b) := by
  obtain ⟨z, hz, _⟩ := DataW.trod_bool ht h
  exact ⟨z, head_of hz⟩
end



theorem sub_of {α : Type} {l : List α} {o c a b s : Nat} (hs : o + a = s) (h : a + b ≤ c) : (((l.drop o).take c).drop a).take b = (l.drop s).take b := by
  rw [List.drop_take, List.take_take, List.drop_drop, hs, Nat.min_eq_left (by omega)]
theorem rng_i8 {n : Int} (h : (Lit.int .i8 n).wf = true) : -128 ≤ n ∧ n ≤ 127 := by
  have : IntKind.i8.min ≤ n ∧ n ≤ IntKind.i8.max := by simpa [Lit.wf] using h
  exact this
theorem rng_u8 {n : Int} (h : (Lit.int .u8 n).wf = true) : 0 ≤ n ∧ n ≤ 255 := by
  have : IntKind.u8.min ≤ n ∧ n ≤ IntKind.u8.max := by simpa [Lit.wf] using h
  exact this
theorem rng_u16 {n : Int} (h : (Lit.int .u16 n).wf = true) : 0 ≤ n ∧ n ≤ 65535 := by
  have : IntKind.u16.min ≤ n ∧ n ≤ IntKind.u16.max := by simpa [Lit.wf] using h
  exact this
theorem rng_len {n : Nat} (h : n ≤ 9223372036854775807) : 0 ≤ (n : Int) ∧ (n : Int) ≤ 9223372036854775807 := ⟨by omega, by omega⟩
theorem rng_i16 {n : Int} (h : (Lit.int .i16 n).wf = true) : -32768 ≤ n ∧ n ≤ 32767 := by
  have : IntKind.i16.min ≤ n ∧ n ≤ IntKind.i16.max := by simpa [Lit.wf] using h
  exact this
theorem rng_i64 {n : Int} (h : (Lit.int .i64 n).wf = true) : -9223372036854775808 ≤ n ∧ n ≤ 9223372036854775807 := by
  have : IntKind.i64.min ≤ n ∧ n ≤ IntKind.i64.max := by simpa [Lit.wf] using h
  exact this
end Go.Proofs.Ytknphpihipkdpaa
