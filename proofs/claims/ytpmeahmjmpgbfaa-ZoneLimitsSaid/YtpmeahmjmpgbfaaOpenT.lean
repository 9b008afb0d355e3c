/- Slices opened: a slice of one-cell elements as a list, a table. Made by tools/gen_opent.py. -/
import Derived.Test.YtpmeahmjmpgbfaaOpenZ
import Derived.Test.YtpmeahmjmpgbfaaContains
import Derived.DataReads
namespace Go.Proofs.Ytpmeahmjmpgbfaa
open Go.ChangeShapes Go.WideShapes Go.RowKit Go.Deep

/-- A slice of one-cell elements, as long as a slice can be. -/
def SlW {α : Type} (E : World → Value → α → Prop) (w : World) (v : Value) (xs : List α) : Prop := ∃ a cap, v = .slice a xs.length cap ∧ (a = none → cap = 0) ∧ xs.length ≤ 9223372036854775807 ∧ SlA E w a xs
theorem SlW.below {α : Type} {E : World → Value → α → Prop} (hE : Stable E) {w w' : World} {v : Value} {xs : List α} (h : SlW E w v xs) (hb : Below w.heap.size w w') : SlW E w' v xs := by
  obtain ⟨a, cap, rfl, hn, hm, hs⟩ := h
  exact ⟨a, cap, rfl, hn, hm, hs.below hE hb⟩
theorem SlW.stable {α : Type} {E : World → Value → α → Prop} (hE : Stable E) : Stable (SlW E) := fun _ _ _ _ h hb => h.below hE hb
theorem SlW.at {α : Type} {E : World → Value → α → Prop} {w : World} {v : Value} {xs : List α} (h : SlW E w v xs) (hm : xs.length ≤ 4611686018427387904) : SlAt E w v xs := by
  obtain ⟨a, cap, rfl, _, _, hs⟩ := h
  exact ⟨a, cap, rfl, hm, hs⟩
/-- What is known of the elements of the list may be used. -/
theorem SlA.mono {α : Type} {E F : World → Value → α → Prop} {w : World} {a : Option Addr} {xs : List α} (h : SlA E w a xs) (hEF : ∀ u x, x ∈ xs → E w u x → F w u x) : SlA F w a xs := by
  rcases h with h | ⟨b, off, ha, hlt, hc⟩
  · exact .inl h
  · refine .inr ⟨b, off, ha, hlt, fun i x hx => ?_⟩
    obtain ⟨u, hu, he⟩ := hc i x hx
    exact ⟨u, hu, hEF u x (List.mem_of_getElem? hx) he⟩

section
variable {H : Type} {enc : TypeId × Value → H} {P : Program} {w : World} {base : Nat} {spare : Nat → Bool} {held : Bool}

theorem cell_spot {a : Addr} {u : Value} (h : w.cell? a = some u) : a.spot = none ∧ a.block < w.heap.size := by
  unfold World.cell? at h
  split at h
  · rename_i c e f hh
    split at h
    · cases h
    · rename_i hs
      exact ⟨by simpa using hs, (Array.getElem?_eq_some_iff.1 hh).1⟩
  · cases h
theorem slW_of {α : Type} {E : World → Value → α → Prop} {t e : TypeId} {fuel i : Nat} {l : List Value} {y : DataW H × List MemPlace} (ht : P.underlying t = some (.slice e)) (hc : P.cellsOf e = 1)
    (hE : ∀ n v y, DataW.trod enc P w base spare held n e [v] = some y → ∃ x, E w v x) (h : DataW.trod enc P w base spare held fuel t ((l.drop i).take 1) = some y) :
    ∃ v xs, l[i]? = some v ∧ SlW E w v xs := by
  rcases DataW.trod_slice ht h with ⟨h0, _⟩ | ⟨a, len, cap, elems, rest, n, _, h0, _, hb, hl, hm, hlen, hel, _, _⟩
  · exact ⟨_, [], head_of h0, none, 0, rfl, fun _ => rfl, by simp, .inl rfl⟩
  · have each : ∀ i, i < len → ∃ x u, w.cell? (a.add i) = some u ∧ E w u x := by
      intro i hi
      have h1 := hel i hi
      rw [hc, Nat.mul_one, List.getElem?_eq_getElem (by omega), Option.bind_eq_some_iff] at h1
      obtain ⟨cs', hcs, hy⟩ := h1
      obtain ⟨_, hl', hcell⟩ := World.cells?_some hcs
      match cs', hl' with
      | [v], _ =>
        obtain ⟨x, hx⟩ := hE _ v _ hy
        have h2 := hcell 0 (by omega)
        exact ⟨x, v, by simpa [Addr.add] using h2, hx⟩
    refine ⟨_, List.ofFn (fun i : Fin len => Classical.choose (each i i.2)), head_of h0, some a, cap, by rw [List.length_ofFn], (fun h => by cases h), by rw [List.length_ofFn]; unfold maxLen at hm; omega, ?_⟩
    by_cases hz : len = 0
    · subst hz; exact .inl rfl
    · obtain ⟨x0, u0, hu0, _⟩ := each 0 (by omega)
      obtain ⟨hs, hlt⟩ := cell_spot (a := a) (by simpa [Addr.add] using hu0)
      have ea : a = ⟨a.block, a.off, none⟩ := by obtain ⟨b, o, s⟩ := a; simp only at hs; subst hs; rfl
      have eadd : ∀ i, a.add i = ⟨a.block, a.off + i, none⟩ := by
        intro i
        unfold Addr.add
        split
        · rename_i h0; subst h0; exact ea
        · rfl
      refine .inr ⟨a.block, a.off, by rw [← ea], hlt, fun i x hx => ?_⟩
      rw [List.getElem?_ofFn] at hx
      split at hx
      · rename_i hi
        obtain ⟨u, hu, he⟩ := Classical.choose_spec (each i hi)
        rw [eadd] at hu
        cases hx
        exact ⟨u, hu, he⟩
      · cases hx

theorem intE_of {e : TypeId} (he : P.underlying e = some (.int .i64)) (n : Nat) (v : Value) (y : DataW H × List MemPlace) (h : DataW.trod enc P w base spare held n e [v] = some y) : ∃ x, IntE w v x := by
  obtain ⟨z, hz, _, _⟩ := DataW.trod_int he h
  exact ⟨z, by unfold IntE; simpa using hz⟩
theorem rowE_of {t e : TypeId} (ht : P.underlying t = some (.slice e)) (hc : P.cellsOf e = 1) (he : P.underlying e = some (.int .i64)) (n : Nat) (v : Value) (y : DataW H × List MemPlace) (h : DataW.trod enc P w base spare held n t [v] = some y) : ∃ x, SlW IntE w v x := by
  obtain ⟨v', xs, hv, hS⟩ := slW_of (l := [v]) (i := 0) ht hc (intE_of he) (by simpa using h)
  obtain rfl : v = v' := by simpa using hv
  exact ⟨xs, hS⟩
end

/-- A table in memory, its lists as long as lists can be. -/
def TabW (w : World) (ss : List Int) (gs ps : List (List Int)) (sa ga pa : Option Addr) (sc : Nat) : Prop :=
  ((sa = none → sc = 0) ∧ ss.length ≤ 9223372036854775807 ∧ gs.length ≤ 9223372036854775807 ∧ ps.length ≤ 9223372036854775807) ∧ SlA IntE w sa ss ∧ SlA (SlW IntE) w ga gs ∧ SlA (SlW IntE) w pa ps
theorem TabW.below {w w' : World} {ss : List Int} {gs ps : List (List Int)} {sa ga pa : Option Addr} {sc : Nat} (h : TabW w ss gs ps sa ga pa sc) (hb : Below w.heap.size w w') : TabW w' ss gs ps sa ga pa sc :=
  ⟨h.1, h.2.1.below intE_stable hb, h.2.2.1.below (SlW.stable intE_stable) hb, h.2.2.2.below (SlW.stable intE_stable) hb⟩

set_option maxRecDepth 100000 in
theorem open_table {H : Type} {enc : TypeId × Value → H} {w : World} {base : Nat} {spare : Nat → Bool} {held : Bool} {r : Reach} {b0 : Nat} {v : Value} {d : DataW H} {p : List MemPlace} (hval : Value.okWide Try.prog w r b0 63 v) (h : DataW.Trod enc Try.prog w base spare held 63 v d p) :
    ∃ (ss : List Int) (gs ps : List (List Int)) (sa ga pa : Option Addr) (sc gc pc : Nat), v = .agg #[.slice sa ss.length sc, .slice ga gs.length gc, .slice pa ps.length pc] ∧ TabW w ss gs ps sa ga pa sc := by
  obtain ⟨cs, rfl, hsz⟩ := okWide_struct Try.underlying63 hval
  obtain ⟨l⟩ := cs
  obtain ⟨fuel, hf⟩ := h
  have hl : l.length = 3 := hsz.trans (by kernel_rfl)
  obtain ⟨n0, y0, t0⟩ := trodS Try.underlying63 hf 0 _ rfl (o := 0) (c := 1) (ty := 31) rfl rfl (by kernel_rfl)
  obtain ⟨n1, y1, t1⟩ := trodS Try.underlying63 hf 1 _ rfl (o := 1) (c := 1) (ty := 61) rfl rfl (by kernel_rfl)
  obtain ⟨n2, y2, t2⟩ := trodS Try.underlying63 hf 2 _ rfl (o := 2) (c := 1) (ty := 61) rfl rfl (by kernel_rfl)
  have hi := Try.underlying3
  have hr := Try.underlying31
  obtain ⟨v0, ss, e0, sa, sc, rfl, z0, m0, S0⟩ := slW_of hr (by kernel_rfl) (intE_of hi) t0
  obtain ⟨v1, gs, e1, ga, gc, rfl, z1, m1, S1⟩ := slW_of Try.underlying61 (by kernel_rfl) (rowE_of hr (by kernel_rfl) hi) t1
  obtain ⟨v2, ps, e2, pa, pc, rfl, z2, m2, S2⟩ := slW_of Try.underlying61 (by kernel_rfl) (rowE_of hr (by kernel_rfl) hi) t2
  refine ⟨ss, gs, ps, sa, ga, pa, sc, gc, pc, ?_, ⟨z0, m0, m1, m2⟩, S0, S1, S2⟩
  clear hval hsz hf t0 t1 t2
  match l, hl with
  | [c0, c1, c2], _ =>
    simp [Value.cells] at e0 e1 e2
    subst e0 e1 e2
    rfl
set_option maxRecDepth 100000 in
theorem open_three {H : Type} {enc : TypeId × Value → H} {w : World} {base : Nat} {spare : Nat → Bool} {held : Bool} {r : Reach} {b0 : Nat} {v : Value} {d : DataW H} {p : List MemPlace} (hval : Value.okWide Try.prog w r b0 64 v) (h : DataW.Trod enc Try.prog w base spare held 64 v d p) :
    ∃ (x : Int) (y : Int) (z : Int), v = .agg #[.int .i64 x, .int .i64 y, .int .i64 z] ∧ (Lit.int .i64 x).wf = true ∧ (Lit.int .i64 y).wf = true ∧ (Lit.int .i64 z).wf = true := by
  obtain ⟨cs, rfl, hsz⟩ := okWide_arr Try.underlying64 hval
  obtain ⟨l⟩ := cs
  obtain ⟨fuel, hf⟩ := h
  have hl : l.length = 3 := hsz.trans (by kernel_rfl)
  obtain ⟨n0, y0, t0⟩ := trodE Try.underlying64 hf 0 (by decide) (o := 0) (c := 1) (by kernel_rfl) rfl
  obtain ⟨x, g0, w0⟩ := leafI Try.underlying3 t0
  obtain ⟨n1, y1, t1⟩ := trodE Try.underlying64 hf 1 (by decide) (o := 1) (c := 1) (by kernel_rfl) rfl
  obtain ⟨y, g1, w1⟩ := leafI Try.underlying3 t1
  obtain ⟨n2, y2, t2⟩ := trodE Try.underlying64 hf 2 (by decide) (o := 2) (c := 1) (by kernel_rfl) rfl
  obtain ⟨z, g2, w2⟩ := leafI Try.underlying3 t2
  refine ⟨x, y, z, ?_, w0, w1, w2⟩
  clear hval hsz hf t0 t1 t2
  match l, hl with
  | [c0, c1, c2], _ =>
    simp [Value.cells] at g0 g1 g2
    subst g0 g1 g2
    rfl

set_option maxRecDepth 100000 in
theorem open_five {H : Type} {enc : TypeId × Value → H} {w : World} {base : Nat} {spare : Nat → Bool} {held : Bool} {r : Reach} {b0 : Nat} {v : Value} {d : DataW H} {p : List MemPlace} (hval : Value.okWide Try.prog w r b0 56 v) (h : DataW.Trod enc Try.prog w base spare held 56 v d p) :
    ∃ (x : Int) (y : Int) (z : Int) (u : Int) (s : Int), v = .agg #[.int .i64 x, .int .i64 y, .int .i64 z, .int .i64 u, .int .i64 s] ∧ (Lit.int .i64 x).wf = true ∧ (Lit.int .i64 y).wf = true ∧ (Lit.int .i64 z).wf = true ∧ (Lit.int .i64 u).wf = true ∧ (Lit.int .i64 s).wf = true := by
  obtain ⟨cs, rfl, hsz⟩ := okWide_arr Try.underlying56 hval
  obtain ⟨l⟩ := cs
  obtain ⟨fuel, hf⟩ := h
  have hl : l.length = 5 := hsz.trans (by kernel_rfl)
  obtain ⟨n0, y0, t0⟩ := trodE Try.underlying56 hf 0 (by decide) (o := 0) (c := 1) (by kernel_rfl) rfl
  obtain ⟨x, g0, w0⟩ := leafI Try.underlying3 t0
  obtain ⟨n1, y1, t1⟩ := trodE Try.underlying56 hf 1 (by decide) (o := 1) (c := 1) (by kernel_rfl) rfl
  obtain ⟨y, g1, w1⟩ := leafI Try.underlying3 t1
  obtain ⟨n2, y2, t2⟩ := trodE Try.underlying56 hf 2 (by decide) (o := 2) (c := 1) (by kernel_rfl) rfl
  obtain ⟨z, g2, w2⟩ := leafI Try.underlying3 t2
  obtain ⟨n3, y3, t3⟩ := trodE Try.underlying56 hf 3 (by decide) (o := 3) (c := 1) (by kernel_rfl) rfl
  obtain ⟨u, g3, w3⟩ := leafI Try.underlying3 t3
  obtain ⟨n4, y4, t4⟩ := trodE Try.underlying56 hf 4 (by decide) (o := 4) (c := 1) (by kernel_rfl) rfl
  obtain ⟨s, g4, w4⟩ := leafI Try.underlying3 t4
  refine ⟨x, y, z, u, s, ?_, w0, w1, w2, w3, w4⟩
  clear hval hsz hf t0 t1 t2 t3 t4
  match l, hl with
  | [c0, c1, c2, c3, c4], _ =>
    simp [Value.cells] at g0 g1 g2 g3 g4
    subst g0 g1 g2 g3 g4
    rfl

set_option maxRecDepth 100000 in
theorem open_quad {H : Type} {enc : TypeId × Value → H} {w : World} {base : Nat} {spare : Nat → Bool} {held : Bool} {r : Reach} {b0 : Nat} {v : Value} {d : DataW H} {p : List MemPlace} (hval : Value.okWide Try.prog w r b0 101 v) (h : DataW.Trod enc Try.prog w base spare held 101 v d p) :
    ∃ (x : Int) (y : Int) (z : Int) (u : Int), v = .agg #[.int .i64 x, .int .i64 y, .int .i64 z, .int .i64 u] ∧ (Lit.int .i64 x).wf = true ∧ (Lit.int .i64 y).wf = true ∧ (Lit.int .i64 z).wf = true ∧ (Lit.int .i64 u).wf = true := by
  obtain ⟨cs, rfl, hsz⟩ := okWide_arr Try.underlying101 hval
  obtain ⟨l⟩ := cs
  obtain ⟨fuel, hf⟩ := h
  have hl : l.length = 4 := hsz.trans (by kernel_rfl)
  obtain ⟨n0, y0, t0⟩ := trodE Try.underlying101 hf 0 (by decide) (o := 0) (c := 1) (by kernel_rfl) rfl
  obtain ⟨x, g0, w0⟩ := leafI Try.underlying3 t0
  obtain ⟨n1, y1, t1⟩ := trodE Try.underlying101 hf 1 (by decide) (o := 1) (c := 1) (by kernel_rfl) rfl
  obtain ⟨y, g1, w1⟩ := leafI Try.underlying3 t1
  obtain ⟨n2, y2, t2⟩ := trodE Try.underlying101 hf 2 (by decide) (o := 2) (c := 1) (by kernel_rfl) rfl
  obtain ⟨z, g2, w2⟩ := leafI Try.underlying3 t2
  obtain ⟨n3, y3, t3⟩ := trodE Try.underlying101 hf 3 (by decide) (o := 3) (c := 1) (by kernel_rfl) rfl
  obtain ⟨u, g3, w3⟩ := leafI Try.underlying3 t3
  refine ⟨x, y, z, u, ?_, w0, w1, w2, w3⟩
  clear hval hsz hf t0 t1 t2 t3
  match l, hl with
  | [c0, c1, c2, c3], _ =>
    simp [Value.cells] at g0 g1 g2 g3
    subst g0 g1 g2 g3
    rfl

end Go.Proofs.Ytpmeahmjmpgbfaa
