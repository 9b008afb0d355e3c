/- ARGUMENTS THAT ARE SLICES, READ AT KNOWN PLACES: opened as lists, their rows as blocks of their own; a law at symbols whose arguments hold such slices. -/
import Derived.Test.YtknphpihipkdpaaCxR
import Derived.Test.YtknphpihipkdpaaCxOpen
set_option linter.unusedSimpArgs false
set_option linter.unusedVariables false
namespace Go.Proofs.Ytknphpihipkdpaa.Cx
open Go Go.RowKit Go.ChangeShapes Go.WideShapes Go.Deep Go.Proofs.Ytknphpihipkdpaa

/-! ## Rows of integers -/

/-- The cells of a row. -/
def enFrom : List IntKind → (Nat → Int) → Nat → List Value
  | [], _, _ => []
  | k :: ks, x, i => .int k (x i) :: enFrom ks x (i + 1)
abbrev enR (ks : List IntKind) (x : Nat → Int) : List Value := enFrom ks x 0
def okR (ks : List IntKind) (x : Nat → Int) : Prop := ∀ i k, ks[i]? = some k → (Lit.int k (x i)).wf = true

theorem enFrom_length : ∀ (ks : List IntKind) (x : Nat → Int) (i : Nat), (enFrom ks x i).length = ks.length
  | [], _, _ => rfl
  | _ :: ks, x, i => congrArg Nat.succ (enFrom_length ks x (i + 1))
theorem enFrom_get : ∀ (ks : List IntKind) (x : Nat → Int) (i j : Nat), (enFrom ks x i)[j]? = ks[j]?.map fun k => .int k (x (i + j))
  | [], _, _, _ => by simp [enFrom]
  | k :: ks, x, i, 0 => by simp [enFrom]
  | k :: ks, x, i, j + 1 => by
    simp only [enFrom, List.getElem?_cons_succ]
    rw [enFrom_get ks x (i + 1) j]
    congr 2; funext k; congr 2; omega

theorem sym_rel {ρ : Env} {σ : Mp} {x : Nat → Int} : ∀ (ks : List IntKind) (K i : Nat), (∀ f, f < ks.length → ρ.i (K + f) = x (i + f)) → VRl ρ σ (symCells ks K) (enFrom ks x i)
  | [], _, _, _ => .nil
  | k :: ks, K, i, h => by
    refine .cons ?_ (sym_rel ks (K + 1) (i + 1) fun f hf => ?_)
    · have h0 := h 0 (by simp)
      have : VR ρ σ (.int k (.v K)) (.int k (ρ.i K)) := .int k (.v K)
      rwa [show ρ.i K = x i by simpa using h0] at this
    · have := h (f + 1) (by simpa using hf)
      rw [show K + 1 + f = K + (f + 1) by omega, show i + 1 + f = i + (f + 1) by omega]
      exact this

/-! ## Slices of rows -/

/-- A slice of rows of z cells in the world, read as a list. -/
def SlR {α : Type} (en : α → List Value) (z : Nat) (w : World) (v : Value) (xs : List α) : Prop :=
  ∃ a cap, v = .slice a xs.length cap ∧ xs.length ≤ cap ∧ xs.length ≤ 9223372036854775807 ∧
    (xs = [] ∨ ∃ b off c t p, a = some ⟨b, off, none⟩ ∧ w.heap[b]? = some (.cells c t p) ∧ off + xs.length * z ≤ c.size ∧ (c.toList.drop off).take (xs.length * z) = xs.flatMap en)

theorem cell_cells {w : World} {a : Addr} {u : Value} (h : w.cell? a = some u) : a = ⟨a.block, a.off, none⟩ ∧ ∃ c t p, w.heap[a.block]? = some (.cells c t p) := by
  unfold World.cell? at h
  split at h
  · rename_i c e f hh
    split at h
    · cases h
    · rename_i hs
      refine ⟨?_, c, e, f, hh⟩
      have : a.spot = none := by simpa using hs
      obtain ⟨b, o, s⟩ := a
      simp only at this
      subst this
      rfl
  · cases h

theorem cell_at {w : World} {b o : Nat} {c : Array Value} {t : TypeId} {p : Nat × Nat} (h : w.heap[b]? = some (.cells c t p)) : w.cell? ⟨b, o, none⟩ = c[o]? := by
  simp [World.cell?, h]

section
variable {H : Type} {enc : TypeId × Value → H} {P : Program} {w : World} {base : Nat} {spare : Nat → Bool} {held : Bool}

theorem sl_open {α : Type} {en : α → List Value} {ok : α → Prop} {z : Nat} {t e : TypeId} {fuel : Nat} {cs : List Value} {y : DataW H × List MemPlace} (hz1 : 1 ≤ z) (hz : ∀ x, (en x).length = z) (ht : P.underlying t = some (.slice e)) (hc : P.cellsOf e = z)
    (hE : ∀ n cs y, cs.length = z → DataW.trod enc P w base spare held n e cs = some y → ∃ x, cs = en x ∧ ok x) (h : DataW.trod enc P w base spare held fuel t cs = some y) :
    ∃ v xs, cs = [v] ∧ SlR en z w v xs ∧ ∀ x ∈ xs, ok x := by
  rcases DataW.trod_slice ht h with ⟨h0, _⟩ | ⟨a, len, cap, elems, rest, n, _, h0, _, _, hl, hm, hlen, hel, _, _⟩
  · exact ⟨_, [], h0, ⟨none, 0, rfl, Nat.zero_le _, Nat.zero_le _, .inl rfl⟩, fun x hx => by cases hx⟩
  · have each : ∀ i, i < len → ∃ x, ok x ∧ w.cells? base (a.add (i * z)) z = some (en x) := by
      intro i hi
      have h1 := hel i hi
      rw [hc, List.getElem?_eq_getElem (by omega), Option.bind_eq_some_iff] at h1
      obtain ⟨cs', hcs, hy⟩ := h1
      obtain ⟨_, hl', hcell⟩ := World.cells?_some hcs
      obtain ⟨x, rfl, hx⟩ := hE _ cs' _ hl' hy
      exact ⟨x, hx, hcs⟩
    refine ⟨_, List.ofFn (fun i : Fin len => Classical.choose (each i i.2)), h0, ⟨some a, cap, by rw [List.length_ofFn], by rw [List.length_ofFn]; exact hl, by rw [List.length_ofFn]; unfold maxLen at hm; omega, ?_⟩, fun x hx => ?_⟩
    · by_cases hz0 : len = 0
      · subst hz0; exact .inl rfl
      · right
        have get : ∀ i (hi : i < len) j, j < z → w.cell? ((a.add (i * z)).add j) = (en (Classical.choose (each i hi)))[j]? := by
          intro i hi j hj
          exact (World.cells?_some (Classical.choose_spec (each i hi)).2).2.2 j hj
        have c0 := get 0 (by omega) 0 (by omega)
        rw [List.getElem?_eq_getElem (by rw [hz]; omega)] at c0
        have a00 : (a.add (0 * z)).add 0 = a := by simp [Addr.add]
        rw [a00] at c0
        obtain ⟨ea, c, t', p, hh⟩ := cell_cells c0
        have eadd : ∀ i j, (a.add i).add j = ⟨a.block, a.off + i + j, none⟩ := by
          intro i j
          rw [ea, add_none, add_none]
        have hcell : ∀ i (hi : i < len) j, j < z → c[a.off + i * z + j]? = (en (Classical.choose (each i hi)))[j]? := by
          intro i hi j hj
          rw [← cell_at hh, ← eadd]; exact get i hi j hj
        have key : ∀ n, n ≤ len → a.off + n * z ≤ c.size ∧ (c.toList.drop a.off).take (n * z) = ((List.ofFn (fun i : Fin len => Classical.choose (each i i.2))).take n).flatMap en := by
          intro n
          induction n with
          | zero =>
            intro _
            have hlt : a.off < c.size := by
              have := hcell 0 (by omega) 0 (by omega)
              rw [List.getElem?_eq_getElem (by rw [hz]; omega)] at this
              have := (Array.getElem?_eq_some_iff.1 this).1
              simpa using this
            exact ⟨by simp; omega, by simp⟩
          | succ n ih =>
            intro hn
            obtain ⟨i1, i2⟩ := ih (by omega)
            have row : (c.toList.drop (a.off + n * z)).take z = en (Classical.choose (each n (by omega))) := by
              apply List.ext_getElem?
              intro j
              by_cases hj : j < z
              · rw [List.getElem?_take_of_lt hj, List.getElem?_drop, Array.getElem?_toList]
                exact hcell n (by omega) j hj
              · rw [List.getElem?_eq_none (by simp; omega), List.getElem?_eq_none (by rw [hz]; omega)]
            have hlast : a.off + n * z + (z - 1) < c.size := by
              have := hcell n (by omega) (z - 1) (by omega)
              rw [List.getElem?_eq_getElem (by rw [hz]; omega)] at this
              exact (Array.getElem?_eq_some_iff.1 this).1
            refine ⟨by rw [Nat.succ_mul]; omega, ?_⟩
            rw [Nat.succ_mul, List.take_add, i2, List.drop_drop, row, List.take_add_one, List.flatMap_append, List.getElem?_ofFn, dif_pos (by omega)]
            simp
        obtain ⟨k1, k2⟩ := key len (Nat.le_refl _)
        refine ⟨a.block, a.off, c, t', p, by rw [← ea], hh, by rw [List.length_ofFn]; exact k1, ?_⟩
        rw [List.length_ofFn, k2, List.take_of_length_le (by simp)]
    · obtain ⟨i, rfl⟩ := List.mem_ofFn.1 hx
      exact (Classical.choose_spec (each i i.2)).1

end

section
variable {H : Type} {enc : TypeId × Value → H} {P : Program} {w : World} {base : Nat} {spare : Nat → Bool} {held : Bool}

/-- A row that is an array of integers. -/
theorem row_arr {t e : TypeId} {m : Nat} {k : IntKind} (ht : P.underlying t = some (.array m e)) (he : P.underlying e = some (.int k)) (hc : P.cellsOf e = 1) :
    ∀ n cs y, cs.length = m → DataW.trod enc P w base spare held n t cs = some y → ∃ x, cs = enR (List.replicate m k) x ∧ okR (List.replicate m k) x := by
  intro n cs y hl h
  have each : ∀ i, i < m → ∃ z, cs[i]? = some (.int k z) ∧ (Lit.int k z).wf = true := fun i hi => by
    obtain ⟨n', y', h'⟩ := trodE ht h i hi (o := i) hc (by omega)
    exact leafI he h'
  refine ⟨fun i => match cs[i]? with | some (.int _ z) => z | _ => 0, ?_, ?_⟩
  · apply List.ext_getElem?
    intro i
    rw [enFrom_get, List.getElem?_replicate]
    by_cases hi : i < m
    · obtain ⟨z, hz, _⟩ := each i hi
      rw [if_pos hi, hz]
      simp [hz]
    · rw [if_neg hi, List.getElem?_eq_none (by omega)]; rfl
  · intro i k' hk
    rw [List.getElem?_replicate] at hk
    split at hk
    · rename_i hi
      cases hk
      obtain ⟨z, hz, hw⟩ := each i hi
      simpa [hz] using hw
    · cases hk
/-- A row that is an integer. -/
theorem row_int {t : TypeId} {k : IntKind} (ht : P.underlying t = some (.int k)) :
    ∀ n cs y, cs.length = 1 → DataW.trod enc P w base spare held n t cs = some y → ∃ x, cs = enR [k] x ∧ okR [k] x := by
  intro n cs y hl h
  match cs, hl with
  | [c], _ =>
    obtain ⟨z, hz, hw⟩ := leafI (i := 0) (l := [c]) ht (by simpa using h)
    refine ⟨fun _ => z, ?_, ?_⟩
    · have : c = .int k z := by simpa using hz
      rw [this]; rfl
    · intro i k' hk
      cases i with
      | zero => cases hk; exact hw
      | succ i => simp at hk

theorem open_rows {t e : TypeId} {ks : List IntKind} {r : Reach} {b0 : Nat} {v : Value} {d : DataW H} {p : List MemPlace} (ht : P.underlying t = some (.slice e)) (hz1 : 1 ≤ ks.length) (hc : P.cellsOf e = ks.length)
    (hE : ∀ n cs y, cs.length = ks.length → DataW.trod enc P w base spare held n e cs = some y → ∃ x, cs = enR ks x ∧ okR ks x)
    (hval : Value.okWide P w r b0 t v) (h : DataW.Trod enc P w base spare held t v d p) : ∃ xs : List (Nat → Int), SlR (enR ks) ks.length w v xs ∧ ∀ x ∈ xs, okR ks x := by
  obtain ⟨a, len, cap, rfl⟩ := okWide_slice ht hval
  obtain ⟨fuel, hf⟩ := h
  obtain ⟨v', xs, h1, h2, h3⟩ := sl_open (en := enR ks) (ok := okR ks) hz1 (fun x => enFrom_length _ _ _) ht hc hE hf
  obtain rfl : Value.slice a len cap = v' := by simpa [Value.cells] using h1
  exact ⟨xs, h2, h3⟩
/-- A cell of a struct that is such a slice. -/
theorem leaf_rows {t e : TypeId} {ks : List IntKind} {i n : Nat} {l : List Value} {y : DataW H × List MemPlace} (ht : P.underlying t = some (.slice e)) (hz1 : 1 ≤ ks.length) (hc : P.cellsOf e = ks.length)
    (hE : ∀ n cs y, cs.length = ks.length → DataW.trod enc P w base spare held n e cs = some y → ∃ x, cs = enR ks x ∧ okR ks x)
    (h : DataW.trod enc P w base spare held n t ((l.drop i).take 1) = some y) : ∃ v xs, l[i]? = some v ∧ SlR (enR ks) ks.length w v xs ∧ ∀ x ∈ xs, okR ks x := by
  obtain ⟨v', xs, h1, h2, h3⟩ := sl_open (en := enR ks) (ok := okR ks) hz1 (fun x => enFrom_length _ _ _) ht hc hE h
  exact ⟨v', xs, head_of h1, h2, h3⟩
end

/-! ## Blocks that are read alone -/

noncomputable def curOf (h : Tr Blk) (base : Nat) : Cur := fun b => if b < base then h.get b else none

section
variable {P : Program} {ρ : Env}

/-- A block that is read alone, where it lies. -/
structure ArgAt (ρ : Env) (w : World) (k : Blk) (lo : Option Loc) : Prop where
  live : k.live = true
  ro : k.ro = true
  ext : k.ext = none
  at' : ∀ l, lo = some l → ∃ c t p, w.heap[l.blk]? = some (.cells c t p) ∧ c.size = l.size ∧ k.esz = l.esz ∧ l.base + k.cells.length ≤ l.size ∧ ∀ σ, VRl ρ σ k.cells ((c.toList.drop l.base).take k.cells.length)

theorem HR.ofArgs {h : Tr Blk} {base : Nat} {σ : Mp} {w : World} (ha : ∀ i k, i < base → h.get i = some k → ArgAt ρ w k (σ i)) : HR ρ σ (curOf h base) w := by
  have get : ∀ b k, curOf h base b = some k → ArgAt ρ w k (σ b) := fun b k hk => by
    unfold curOf at hk
    split at hk
    · rename_i hb; exact ha b k hb hk
    · cases hk
  refine ⟨fun b k l a1 a2 a3 => ?_, fun b b' k k' l l' a1 a2 a3 a4 a5 a6 a7 a8 => ?_, fun b k x l a1 a2 a3 => ?_, fun b b' k k' x x' l l' a1 a2 a3 a4 a5 a6 a7 => ?_⟩
  · have := get b k a1
    obtain ⟨c, t, p, q1, q2, q3, q4, q5⟩ := this.at' l a3
    exact ⟨c, t, p, q1, (fun h => by rw [this.ro] at h; cases h), q2, q3, q4, q5 σ⟩
  · rw [(get b k a1).ro, (get b' k' a4).ro] at a8
    rcases a8 with h | h <;> cases h
  · rw [(get b k a1).ext] at a2; cases a2
  · rw [(get b k a1).ext] at a2; cases a2


/-- Where a slice's row lies. -/
noncomputable def rowLoc (w : World) (v : Value) (z i : Nat) : Option Loc :=
  match v with
  | .slice (some a) n _ => if i < n then (match w.heap[a.block]? with
    | some (.cells c _ _) => some ⟨a.block, a.off + i * z, c.size, z⟩
    | _ => none) else none
  | _ => none

theorem SlR.slr {ks : List IntKind} {w : World} {v : Value} {xs : List (Nat → Int)} {σ : Mp} {b N : Nat} {e : IE} (h : SlR (enR ks) ks.length w v xs) (he : e.den ρ = xs.length) (hσ : ∀ i, i < N → σ (b + i) = rowLoc w v ks.length i) : VR ρ σ (.slr b ks.length N e) v := by
  obtain ⟨a, cap, rfl, hcap, _, hx⟩ := h
  refine .slr _ _ he fun i h1 h2 => ?_
  rcases hx with rfl | ⟨bl, off, c, t, p, rfl, hh, hsz, hrow⟩
  · simp at h1
  · exact ⟨⟨bl, off + i * ks.length, c.size, ks.length⟩, off, rfl, rfl, by rw [hσ i h2]; simp [rowLoc, h1, hh]⟩

theorem flat_row {α : Type} {en : α → List Value} {z : Nat} (hz : ∀ x, (en x).length = z) : ∀ (xs : List α) (i : Nat) (h : i < xs.length), ((xs.flatMap en).drop (i * z)).take z = en xs[i]
  | x :: xs, 0, _ => by
    simp only [List.flatMap_cons, Nat.zero_mul, List.drop_zero, List.getElem_cons_zero]
    rw [List.take_append_of_le_length (by rw [hz]; exact Nat.le_refl _), List.take_of_length_le (by rw [hz]; exact Nat.le_refl _)]
  | x :: xs, i + 1, h => by
    have ih := flat_row hz xs i (by simpa using h)
    simp only [List.flatMap_cons, List.getElem_cons_succ]
    rw [show (i + 1) * z = (en x).length + i * z by rw [hz, Nat.succ_mul, Nat.add_comm], ← List.drop_drop, List.drop_left]
    exact ih

theorem SlR.rowAt {ks : List IntKind} {w : World} {v : Value} {xs : List (Nat → Int)} (h : SlR (enR ks) ks.length w v xs) (i K : Nat) (hx : ∀ f, f < ks.length → ρ.i (K + f) = (xs.getD i (fun _ => 0)) f) : ArgAt ρ w (rowB ks K) (rowLoc w v ks.length i) := by
  refine ⟨rfl, rfl, rfl, fun l hl => ?_⟩
  obtain ⟨a, cap, rfl, hcap, _, hy⟩ := h
  rcases hy with rfl | ⟨bl, off, c, t, p, rfl, hh, hsz, hrow⟩
  · cases a <;> simp [rowLoc] at hl
  · simp only [rowLoc] at hl
    split at hl
    · rename_i hi
      rw [hh] at hl
      obtain rfl := Option.some.inj hl
      have hcl : Blk.cells (rowB ks K) = symCells ks K := by simp [Blk.cells, rowB, BC.list, flatR]
      have hln : (symCells ks K).length = ks.length := (symCells_ok ks K).1
      have hmul : i * ks.length + ks.length ≤ xs.length * ks.length := by rw [← Nat.succ_mul]; exact Nat.mul_le_mul_right _ hi
      refine ⟨c, t, p, hh, rfl, rfl, by rw [hcl, hln]; show off + i * ks.length + ks.length ≤ c.size; omega, fun σ => ?_⟩
      rw [hcl, hln]
      have e1 : ((c.toList.drop (off + i * ks.length)).take ks.length) = enR ks xs[i] := by
        rw [← flat_row (en := enR ks) (fun x => enFrom_length _ _ _) xs i hi, ← hrow, List.drop_take, List.take_take, List.drop_drop, Nat.min_eq_left (by omega)]
      show VRl ρ σ (symCells ks K) ((c.toList.drop (off + i * ks.length)).take ks.length)
      rw [e1]
      refine sym_rel ks K 0 fun f hf => ?_
      rw [hx f hf, List.getD_eq_getElem?_getD, List.getElem?_eq_getElem hi, Nat.zero_add]
      rfl
    · cases hl

theorem SlR.len {ks : List IntKind} {w : World} {v : Value} {xs : List (Nat → Int)} (h : SlR (enR ks) ks.length w v xs) : 0 ≤ (xs.length : Int) ∧ (xs.length : Int) ≤ 9223372036854775807 := by
  obtain ⟨a, cap, rfl, hcap, hl, _⟩ := h
  exact ⟨by omega, by omega⟩
theorem okR_wf {ks : List IntKind} {xs : List (Nat → Int)} (h : ∀ x ∈ xs, okR ks x) (i f : Nat) (k : IntKind) (hk : ks[f]? = some k) (h0 : (Lit.int k 0).wf = true) : (Lit.int k ((xs.getD i (fun _ => 0)) f)).wf = true := by
  by_cases hi : i < xs.length
  · rw [List.getD_eq_getElem?_getD, List.getElem?_eq_getElem hi]
    exact h _ (List.getElem_mem hi) f k hk
  · rw [List.getD_eq_getElem?_getD, List.getElem?_eq_none (by omega)]
    exact h0

/-! ## Laws -/

noncomputable def runOf2 (C : Ctx) (m base : Nat) (h0 : Tr Blk) (f : Nat) (args : List CV) (o : List Nat) : Option (BE × List PC) :=
  match eval C m base (.call f args) ⟨h0, base, o, []⟩ with
  | some ⟨.val (.bool e), s', _, []⟩ => some (e, s'.pc)
  | _ => none

/-- A law at symbols whose arguments hold slices that are read alone. -/
theorem law_of2 {C : Ctx} (hC : CtxOk3 P C) (hM : MemoOk P C ρ) {m f base : Nat} {h0 : Tr Blk} {args : List CV} {args' : Array Value} {t : DT} {σ : Mp} {w : World} (ht : t.ok (runOf2 C m base h0 f args) [] [] = true) (hg : t.good ρ)
    (ha : VRl ρ σ args args'.toList) (hH : HR ρ σ (curOf h0 base) w) (hN : ∀ b, base ≤ b → σ b = none) : Calls P f args' w fun e w' => e = .returned (.bool true) ∧ Below w.heap.size w w' := by
  obtain ⟨o, e, p', hr, he, hp⟩ := DT.sound t [] [] ht hg (fun q hq => by cases hq)
  unfold runOf2 at hr
  split at hr
  · rename_i e1 s' R hev
    cases hr
    have k := (eval_ok (ρ := ρ) hC hM m).call _ _ _ _ _ _ _ _ hev
    have hlt := k.lt
    have := k.run 0 σ (curOf h0 base) w args' hp ha hH (fun b hb => by
      have : b < base := by
        rcases hb with hb | hb
        · exact hlt.1 b hb
        · exact hlt.2 b hb
      show (if b < base then h0.get b else none) = h0.get b
      rw [if_pos this]) (fun b h1 _ => hN b h1)
    refine ((this.calls (fun k d h => by cases h)).mono ?_)
    rintro e w' ⟨v, rfl, σ', h1, h2, h3, h4, h5⟩
    cases h2
    exact ⟨by rw [he], h4.os, h4.tape, h4.output, h4.size, fun k hk => h4.block k hk (fun b hb l hl => by
      rcases hb with hb | hb
      · cases hb
      · rw [hN b hb] at hl; cases hl)⟩
  · cases hr

end

/-! ## Several such slices -/

/-- A slice argument: how many of its rows are blocks, a row's kinds, the slice, its rows. -/
structure Sl where
  N : Nat
  ks : List IntKind
  v : Value
  xs : List (Nat → Int)

noncomputable def heapOf : List (Nat × List IntKind) → (b K : Nat) → Tr Blk
  | [], _, _ => .nil
  | (N, ks) :: l, b, K => rowsB ks N b K (heapOf l (b + N) (K + N * ks.length))
def rowEnv : List Sl → Nat → Int
  | [], _ => 0
  | s :: l, n => if n < s.N * s.ks.length then (s.xs.getD (n / s.ks.length) (fun _ => 0)) (n % s.ks.length) else rowEnv l (n - s.N * s.ks.length)
def envOf (pl : List Int) (S : List Sl) (n : Nat) : Int := if n < pl.length then pl.getD n 0 else rowEnv S (n - pl.length)
noncomputable def sigOf (w : World) : List Sl → Mp
  | [], _ => none
  | s :: l, b => if b < s.N then rowLoc w s.v s.ks.length b else sigOf w l (b - s.N)

theorem rowsB_get (ks : List IntKind) : ∀ (N b K : Nat) (t : Tr Blk) (i : Nat), (rowsB ks N b K t).get i = if b ≤ i ∧ i < b + N then some (rowB ks (K + (i - b) * ks.length)) else t.get i
  | 0, b, K, t, i => by rw [if_neg (by omega)]; rfl
  | N + 1, b, K, t, i => by
    show (rowsB ks N (b + 1) (K + ks.length) (t.set b (rowB ks K))).get i = _
    rw [rowsB_get ks N (b + 1), Tr.get_set]
    by_cases h : i = b
    · subst h
      rw [if_neg (by omega), if_pos rfl, if_pos ⟨by omega, by omega⟩, Nat.sub_self, Nat.zero_mul, Nat.add_zero]
    · by_cases h2 : b + 1 ≤ i ∧ i < b + 1 + N
      · rw [if_pos h2, if_pos ⟨by omega, by omega⟩]
        congr 2
        rw [show i - b = (i - (b + 1)) + 1 by omega, Nat.succ_mul]
        omega
      · rw [if_neg h2, if_neg h, if_neg (by omega)]

theorem args_at {ρ : Env} {w : World} {k : Blk} : ∀ (S : List Sl) (b K i : Nat), (∀ s ∈ S, SlR (enR s.ks) s.ks.length w s.v s.xs ∧ 1 ≤ s.ks.length) → (∀ n, ρ.i (K + n) = rowEnv S n) → b ≤ i → (heapOf (S.map fun s => (s.N, s.ks)) b K).get i = some k → ArgAt ρ w k (sigOf w S (i - b))
  | [], b, K, i, _, _, _, h => by cases h
  | s :: l, b, K, i, hS, hρ, hb, h => by
    have hs := hS s (by simp)
    simp only [List.map_cons, heapOf] at h
    rw [rowsB_get] at h
    by_cases hi : b ≤ i ∧ i < b + s.N
    · rw [if_pos hi] at h
      obtain rfl := Option.some.inj h
      have e : sigOf w (s :: l) (i - b) = rowLoc w s.v s.ks.length (i - b) := if_pos (by omega)
      rw [e]
      refine hs.1.rowAt (i - b) _ fun f hf => ?_
      rw [Nat.add_assoc, hρ]
      have hlt : (i - b) * s.ks.length + f < s.N * s.ks.length := by
        have : (i - b + 1) * s.ks.length ≤ s.N * s.ks.length := Nat.mul_le_mul_right _ (by omega)
        rw [Nat.succ_mul] at this
        omega
      show (if _ < s.N * s.ks.length then _ else _) = _
      rw [if_pos hlt]
      have e1 : ((i - b) * s.ks.length + f) / s.ks.length = i - b := by
        rw [Nat.add_comm, Nat.add_mul_div_right _ _ (by omega), Nat.div_eq_of_lt hf, Nat.zero_add]
      have e2 : ((i - b) * s.ks.length + f) % s.ks.length = f := by
        rw [Nat.add_comm, Nat.add_mul_mod_self_right, Nat.mod_eq_of_lt hf]
      rw [e1, e2]
    · rw [if_neg hi] at h
      have e : sigOf w (s :: l) (i - b) = sigOf w l (i - (b + s.N)) := by
        show (if i - b < s.N then _ else sigOf w l (i - b - s.N)) = _
        rw [if_neg (by omega), Nat.sub_sub]
      rw [e]
      refine args_at l (b + s.N) (K + s.N * s.ks.length) i (fun s' hs' => hS s' (List.mem_cons_of_mem _ hs')) (fun n => ?_) (by omega) h
      rw [Nat.add_assoc, hρ]
      show (if s.N * s.ks.length + n < s.N * s.ks.length then _ else rowEnv l (s.N * s.ks.length + n - s.N * s.ks.length)) = _
      rw [if_neg (by omega), Nat.add_sub_cancel_left]

theorem args_HR {ρ : Env} {w : World} {base : Nat} (pl : List Int) (S : List Sl) (hρ : ρ.i = envOf pl S) (hS : ∀ s ∈ S, SlR (enR s.ks) s.ks.length w s.v s.xs ∧ 1 ≤ s.ks.length) : HR ρ (sigOf w S) (curOf (heapOf (S.map fun s => (s.N, s.ks)) 0 pl.length) base) w := by
  refine HR.ofArgs fun i k _ hk => ?_
  have := args_at (ρ := ρ) S 0 pl.length i hS (fun n => ?_) (Nat.zero_le _) hk
  · simpa using this
  · rw [hρ]
    show (if pl.length + n < pl.length then _ else rowEnv S (pl.length + n - pl.length)) = _
    rw [if_neg (by omega), Nat.add_sub_cancel_left]

theorem sig_none {w : World} : ∀ (S : List Sl) (b : Nat), (S.map (·.N)).sum ≤ b → sigOf w S b = none
  | [], _, _ => rfl
  | s :: l, b, h => by
    simp only [List.map_cons, List.sum_cons] at h
    show (if b < s.N then _ else sigOf w l (b - s.N)) = none
    rw [if_neg (by omega)]
    exact sig_none l _ (by omega)
theorem sig_here {w : World} {s : Sl} {l : List Sl} {i : Nat} (h : i < s.N) : sigOf w (s :: l) i = rowLoc w s.v s.ks.length i := if_pos h
theorem sig_skip {w : World} {s : Sl} {l : List Sl} {i N : Nat} (h : s.N = N) : sigOf w (s :: l) (N + i) = sigOf w l i := by
  subst h
  show (if s.N + i < s.N then _ else sigOf w l (s.N + i - s.N)) = _
  rw [if_neg (by omega), Nat.add_sub_cancel_left]
end Go.Proofs.Ytknphpihipkdpaa.Cx
