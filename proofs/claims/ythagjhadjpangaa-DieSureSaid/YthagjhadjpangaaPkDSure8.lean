/- ARGUMENTS OF LAWS, OPENED BY THEIR TYPES: integers, bools, structs, arrays, and slices of rows of integers and bools (a table each); the memory in which these lie. -/
import Derived.Test.YthagjhadjpangaaPkDSure7

namespace Go.Proofs.Ythagjhadjpangaa.Cx
set_option linter.unusedSimpArgs false
set_option linter.unusedVariables false
open Go Go.RowKit Go.ChangeShapes Go.WideShapes Go.Deep Go.Proofs.Ythagjhadjpangaa
/-! ## What the cells of a type are -/
inductive CK where
  | int (k : IntKind)
  | bool
  | tab (ks : List (Option IntKind))
def flatCK : List CK → Option (List (Option IntKind))
  | [] => some []
  | .int k :: l => match flatCK l with | some m => some (some k :: m) | none => none
  | .bool :: l => match flatCK l with | some m => some (none :: m) | none => none
  | .tab _ :: _ => none
def ckFs (P : Program) (f : TypeId → Option (List CK)) : Nat → List Field → Option (List CK)
  | _, [] => some []
  | off, fd :: l => match f fd.type with
    | some ks => bif Nat.beq fd.offset off && Nat.beq (P.cellsOf fd.type) ks.length then (match ckFs P f (off + ks.length) l with | some m => some (ks ++ m) | none => none) else none
    | none => none
def repL {α : Type} : Nat → List α → List α
  | 0, _ => []
  | n + 1, l => repL n l ++ l
def ckOf (P : Program) : Nat → TypeId → Option (List CK)
  | 0, _ => none
  | d + 1, t => match P.underlying t with
    | some (.int k) => some [.int k]
    | some .bool => some [.bool]
    | some (.struct fs) => match ckFs P (ckOf P d) 0 fs.toList with
      | some ks => bif Nat.beq (P.cellsOf t) ks.length then some ks else none
      | none => none
    | some (.array n e) => match ckOf P d e with
      | some ks => bif Nat.beq (P.cellsOf e) ks.length && Nat.beq (P.cellsOf t) (n * ks.length) then some (repL n ks) else none
      | none => none
    | some (.slice e) => match ckOf P d e with
      | some ks => match flatCK ks with
        | some l => bif Nat.beq (P.cellsOf e) l.length && Nat.blt 0 l.length then some [.tab l] else none
        | none => none
      | none => none
    | _ => none
/-! ## Rows -/
/-- The cells of a row: integers and bools, by their places. -/
structure RowV where
  c : Nat → Int
  g : Nat → Bool
def RowV.zero : RowV := ⟨fun _ => 0, fun _ => false⟩
def enV (r : RowV) : List (Option IntKind) → Nat → List Value
  | [], _ => []
  | some k :: ks, j => .int k (r.c j) :: enV r ks (j + 1)
  | none :: ks, j => .bool (r.g j) :: enV r ks (j + 1)
def okV (ks : List (Option IntKind)) (r : RowV) : Prop := ∀ j k, ks[j]? = some (some k) → (Lit.int k (r.c j)).wf = true
theorem enV_length (r : RowV) : ∀ (ks : List (Option IntKind)) (j : Nat), (enV r ks j).length = ks.length
  | [], _ => rfl
  | some k :: ks, j => congrArg Nat.succ (enV_length r ks (j + 1))
  | none :: ks, j => congrArg Nat.succ (enV_length r ks (j + 1))
/-- The cells of an argument: such, and slices of rows. -/
structure RowW where
  c : Nat → Int
  g : Nat → Bool
  s : Nat → Value
  t : Nat → List RowV
def enW (r : RowW) : List CK → Nat → List Value
  | [], _ => []
  | .int k :: ks, j => .int k (r.c j) :: enW r ks (j + 1)
  | .bool :: ks, j => .bool (r.g j) :: enW r ks (j + 1)
  | .tab _ :: ks, j => r.s j :: enW r ks (j + 1)
/-- A slice of such rows. -/
def SlT (ks : List (Option IntKind)) (w : World) (v : Value) (xs : List RowV) : Prop := SlR (fun r => enV r ks 0) ks.length w v xs ∧ ∀ x ∈ xs, okV ks x
def cellW (w : World) : CK → Value → Prop
  | .int k, v => ∃ z, v = .int k z ∧ (Lit.int k z).wf = true
  | .bool, v => ∃ b, v = .bool b
  | .tab ks, v => ∃ xs, SlT ks w v xs
inductive Mt (w : World) : List CK → List Value → Prop
  | nil : Mt w [] []
  | cons {k : CK} {v : Value} {ks : List CK} {vs : List Value} (h : cellW w k v) (t : Mt w ks vs) : Mt w (k :: ks) (v :: vs)
theorem Mt.append {w : World} {a b : List CK} {x y : List Value} (h : Mt w a x) (h' : Mt w b y) : Mt w (a ++ b) (x ++ y) := by
  induction h with
  | nil => exact h'
  | cons h _ ih => exact .cons h ih
theorem Mt.length {w : World} {a : List CK} {x : List Value} (h : Mt w a x) : x.length = a.length := by
  induction h with
  | nil => rfl
  | cons h _ ih => simp [ih]
/-- What the cells' places hold. -/
noncomputable def rowW (w : World) (ks : List CK) (vs : List Value) : RowW :=
  ⟨fun j => match vs[j]? with | some (.int _ z) => z | _ => 0, fun j => match vs[j]? with | some (.bool b) => b | _ => false, fun j => vs.getD j (.bool false),
   fun j => match ks[j]? with | some (.tab l) => @dite _ (∃ xs, SlT l w (vs.getD j (.bool false)) xs) (Classical.propDecidable _) (fun h => Classical.choose h) (fun _ => []) | _ => []⟩
def okW (w : World) (ks : List CK) (r : RowW) : Prop := (∀ j k, ks[j]? = some (.int k) → (Lit.int k (r.c j)).wf = true) ∧ ∀ j l, ks[j]? = some (.tab l) → SlT l w (r.s j) (r.t j)
theorem Mt.get {w : World} {ks : List CK} {vs : List Value} (h : Mt w ks vs) : ∀ {j : Nat} {k : CK}, ks[j]? = some k → ∃ v, vs[j]? = some v ∧ cellW w k v := by
  induction h with
  | nil => intro j k h; simp at h
  | cons h _ ih =>
    intro j k hj
    cases j with
    | zero => simp at hj; subst hj; exact ⟨_, rfl, h⟩
    | succ j => simpa using ih (by simpa using hj)
theorem Mt.row {w : World} {ks : List CK} {vs : List Value} (h : Mt w ks vs) : vs = enW (rowW w ks vs) ks 0 ∧ okW w ks (rowW w ks vs) := by
  have key : ∀ (n : Nat) (pre post : List CK) (a b : List Value), ks = pre ++ post → vs = a ++ b → a.length = pre.length → b.length = post.length → post.length = n → b = enW (rowW w ks vs) post pre.length := by
    intro n
    induction n with
    | zero =>
      intro pre post a b h1 h2 h3 h4 h5
      cases post with
      | nil => cases b with
        | nil => rfl
        | cons x b => simp at h4
      | cons x l => simp at h5
    | succ n ih =>
      intro pre post a b h1 h2 h3 h4 h5
      cases post with
      | nil => simp at h5
      | cons k post =>
        cases b with
        | nil => simp at h4
        | cons v b =>
          have hk : ks[pre.length]? = some k := by rw [h1]; simp
          have hv : vs[pre.length]? = some v := by rw [h2, ← h3]; simp
          obtain ⟨v', hv', hc⟩ := h.get hk
          rw [hv] at hv'
          obtain rfl := Option.some.inj hv'
          have ih' := ih (pre ++ [k]) post (a ++ [v]) b (by simp [h1]) (by simp [h2]) (by simp [h3]) (by simpa using h4) (by simpa using h5)
          rw [List.length_append, List.length_singleton] at ih'
          have hd : vs.getD pre.length (.bool false) = v := by rw [List.getD_eq_getElem?_getD, hv]; rfl
          cases k with
          | int k =>
            obtain ⟨z, rfl, _⟩ := hc
            rw [enW, ← ih']
            congr 1
            simp [rowW, hv]
          | bool =>
            obtain ⟨z, rfl⟩ := hc
            rw [enW, ← ih']
            congr 1
            simp [rowW, hv]
          | tab l =>
            rw [enW, ← ih']
            congr 1
            exact hd.symm
  refine ⟨key ks.length [] ks [] vs rfl rfl rfl h.length rfl, fun j k hk => ?_, fun j l hl => ?_⟩
  · obtain ⟨v, hv, z, rfl, hz⟩ := h.get hk
    simpa [rowW, hv] using hz
  · obtain ⟨v, hv, xs, hx⟩ := h.get hl
    have hd : vs.getD j (.bool false) = v := by rw [List.getD_eq_getElem?_getD, hv]; rfl
    have hex : ∃ xs, SlT l w (vs.getD j (.bool false)) xs := ⟨xs, by rw [hd]; exact hx⟩
    have e : (rowW w ks vs).t j = Classical.choose hex := by
      simp only [rowW, hl]
      rw [dif_pos hex]
    rw [e]
    exact Classical.choose_spec hex
/-- Cells of a row, as a row. -/
theorem Mt.flat {w : World} {cks : List CK} {vs : List Value} (h : Mt w cks vs) : ∀ {ks : List (Option IntKind)}, flatCK cks = some ks → ∃ r : RowV, vs = enV r ks 0 ∧ okV ks r := by
  have key : ∀ {cks : List CK} {vs : List Value}, Mt w cks vs → ∀ {ks : List (Option IntKind)}, flatCK cks = some ks → ∀ (r : RowV) (j : Nat), ∃ r' : RowV, vs = enV r' ks j ∧ (∀ i k, ks[i]? = some (some k) → (Lit.int k (r'.c (j + i))).wf = true) ∧ ∀ i, i < j → r'.c i = r.c i ∧ r'.g i = r.g i := by
    intro cks vs h
    induction h with
    | nil =>
      intro ks hk r j
      simp only [flatCK] at hk
      cases hk
      exact ⟨r, rfl, fun i k h => by simp at h, fun i _ => ⟨rfl, rfl⟩⟩
    | @cons k v cks vs hc _ ih =>
      intro ks hk r j
      cases k with
      | int k =>
        simp only [flatCK] at hk
        split at hk
        · rename_i m hm
          cases hk
          obtain ⟨z, rfl, hz⟩ := hc
          obtain ⟨r', h1, h2, h3⟩ := ih hm ⟨fun i => if i = j then z else r.c i, r.g⟩ (j + 1)
          have hj := h3 j (by omega)
          simp only [if_true] at hj
          refine ⟨r', by rw [enV, hj.1, ← h1], fun i k' hk' => ?_, fun i hi => ?_⟩
          · cases i with
            | zero => simp at hk'; subst hk'; rw [Nat.add_zero, hj.1]; exact hz
            | succ i => have := h2 i k' (by simpa using hk'); rwa [show j + 1 + i = j + (i + 1) by omega] at this
          · have := h3 i (by omega)
            simp only [if_neg (show i ≠ j by omega)] at this
            exact this
        · cases hk
      | bool =>
        simp only [flatCK] at hk
        split at hk
        · rename_i m hm
          cases hk
          obtain ⟨z, rfl⟩ := hc
          obtain ⟨r', h1, h2, h3⟩ := ih hm ⟨r.c, fun i => if i = j then z else r.g i⟩ (j + 1)
          have hj := h3 j (by omega)
          simp only [if_true] at hj
          refine ⟨r', by rw [enV, hj.2, ← h1], fun i k' hk' => ?_, fun i hi => ?_⟩
          · cases i with
            | zero => simp at hk'
            | succ i => have := h2 i k' (by simpa using hk'); rwa [show j + 1 + i = j + (i + 1) by omega] at this
          · have := h3 i (by omega)
            simp only [if_neg (show i ≠ j by omega)] at this
            exact this
        · cases hk
      | tab l => simp [flatCK] at hk
  intro ks hk
  obtain ⟨r', h1, h2, _⟩ := key h hk RowV.zero 0
  exact ⟨r', h1, fun j k hj => by have := h2 j k hj; rwa [Nat.zero_add] at this⟩
section
variable {H : Type} {enc : TypeId × Value → H} {P : Program} {w : World} {base : Nat} {spare : Nat → Bool} {held : Bool}
theorem seg_add {α : Type} (cs : List α) (o a b : Nat) : (cs.drop o).take (a + b) = (cs.drop o).take a ++ (cs.drop (o + a)).take b := by
  rw [List.take_add, List.drop_drop]
theorem ckFs_ok {f : TypeId → Option (List CK)} {cs : List Value} (hf : ∀ t ks, f t = some ks → ∀ n vs y, DataW.trod enc P w base spare held n t vs = some y → Mt w ks vs) :
    ∀ (l : List Field) (off : Nat) (ks : List CK), ckFs P f off l = some ks → (∀ (i : Nat) (fd : Field), l[i]? = some fd → ∃ n y, DataW.trod enc P w base spare held n fd.type ((cs.drop fd.offset).take (P.cellsOf fd.type)) = some y) → Mt w ks ((cs.drop off).take ks.length)
  | [], off, ks, h, _ => by
    simp only [ckFs] at h
    cases h
    simpa using Mt.nil
  | fd :: l, off, ks, h, ht => by
    simp only [ckFs] at h
    split at h
    · rename_i k1 hk1
      cases hc : (Nat.beq fd.offset off && Nat.beq (P.cellsOf fd.type) k1.length) with
      | false => rw [hc, cond_false] at h; cases h
      | true =>
        rw [hc, cond_true] at h
        simp only [Bool.and_eq_true] at hc
        have e1 := Nat.eq_of_beq_eq_true hc.1
        have e2 := Nat.eq_of_beq_eq_true hc.2
        split at h
        · rename_i m hm
          cases h
          obtain ⟨n, y, hy⟩ := ht 0 fd rfl
          rw [e1, e2] at hy
          have h1 := hf _ _ hk1 _ _ _ hy
          have h2 := ckFs_ok hf l (off + k1.length) m hm fun i fd' hi => ht (i + 1) fd' (by simpa using hi)
          rw [List.length_append, seg_add]
          exact h1.append h2
        · cases h
    · cases h
theorem repL_ok {cs : List Value} {ks : List CK} {z : Nat} (hz : ks.length = z) : ∀ (n : Nat), (∀ i, i < n → Mt w ks ((cs.drop (i * z)).take z)) → Mt w (repL n ks) (cs.take (n * z))
  | 0, _ => by simpa [repL] using Mt.nil
  | n + 1, h => by
    have ih := repL_ok hz n fun i hi => h i (by omega)
    rw [repL, Nat.succ_mul, List.take_add]
    exact ih.append (h n (by omega))
theorem ckOf_ok : ∀ (d : Nat) (t : TypeId) (ks : List CK), ckOf P d t = some ks → ∀ n cs y, DataW.trod enc P w base spare held n t cs = some y → Mt w ks cs
  | 0, _, _, h => by simp [ckOf] at h
  | d + 1, t, ks, h => by
    intro n cs y hy
    unfold ckOf at h
    split at h
    · rename_i k hk
      cases h
      obtain ⟨z, rfl, _, hw⟩ := DataW.trod_int hk hy
      exact .cons ⟨z, rfl, hw⟩ .nil
    · rename_i hk
      cases h
      obtain ⟨b, rfl, _⟩ := DataW.trod_bool hk hy
      exact .cons ⟨b, rfl⟩ .nil
    · rename_i fs hk
      split at h
      · rename_i l hl
        cases hc : Nat.beq (P.cellsOf t) l.length with
        | false => rw [hc, cond_false] at h; cases h
        | true =>
          rw [hc, cond_true] at h
          cases h
          have hlen := Nat.eq_of_beq_eq_true hc
          obtain ⟨xs, m, _, _, hcl, hxl, hg⟩ := DataW.trod_struct hk hy
          have := ckFs_ok (ckOf_ok d) fs.toList 0 _ hl (cs := cs) fun i fd hi => by
            have hi' : fs[i]? = some fd := by simpa using hi
            have hlt : i < xs.length := by rw [hxl]; exact (Array.getElem?_eq_some_iff.1 hi').1
            exact ⟨m, xs[i], by rw [hg i fd hi']; exact List.getElem?_eq_getElem hlt⟩
          rwa [List.drop_zero, List.take_of_length_le (by omega)] at this
      · cases h
    · rename_i m e hk
      split at h
      · rename_i l hl
        cases hc : (Nat.beq (P.cellsOf e) l.length && Nat.beq (P.cellsOf t) (m * l.length)) with
        | false => rw [hc, cond_false] at h; cases h
        | true =>
          rw [hc, cond_true] at h
          cases h
          simp only [Bool.and_eq_true] at hc
          have e1 := Nat.eq_of_beq_eq_true hc.1
          have e2 := Nat.eq_of_beq_eq_true hc.2
          obtain ⟨xs, q, _, _, hcl, hxl, hg⟩ := DataW.trod_array hk hy
          have := repL_ok (w := w) (cs := cs) (ks := l) rfl m fun i hi => by
            have h1 := hg i hi
            rw [e1, List.getElem?_eq_getElem (by omega)] at h1
            exact ckOf_ok d _ _ hl _ _ _ h1
          rwa [List.take_of_length_le (by omega)] at this
      · cases h
    · rename_i e hk
      split at h
      · rename_i ck hck
        split at h
        · rename_i l hl
          cases hc : (Nat.beq (P.cellsOf e) l.length && Nat.blt 0 l.length) with
          | false => rw [hc, cond_false] at h; cases h
          | true =>
            rw [hc, cond_true] at h
            cases h
            simp only [Bool.and_eq_true] at hc
            obtain ⟨v, xs, rfl, h1, h2⟩ := sl_open (en := fun r => enV r l 0) (ok := okV l) (z := l.length) (Nat.lt_of_succ_le (Nat.le_of_ble_eq_true hc.2)) (fun x => enV_length _ _ _) hk (Nat.eq_of_beq_eq_true hc.1)
              (fun n cs y _ hy => (ckOf_ok d _ _ hck _ _ _ hy).flat hl) hy
            exact .cons ⟨xs, h1, h2⟩ .nil
        · cases h
      · cases h
    · cases h
/-- An argument, opened. -/
theorem open_agg {t : TypeId} {r : Reach} {b0 : Nat} {v : Value} {d : DataW H} {p : List MemPlace} {dp : Nat} {ks : List CK} (hk : ckOf P dp t = some ks) (hs : (∃ fs, P.underlying t = some (.struct fs)) ∨ ∃ n e, P.underlying t = some (.array n e))
    (hval : Value.okWide P w r b0 t v) (h : DataW.Trod enc P w base spare held t v d p) : ∃ x : RowW, v = .agg (enW x ks 0).toArray ∧ okW w ks x := by
  obtain ⟨cs, rfl⟩ : ∃ cs, v = .agg cs := by
    rcases hs with ⟨fs, hs⟩ | ⟨n, e, hs⟩
    · obtain ⟨cs, h1, _⟩ := okWide_struct hs hval; exact ⟨cs, h1⟩
    · obtain ⟨cs, h1, _⟩ := okWide_arr hs hval; exact ⟨cs, h1⟩
  obtain ⟨fuel, hf⟩ := h
  have hm := ckOf_ok dp t ks hk _ _ _ hf
  obtain ⟨h1, h2⟩ := hm.row
  refine ⟨_, ?_, h2⟩
  rw [← h1]
  simp [Value.cells]
end
/-! ## Slices as tables -/
def tabV (xs : List RowV) : Tab := ⟨xs.length, fun j i => (xs.getD i RowV.zero).c j, fun j i => (xs.getD i RowV.zero).g j⟩
theorem rowCs_sl {c c' : Nat → Nat → Int} {g g' : Nat → Nat → Bool} {i i' : Nat} (hc : ∀ j, c j i = c' j i') (hg : ∀ j, g j i = g' j i') : ∀ (ks : List (Option IntKind)) (j : Nat), rowCs c g i ks j = rowCs c' g' i' ks j
  | [], _ => rfl
  | some k :: ks, j => by rw [rowCs, rowCs, hc j, rowCs_sl hc hg ks]
  | none :: ks, j => by rw [rowCs, rowCs, hg j, rowCs_sl hc hg ks]
theorem enV_rel {ρ : Env} {σ : Mp} (r : RowV) : ∀ (ks : List (Option IntKind)) (j : Nat), VRl ρ σ (rowCs (fun j _ => r.c j) (fun j _ => r.g j) 0 ks j) (enV r ks j)
  | [], _ => .nil
  | some k :: ks, j => .cons (.int k (.x (r.c j))) (enV_rel r ks (j + 1))
  | none :: ks, j => .cons (.bool (.x (r.g j))) (enV_rel r ks (j + 1))
theorem ArgAt.rows_eq {ρ : Env} {w : World} {n z : Nat} {f g : Nat → List CV} {hf : ∀ j, (f j).length = z ∧ (f j).all CV.flat = true} {hg : ∀ j, (g j).length = z ∧ (g j).all CV.flat = true} {lo : Option Loc} (e : f = g) (h : ArgAt ρ w ⟨.arg n z f hf, z, true, none⟩ lo) : ArgAt ρ w ⟨.arg n z g hg, z, true, none⟩ lo := by
  subst e; exact h
structure SlV where
  v : Value
  ks : List (Option IntKind)
  xs : List RowV
noncomputable def sigV (w : World) (S : List SlV) : Mp := fun b => match S[b]? with | some s => locOf w s.v s.ks.length | none => none
def heapV : Nat → List SlV → List (Nat × Blk)
  | _, [] => []
  | i, s :: l => (i, tabB s.ks (tabV s.xs)) :: heapV (i + 1) l
theorem sigV_none {w : World} {S : List SlV} {b : Nat} (h : S.length ≤ b) : sigV w S b = none := by
  unfold sigV; rw [List.getElem?_eq_none h]
theorem SlT.both {ρ : Env} {w : World} {S : List SlV} {b : Nat} {s : SlV} (hb : S[b]? = some s) (h : SlT s.ks w s.v s.xs) : VR ρ (sigV w S) (.sla b s.ks.length 0 s.xs.length) s.v ∧ ArgAt ρ w (tabB s.ks (tabV s.xs)) (sigV w S b) := by
  obtain ⟨h1, h2⟩ := SlR.rel (ρ := ρ) (σ := sigV w S) (b := b) (ec := fun r => rowCs (fun j _ => r.c j) (fun j _ => r.g j) 0 s.ks 0) (d := RowV.zero) h.1 (fun x => enV_length _ _ _) (fun σ x => enV_rel x s.ks 0) (fun j => rowCs_ok _ _ _ _ _) (by unfold sigV; rw [hb])
  have e : (fun j => rowCs (fun j' _ => (s.xs.getD j RowV.zero).c j') (fun j' _ => (s.xs.getD j RowV.zero).g j') 0 s.ks 0) = fun i => rowCs (tabV s.xs).c (tabV s.xs).g i s.ks 0 := funext fun i => rowCs_sl (c := fun j' _ => (s.xs.getD i RowV.zero).c j') (g := fun j' _ => (s.xs.getD i RowV.zero).g j') (fun _ => rfl) (fun _ => rfl) _ _
  have h3 := ArgAt.rows_eq (hg := fun i => rowCs_ok (tabV s.xs).c (tabV s.xs).g i s.ks 0) e h2
  exact ⟨h1, h3⟩
theorem SlT.rel {ρ : Env} {w : World} {S : List SlV} (b : Nat) {s : SlV} (hb : S[b]? = some s) (h : SlT s.ks w s.v s.xs) : VR ρ (sigV w S) (.sla b s.ks.length 0 s.xs.length) s.v := (h.both hb).1
theorem SlT.len {ks : List (Option IntKind)} {w : World} {v : Value} {xs : List RowV} (h : SlT ks w v xs) : xs.length ≤ 9223372036854775807 := by
  obtain ⟨⟨a, cap, _, _, hl, _⟩, _⟩ := h
  exact hl
theorem SlT.wf {ks : List (Option IntKind)} {w : World} {v : Value} {xs : List RowV} (h : SlT ks w v xs) (j : Nat) (k : IntKind) (hk : ks[j]? = some (some k)) (h0 : (Lit.int k 0).wf = true) (i : Nat) : (Lit.int k ((tabV xs).c j i)).wf = true := by
  show (Lit.int k ((xs.getD i RowV.zero).c j)).wf = true
  by_cases hi : i < xs.length
  · rw [List.getD_eq_getElem?_getD, List.getElem?_eq_getElem hi]
    exact h.2 _ (List.getElem_mem hi) j k hk
  · rw [List.getD_eq_getElem?_getD, List.getElem?_eq_none (by omega)]
    exact h0
theorem heapV_get {ρ : Env} {w : World} : ∀ (l : List SlV) (i : Nat) (S : List SlV), (∀ j s, l[j]? = some s → S[i + j]? = some s) → (∀ s ∈ l, SlT s.ks w s.v s.xs) → ∀ b k, (mkH (heapV i l)).get b = some k → ArgAt ρ w k (sigV w S b)
  | [], i, S, _, _, b, k, h => by
    simp only [heapV, mkH] at h
    cases h
  | s :: l, i, S, hS, hT, b, k, h => by
    have h : ((mkH (heapV (i + 1) l)).set i (tabB s.ks (tabV s.xs))).get b = some k := h
    rw [Tr.get_set] at h
    split at h
    · rename_i hb
      cases h
      have := hS 0 s rfl
      rw [Nat.add_zero] at this
      rw [hb]
      exact ((hT s (by simp)).both this).2
    · exact heapV_get l (i + 1) S (fun j s' hj => by rw [show i + 1 + j = i + (j + 1) by omega]; exact hS (j + 1) s' (by simpa using hj)) (fun s' hs => hT s' (by simp [hs])) b k h
theorem argsV {ρ : Env} {w : World} (S : List SlV) (base : Nat) (hS : ∀ s ∈ S, SlT s.ks w s.v s.xs) (hL : Laid w) : HR ρ (sigV w S) (curOf (mkH (heapV 0 S)) base) w :=
  HR.ofArgs hL fun i k _ hk => heapV_get S 0 S (fun j s h => by rw [Nat.zero_add]; exact h) hS i k hk
end Go.Proofs.Ythagjhadjpangaa.Cx

/- DieSure holds, for all inputs: by its automaton. Made by tools/cxlaws.py. -/
namespace Go.Proofs.Ythagjhadjpangaa
set_option linter.unusedVariables false
set_option linter.unusedSimpArgs false
open Go.ChangeShapes Go.WideShapes Go.ChangeAt Go.RowKit
open Cx (Env IE BE DT KnownB)
set_option maxRecDepth 100000 in
theorem dsure_open0 {H : Type} {enc : TypeId × Value → H} {w : World} {base : Nat} {spare : Nat → Bool} {held : Bool} {r : Reach} {b0 : Nat} {vv : Value} {d : DataW H} {p : List MemPlace} (hval : Value.okWide Try.prog w r b0 79 vv) (h : DataW.Trod enc Try.prog w base spare held 79 vv d p) :
    ∃ y0 : Cx.RowW, vv = .agg #[.bool (y0.g 0), .int .u8 (y0.c 1), .int .u8 (y0.c 2), y0.s 3, y0.s 4, y0.s 5] ∧ Cx.okW w [.bool, .int .u8, .int .u8, .tab [some .u8, some .u8], .tab [some .u8, some .u8, some .u8, some .u8], .tab [some .u8]] y0 :=
  Cx.open_agg (ks := [.bool, .int .u8, .int .u8, .tab [some .u8, some .u8], .tab [some .u8, some .u8, some .u8, some .u8], .tab [some .u8]]) (dp := 12) (by kernel_rfl) (.inl ⟨_, Try.underlying79⟩) hval h
set_option maxRecDepth 100000 in
theorem dsure_open1 {H : Type} {enc : TypeId × Value → H} {w : World} {base : Nat} {spare : Nat → Bool} {held : Bool} {r : Reach} {b0 : Nat} {vv : Value} {d : DataW H} {p : List MemPlace} (hval : Value.okWide Try.prog w r b0 74 vv) (h : DataW.Trod enc Try.prog w base spare held 74 vv d p) :
    ∃ y1 : Cx.RowW, vv = .agg #[.int .u8 (y1.c 0), .int .u8 (y1.c 1)] ∧ Cx.okW w [.int .u8, .int .u8] y1 :=
  Cx.open_agg (ks := [.int .u8, .int .u8]) (dp := 12) (by kernel_rfl) (.inr ⟨_, _, Try.underlying74⟩) hval h
theorem dsure_walk (y0 : Cx.RowW) (y1 : Cx.RowW) (w : World) (g0 : Cx.okW w [.bool, .int .u8, .int .u8, .tab [some .u8, some .u8], .tab [some .u8, some .u8, some .u8, some .u8], .tab [some .u8]] y0) (g1 : Cx.okW w [.int .u8, .int .u8] y1) :
    Calls Try.prog 8 #[.agg #[.bool (y0.g 0), .int .u8 (y0.c 1), .int .u8 (y0.c 2), y0.s 3, y0.s 4, y0.s 5], .agg #[.int .u8 (y1.c 0), .int .u8 (y1.c 1)]] w fun e w' => e = .returned (.bool true) ∧ Below w.heap.size w w' := by
  have hLw : Cx.Laid w := fun _ h => by cases h
  obtain ⟨n, v, hv, hp⟩ := Cx.dls_run (y0.g 0) (y0.c 1) (y0.c 2) (Cx.tabV (y0.t 3)).n ((Cx.tabV (y0.t 3)).c 0) ((Cx.tabV (y0.t 3)).c 1) (Cx.tabV (y0.t 4)).n ((Cx.tabV (y0.t 4)).c 0) ((Cx.tabV (y0.t 4)).c 1) ((Cx.tabV (y0.t 4)).c 2) ((Cx.tabV (y0.t 4)).c 3) (Cx.tabV (y0.t 5)).n ((Cx.tabV (y0.t 5)).c 0) (y1.c 0) (y1.c 1) (rng_u8 (g0.1 1 .u8 rfl)) (rng_u8 (g0.1 2 .u8 rfl)) (Cx.SlT.len (g0.2 3 _ rfl)) (fun i => rng_u8 (Cx.SlT.wf (g0.2 3 _ rfl) 0 .u8 rfl rfl i)) (fun i => rng_u8 (Cx.SlT.wf (g0.2 3 _ rfl) 1 .u8 rfl rfl i)) (Cx.SlT.len (g0.2 4 _ rfl)) (fun i => rng_u8 (Cx.SlT.wf (g0.2 4 _ rfl) 0 .u8 rfl rfl i)) (fun i => rng_u8 (Cx.SlT.wf (g0.2 4 _ rfl) 1 .u8 rfl rfl i)) (fun i => rng_u8 (Cx.SlT.wf (g0.2 4 _ rfl) 2 .u8 rfl rfl i)) (fun i => rng_u8 (Cx.SlT.wf (g0.2 4 _ rfl) 3 .u8 rfl rfl i)) (Cx.SlT.len (g0.2 5 _ rfl)) (fun i => rng_u8 (Cx.SlT.wf (g0.2 5 _ rfl) 0 .u8 rfl rfl i)) (rng_u8 (g1.1 0 .u8 rfl)) (rng_u8 (g1.1 1 .u8 rfl))
  have hS : ∀ s ∈ ([⟨(y0.s 3), [some .u8, some .u8], (y0.t 3)⟩, ⟨(y0.s 4), [some .u8, some .u8, some .u8, some .u8], (y0.t 4)⟩, ⟨(y0.s 5), [some .u8], (y0.t 5)⟩] : List Cx.SlV), Cx.SlT s.ks w s.v s.xs := fun s hs => by
    simp only [List.mem_cons, List.not_mem_nil, or_false] at hs
    rcases hs with rfl | rfl | rfl
    · exact (g0.2 3 _ rfl)
    · exact (g0.2 4 _ rfl)
    · exact (g0.2 5 _ rfl)
  exact Cx.Ctr.law (ρ := ⟨fun _ => 0, fun _ => false⟩) (σ := Cx.sigV w ([⟨(y0.s 3), [some .u8, some .u8], (y0.t 3)⟩, ⟨(y0.s 4), [some .u8, some .u8, some .u8, some .u8], (y0.t 4)⟩, ⟨(y0.s 5), [some .u8], (y0.t 5)⟩] : List Cx.SlV)) (e := .x v) (Cx.dlsctr (y0.g 0) (y0.c 1) (y0.c 2) (Cx.tabV (y0.t 3)).n ((Cx.tabV (y0.t 3)).c 0) ((Cx.tabV (y0.t 3)).c 1) (Cx.tabV (y0.t 4)).n ((Cx.tabV (y0.t 4)).c 0) ((Cx.tabV (y0.t 4)).c 1) ((Cx.tabV (y0.t 4)).c 2) ((Cx.tabV (y0.t 4)).c 3) (Cx.tabV (y0.t 5)).n ((Cx.tabV (y0.t 5)).c 0) (y1.c 0) (y1.c 1) Cx.dlsmem hv) hp (.cons (.agg (.cons (.bool (.x (y0.g 0))) (.cons (.int .u8 (.x (y0.c 1))) (.cons (.int .u8 (.x (y0.c 2))) (.cons (Cx.SlT.rel (S := ([⟨(y0.s 3), [some .u8, some .u8], (y0.t 3)⟩, ⟨(y0.s 4), [some .u8, some .u8, some .u8, some .u8], (y0.t 4)⟩, ⟨(y0.s 5), [some .u8], (y0.t 5)⟩] : List Cx.SlV)) 0 rfl (g0.2 3 _ rfl)) (.cons (Cx.SlT.rel (S := ([⟨(y0.s 3), [some .u8, some .u8], (y0.t 3)⟩, ⟨(y0.s 4), [some .u8, some .u8, some .u8, some .u8], (y0.t 4)⟩, ⟨(y0.s 5), [some .u8], (y0.t 5)⟩] : List Cx.SlV)) 1 rfl (g0.2 4 _ rfl)) (.cons (Cx.SlT.rel (S := ([⟨(y0.s 3), [some .u8, some .u8], (y0.t 3)⟩, ⟨(y0.s 4), [some .u8, some .u8, some .u8, some .u8], (y0.t 4)⟩, ⟨(y0.s 5), [some .u8], (y0.t 5)⟩] : List Cx.SlV)) 2 rfl (g0.2 5 _ rfl)) .nil))))))) (.cons (.agg (.cons (.int .u8 (.x (y1.c 0))) (.cons (.int .u8 (.x (y1.c 1))) .nil))) .nil)) (Cx.argsV ([⟨(y0.s 3), [some .u8, some .u8], (y0.t 3)⟩, ⟨(y0.s 4), [some .u8, some .u8, some .u8, some .u8], (y0.t 4)⟩, ⟨(y0.s 5), [some .u8], (y0.t 5)⟩] : List Cx.SlV) _ hS hLw) (fun b hb => Cx.sigV_none hb)
theorem dsure_own : ownKnob Try.prog.godebug = none := by kernel_rfl
theorem dsure_laidOut : laidOutB Try.prog = true := by kernel_rfl
set_option maxRecDepth 100000 in
theorem dsure_lifted (os : Os) (started : os.Started) (H : Type) (enc : TypeId × Value → H) :
    ReturnsInHanded {} Try.checked os 8 .any (Rows.dieSureSpec.pre6 enc Try.prog Try.f8 Rows.dieSureRow.domain false) (Rows.dieSureSpec.post enc Try.prog Try.f8 false true false false) := by
  refine returnsInHanded_of_change (C := Try.checked) dsure_own started (by kernel_rfl) Try.func8
    (ChangeSpec.witness6 (enc := enc) (C := Try.checked) false ⟨#[], #[.agg #[.bool false, .int .u8 0, .int .u8 0, .slice none 0 0, .slice none 0 0, .slice none 0 0], .agg #[.int .u8 0, .int .u8 0]], []⟩ 8 (by kernel_rfl) (by kernel_rfl) (by kernel_rfl) (by kernel_rfl)) ?_
  intro W base args ds gs before hval0 hW hcnd _
  have hval : ∀ (j : Nat) t v, Try.f8.params[j]? = some t → args[j]? = some v → Value.okWide Try.prog W .any base t v := hval0
  have hW' := hW
  obtain ⟨p, q, hA0, hV, rfl, hfz, hnd⟩ := hW
  have hA : DataW.TrodAll enc Try.prog W 0 (fun _ => true) true Try.f8.params.toList args.toList ds p := hA0
  rw [Try.params8] at hA hval
  obtain ⟨v0, vs0, d0, ds0, p0, q0, hargs, rfl, rfl, h0, r0⟩ := trodAll_cons hA
  obtain ⟨v1, vs1, d1, ds1, p1, q1, rfl, rfl, rfl, h1, r1⟩ := trodAll_cons r0
  obtain ⟨rfl, rfl, rfl⟩ := trodAll_nil r1
  obtain rfl : args = #[v0, v1] := by cases args; simp_all
  obtain ⟨rfl, rfl⟩ := trodVars_none hV
  have k0 := h0
  have lt0 : ∀ x ∈ p0, x.block < W.heap.size := by obtain ⟨m, hm⟩ := k0; exact DataW.trod_lt m _ _ _ hm
  have k1 := h1
  have lt1 : ∀ x ∈ p1, x.block < W.heap.size := by obtain ⟨m, hm⟩ := k1; exact DataW.trod_lt m _ _ _ hm
  obtain ⟨y0, rfl, g0⟩ := dsure_open0 (hval 0 79 v0 rfl rfl) h0
  obtain ⟨y1, rfl, g1⟩ := dsure_open1 (hval 1 74 v1 rfl rfl) h1
  clear hA0 hval0
  refine (dsure_walk y0 y1 W g0 g1).mono fun e W' ⟨he, bel⟩ => ?_
  subst he
  exact ⟨_, rfl, _, _, _, [], _, [], hW', trodAll_mk1 (shut_bool Try.underlying4 _), (trodAll_cons_mk (Below.trod dsure_laidOut (by kernel_rfl) (of_decide_eq_true (by kernel_rfl)) k0 bel lt0) (trodAll_cons_mk (Below.trod dsure_laidOut (by kernel_rfl) (of_decide_eq_true (by kernel_rfl)) k1 bel lt1) trodAll_mk0)), rfl, bel.frame _, fun h => by cases h⟩
theorem dsure_over : Rows.dieSureRow.holds Try.pinned (OpenSpec.ofChange Rows.dieSureSpec) :=
  OpenClaim.holds_of_wide 8 Try.f8 rfl rfl rfl rfl rfl rfl rfl ⟨rfl, rfl, rfl, rfl, rfl⟩ rfl rfl rfl rfl rfl (by kernel_rfl) Try.func8 (by kernel_rfl)
    (of_decide_eq_true (by kernel_rfl)) (by unfold Func.isWrapper; rw [if_neg (of_decide_eq_false (by kernel_rfl))]; exact ⟨rfl, rfl⟩)
    (fun os started H enc _ => dsure_lifted os started H enc)
theorem dsure_proved : Rows.DieSureSaid := dsure_over
#print axioms dsure_proved
end Go.Proofs.Ythagjhadjpangaa
