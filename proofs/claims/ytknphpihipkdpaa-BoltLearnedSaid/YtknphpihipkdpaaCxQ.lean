/- == on structs and arrays, cell by cell; what a program's own tables say, as the evaluator's context. -/
import Derived.Test.YtknphpihipkdpaaCxP
import Derived.Laws.StructEq
set_option linter.unusedSimpArgs false
set_option linter.unusedVariables false
namespace Go.Proofs.Ytknphpihipkdpaa.Cx
open Go Go.RowKit

theorem ShapeV.split : ∀ {ks m : List (Option IntKind)} {l : List Value}, ShapeV (ks ++ m) l → ShapeV ks (l.take ks.length) ∧ ShapeV m (l.drop ks.length)
  | [], m, l, h => ⟨by simp [ShapeV], by simpa using h⟩
  | none :: ks, m, [], h => by simp [ShapeV] at h
  | some k :: ks, m, [], h => by simp [ShapeV] at h
  | none :: ks, m, v :: l, h => by
    cases v <;> simp only [List.cons_append, ShapeV] at h
    obtain ⟨h1, h2⟩ := ShapeV.split h
    exact ⟨by simpa [ShapeV] using h1, by simpa using h2⟩
  | some k :: ks, m, v :: l, h => by
    cases v <;> simp only [List.cons_append, ShapeV] at h
    obtain ⟨h1, h2⟩ := ShapeV.split h.2
    exact ⟨by simp only [List.length_cons, List.take_succ_cons, ShapeV]; exact ⟨h.1, h1⟩, by simpa using h2⟩

theorem ShapeV.length : ∀ {ks : List (Option IntKind)} {l : List Value}, ShapeV ks l → l.length = ks.length
  | [], [], _ => rfl
  | [], _ :: _, h => by simp [ShapeV] at h
  | none :: ks, [], h => by simp [ShapeV] at h
  | some k :: ks, [], h => by simp [ShapeV] at h
  | none :: ks, v :: l, h => by cases v <;> simp only [ShapeV] at h; simpa using ShapeV.length h
  | some k :: ks, v :: l, h => by cases v <;> simp only [ShapeV] at h; simpa using ShapeV.length h.2

theorem eqVals_split : ∀ {ks m : List (Option IntKind)} {l l' : List Value}, ShapeV (ks ++ m) l → ShapeV (ks ++ m) l' → eqVals l l' = (eqVals (l.take ks.length) (l'.take ks.length) && eqVals (l.drop ks.length) (l'.drop ks.length))
  | [], m, l, l', _, _ => by simp [eqVals]
  | none :: ks, m, v :: l, u :: l', h, h' => by
    cases v <;> cases u <;> simp only [List.cons_append, ShapeV] at h h'
    simp only [eqVals, List.length_cons, List.take_succ_cons, List.drop_succ_cons]
    rw [eqVals_split h h', Bool.and_assoc]
  | some k :: ks, m, v :: l, u :: l', h, h' => by
    cases v <;> cases u <;> simp only [List.cons_append, ShapeV] at h h'
    simp only [eqVals, List.length_cons, List.take_succ_cons, List.drop_succ_cons]
    rw [eqVals_split h.2 h'.2, Bool.and_assoc]
  | none :: ks, m, [], _, h, _ => by simp [ShapeV] at h
  | some k :: ks, m, [], _, h, _ => by simp [ShapeV] at h
  | none :: ks, m, _ :: _, [], _, h => by simp [ShapeV] at h
  | some k :: ks, m, _ :: _, [], _, h => by simp [ShapeV] at h

/-- A value of a type, by its cells. -/
def Whole (P : Program) (t : TypeId) (v : Value) (l : List Value) : Prop :=
  ∃ d, P.underlying t = some d ∧ ((aggD d = true ∧ v = .agg l.toArray) ∨ (aggD d = false ∧ l = [v]))

section
variable {P : Program}

theorem part_whole {t : TypeId} {i : TypeInfo} {d : TypeDesc} {ks : List (Option IntKind)} (w : World) (hu : P.underlying t = some d) (hi : P.info? t = some i) (hs : i.size = ks.length) (h1 : aggD d = false → ks.length = 1) (pre : List Value) (l m : List Value) (hl : l.length = ks.length) :
    ∃ v, (part t (pre ++ l ++ m).toArray pre.length).run P w = .ok v w ∧ Whole P t v l := by
  have hag : (isAgg t).run P w = .ok (aggD d) w := by
    have := run_underlying hu w
    cases d <;> simp [isAgg, this, aggD]
  cases hd : aggD d with
  | true =>
    rw [hd] at hag
    refine ⟨.agg l.toArray, ?_, d, hu, .inl ⟨hd, rfl⟩⟩
    have hz : (sizeOf t).run P w = .ok ks.length w := by simp [sizeOf, typeInfo, hi, hs]
    simp only [part, Sem.run_bind, hag, Result.andThen, if_true, Sem.run_map, hz, Sem.run_pure]
    have : (pre ++ l ++ m).toArray.extract pre.length (pre.length + ks.length) = l.toArray := by
      rw [← Array.toList_inj, Array.toList_extract, List.extract_eq_take_drop]
      simp only [Nat.add_sub_cancel_left]
      rw [List.append_assoc, List.drop_left, ← hl, List.take_left]
    rw [this]
  | false =>
    rw [hd] at hag
    have := h1 hd
    obtain ⟨v, rfl⟩ : ∃ v, l = [v] := by
      match l, (hl.trans this) with
      | [v], _ => exact ⟨v, rfl⟩
    refine ⟨v, ?_, d, hu, .inr ⟨hd, rfl⟩⟩
    simp [part, hag]

theorem eqTy_one {d : Nat} {t : TypeId} {ks : List (Option IntKind)} (h : eqTy P d t = some ks) : ∃ i ds, P.underlying t = some ds ∧ P.info? t = some i ∧ i.size = ks.length ∧ (aggD ds = false → ks.length = 1) := by
  cases d with
  | zero => simp [eqTy] at h
  | succ d =>
    unfold eqTy at h
    split at h
    · rename_i k i hu hi
      cases hb : Nat.beq i.size 1 with
      | false => rw [hb, cond_false] at h; cases h
      | true => rw [hb, cond_true] at h; cases h; exact ⟨i, _, hu, hi, Nat.eq_of_beq_eq_true hb, fun _ => rfl⟩
    · rename_i i hu hi
      cases hb : Nat.beq i.size 1 with
      | false => rw [hb, cond_false] at h; cases h
      | true => rw [hb, cond_true] at h; cases h; exact ⟨i, _, hu, hi, Nat.eq_of_beq_eq_true hb, fun _ => rfl⟩
    · rename_i fs i hu hi
      cases hst : P.stoodInHeld t with
      | true => rw [hst, cond_true] at h; cases h
      | false =>
        rw [hst, cond_false] at h
        split at h
        · rename_i ks' hk
          cases hb : Nat.beq i.size ks'.length with
          | false => rw [hb, cond_false] at h; cases h
          | true => rw [hb, cond_true] at h; cases h; exact ⟨i, _, hu, hi, Nat.eq_of_beq_eq_true hb, fun h => by simp [aggD] at h⟩
        · cases h
    · rename_i n e i hu hi
      split at h
      · rename_i ks' hk
        cases hb : Nat.beq i.size (n * ks'.length) with
        | false => rw [hb, cond_false] at h; cases h
        | true =>
          rw [hb, cond_true] at h; cases h
          exact ⟨i, _, hu, hi, by rw [Nat.eq_of_beq_eq_true hb, List.length_flatten, List.map_replicate, List.sum_replicate_nat], fun h => by simp [aggD] at h⟩
      · cases h
    · cases h

/-- The comparison of the fields. -/
theorem eqFs_run {d d' : Nat} (ih : ∀ t ks x y u v (w : World), eqTy P d t = some ks → ShapeV ks x → ShapeV ks y → Whole P t u x → Whole P t v y → (Op.equalIn (d' + d) t u v).run P w = .ok (eqVals x y) w) :
    ∀ {fs : List Field} {ks : List (Option IntKind)} {px py x y : List Value} (w : World), eqTy.eqFs P (eqTy P d) px.length fs = some ks → py.length = px.length → ShapeV ks x → ShapeV ks y →
      (Op.eqFields (d' + d) (px ++ x).toArray (py ++ y).toArray fs).run P w = .ok (eqVals x y) w
  | [], ks, px, py, x, y, w, h, _, hx, hy => by
    simp only [eqTy.eqFs] at h; cases h
    obtain rfl : x = [] := by cases x with | nil => rfl | cons v l => simp [ShapeV] at hx
    simp [Op.eqFields, eqVals]
  | f :: fs, ks, px, py, x, y, w, h, hpy, hx, hy => by
    simp only [eqTy.eqFs] at h
    split at h
    · rename_i k1 hk1
      cases hb : (Nat.beq f.offset px.length && f.name != "_") with
      | false => rw [hb, cond_false] at h; cases h
      | true =>
        rw [hb, cond_true] at h
        simp only [Bool.and_eq_true, bne_iff_ne, ne_eq] at hb
        split at h
        · rename_i k2 hk2
          cases h
          obtain ⟨i, ds, hu, hi, hs, h1⟩ := eqTy_one hk1
          have hlx := hx.length
          have hly := hy.length
          simp only [List.length_append] at hlx hly
          obtain ⟨x1, x2⟩ := hx.split
          obtain ⟨y1, y2⟩ := hy.split
          have ex : px ++ x = px ++ x.take k1.length ++ x.drop k1.length := by rw [List.append_assoc, List.take_append_drop]
          have ey : py ++ y = py ++ y.take k1.length ++ y.drop k1.length := by rw [List.append_assoc, List.take_append_drop]
          obtain ⟨u, hu1, hu2⟩ := part_whole (P := P) w hu hi hs h1 px (x.take k1.length) (x.drop k1.length) (by simp; omega)
          obtain ⟨v, hv1, hv2⟩ := part_whole (P := P) w hu hi hs h1 py (y.take k1.length) (y.drop k1.length) (by simp; omega)
          rw [← ex, ← Nat.eq_of_beq_eq_true hb.1] at hu1
          rw [← ey, hpy, ← Nat.eq_of_beq_eq_true hb.1] at hv1
          have hr := ih f.type k1 _ _ u v w hk1 x1 y1 hu2 hv2
          have hrest := eqFs_run ih (fs := fs) (px := px ++ x.take k1.length) (py := py ++ y.take k1.length) (x := x.drop k1.length) (y := y.drop k1.length) w (by
            have : (px ++ x.take k1.length).length = px.length + k1.length := by simp; omega
            rw [this]; exact hk2) (by simp; omega) x2 y2
          rw [← ex, ← ey] at hrest
          simp only [Op.eqFields]
          rw [if_pos hb.2]
          simp only [Sem.run_bind, hu1, hv1, hr, Result.andThen]
          rw [eqVals_split hx hy]
          cases hq : eqVals (x.take k1.length) (y.take k1.length) with
          | true => simp only [Bool.not_true, Bool.false_eq_true, if_false, Bool.true_and]; exact hrest
          | false => simp only [Bool.not_false, if_true, Bool.false_and, Sem.run_pure]
        · cases h
    · cases h

theorem whole_agg {t : TypeId} {v : Value} {l : List Value} {d : TypeDesc} (h : Whole P t v l) (hu : P.underlying t = some d) (hd : aggD d = true) : v = .agg l.toArray := by
  obtain ⟨d', h1, h2⟩ := h
  rw [hu] at h1
  obtain rfl := Option.some.inj h1
  rcases h2 with h2 | h2
  · exact h2.2
  · rw [hd] at h2; cases h2.1

theorem whole_one {t : TypeId} {v : Value} {l : List Value} {d : TypeDesc} (h : Whole P t v l) (hu : P.underlying t = some d) (hd : aggD d = false) : l = [v] := by
  obtain ⟨d', h1, h2⟩ := h
  rw [hu] at h1
  obtain rfl := Option.some.inj h1
  rcases h2 with h2 | h2
  · rw [hd] at h2; cases h2.1
  · exact h2.2

/-- The comparison of an array's elements. -/
theorem eqArr_run {d d' : Nat} {e : TypeId} {ks : List (Option IntKind)} {i : TypeInfo} {ds : TypeDesc} (hu : P.underlying e = some ds) (hi : P.info? e = some i) (hs : i.size = ks.length) (h1 : aggD ds = false → ks.length = 1)
    (ih : ∀ x y u v (w : World), ShapeV ks x → ShapeV ks y → Whole P e u x → Whole P e v y → (Op.equalIn (d' + d) e u v).run P w = .ok (eqVals x y) w) :
    ∀ (n j : Nat) (px py x y : List Value) (w : World), px.length = j * ks.length → py.length = px.length → ShapeV (List.replicate n ks).flatten x → ShapeV (List.replicate n ks).flatten y →
      ((forIn (m := Sem) (List.range' j n) ((none, ()) : Option Bool × PUnit) fun a _ => do
        if !(← Op.equalIn (d' + d) e (← part e (px ++ x).toArray (a * ks.length)) (← part e (py ++ y).toArray (a * ks.length))) then pure (ForInStep.done (some false, ())) else pure (ForInStep.yield (none, ())))).run P w = .ok (if eqVals x y then (none, ()) else (some false, ())) w
  | 0, j, px, py, x, y, w, _, _, hx, hy => by
    obtain rfl : x = [] := by cases x with | nil => rfl | cons v l => simp [ShapeV] at hx
    simp [eqVals]
  | n + 1, j, px, py, x, y, w, hpx, hpy, hx, hy => by
    simp only [List.replicate_succ, List.flatten_cons] at hx hy
    have hlx := hx.length
    have hly := hy.length
    simp only [List.length_append] at hlx hly
    obtain ⟨x1, x2⟩ := hx.split
    obtain ⟨y1, y2⟩ := hy.split
    have ex : px ++ x = px ++ x.take ks.length ++ x.drop ks.length := by rw [List.append_assoc, List.take_append_drop]
    have ey : py ++ y = py ++ y.take ks.length ++ y.drop ks.length := by rw [List.append_assoc, List.take_append_drop]
    obtain ⟨u, hu1, hu2⟩ := part_whole (P := P) w hu hi hs h1 px (x.take ks.length) (x.drop ks.length) (by simp; omega)
    obtain ⟨v, hv1, hv2⟩ := part_whole (P := P) w hu hi hs h1 py (y.take ks.length) (y.drop ks.length) (by simp; omega)
    rw [← ex, hpx] at hu1
    rw [← ey, hpy, hpx] at hv1
    have hr := ih _ _ u v w x1 y1 hu2 hv2
    have hrest := eqArr_run hu hi hs h1 ih n (j + 1) (px ++ x.take ks.length) (py ++ y.take ks.length) (x.drop ks.length) (y.drop ks.length) w (by
      simp only [List.length_append, List.length_take]; rw [Nat.succ_mul]; omega) (by simp; omega) x2 y2
    rw [← ex, ← ey] at hrest
    rw [List.range'_succ, List.forIn_cons]
    simp only [Sem.run_bind, hu1, hv1, hr, Result.andThen, Sem.run_ite, Sem.run_pure]
    rw [eqVals_split hx hy]
    cases hq : eqVals (x.take ks.length) (y.take ks.length) with
    | true => simp only [Bool.not_true, Bool.false_eq_true, if_false, Bool.true_and]; exact hrest
    | false => simp

theorem eqTy_run : ∀ (d d' : Nat) (t : TypeId) (ks : List (Option IntKind)) (x y : List Value) (u v : Value) (w : World), eqTy P d t = some ks → ShapeV ks x → ShapeV ks y → Whole P t u x → Whole P t v y → (Op.equalIn (d' + d) t u v).run P w = .ok (eqVals x y) w
  | 0, d', t, ks, x, y, u, v, w, h, _, _, _, _ => by simp [eqTy] at h
  | d + 1, d', t, ks, x, y, u, v, w, h, hx, hy, hu, hv => by
    have ih := eqTy_run d d'
    unfold eqTy at h
    split at h
    · rename_i k i hd hi
      obtain rfl := whole_one hu hd rfl
      obtain rfl := whole_one hv hd rfl
      cases hb : Nat.beq i.size 1 with
      | false => rw [hb, cond_false] at h; cases h
      | true =>
        rw [hb, cond_true] at h; cases h
        cases u <;> simp only [ShapeV] at hx
        cases v <;> simp only [ShapeV] at hy
        obtain ⟨rfl, _⟩ := hx
        obtain ⟨rfl, _⟩ := hy
        rw [← Nat.add_assoc, run_equalIn_int _ _ _ _ _ _ _ hd]
        simp [eqVals]
    · rename_i i hd hi
      obtain rfl := whole_one hu hd rfl
      obtain rfl := whole_one hv hd rfl
      cases hb : Nat.beq i.size 1 with
      | false => rw [hb, cond_false] at h; cases h
      | true =>
        rw [hb, cond_true] at h; cases h
        cases u <;> simp only [ShapeV] at hx
        cases v <;> simp only [ShapeV] at hy
        rw [← Nat.add_assoc, run_equalIn_bool' _ _ _ _ _ hd]
        simp [eqVals]
    · rename_i fs i hd hi
      obtain rfl := whole_agg hu hd rfl
      obtain rfl := whole_agg hv hd rfl
      cases hst : P.stoodInHeld t with
      | true => rw [hst, cond_true] at h; cases h
      | false =>
        rw [hst, cond_false] at h
        split at h
        · rename_i ks' hk
          cases hb : Nat.beq i.size ks'.length with
          | false => rw [hb, cond_false] at h; cases h
          | true =>
            rw [hb, cond_true] at h; cases h
            have hf : P.fieldsOf t = fs := by simp [Program.fieldsOf, hd]
            rw [← Nat.add_assoc, run_equalIn_struct w (d' + d) t _ _ (by rw [hf]; exact hd) hst, hf]
            have := eqFs_run (px := []) (py := []) (fun t ks x y u v w h1 h2 h3 h4 h5 => ih t ks x y u v w h1 h2 h3 h4 h5) w hk rfl hx hy
            simpa using this
        · cases h
    · rename_i n e i hd hi
      obtain rfl := whole_agg hu hd rfl
      obtain rfl := whole_agg hv hd rfl
      split at h
      · rename_i ks' hk
        cases hb : Nat.beq i.size (n * ks'.length) with
        | false => rw [hb, cond_false] at h; cases h
        | true =>
          rw [hb, cond_true] at h; cases h
          obtain ⟨i', ds, hu', hi', hs', h1'⟩ := eqTy_one hk
          have := eqArr_run (d := d) (d' := d') hu' hi' hs' h1' (fun x y u v w h2 h3 h4 h5 => ih e ks' x y u v w hk h2 h3 h4 h5) n 0 [] [] x y w (by simp) rfl hx hy
          have hz : (sizeOf e).run P w = .ok ks'.length w := by simp [sizeOf, typeInfo, hi', hs']
          rw [← Nat.add_assoc]
          simp only [Op.equalIn, Sem.run_bind, run_underlying hd, Result.andThen, hz]
          simp only [List.nil_append] at this
          rw [Std.Legacy.Range.forIn_eq_forIn_range']
          have er : List.range' (Std.Legacy.Range.start [:n]) (Std.Legacy.Range.size [:n]) (Std.Legacy.Range.step [:n]) = List.range' 0 n := by simp [Std.Legacy.Range.size]
          rw [er, this]
          cases eqVals x y <;> rfl
      · cases h
    · cases h


theorem eqOf_ok {t : TypeId} {ks : List (Option IntKind)} (h : eqOf P t = some ks) (hd : ∀ d, P.underlying t = some d → aggD d = true) : EqOk P t ks := by
  unfold eqOf at h
  cases hg : P.eqGuardType P.depth t with
  | true => rw [hg, cond_true] at h; cases h
  | false =>
    rw [hg, cond_false] at h
    obtain ⟨i, ds, hu, hi, hs, h1⟩ := eqTy_one h
    intro x y w hx hy
    refine ⟨fun op u v => run_eqGuard_agg w op t u v x y hg, ?_⟩
    have hw : ∀ z : Array Value, Whole P t (.agg z) z.toList := fun z => ⟨ds, hu, .inl ⟨hd ds hu, rfl⟩⟩
    have := eqTy_run 12 9988 t ks x.toList y.toList (.agg x) (.agg y) w h hx hy (hw x) (hw y)
    exact this

/-! ## Keys of maps -/

theorem keyFs_run {em : Bool} {d d' : Nat} (ih : ∀ t ks x u (w : World), eqTy P d t = some ks → ShapeV ks x → Whole P t u x → (Instr.checkKey em (d' + d) t u).run P w = .ok () w) :
    ∀ {fs : List Field} {ks : List (Option IntKind)} {px x : List Value} (w : World), eqTy.eqFs P (eqTy P d) px.length fs = some ks → ShapeV ks x →
      ((forIn (m := Sem) fs PUnit.unit fun f (_ : PUnit) => if f.name ≠ "_" then do
            let y ← part f.type (px ++ x).toArray f.offset
            Instr.checkKey em (d' + d) f.type y
            pure (ForInStep.yield PUnit.unit)
          else pure (ForInStep.yield PUnit.unit))).run P w = .ok PUnit.unit w
  | [], ks, px, x, w, h, hx => by simp
  | f :: fs, ks, px, x, w, h, hx => by
    simp only [eqTy.eqFs] at h
    split at h
    · rename_i k1 hk1
      cases hb : (Nat.beq f.offset px.length && f.name != "_") with
      | false => rw [hb, cond_false] at h; cases h
      | true =>
        rw [hb, cond_true] at h
        simp only [Bool.and_eq_true, bne_iff_ne, ne_eq] at hb
        split at h
        · rename_i k2 hk2
          cases h
          obtain ⟨i, ds, hu, hi, hs, h1⟩ := eqTy_one hk1
          have hlx := hx.length
          simp only [List.length_append] at hlx
          obtain ⟨x1, x2⟩ := hx.split
          have ex : px ++ x = px ++ x.take k1.length ++ x.drop k1.length := by rw [List.append_assoc, List.take_append_drop]
          obtain ⟨u, hu1, hu2⟩ := part_whole (P := P) w hu hi hs h1 px (x.take k1.length) (x.drop k1.length) (by simp; omega)
          rw [← ex, ← Nat.eq_of_beq_eq_true hb.1] at hu1
          have hr := ih f.type k1 _ u w hk1 x1 hu2
          have hrest := keyFs_run ih (fs := fs) (px := px ++ x.take k1.length) (x := x.drop k1.length) w (by
            have : (px ++ x.take k1.length).length = px.length + k1.length := by simp; omega
            rw [this]; exact hk2) x2
          rw [← ex] at hrest
          rw [List.forIn_cons, if_pos hb.2]
          simp only [Sem.run_bind, hu1, hr, Result.andThen, Sem.run_pure]
          exact hrest
        · cases h
    · cases h

theorem keyArr_run {em : Bool} {d d' : Nat} {e : TypeId} {ks : List (Option IntKind)} {i : TypeInfo} {ds : TypeDesc} (hu : P.underlying e = some ds) (hi : P.info? e = some i) (hs : i.size = ks.length) (h1 : aggD ds = false → ks.length = 1)
    (ih : ∀ x u (w : World), ShapeV ks x → Whole P e u x → (Instr.checkKey em (d' + d) e u).run P w = .ok () w) :
    ∀ (n j : Nat) (px x : List Value) (w : World), px.length = j * ks.length → ShapeV (List.replicate n ks).flatten x →
      ((forIn (m := Sem) (List.range' j n) PUnit.unit fun a (_ : PUnit) => do
            let z ← sizeOf e
            let y ← part e (px ++ x).toArray (a * z)
            Instr.checkKey em (d' + d) e y
            pure (ForInStep.yield PUnit.unit))).run P w = .ok PUnit.unit w
  | 0, j, px, x, w, _, hx => by simp
  | n + 1, j, px, x, w, hpx, hx => by
    simp only [List.replicate_succ, List.flatten_cons] at hx
    have hlx := hx.length
    simp only [List.length_append] at hlx
    obtain ⟨x1, x2⟩ := hx.split
    have ex : px ++ x = px ++ x.take ks.length ++ x.drop ks.length := by rw [List.append_assoc, List.take_append_drop]
    obtain ⟨u, hu1, hu2⟩ := part_whole (P := P) w hu hi hs h1 px (x.take ks.length) (x.drop ks.length) (by simp; omega)
    rw [← ex, hpx] at hu1
    have hr := ih _ u w x1 hu2
    have hz : (sizeOf e).run P w = .ok ks.length w := by simp [sizeOf, typeInfo, hi, hs]
    have hrest := keyArr_run hu hi hs h1 ih n (j + 1) (px ++ x.take ks.length) (x.drop ks.length) w (by
      simp only [List.length_append, List.length_take]; rw [Nat.succ_mul]; omega) x2
    rw [← ex] at hrest
    rw [List.range'_succ, List.forIn_cons]
    simp only [Sem.run_bind, hz, hu1, hr, Result.andThen, Sem.run_pure]
    exact hrest

theorem eqTy_key {em : Bool} : ∀ (d d' : Nat) (t : TypeId) (ks : List (Option IntKind)) (x : List Value) (u : Value) (w : World), eqTy P d t = some ks → ShapeV ks x → Whole P t u x → (Instr.checkKey em (d' + d) t u).run P w = .ok () w
  | 0, d', t, ks, x, u, w, h, _, _ => by simp [eqTy] at h
  | d + 1, d', t, ks, x, u, w, h, hx, hu => by
    have ih := eqTy_key (em := em) d d'
    unfold eqTy at h
    split at h
    · rename_i k i hd hi
      obtain rfl := whole_one hu hd rfl
      rw [← Nat.add_assoc]
      simp only [Instr.checkKey, Sem.run_bind, run_underlying hd, Result.andThen, Sem.run_pure]
    · rename_i i hd hi
      obtain rfl := whole_one hu hd rfl
      rw [← Nat.add_assoc]
      simp only [Instr.checkKey, Sem.run_bind, run_underlying hd, Result.andThen, Sem.run_pure]
    · rename_i fs i hd hi
      obtain rfl := whole_agg hu hd rfl
      cases hst : P.stoodInHeld t with
      | true => rw [hst, cond_true] at h; cases h
      | false =>
        rw [hst, cond_false] at h
        split at h
        · rename_i ks' hk
          cases hb : Nat.beq i.size ks'.length with
          | false => rw [hb, cond_false] at h; cases h
          | true =>
            rw [hb, cond_true] at h; cases h
            rw [← Nat.add_assoc]
            simp only [Instr.checkKey, Sem.run_bind, run_underlying hd]
            have := keyFs_run (em := em) (px := []) (fun t ks x u w h1 h2 h3 => ih t ks x u w h1 h2 h3) w hk hx
            simp only [List.nil_append] at this
            simp only [Result.andThen]
            rw [← Array.forIn_toList, Sem.run_bind, this]
            rfl
        · cases h
    · rename_i n e i hd hi
      obtain rfl := whole_agg hu hd rfl
      split at h
      · rename_i ks' hk
        cases hb : Nat.beq i.size (n * ks'.length) with
        | false => rw [hb, cond_false] at h; cases h
        | true =>
          rw [hb, cond_true] at h; cases h
          obtain ⟨i', ds, hu', hi', hs', h1'⟩ := eqTy_one hk
          have := keyArr_run (em := em) (d := d) (d' := d') hu' hi' hs' h1' (fun x u w h2 h3 => ih e ks' x u w hk h2 h3) n 0 [] x w (by simp) hx
          rw [← Nat.add_assoc]
          simp only [Instr.checkKey, Sem.run_bind, run_underlying hd, Result.andThen]
          simp only [List.nil_append] at this
          rw [Std.Legacy.Range.forIn_eq_forIn_range']
          have er : List.range' (Std.Legacy.Range.start [:n]) (Std.Legacy.Range.size [:n]) (Std.Legacy.Range.step [:n]) = List.range' 0 n := by simp [Std.Legacy.Range.size]
          rw [er, this]
          rfl
      · cases h
    · cases h

theorem eqOf_key {t : TypeId} {ks : List (Option IntKind)} (h : eqOf P t = some ks) (hd : ∀ d, P.underlying t = some d → aggD d = true) (x : Array Value) (em : Bool) (w : World) (hx : ShapeV ks x.toList) : (Instr.checkKey em 10000 t (.agg x)).run P w = .ok () w := by
  unfold eqOf at h
  cases hg : P.eqGuardType P.depth t with
  | true => rw [hg, cond_true] at h; cases h
  | false =>
    rw [hg, cond_false] at h
    obtain ⟨i, ds, hu, hi, hs, h1⟩ := eqTy_one h
    exact eqTy_key 12 9988 t ks x.toList (.agg x) w h hx ⟨ds, hu, .inl ⟨hd ds hu, rfl⟩⟩

/-- A type's zero value. -/
def zvOf (P : Program) (t : Nat) : Option CV := (P.info? t).bind fun i => i.zero.bind CV.ofVal

theorem zvOf_ok {t : Nat} {c : CV} (h : zvOf P t = some c) : ∃ z, (∀ w, (zeroValue t).run P w = .ok z w) ∧ ∀ ρ σ, VR ρ σ c z := by
  unfold zvOf at h
  cases hi : P.info? t with
  | none => rw [hi] at h; cases h
  | some i =>
    rw [hi] at h
    simp only [Option.bind_some] at h
    cases hz : i.zero with
    | none => rw [hz] at h; cases h
    | some z =>
      rw [hz] at h
      exact ⟨z, fun w => by simp [zeroValue, typeInfo, hi, hz], fun ρ σ => VR.ofVal h⟩

/-- The context of a program: its own tables. -/
noncomputable def ctxOf (P : Program) (memo : Memo) : Ctx where
  memo := memo
  ty := tyOf P
  fn f := P.funcs[f]?
  zv := zvOf P
  eq t := match P.underlying t with
    | some d => bif aggD d then eqOf P t else none
    | none => none

/-- What is asked of a program, all of it decided by computation. -/
def progOk (P : Program) : Bool := P.follows .mixedOrders && P.funcs.toList.all fun f => f.name != "runtime.NumGoroutine" && (match f.body with | some c => regsOk c | none => true)

theorem ctxOf_ok (h : progOk P = true) (memo : Memo) : CtxOk3 P (ctxOf P memo) := by
  simp only [progOk, Bool.and_eq_true, List.all_eq_true] at h
  obtain ⟨hm, hf⟩ := h
  have hmem : ∀ f fn, P.funcs[f]? = some fn → fn ∈ P.funcs.toList := fun f fn hfn => by
    rw [← Array.getElem?_toList] at hfn; exact List.mem_of_getElem? hfn
  refine ⟨⟨⟨fun t r hr => tyOf_ok hr, fun t ks hks => ?_, fun t c hc => zvOf_ok hc, fun t ks hks x em w hx => ?_⟩, fun f fn hfn => ⟨hfn, ?_⟩, hm⟩, fun f fn c hfn hc => ?_⟩
  · simp only [ctxOf] at hks
    split at hks
    · rename_i d hd
      cases ha : aggD d with
      | false => rw [ha, cond_false] at hks; cases hks
      | true =>
        rw [ha, cond_true] at hks
        exact eqOf_ok hks (fun d' hd' => by rw [hd] at hd'; cases hd'; exact ha)
    · cases hks
  · simp only [ctxOf] at hks
    split at hks
    · rename_i d hd
      cases ha : aggD d with
      | false => rw [ha, cond_false] at hks; cases hks
      | true =>
        rw [ha, cond_true] at hks
        exact eqOf_key hks (fun d' hd' => by rw [hd] at hd'; cases hd'; exact ha) x em w hx
    · cases hks
  · have := (hf fn (hmem f fn hfn)).1
    simpa using this
  · have := (hf fn (hmem f fn hfn)).2
    rw [hc] at this
    exact this

end
end Go.Proofs.Ytknphpihipkdpaa.Cx
