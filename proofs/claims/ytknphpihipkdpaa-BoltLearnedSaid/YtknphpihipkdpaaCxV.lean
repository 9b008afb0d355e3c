/- CONTRACTS: what a call does to a small memory, proved once; what the evaluator may take it for in any memory. -/
import Derived.Test.YtknphpihipkdpaaCxU
import Derived.Test.YtknphpihipkdpaaCxRow
set_option linter.unusedSimpArgs false
set_option linter.unusedVariables false
namespace Go.Proofs.Ytknphpihipkdpaa.Cx
open Go Go.RowKit

/-! ## What is picked of a run -/

noncomputable def Out.pk (sl bl : List Nat) : Option Out → Option (Ex × List CV × List (Option Blk) × Nat × List PC × List Nat)
  | some ⟨.code e T, s, _, W⟩ => some (e, sl.map (rd T), bl.map s.heap.get, s.next, s.pc, W)
  | _ => none

theorem Out.pk_inv {sl bl : List Nat} {r : Option Out} {e : Ex} {cs : List CV} {ks : List (Option Blk)} {n : Nat} {l : List PC} {W : List Nat} (h : Out.pk sl bl r = some (e, cs, ks, n, l, W)) :
    ∃ T s R, r = some ⟨.code e T, s, R, W⟩ ∧ sl.map (rd T) = cs ∧ bl.map s.heap.get = ks ∧ s.next = n ∧ s.pc = l := by
  unfold Out.pk at h
  split at h
  · cases h; exact ⟨_, _, _, rfl, rfl, rfl, rfl, rfl⟩
  · cases h


/-- A call in a small memory. -/
structure Ctr (P : Program) (ρ : Env) (f : Nat) (args : List CV) (h0 : Tr Blk) (base : Nat) (W : List Nat) (c : CV) (h1 : Tr Blk) (n1 : Nat) : Prop where
  fn : ∃ fn, P.funcs[f]? = some fn ∧ fn.body.isSome = true
  run : ∀ (n : Nat) (σ : Mp) (w : World) (args' : Array Value), VRl ρ σ args args'.toList → HR ρ σ (curOf h0 base) w → (∀ b, base ≤ b → σ b = none) →
    CallsIn (fc none) n P f args' w (Ret (Post ρ σ (curOf h0 base) base w c ⟨h1, n1, [], []⟩ W))

section
variable {P : Program} {memo : Memo} {ρ : Env} {f : Nat} {args : List CV} {h0 h1 : Tr Blk} {base n1 : Nat} {W : List Nat} {c : CV}

/-- A function's body, from the start, gives its contract. -/
theorem Ctr.of_sem {fn : Func} {body : Code} {Φ : Ex → Pt → Prop} (hP : progOk P = true) (hfn : P.funcs[f]? = some fn) (hb : fn.body = some body) (hl : args.length ≤ fn.ntmps) (hW : ∀ b ∈ W, b < base)
    (h : ∀ X : Fx, X.base = base → X.nt = fn.ntmps → X.W = W → FxOk ρ X → Sem P ρ X body ⟨args0 0 args .nil, h0, base⟩ Φ)
    (hres : ∀ X : Fx, X.base = base → X.W = W → FxOk ρ X → ∀ e p, Φ e p → e.stays = true ∧ ∃ (ren : Nat → Nat) (p2 : Pt) (vs : List CV) (R' : List Nat), Mat ρ X ren p p2 ∧ p2.n = n1 ∧ (∀ b, (b ∈ W ∨ (base ≤ b ∧ b < n1)) → h1.get b = p2.h.get b) ∧ resE (ctxOf P memo0) p.T (p.st []) fn.results.toList = some (vs, R') ∧ MC ρ ren n1 (tupC vs) c) :
    Ctr P ρ f args h0 base W c h1 n1 := by
  have hC := ctxOf_ok hP (memo0 : Memo)
  refine ⟨⟨fn, hfn, by rw [hb]; rfl⟩, ?_⟩
  intro n σ w args1 hargs hH hN
  have hlen2 := hargs.length
  simp only [Array.length_toList] at hlen2
  obtain ⟨X, hX⟩ : ∃ X : Fx, X = ⟨σ, curOf h0 base, base, W, w, fn.ntmps, ⟨args1 ++ Array.replicate (fn.ntmps - args1.size) Go.undef, []⟩, none, n⟩ := ⟨_, rfl⟩
  have hXo : FxOk ρ X := by rw [hX]; exact ⟨hH, hN, hW, fun l hl => by cases hl⟩
  have hS := h X (by rw [hX]) (by rw [hX]) (by rw [hX]) hXo
  refine callsIn_of_wp_marks (hC.fn f fn hfn).1 hb trivial ?_
  have key := hS (bodyPostM (fc none) n P fn (Ret (Post ρ σ (curOf h0 base) base w c ⟨h1, n1, [], []⟩ W))) ⟨args1 ++ Array.replicate (fn.ntmps - args1.size) Go.undef, []⟩ w ?_ ?_
  · rw [hX] at key; exact key
  · rw [hX]
    refine ⟨Nat.le_refl _, fun b h1 h2 => if_pos h1, σ, ?_, (args0_rel hargs hl []).marks _ _⟩
    refine Inv.start (s := ⟨h0, base, [], []⟩) hH (fun b hb' => ?_)
    rcases hb' with hb' | hb'
    · exact if_pos (hW b hb')
    · have : base ≤ b ∧ b < base := hb'; omega
  · intro e p a' w'0 hΦ hS'
    obtain ⟨he, ren, p2, vs, R', hmat, hn, hh, hr, hc⟩ := hres X (by rw [hX]) (by rw [hX]) hXo e p hΦ
    have toX : ∀ {σ'' : Mp} {w' : World}, Inv ρ σ (curOf h0 base) base W base w (p.st []) σ'' w' → Inv ρ σ (curOf h0 base) base W base w (p2.st []) (fun b => if b < p2.n then σ'' (ren b) else none) w' := fun {σ'' w'} hI => by
      have := Inv.mat (X := X) hXo (by rw [hX]; exact hI) hmat
      rw [hX] at this; exact this
    rw [hX] at hS'
    obtain ⟨hle, hold, σ', hI0, hF⟩ := hS'
    have hle : base ≤ p.n := hle
    have hfin : LeavesInM (fc none) n P fn a'.tmps (Ret (Post ρ σ (curOf h0 base) base w c ⟨h1, n1, [], []⟩ W)) a'.defers .returning w'0 := by
      obtain ⟨ml, hml, hmn, hmd⟩ := hF.2.2
      rw [hml, List.append_nil]
      refine leaves_marks (J := fun w' => Inv ρ σ (curOf h0 base) base W base w (p.st []) σ' w') (N0 := w.heap.size) (fun w2 D hI hD1 hD2 => ⟨hI.ext, hI.H.put hD2 (fun _ _ _ h => by cases h) (fun _ h => by cases h) (fun _ _ h => by cases h), ⟨hI.K.os, hI.K.tape, hI.K.output, by rw [World.putObj_size]; exact hI.K.size, fun k hk hne => by rw [World.putObj_heap_other (by omega)]; exact hI.K.block k hk hne, fun k r hk => ?_, fun k hk => ?_⟩, hI.F⟩) (fun w' hI => ?_) ml w'0 hmn hmd hI0
      · have hlt := (Array.getElem?_eq_some_iff.1 hk).1
        obtain ⟨r', hr'⟩ := hI.K.loops k r hk
        exact ⟨r', by rw [World.putObj_heap_other (by omega)]; exact hr'⟩
      · have hlt := (Array.getElem?_eq_some_iff.1 hk).1
        rw [World.putObj_heap_other (by omega)]; exact hI.K.defd k hk
      have hcur : ∀ b ∈ R', upd (curOf h0 base) base p.n p.h W b = p.h.get b := by
        intro b hb'
        show (if b ∈ W ∨ (base ≤ b ∧ b < p.n) then _ else curOf h0 base b) = _
        by_cases hc' : b ∈ W ∨ (base ≤ b ∧ b < p.n)
        · rw [if_pos hc']
        · rw [if_neg hc']
          have hlt : b < p.n := resE_lt hr b hb'
          have hb0 : b < base := by
            by_cases h : b < base
            · exact h
            · exact absurd (.inr ⟨by omega, hlt⟩) hc'
          exact hold b hb0 (fun h => hc' (.inl h))
      obtain ⟨ws, hw1, hw2⟩ := res_run (P := P) (a := a') hC.toCtxOk hI.H hF.2.1 hr hcur
      have hrun : (results fn a'.tmps).run P w' = .ok (if h : ws.length = 1 then ws[0] else .tuple ws.toArray) w' := by
        have hm : (fn.results.mapM (resF a')).run P w' = .ok ws.toArray w' := by
          rw [Array.mapM_eq_mapM_toList]
          simp only [Sem.run_map, hw1, Result.andThen]
        show (Sem.run P (do
          let vs ← fn.results.mapM (resF a')
          pure (if h : vs.size = 1 then vs[0] else .tuple vs)) w') = _
        simp only [Sem.run_bind, hm, Result.andThen, Sem.run_pure]
        by_cases hh1 : ws.length = 1
        · simp [hh1]
        · simp [hh1]
      have hI2 := toX hI
      refine ⟨_, hrun, _, rfl, _, ?_, hc σ' (fun b => if b < p2.n then σ' (ren b) else none) _ (fun b hb => if_pos (by rw [hn]; exact hb)) (tup_rel hw2), ?_, hI2.K, ?_⟩
      · have := hI2.ext; show Ext σ _ base n1; rw [← hn]; exact this
      · have hu : upd (curOf h0 base) base n1 h1 W = upd (curOf h0 base) base p2.n p2.h W := by
          funext b
          show (if b ∈ W ∨ (base ≤ b ∧ b < n1) then h1.get b else _) = (if b ∈ W ∨ (base ≤ b ∧ b < p2.n) then p2.h.get b else _)
          rw [hn]
          by_cases hc' : b ∈ W ∨ (base ≤ b ∧ b < n1)
          · rw [if_pos hc', if_pos hc', hh b hc']
          · rw [if_neg hc', if_neg hc']
        show HR ρ _ (upd (curOf h0 base) base n1 h1 W) w'
        rw [hu]; exact hI2.H
      · have := hI2.F; show Fresh σ _ base n1 base W w; rw [← hn]; exact this
    cases e with
    | normal => exact hfin
    | ret => exact hfin
    | exit i => simp [Ex.stays] at he

/-- Numbers of a small memory, in a greater one. -/
structure Lift (β : Nat → Nat) (base n1 next : Nat) (σ σ2 : Mp) : Prop where
  old : ∀ i, i < base → ∀ l, σ i = some l → σ2 (β i) = some l
  new : ∀ j, base + j < n1 → ∀ l, σ (base + j) = some l → σ2 (next + j) = some l

/-- A contract where nothing old is written, in any memory. -/
theorem Ctr.callOk {β : Nat → Nat} {s s' : St} {R : List Nat} {args2 : List CV} {c2 : CV} {memo : Memo} (K : (∀ p ∈ s'.pc, p.holds ρ) → Ctr P ρ f args h0 base [] c h1 n1) (hfn : ∃ fn, P.funcs[f]? = some fn ∧ fn.body.isSome = true)
    (hle : base ≤ n1) (hn : s'.next = s.next + (n1 - base)) (hpc : ∃ l, s'.pc = l ++ s.pc) (hold : ∀ b, ¬ (s.next ≤ b ∧ b < s'.next) → s'.heap.get b = s.heap.get b)
    (hnew : ∀ j, base + j < n1 → ∀ k, s'.heap.get (s.next + j) = some k → ∃ k0, h1.get (base + j) = some k0 ∧ k.live = k0.live ∧ k.esz = k0.esz ∧ k.ext = none ∧ (k.ro = false → k0.ro = false) ∧ ∀ σ σ2 us, Lift β base n1 s.next σ σ2 → VRl ρ σ k0.cells us → VRl ρ σ2 k.cells us)
    (hβ : ∀ i, i < base → β i < s.next ∧ β i ∈ R) (hR : ∀ b ∈ R, b < s.next) (hinj : ∀ i i' k k', i < base → i' < base → h0.get i = some k → h0.get i' = some k' → (k.ro = false ∨ k'.ro = false) → β i = β i' → i = i')
    (hblk : ∀ i, i < base → ∀ k, h0.get i = some k → ∃ k1, s.heap.get (β i) = some k1 ∧ k.live = k1.live ∧ k.esz = k1.esz ∧ k.ext = none ∧ (k.ro = false → k1.ro = false) ∧ ∀ σ σ2 us, VRl ρ σ k1.cells us → VRl ρ σ2 k.cells us)
    (hargs : ∀ σ l, VRl ρ σ args2 l → VRl ρ (fun i => if i < base then σ (β i) else none) args l) (hc : ∀ σ σ2 v, Lift β base n1 s.next σ σ2 → VR ρ σ c v → VR ρ σ2 c2 v) :
    CallOk P (ctxOf P memo) ρ f args2 s c2 s' R [] := by
  refine ⟨hfn, ⟨by omega, fun b _ hb => hold b hb, hpc⟩, ⟨hR, fun b hb => by cases hb⟩, ?_⟩
  intro n σ cur w args' hp hargs' hH hA hN
  have K := K hp
  have hH0 : HR ρ (fun i => if i < base then σ (β i) else none) (curOf h0 base) w := by
    have get : ∀ b k, curOf h0 base b = some k → b < base ∧ h0.get b = some k ∧ k.ext = none ∧ ∃ k1, cur (β b) = some k1 ∧ k.live = k1.live ∧ k.esz = k1.esz ∧ (k.ro = false → k1.ro = false) ∧ ∀ σ σ2 us, VRl ρ σ k1.cells us → VRl ρ σ2 k.cells us := by
      intro b k hk
      unfold curOf at hk
      split at hk
      · rename_i hb
        obtain ⟨k1, q1, q2, q3, q4, q5, q6⟩ := hblk b hb k hk
        exact ⟨hb, hk, q4, k1, (hA _ (.inl (hβ b hb).2)).trans q1, q2, q3, q5, q6⟩
      · cases hk
    refine ⟨fun b k l a1 a2 a3 => ?_, fun b b' k k' l l' a1 a2 a3 a4 a5 a6 a7 a8 => ?_, fun b k x l a1 a2 a3 => ?_, fun b b' k k' x x' l l' a1 a2 a3 a4 a5 a6 a7 => ?_⟩
    · obtain ⟨hb, _, _, k1, q1, q2, qe, qr, q3⟩ := get b k a1
      simp only [if_pos hb] at a3
      obtain ⟨cs, t, ppr1, r1, qqr1, r2, r3, r4, r5⟩ := hH.cell _ k1 l q1 (q2 ▸ a2) a3
      have r6 := q3 _ (fun i => if i < base then σ (β i) else none) _ r5
      have hlen : k.cells.length = k1.cells.length := r6.length.symm.trans r5.length
      exact ⟨cs, t, ppr1, r1, fun h => qqr1 (qr h), r2, qe.trans r3, by rw [hlen]; exact r4, by rw [hlen]; exact r6⟩
    · obtain ⟨hb, g1, _, k1, q1, q2, _, qr, _⟩ := get b k a1
      obtain ⟨hb', g1', _, k1', q1', q2', _, qr', _⟩ := get b' k' a4
      simp only [if_pos hb] at a3
      simp only [if_pos hb'] at a6
      exact hinj b b' k k' hb hb' g1 g1' a8 (hH.inj _ _ k1 k1' l l' q1 (q2 ▸ a2) a3 q1' (q2' ▸ a5) a6 a7 (a8.imp qr qr'))
    · obtain ⟨_, _, q2, _⟩ := get b k a1
      rw [q2] at a2; cases a2
    · obtain ⟨_, _, q2, _⟩ := get b k a1
      rw [q2] at a2; cases a2
  refine CallsIn.mono (K.run n _ w args' (hargs σ _ hargs') hH0 (fun b hb => if_neg (by omega))) ?_
  rintro e w' ⟨v, rfl, σ', x1, x2, x3, x4, x5⟩
  have x1 : Ext (fun i => if i < base then σ (β i) else none) σ' base n1 := x1
  have x3 : HR ρ σ' (upd (curOf h0 base) base n1 h1 []) w' := x3
  have x5 : Fresh (fun i => if i < base then σ (β i) else none) σ' base n1 base [] w := x5
  -- nothing old was written
  have same : ∀ k, k < w.heap.size → w'.heap[k]? = w.heap[k]? := fun k hk => x4.block k hk (fun b hb l hl => by
    rcases hb with hb | hb
    · cases hb
    · have : (if b < base then σ (β b) else none) = some l := hl
      rw [if_neg (by omega)] at this; cases this)
  have fresh : ∀ j l, base + j < n1 → σ' (base + j) = some l → w.heap.size ≤ l.blk := fun j l hj hl => by
    rcases x5 (base + j) l (by omega) hj hl with h | ⟨b0, hb0, l0, h1, h2⟩
    · exact h
    · rcases hb0 with hb0 | hb0
      · cases hb0
      · have : (if b0 < base then σ (β b0) else none) = some l0 := h1
        rw [if_neg (by omega)] at this; cases this
  obtain ⟨σ2, hσ2⟩ : ∃ σ2 : Mp, σ2 = fun b => if s.next ≤ b ∧ b < s'.next then σ' (base + (b - s.next)) else σ b := ⟨_, rfl⟩
  have e1 : ∀ j, base + j < n1 → σ2 (s.next + j) = σ' (base + j) := fun j hj => by
    rw [hσ2]
    show (if s.next ≤ s.next + j ∧ s.next + j < s'.next then σ' (base + (s.next + j - s.next)) else σ _) = _
    rw [if_pos ⟨by omega, by omega⟩, Nat.add_sub_cancel_left]
  have e2 : ∀ b, ¬ (s.next ≤ b ∧ b < s'.next) → σ2 b = σ b := fun b hb => by rw [hσ2]; exact if_neg hb
  have hle2 : σ.le σ2 := fun b l hl => by
    by_cases hb : s.next ≤ b ∧ b < s'.next
    · rw [hN b hb.1 hb.2] at hl; cases hl
    · rw [e2 b hb]; exact hl
  have lift : Lift β base n1 s.next σ' σ2 := by
    refine ⟨fun i hi l hl => ?_, fun j hj l hl => by rw [e1 j hj]; exact hl⟩
    have := x1 i (.inl hi)
    simp only [if_pos hi] at this
    rw [this] at hl
    exact hle2 _ _ hl
  have old : ∀ b k, upd cur s.next s'.next s'.heap [] b = some k → ∀ l, σ2 b = some l → (∃ j, b = s.next + j ∧ base + j < n1 ∧ s'.heap.get b = some k ∧ σ' (base + j) = some l) ∨ (¬ (s.next ≤ b ∧ b < s'.next) ∧ cur b = some k ∧ σ b = some l) := by
    intro b k hk l hl
    unfold upd at hk
    by_cases hb : s.next ≤ b ∧ b < s'.next
    · left
      rw [if_pos (.inr hb)] at hk
      obtain ⟨j, rfl⟩ : ∃ j, b = s.next + j := ⟨b - s.next, by omega⟩
      exact ⟨j, rfl, by omega, hk, by rw [← e1 j (by omega)]; exact hl⟩
    · right
      rw [if_neg (by simpa using hb)] at hk
      exact ⟨hb, hk, by rw [← e2 b hb]; exact hl⟩
  have up1 : ∀ j k0, base + j < n1 → h1.get (base + j) = some k0 → upd (curOf h0 base) base n1 h1 [] (base + j) = some k0 := fun j k0 hj hk => by
    show (if base + j ∈ [] ∨ (base ≤ base + j ∧ base + j < n1) then h1.get (base + j) else _) = _
    rw [if_pos (.inr ⟨by omega, hj⟩)]; exact hk
  refine ⟨v, rfl, σ2, fun b hb => e2 b (by omega), hc _ _ _ lift x2, ?_, .of_same x4.os x4.tape x4.output x4.size same, fun b l b1 b2 b3 => ?_⟩
  · refine ⟨fun b k l a1 a2 a3 => ?_, fun b b' k k' l l' a1 a2 a3 a4 a5 a6 a7 a8 => ?_, fun b k x l a1 a2 a3 => ?_, fun b b' k k' x x' l l' a1 a2 a3 a4 a5 a6 a7 => ?_⟩
    · rcases old b k a1 l a3 with ⟨j, rfl, hj, hk, hl⟩ | ⟨hb, hk, hl⟩
      · obtain ⟨k0, g1, g2, g3, g4, gr, g5⟩ := hnew j hj k hk
        obtain ⟨cs, t, ppr1, r1, qqr1, r2, r3, r4, r5⟩ := x3.cell (base + j) k0 l (up1 j k0 hj g1) (g2 ▸ a2) hl
        have r6 := g5 _ _ _ lift r5
        have hlen : k.cells.length = k0.cells.length := r6.length.symm.trans r5.length
        exact ⟨cs, t, ppr1, r1, fun h => qqr1 (gr h), r2, g3.trans r3, by rw [hlen]; exact r4, by rw [hlen]; exact r6⟩
      · obtain ⟨cs, t, ppr1, r1, qqr1, r2, r3, r4, r5⟩ := hH.cell b k l hk a2 hl
        exact ⟨cs, t, ppr1, by rw [same _ (Array.getElem?_eq_some_iff.1 r1).1]; exact r1, qqr1, r2, r3, r4, r5.mono hle2⟩
    · rcases old b k a1 l a3 with ⟨j, rfl, hj, hk, hl⟩ | ⟨hb, hk, hl⟩ <;> rcases old b' k' a4 l' a6 with ⟨j', rfl, hj', hk', hl'⟩ | ⟨hb', hk', hl'⟩
      · obtain ⟨k0, g1, g2, _, _, gr, _⟩ := hnew j hj k hk
        obtain ⟨k1, g1', g2', _, _, gr', _⟩ := hnew j' hj' k' hk'
        have := x3.inj _ _ k0 k1 l l' (up1 j k0 hj g1) (g2 ▸ a2) hl (up1 j' k1 hj' g1') (g2' ▸ a5) hl' a7 (a8.imp gr gr')
        omega
      · have f1 := fresh j l hj hl
        have f2 := hH.lt hk' a5 hl'
        omega
      · have f1 := fresh j' l' hj' hl'
        have f2 := hH.lt hk a2 hl
        omega
      · exact hH.inj b b' k k' l l' hk a2 hl hk' a5 hl' a7 a8
    · rcases old b k a1 l a3 with ⟨j, rfl, hj, hk, hl⟩ | ⟨hb, hk, hl⟩
      · obtain ⟨_, _, _, _, g4, _⟩ := hnew j hj k hk
        rw [g4] at a2; cases a2
      · have hs := hH.spec b k x l hk a2 hl
        exact (hs.heap (same _ hs.lt)).mono hle2
    · rcases old b k a1 l a3 with ⟨j, rfl, hj, hk, hl⟩ | ⟨hb, hk, hl⟩
      · obtain ⟨_, _, _, _, g4, _⟩ := hnew j hj k hk
        rw [g4] at a2; cases a2
      · rcases old b' k' a4 l' a6 with ⟨j', rfl, hj', hk', hl'⟩ | ⟨hb', hk', hl'⟩
        · obtain ⟨_, _, _, _, g4, _⟩ := hnew j' hj' k' hk'
          rw [g4] at a5; cases a5
        · exact hH.injX b b' k k' x x' l l' hk a2 hl hk' a5 hl' a7
  · rcases Nat.lt_or_ge b (s.next + (n1 - base)) with hlt | hge
    · obtain ⟨j, rfl⟩ : ∃ j, b = s.next + j := ⟨b - s.next, by omega⟩
      rw [e1 j (by omega)] at b3
      exact .inl (fresh j l (by omega) b3)
    · omega

end
end Go.Proofs.Ytknphpihipkdpaa.Cx
