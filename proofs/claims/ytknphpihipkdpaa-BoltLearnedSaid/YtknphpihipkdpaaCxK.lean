/- One operation of a region, wanted or not, a call of a Go function included. -/
import Derived.Test.YtknphpihipkdpaaCxJ2
set_option linter.unusedSimpArgs false
set_option linter.unusedVariables false
namespace Go.Proofs.Ytknphpihipkdpaa.Cx
open Go Go.RowKit

/-- A call's end: a value, and what it left behind. -/
def Ret (R : Value → World → Prop) (e : Ending) (w : World) : Prop := ∃ v, e = .returned v ∧ R v w

/-- The evaluator's word on a call holds. -/
structure CallOk (P : Program) (C : Ctx) (ρ : Env) (f : Nat) (args : List CV) (s : St) (c : CV) (s' : St) (R W : List Nat) : Prop where
  fn : ∃ fn, C.fn f = some fn ∧ fn.body.isSome = true
  frm : Frm s s' W
  lt : Lts s R W
  run : ∀ (n : Nat) (σ : Mp) (cur : Cur) (w : World) (args' : Array Value), (∀ p ∈ s'.pc, p.holds ρ) → VRl ρ σ args args'.toList → HR ρ σ cur w → (∀ b, b ∈ R ∨ b ∈ W → cur b = s.heap.get b) →
    (∀ b, s.next ≤ b → b < s'.next → σ b = none) → CallsIn (fc none) n P f args' w (Ret (Post ρ σ cur s.next w c s' W))

/-- The calls that are known are as they are said to be. -/
def MemoOk (P : Program) (C : Ctx) (ρ : Env) : Prop :=
  ∀ f args s c s' R W, C.memo f args s = some (c, s', R, W) → CallOk P C ρ f args s c s' R W

/-- The evaluator's word on calls and on statements that begin at their own numbers holds. -/
structure SelfOk (P : Program) (C : Ctx) (ρ : Env) (sf : Task → St → Option Out) : Prop where
  call : ∀ f args s c s' R W, sf (.call f args) s = some ⟨.val c, s', R, W⟩ → CallOk P C ρ f args s c s' R W
  code : ∀ c nt T s e T' s' R W, sf (.code c nt T) s = some ⟨.code e T', s', R, W⟩ → ∃ m, CodeOk P ρ m s.next c nt T s e T' s' R W

structure CtxOk2 (P : Program) (C : Ctx) : Prop extends CtxOk P C where
  fn : ∀ f fn, C.fn f = some fn → P.funcs[f]? = some fn ∧ (fn.name == "runtime.NumGoroutine") = false
  mixed : P.follows .mixedOrders = true

theorem callFunc_run {P : Program} {C : Ctx} (hC : CtxOk2 P C) {f : Nat} {fn : Func} (h : C.fn f = some fn) (hb : fn.body.isSome = true) (args : Array Value) (w : World) : (callFunc f args).run P w = .ok (.enter f args) w := by
  obtain ⟨h1, h2⟩ := hC.fn f fn h
  have h3 : fn.body.isNone = false := by cases hb' : fn.body <;> simp_all
  simp only [callFunc, Sem.run_bind]
  show (Result.andThen (Result.ok P w) _) = _
  simp only [Result.andThen, h1, h2, h3, Bool.false_eq_true, if_false, Sem.run_pure]

section
variable {P : Program} {C : Ctx} {ρ : Env} {σ : Mp} {cur : Cur} {s : St} {T : Tr CV} {a : Act} {w : World} {o : Oper} {r : OR} {ops : Array Oper} {self : Task → St → Option Out} {ro : Option Nat} {n : Nat} {Q : Exit → Act → World → Prop} {K : Act → World → Prop}

/-- The temporaries that an operation looks at. -/
def Looks (ρ : Env) (σ : Mp) (T : Tr CV) (a : Act) (ops : Array Oper) (o : Oper) : Prop := ∀ t, t ∈ o.looksAt ops → VR ρ σ (rd T t) (a.tmps.getD t Go.undef)

theorem Looks.reads (h : Looks ρ σ T a ops o) : Reads ρ σ T a o.op.operands.toList := fun t ht =>
  h t (List.mem_append_left _ (List.mem_filterMap.2 ⟨.tmp t, ht, rfl⟩))

theorem getD_bool {l : Array Value} {t : Nat} {b : Bool} (h : l.getD t Go.undef = .bool b) : l[t]? = some (.bool b) := by
  rw [Array.getD_eq_getD_getElem?] at h
  cases hl : l[t]? with
  | none => rw [hl] at h; cases h
  | some v => rw [hl] at h; simp at h; rw [h]

theorem wants_run {v : Bool} {s1 : St} (h : wants ops T s o = some (v, s1)) (hL : Looks ρ σ T a ops o) (hp : ∀ p ∈ s1.pc, p.holds ρ) : Region.wanted o (yielded ops a.tmps) = v := by
  unfold wants at h
  unfold Region.wanted
  cases hg : o.guard with
  | none => rw [hg] at h; simp only at h ⊢; cases h; rfl
  | some g =>
    obtain ⟨j, want⟩ := g
    rw [hg] at h
    simp only at h ⊢
    unfold yielded
    split at h
    · rename_i hd; cases h; simp [hd]
    · rename_i t hd
      rw [hd]
      have hv : VR ρ σ (rd T t) (a.tmps.getD t Go.undef) := hL t (List.mem_append_right _ (by rw [hg]; simp [hd]))
      split at h
      · rename_i e he
        rw [he] at hv
        split at h
        · rename_i b s2 hdec
          cases h
          have h1 := getD_bool hv.bool_inv
          have h2 := (decide_parts (ρ := ρ) hdec).2.2.2 hp
          simp only [Option.bind_some, h1, h2]
          cases b <;> cases want <;> rfl
        · cases h
      · rename_i he
        cases h
        rw [he] at hv
        obtain ⟨cs, h1, h2⟩ := hv.tup_inv
        have : cs = #[] := by
          have := h2.length
          simp at this
          exact this
        subst this
        have hno : ∀ b, a.tmps[t]? ≠ some (.bool b) := fun b hb => by
          rw [Array.getD_eq_getD_getElem?, hb] at h1
          simp at h1
        simp only [Option.bind_some]
        first
          | (cases want <;> rfl)
          | (split
             · rename_i b hb; exact absurd hb (hno b)
             · rfl)
      · cases h

theorem wants_frame {v : Bool} {s1 : St} (h : wants ops T s o = some (v, s1)) : s1.next = s.next ∧ s1.heap = s.heap ∧ ∃ l, s1.pc = l ++ s.pc := by
  unfold wants at h
  split at h
  · cases h; exact ⟨rfl, rfl, [], rfl⟩
  · split at h
    · cases h; exact ⟨rfl, rfl, [], rfl⟩
    · split at h
      · split at h
        · rename_i hd
          cases h
          obtain ⟨h1, h2, h3, _⟩ := decide_parts (ρ := ⟨fun _ => 0, fun _ => false⟩) hd
          exact ⟨h1, h2, h3⟩
        · cases h
      · cases h; exact ⟨rfl, rfl, [], rfl⟩
      · cases h

/-- The rule's premise at an operation. -/
def OpGoal (P : Program) (ro : Option Nat) (n : Nat) (ops : Array Oper) (Q : Exit → Act → World → Prop) (o : Oper) (K : Act → World → Prop) (a : Act) (w : World) : Prop :=
  if Region.wanted o (yielded ops a.tmps) then o.wpIn (fc ro) n P a w K Q else (∀ f, o.about P w a.eval = some f → (fc ro).fn f) ∧ K (a.put o.dst Go.undef) w

theorem about_fc (w : World) : ∀ f, o.about P w a.eval = some f → (fc ro).fn f := fun _ _ => trivial

theorem semAt_gives {R : Value → World → Prop} (hd : ∀ c, o.op ≠ .defer c) (h : Gives P o a w R) (hK : ∀ v w', R v w' → K (a.put o.dst v) w') : o.wpIn (fc ro) n P a w K Q := by
  obtain ⟨v, w', hr, hR⟩ := h
  refine ⟨about_fc w, ?_⟩
  rw [Oper.semAt_eq _ _ _ hd]
  rcases hr with hr | ⟨hr, rfl⟩
  · rw [hr]; exact hK v w' hR
  · rw [hr]; exact hK _ w' hR

theorem opE_no_defer (h : opE C T s o = some r) : ∀ c, o.op ≠ .defer c := by
  intro c e
  unfold opE at h
  rw [e] at h
  cases h

/-! ## A round of a range over a function -/

theorem FrmB.toFrm {s s' : St} {W : List Nat} (h : FrmB s.next s s' W) : Frm s s' W := ⟨h.next, h.get, h.pc⟩

theorem roundE_parts {b : Nat} {vs : List CV} (h : roundE self s b vs = some r) : ∃ (r0 r3 r5 : LR) (T1 T2 T4 : Tr CV) (s2 s4 : St) (e : Ex) (R1 W1 R2 W2 : List Nat),
    s.getX b = some (.loop r0) ∧ putTs r0.nt r0.T r0.ps.toList vs = some T1 ∧ self (.code r0.assign r0.nt T1) s = some ⟨.code .normal T2, s2, R1, W1⟩ ∧
    s2.getX b = some (.loop r3) ∧ r3.st = .ready ∧ self (.code r0.body r0.nt T2) (s2.setX b (.loop { r3 with st := .busy })) = some ⟨.code e T4, s4, R2, W2⟩ ∧
    s4.getX b = some (.loop r5) ∧ r = ⟨.bool (.c e.jump.isNone), s4.setX b (.loop { r5 with st := bif e.jump.isNone then .ready else .done, pend := e.jump }), b :: join s.next R1 (join s.next R2 []), b :: join s.next W1 (join s.next W2 [])⟩ := by
  unfold roundE at h
  split at h
  · rename_i T0 nt ps as bd pd hx
    split at h
    · cases h
    · rename_i T1 hT1
      split at h
      · rename_i T2 s2 R1 W1 h1
        split at h
        · rename_i T3 nt3 ps3 as3 bd3 pd3 hx3
          split at h
          · rename_i e T4 s4 R2 W2 h2
            split at h
            · rename_i T5 nt5 ps5 as5 bd5 st5 pd5 hx5
              cases h
              exact ⟨⟨T0, nt, ps, as, bd, .ready, pd⟩, ⟨T3, nt3, ps3, as3, bd3, .ready, pd3⟩, ⟨T5, nt5, ps5, as5, bd5, st5, pd5⟩, T1, T2, T4, s2, s4, e, R1, W1, R2, W2, hx, hT1, h1, hx3, rfl, h2, hx5, rfl⟩
            · cases h
          · cases h
        · cases h
      · cases h
  · cases h

theorem roundE_frm (hS : SelfOk P C ρ self) {b : Nat} {vs : List CV} (h : roundE self s b vs = some r) : Frm s r.s r.W ∧ Lts s r.R r.W := by
  obtain ⟨r0, r3, r5, T1, T2, T4, s2, s4, e, R1, W1, R2, W2, hx, hT, h1, hx3, hst, h2, hx5, rfl⟩ := roundE_parts h
  obtain ⟨_, k1⟩ := hS.code _ _ _ _ _ _ _ _ _ h1
  obtain ⟨_, k2⟩ := hS.code _ _ _ _ _ _ _ _ _ h2
  have hb : b < s.next := (getX_parts hx).choose_spec.2.2
  have n1 := k1.frm.next
  have f2 : Frm (s2.setX b (.loop { r3 with st := .busy })) s4 W2 := FrmB.toFrm k2.frm
  have n2 : s2.next ≤ s4.next := f2.next
  have l2 : ∀ x, x ∈ R2 ∨ x ∈ W2 → x < s2.next := k2.lt
  refine ⟨?_, ?_, ?_⟩
  · refine Frm.trans (W1 := b :: join s.next W1 (join s.next W2 [])) (W2 := [b]) (Frm.trans (W1 := b :: join s.next W1 (join s.next W2 [])) (W2 := W2) (Frm.trans (W1 := W1) (W2 := [b]) (FrmB.toFrm k1.frm) (.setX s2 b _) ?_ ?_) f2 ?_ ?_) (.setX s4 b _) ?_ ?_
    · intro x hx'; exact .inl (List.mem_cons_of_mem _ (join_mem.2 (.inl ⟨hx', k1.lt x (.inr hx')⟩)))
    · intro x hx'; obtain rfl := List.mem_singleton.1 hx'; exact .inl (by simp)
    · intro x hx'; exact .inl hx'
    · intro x hx'
      by_cases hlt : x < s.next
      · exact .inl (List.mem_cons_of_mem _ (join_mem.2 (.inr (join_mem.2 (.inl ⟨hx', hlt⟩)))))
      · exact .inr ⟨by omega, by have := l2 x (.inr hx'); omega⟩
    · intro x hx'; exact .inl hx'
    · intro x hx'; obtain rfl := List.mem_singleton.1 hx'; exact .inl (by simp)
  · intro x hx'
    rcases List.mem_cons.1 hx' with rfl | hx'
    · exact hb
    · rcases join_mem.1 hx' with h | h
      · exact h.2
      · rcases join_mem.1 h with h | h
        · exact h.2
        · cases h
  · intro x hx'
    rcases List.mem_cons.1 hx' with rfl | hx'
    · exact hb
    · rcases join_mem.1 hx' with h | h
      · exact h.2
      · rcases join_mem.1 h with h | h
        · exact h.2
        · cases h

theorem putTs_run {nt : Nat} : ∀ {ds : List Tmp} {cs : List CV} {T T1 : Tr CV} {tmps : Array Value} {vals : List Value}, putTs nt T ds cs = some T1 → tmps.size = nt → (∀ t, VR ρ σ (rd T t) (tmps.getD t Go.undef)) → VRl ρ σ cs vals →
    ds.length = cs.length ∧ ((ds.zip vals).foldl (fun (tmps : Array Value) (p : Tmp × Value) => tmps.setIfInBounds p.1 p.2) tmps).size = nt ∧ ∀ t, VR ρ σ (rd T1 t) (((ds.zip vals).foldl (fun (tmps : Array Value) (p : Tmp × Value) => tmps.setIfInBounds p.1 p.2) tmps).getD t Go.undef)
  | [], [], T, T1, tmps, _, h, hn, hT, .nil => by simp only [putTs] at h; cases h; exact ⟨rfl, hn, hT⟩
  | [], _ :: _, T, T1, tmps, _, h, _, _, _ => by simp [putTs] at h
  | _ :: _, [], T, T1, tmps, _, h, _, _, _ => by simp [putTs] at h
  | d :: ds, c :: cs, T, T1, tmps, _, h, hn, hT, .cons (v := v) (m := m) hv ht => by
    simp only [putTs] at h
    cases hd : Nat.blt d nt with
    | false => rw [hd, cond_false] at h; cases h
    | true =>
      rw [hd, cond_true] at h
      have hlt : d < tmps.size := by rw [hn]; exact Nat.lt_of_succ_le (Nat.le_of_ble_eq_true hd)
      obtain ⟨h1, h2, h3⟩ := putTs_run (tmps := tmps.setIfInBounds d v) h (by simp [hn]) (fun t => by
        simp only [rd, Tr.get_set]
        by_cases e : t = d
        · subst e
          simp only [if_true]
          rw [Array.getD_eq_getD_getElem?, Array.getElem?_setIfInBounds_self_of_lt hlt]
          exact hv
        · rw [if_neg e, Array.getD_eq_getD_getElem?, Array.getElem?_setIfInBounds_ne (fun h => e h.symm), ← Array.getD_eq_getD_getElem?]
          exact hT t) ht
      exact ⟨by simp [h1], h2, h3⟩

/-- What may be read at a point of a run is what canonical memory holds there. -/
theorem upd_get {base : Nat} {s s1 : St} {W : List Nat} {b : Nat} (hf : FrmB base s s1 W) (hb : b < s1.next) (h : b < base → b ∉ W → cur b = s.heap.get b) : upd cur base s1.next s1.heap W b = s1.heap.get b := by
  show (if b ∈ W ∨ (base ≤ b ∧ b < s1.next) then _ else cur b) = _
  by_cases hc : b ∈ W ∨ (base ≤ b ∧ b < s1.next)
  · rw [if_pos hc]
  · rw [if_neg hc, hf.get b (fun h => hc (.inl h)) (fun h => hc (.inr h))]
    exact h (by rcases Nat.lt_or_ge b base with h | h; · exact h
                · exact absurd (.inr ⟨h, hb⟩) hc) (fun h => hc (.inl h))

/-- A record of a loop changes its state, in both memories. -/
theorem loop_set {base n0 b : Nat} {W : List Nat} {w0 w1 : World} {s1 : St} {σ1 : Mp} {r0 r1 : LR} {l : Loc} {f : Loop → Loop} (hI : Inv ρ σ cur base W n0 w0 s1 σ1 w1) (hn0 : n0 ≤ s1.next) (hb0 : base ≤ s1.next) (hx : s1.getX b = some (.loop r0)) (hbW : b ∈ W ∨ (base ≤ b ∧ b < s1.next)) (hl : σ1 b = some l)
    (hf : ∀ q, XR ρ σ1 w1 l.blk (.loop r0) → w1.heap[l.blk]? = some (.loop q) → q.state = r0.st → XR ρ σ1 (w1.putObj l.blk (.loop (f q))) l.blk (.loop r1)) :
    ∃ q, w1.heap[l.blk]? = some (.loop q) ∧ q.state = r0.st ∧ q.pending = r0.pend ∧ Inv ρ σ cur base W n0 w0 (s1.setX b (.loop r1)) σ1 (w1.putObj l.blk (.loop (f q))) ∧ Keeps σ1 s1.next [b] w1 (w1.putObj l.blk (.loop (f q))) := by
  obtain ⟨k, hk, hkx, hlt⟩ := getX_parts hx
  have hcur : upd cur base s1.next s1.heap W b = s1.heap.get b := by
    show (if b ∈ W ∨ (base ≤ b ∧ b < s1.next) then _ else cur b) = _
    rw [if_pos hbW]
  have hX := hI.H.spec b k _ l (hcur.trans hk) hkx hl
  have hX' := hX
  cases hX with
  | loop q hq hs hp hps ha hb' hn hT ra rb =>
    obtain ⟨e1, e2⟩ := setX_run (s := s1) hI.H hx hcur hl (hf q hX' hq hs) (fun _ _ => ⟨_, rfl⟩)
    exact ⟨q, hq, hs, hp, hI.step hn0 hb0 (Nat.le_refl _) (fun x hx' => by obtain rfl := List.mem_singleton.1 hx'; exact hbW) (Frm.setX s1 b _).toB (Ext.refl _ _ _) e1 e2 (Fresh.none _ _ _ _ _ _), e2⟩

theorem XR.loop_state {w : World} {g : Nat} {r : LR} {q : Loop} {st : LoopState} {pd : Option Code} (h : XR ρ σ w g (.loop r)) (hq : w.heap[g]? = some (.loop q)) : XR ρ σ (w.putObj g (.loop { q with state := st, pending := pd })) g (.loop { r with st := st, pend := pd }) := by
  have hlt := h.lt
  cases h with
  | loop q' h' hs hp hps ha hb hn hT ra rb =>
    rw [hq] at h'
    cases h'
    exact .loop { q with state := st, pending := pd } (World.putObj_heap_same hlt) rfl rfl hps ha hb hn hT ra rb

theorem roundE_sound (hS : SelfOk P C ρ self) {b : Nat} {vs : List CV} {l : Loc} {args : Array Value} (h : roundE self s b vs = some r) (hp : ∀ p ∈ r.s.pc, p.holds ρ) (hl : σ b = some l) (hvs : VRl ρ σ vs args.toList) (hH : HR ρ σ cur w)
    (hA : ∀ b, b ∈ r.R ∨ b ∈ r.W → cur b = s.heap.get b) (hN : ∀ b, s.next ≤ b → b < r.s.next → σ b = none) :
    ∃ q, w.heap[l.blk]? = some (.loop q) ∧ args.size = q.params.size ∧ RoundIn (fc ro) n P l.blk q.fn ((q.params.zip args).foldl (fun tmps (t, a) => tmps.setIfInBounds t a) q.tmps) q.assign q.body w (Ret (Post ρ σ cur s.next w r.val r.s r.W)) := by
  obtain ⟨hfr, hlts⟩ := roundE_frm hS h
  obtain ⟨r0, r3, r5, T1, T2, T4, s2, s4, e, R1, W1, R2, W2, hx, hT, h1, hx3, hst, h2, hx5, rfl⟩ := roundE_parts h
  obtain ⟨m1, k1⟩ := hS.code _ _ _ _ _ _ _ _ _ h1
  obtain ⟨m2, k2⟩ := hS.code _ _ _ _ _ _ _ _ _ h2
  simp only at hp hA hN hfr hlts ⊢
  generalize hWt : b :: join s.next W1 (join s.next W2 []) = Wt at *
  obtain ⟨k, hk, hkx, hbn⟩ := getX_parts hx
  have hbW : b ∈ Wt := by rw [← hWt]; simp
  have n1 := k1.frm.next
  have n2 : s2.next ≤ s4.next := k2.frm.next
  have hW1 : ∀ x ∈ W1, x ∈ Wt := fun x hx' => by rw [← hWt]; exact List.mem_cons_of_mem _ (join_mem.2 (.inl ⟨hx', k1.lt x (.inr hx')⟩))
  have hW2 : ∀ x ∈ W2, x ∈ Wt ∨ (s.next ≤ x ∧ x < s2.next) := fun x hx' => by
    by_cases hlt : x < s.next
    · exact .inl (by rw [← hWt]; exact List.mem_cons_of_mem _ (join_mem.2 (.inr (join_mem.2 (.inl ⟨hx', hlt⟩)))))
    · exact .inr ⟨by omega, k2.lt x (.inr hx')⟩
  have hX := hH.spec b k _ l ((hA b (.inr hbW)).trans hk) hkx hl
  cases hX with
  | loop q hq hs hpd hps ha hb' hn hTq ra rb =>
    obtain ⟨t1, t2, t3⟩ := putTs_run hT (by rw [hn]) hTq hvs
    have hvl := hvs.length
    have hps' : q.params.toList = r0.ps.toList := by rw [hps]
    have hsz : args.size = q.params.size := by
      have e1 : args.toList.length = args.size := by simp
      have e2 : q.params.toList.length = q.params.size := by simp
      rw [← e1, ← e2, hps', t1, hvl]
    refine ⟨q, hq, hsz, roundIn_of_wpIn trivial ?_⟩
    have hfold : (q.params.zip args).foldl (fun tmps (t, a) => tmps.setIfInBounds t a) q.tmps = (r0.ps.toList.zip args.toList).foldl (fun (tmps : Array Value) (p : Tmp × Value) => tmps.setIfInBounds p.1 p.2) q.tmps := by
      rw [← Array.foldl_toList, Array.toList_zip, hps']
    rw [hfold, ha, hb']
    have hp4 : ∀ p ∈ s4.pc, p.holds ρ := hp
    have hp2 : ∀ p ∈ s2.pc, p.holds ρ := fun p hp' => hp4 p (by obtain ⟨L, hL⟩ := k2.frm.pc; rw [hL]; exact List.mem_append_right _ hp')
    have hN4 : ∀ x, s.next ≤ x → x < s4.next → σ x = none := hN
    refine wpL.wpIn (k1.run ra Wt (some l.blk) n _ σ cur w { tmps := (r0.ps.toList.zip args.toList).foldl (fun (tmps : Array Value) (p : Tmp × Value) => tmps.setIfInBounds p.1 p.2) q.tmps, defers := [] } _ hW1 hlts.2 hp2 (fun l' hl' => by cases hl'; exact ⟨q, hq⟩) hH (fun x hx' => ?_) (fun x a1 a2 => hN4 x a1 (by omega)) ⟨t2, t3, rfl⟩ (fun a1 w1 hpost => ?_))
    · rcases hx' with hx' | hx' | hx'
      · exact hA x (.inl (List.mem_cons_of_mem _ (join_mem.2 (.inl ⟨hx', k1.lt x (.inl hx')⟩))))
      · exact hA x (.inr hx')
      · omega
    · obtain ⟨σ1, hI1, hF1⟩ := hpost
      have hl1 : σ1 b = some l := by rw [hI1.ext b (.inl hbn)]; exact hl
      obtain ⟨q3, hq3, hq3s, hq3p, hI2, hK2⟩ := loop_set (r1 := { r3 with st := .busy }) (f := fun q => { q with state := .busy }) hI1 n1 n1 hx3 (.inl hbW) hl1 (fun q h1' h2' h3' => by
        have hpd : q.pending = r3.pend := by
          cases h1' with
          | loop q' hq' _ hp' => rw [h2'] at hq'; cases hq'; exact hp'
        have := h1'.loop_state (st := .busy) (pd := r3.pend) h2'
        rw [← hpd] at this
        rw [← hpd]
        exact this)
      refine ⟨_, run_beginRound hq3 (hq3s.trans hst), ?_⟩
      have hf2 : FrmB s.next s (s2.setX b (.loop { r3 with st := .busy })) Wt := by
        have := (FrmB.toFrm k1.frm).trans (W := Wt) (Frm.setX s2 b (.loop { r3 with st := .busy })) (fun x hx' => .inl (hW1 x hx')) (fun x hx' => by obtain rfl := List.mem_singleton.1 hx'; exact .inl hbW)
        exact this.toB
      refine wpL.wpIn (k2.run rb W2 (some l.blk) n _ σ1 (upd cur s.next s2.next (s2.setX b (.loop { r3 with st := .busy })).heap Wt) _ a1 a1 (fun _ h => h) (fun x hx' => k2.lt x (.inr hx')) hp4 (fun l' hl' => by cases hl'; exact hI2.K.loops l.blk q hq) hI2.H (fun x hx' => ?_) (fun x a1' a2' => ?_) hF1.self (fun a2 w4 hpost => ?_))
      · have hlt : x < s2.next := by
          rcases hx' with hx' | hx' | hx'
          · exact k2.lt x (.inl hx')
          · exact k2.lt x (.inr hx')
          · have : (s2.setX b (.loop { r3 with st := .busy })).next = s2.next := rfl
            omega
        refine upd_get hf2 hlt (fun h3 h4 => ?_)
        rcases hx' with hx' | hx' | hx'
        · exact hA x (.inl (List.mem_cons_of_mem _ (join_mem.2 (.inr (join_mem.2 (.inl ⟨hx', h3⟩))))))
        · rcases hW2 x hx' with h | h
          · exact absurd h h4
          · omega
        · have : (s2.setX b (.loop { r3 with st := .busy })).next = s2.next := rfl
          omega
      · have e1 : s2.next ≤ x := a1'
        rw [hI2.ext x (.inr e1)]
        exact hN4 x (by omega) a2'
      · obtain ⟨σ4, hI4', hF4⟩ := hpost
        have hI4 : Inv ρ σ cur s.next Wt s.next w s4 σ4 w4 := hI2.step n1 n1 (Nat.le_refl _) (fun x hx' => hW2 x hx') k2.frm hI4'.ext hI4'.H hI4'.K hI4'.F
        have hl4 : σ4 b = some l := by rw [hI4.ext b (.inl hbn)]; exact hl
        obtain ⟨q5, hq5, _, _, hI5, _⟩ := loop_set (r1 := { r5 with st := bif e.jump.isNone then .ready else .done, pend := e.jump }) (f := fun q => { q with state := if e.jump.isNone then .ready else .done, pending := e.jump }) hI4 (by omega) (by omega) hx5 (.inl hbW) hl4 (fun q h1' h2' h3' => by
          have := h1'.loop_state (st := if e.jump.isNone then .ready else .done) (pd := e.jump) h2'
          have e1 : (bif e.jump.isNone then LoopState.ready else LoopState.done) = (if e.jump.isNone then .ready else .done) := by cases e.jump.isNone <;> rfl
          rw [e1]
          exact this)
        have hend := run_endRound (P := P) e.jump hq5
        have hfin : Ret (Post ρ σ cur s.next w (.bool (.c e.jump.isNone)) (s4.setX b (.loop { r5 with st := bif e.jump.isNone then .ready else .done, pend := e.jump })) Wt) (.returned (.bool e.jump.isNone)) (w4.putObj l.blk (.loop { q5 with state := if e.jump.isNone then .ready else .done, pending := e.jump })) :=
          ⟨_, rfl, σ4, hI5.ext, .bool (.c e.jump.isNone), hI5.H, hI5.K, hI5.F⟩
        cases e with
        | normal => exact ⟨_, _, hend, hfin⟩
        | ret => exact ⟨_, _, hend, hfin⟩
        | exit i => exact ⟨_, _, hend, hfin⟩

theorem oneE_frame (hS : SelfOk P C ρ self) (h : oneE C self ops T s o = some r) : Frm s r.s r.W := by
  unfold oneE at h
  split at h
  · cases h
  · rename_i s1 hw
    cases h
    obtain ⟨h1, h2, h3⟩ := wants_frame hw
    exact .same _ h1 h2 h3
  · rename_i s1 hw
    obtain ⟨h1, h2, h3⟩ := wants_frame hw
    have f1 : Frm s s1 [] := .same _ h1 h2 h3
    have comb : ∀ (s2 : St) (W : List Nat), Frm s1 s2 W → Frm s s2 W := fun s2 W f2 => f1.trans f2 (by simp) (fun b hb => .inl hb)
    split at h
    · split at h
      · split at h
        · rename_i c s2 R W hc
          cases h
          exact comb _ _ (hS.call _ _ _ _ _ _ _ hc).frm
        · cases h
      · exact comb _ _ (roundE_frm hS h).1
      · cases h
    · exact comb _ _ (opE_frame h)

theorem oneE_lt (hS : SelfOk P C ρ self) (h : oneE C self ops T s o = some r) : Lts s r.R r.W := by
  unfold oneE at h
  split at h
  · cases h
  · cases h; exact .nil _
  · rename_i s1 hw
    obtain ⟨h1, h2, h3⟩ := wants_frame hw
    have comb : ∀ (R W : List Nat), Lts s1 R W → Lts s R W := fun R W hl => ⟨fun b hb => h1 ▸ hl.1 b hb, fun b hb => h1 ▸ hl.2 b hb⟩
    split at h
    · split at h
      · split at h
        · rename_i c s2 R W hc
          cases h
          exact comb _ _ (hS.call _ _ _ _ _ _ _ hc).lt
        · cases h
      · exact comb _ _ (roundE_frm hS h).2
      · cases h
    · exact comb _ _ (opE_lt h)

theorem oneE_sound (hC : CtxOk2 P C) (hS : SelfOk P C ρ self) (h : oneE C self ops T s o = some r) (hp : ∀ p ∈ r.s.pc, p.holds ρ) (hL : Looks ρ σ T a ops o) (hH : HR ρ σ cur w) (hA : ∀ b, b ∈ r.R ∨ b ∈ r.W → cur b = s.heap.get b) (hN : ∀ b, s.next ≤ b → b < r.s.next → σ b = none)
    (hK : ∀ v w', Post ρ σ cur s.next w r.val r.s r.W v w' → K (a.put o.dst v) w') : OpGoal P ro n ops Q o K a w := by
  unfold oneE at h
  unfold OpGoal
  split at h
  · cases h
  · rename_i s1 hw
    cases h
    obtain ⟨h1, h2, h3⟩ := wants_frame hw
    rw [wants_run hw hL hp, if_neg (by simp)]
    exact ⟨about_fc w, hK _ _ (post_pure h1 (VR.undef _ _) hH)⟩
  · rename_i s1 hw
    obtain ⟨h1, h2, h3⟩ := wants_frame hw
    have hp1 : ∀ p ∈ s1.pc, p.holds ρ := by
      intro p hp'
      refine hp p ?_
      split at h
      · split at h
        · split at h
          · rename_i c s2 R W hc
            cases h
            obtain ⟨l, hl⟩ := (hS.call _ _ _ _ _ _ _ hc).frm.pc
            rw [hl]; simp [hp']
          · cases h
        · obtain ⟨l, hl⟩ := (roundE_frm hS h).1.pc
          rw [hl]; simp [hp']
        · cases h
      · obtain ⟨l, hl⟩ := (opE_frame h).pc
        rw [hl]; simp [hp']
    rw [wants_run hw hL hp1, if_pos rfl]
    have hA1 : ∀ b, b ∈ r.R ∨ b ∈ r.W → cur b = s1.heap.get b := fun b hb => by rw [h2]; exact hA b hb
    have hN1 : ∀ b, s1.next ≤ b → b < r.s.next → σ b = none := fun b hb => by rw [h1] at hb; exact hN b hb
    rw [← h1] at hK
    split at h
    · rename_i f args tys hop
      split at h
      · rename_i g first captured vs hf hvs
        split at h
        · rename_i c s2 R W hc
          cases h
          have hok := hS.call _ _ _ _ _ _ _ hc
          obtain ⟨fn, hfn, hbody⟩ := hok.fn
          have hrd := hL.reads
          obtain ⟨x', y', hfv, hx, hy⟩ := (hrd.ev (x := f) (by rw [hop]; simp [Op.operands, Call.operands]) hf).fn_inv
          have hav := evs_run (σ := σ) (ρ := ρ) (a := a) (fun t ht => hrd t (by rw [hop]; simp only [Op.operands, Call.operands, Array.toList_append]; exact List.mem_append_right _ ht)) hvs
          have hargs : VRl ρ σ (first ++ vs ++ captured) ((x' ++ args.map a.eval) ++ y').toList := by
            simp only [Array.toList_append, Array.toList_map]
            exact (hx.append hav).append hy
          refine ⟨about_fc w, ?_⟩
          rw [Oper.semAt_eq _ _ _ (fun c e => by rw [hop] at e; cases e)]
          have hex : (execOp a.eval o).run P w = .ok (.enter g ((x' ++ args.map a.eval) ++ y')) w := by
            simp only [execOp, hop, resolve, Deferred.ofValue, hfv, pure_bind, invoke, callFunc_run hC hfn hbody]
          rw [hex]
          refine ⟨(fun h => by cases h), callsIn_fc ((hok.run (n - 1) σ cur w _ hp hargs hH hA1 hN1).mono ?_)⟩
          rintro e w' ⟨v, rfl, hpost⟩
          exact hK v w' hpost
        · cases h
      · rename_i b vs hf hvs
        have hrd := hL.reads
        obtain ⟨l, hl, hfv⟩ := (hrd.ev (x := f) (by rw [hop]; simp [Op.operands, Call.operands]) hf).yld_inv
        have hav := evs_run (σ := σ) (ρ := ρ) (a := a) (fun t ht => hrd t (by rw [hop]; simp only [Op.operands, Call.operands, Array.toList_append]; exact List.mem_append_right _ ht)) hvs
        have hargs : VRl ρ σ vs (args.map a.eval).toList := by
          simp only [Array.toList_map]; exact hav
        obtain ⟨q, hq, hsz, hround⟩ := roundE_sound (ro := ro) (n := n - 1) hS h hp hl hargs hH hA1 hN1
        refine ⟨about_fc w, ?_⟩
        rw [Oper.semAt_eq _ _ _ (fun c e => by rw [hop] at e; cases e)]
        have hex : (execOp a.eval o).run P w = .ok (.round l.blk q.fn ((q.params.zip (args.map a.eval)).foldl (fun tmps (t, a) => tmps.setIfInBounds t a) q.tmps) q.assign q.body) w := by
          simp only [execOp, hop, resolve, Deferred.ofValue, hfv, pure_bind, invoke, Array.empty_append, Array.append_empty]
          exact run_yield hq hsz
        rw [hex]
        refine ⟨(fun h => by cases h), hround.mono ?_⟩
        rintro e w' ⟨v, rfl, hpost⟩
        exact hK v w' hpost
      · cases h
    · exact semAt_gives (opE_no_defer h) (opE_sound h ⟨hC.toCtxOk, hp, hL.reads, hH, hA1, hN1⟩) hK

end
end Go.Proofs.Ytknphpihipkdpaa.Cx
