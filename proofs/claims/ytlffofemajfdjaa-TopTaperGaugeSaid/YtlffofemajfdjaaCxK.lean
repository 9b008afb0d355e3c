/- One operation of a region, wanted or not, a call of a Go function included. -/
import Derived.Test.YtlffofemajfdjaaCxJ
import Derived.OrdersIn
import Derived.LoopNIn
set_option linter.unusedSimpArgs false
set_option linter.unusedVariables false
namespace Go.Proofs.Ytlffofemajfdjaa.Cx
open Go Go.RowKit

/-- The fence that lets all in, of an activation or of a round. -/
def fc (r : Option Nat) : Fence := { fn := fun _ => True, depth := none, alive := false, round := r }

theorem callsIn_fc {r r' : Option Nat} {n : Nat} {P : Program} {f : FuncId} {args : Array Value} {w : World} {R : Ending → World → Prop} (h : CallsIn (fc r) n P f args w R) : CallsIn (fc r') n P f args w R := h

/-- A call's end: a value, and what it left behind. -/
def Ret (R : Value → World → Prop) (e : Ending) (w : World) : Prop := ∃ v, e = .returned v ∧ R v w

/-- The evaluator's word on a call holds. -/
structure CallOk (P : Program) (C : Ctx) (ρ : Env) (f : Nat) (args : List CV) (s : St) (c : CV) (s' : St) (R W : List Nat) : Prop where
  fn : ∃ fn, C.fn f = some fn ∧ fn.body.isSome = true
  frm : Frm s s' W
  lt : Lts s R W
  run : ∀ (n : Nat) (σ : Mp) (cur : Cur) (w : World) (args' : Array Value), (∀ p ∈ s'.pc, p.holds ρ) → VRl ρ σ args args'.toList → HR ρ σ cur w → (∀ b, b ∈ R ∨ b ∈ W → cur b = s.heap.get b) →
    (∀ b, s.next ≤ b → b < s'.next → σ b = none) → CallsIn (fc none) n P f args' w (Ret (Post ρ σ cur s.next w c s' W))

/-- The calls that are known are as they are said to be. -/
def MemoOk (P : Program) (C : Ctx) (ρ : Env) : Prop :=
  ∀ f args s c s', C.memo f args s = some (c, s') → CallOk P C ρ f args s c s' [] []

def SelfOk (P : Program) (C : Ctx) (ρ : Env) (self : Task → St → Option Out) : Prop :=
  ∀ f args s c s' R W, self (.call f args) s = some ⟨.val c, s', R, W⟩ → CallOk P C ρ f args s c s' R W

structure CtxOk2 (P : Program) (C : Ctx) : Prop extends CtxOk P C where
  fn : ∀ f fn, C.fn f = some fn → P.funcs[f]? = some fn ∧ (fn.name == "runtime.NumGoroutine") = false
  mixed : P.follows .mixedOrders = true

theorem callFunc_run {P : Program} {C : Ctx} (hC : CtxOk2 P C) {f : Nat} {fn : Func} (h : C.fn f = some fn) (hb : fn.body.isSome = true) (args : Array Value) (w : World) : (callFunc f args).run P w = .ok (.enter f args) w := by
  obtain ⟨h1, h2⟩ := hC.fn f fn h
  have h3 : fn.body.isNone = false := by cases hb' : fn.body <;> simp_all
  simp only [callFunc, Sem.run_bind]
  show (Result.andThen (Result.ok P w) _) = _
  simp only [Result.andThen, h1, h2, h3, Bool.false_eq_true, if_false, Sem.run_pure]

section
variable {P : Program} {C : Ctx} {ρ : Env} {σ : Mp} {cur : Cur} {s : St} {T : Tr CV} {a : Act} {w : World} {o : Oper} {r : OR} {ops : Array Oper} {self : Task → St → Option Out} {ro : Option Nat} {n : Nat} {Q : Exit → Act → World → Prop} {K : Act → World → Prop}

/-- The temporaries that an operation looks at. -/
def Looks (ρ : Env) (σ : Mp) (T : Tr CV) (a : Act) (ops : Array Oper) (o : Oper) : Prop := ∀ t, t ∈ o.looksAt ops → VR ρ σ (rd T t) (a.tmps.getD t Go.undef)

theorem Looks.reads (h : Looks ρ σ T a ops o) : Reads ρ σ T a o.op.operands.toList := fun t ht =>
  h t (List.mem_append_left _ (List.mem_filterMap.2 ⟨.tmp t, ht, rfl⟩))

theorem getD_bool {l : Array Value} {t : Nat} {b : Bool} (h : l.getD t Go.undef = .bool b) : l[t]? = some (.bool b) := by
  rw [Array.getD_eq_getD_getElem?] at h
  cases hl : l[t]? with
  | none => rw [hl] at h; cases h
  | some v => rw [hl] at h; simp at h; rw [h]

theorem wants_run {v : Bool} {s1 : St} (h : wants ops T s o = some (v, s1)) (hL : Looks ρ σ T a ops o) (hp : ∀ p ∈ s1.pc, p.holds ρ) : Region.wanted o (yielded ops a.tmps) = v := by
  unfold wants at h
  unfold Region.wanted
  cases hg : o.guard with
  | none => rw [hg] at h; simp only at h ⊢; cases h; rfl
  | some g =>
    obtain ⟨j, want⟩ := g
    rw [hg] at h
    simp only at h ⊢
    unfold yielded
    split at h
    · rename_i hd; cases h; simp [hd]
    · rename_i t hd
      rw [hd]
      have hv : VR ρ σ (rd T t) (a.tmps.getD t Go.undef) := hL t (List.mem_append_right _ (by rw [hg]; simp [hd]))
      split at h
      · rename_i e he
        rw [he] at hv
        split at h
        · rename_i b s2 hdec
          cases h
          have h1 := getD_bool hv.bool_inv
          have h2 := (decide_parts (ρ := ρ) hdec).2.2.2 hp
          simp only [Option.bind_some, h1, h2]
          cases b <;> cases want <;> rfl
        · cases h
      · rename_i he
        cases h
        rw [he] at hv
        obtain ⟨cs, h1, h2⟩ := hv.tup_inv
        have : cs = #[] := by
          have := h2.length
          simp at this
          exact this
        subst this
        have hno : ∀ b, a.tmps[t]? ≠ some (.bool b) := fun b hb => by
          rw [Array.getD_eq_getD_getElem?, hb] at h1
          simp at h1
        simp only [Option.bind_some]
        first
          | (cases want <;> rfl)
          | (split
             · rename_i b hb; exact absurd hb (hno b)
             · rfl)
      · cases h

theorem wants_frame {v : Bool} {s1 : St} (h : wants ops T s o = some (v, s1)) : s1.next = s.next ∧ s1.heap = s.heap ∧ ∃ l, s1.pc = l ++ s.pc := by
  unfold wants at h
  split at h
  · cases h; exact ⟨rfl, rfl, [], rfl⟩
  · split at h
    · cases h; exact ⟨rfl, rfl, [], rfl⟩
    · split at h
      · split at h
        · rename_i hd
          cases h
          obtain ⟨h1, h2, h3, _⟩ := decide_parts (ρ := ⟨fun _ => 0, fun _ => false⟩) hd
          exact ⟨h1, h2, h3⟩
        · cases h
      · cases h; exact ⟨rfl, rfl, [], rfl⟩
      · cases h

/-- The rule's premise at an operation. -/
def OpGoal (P : Program) (ro : Option Nat) (n : Nat) (ops : Array Oper) (Q : Exit → Act → World → Prop) (o : Oper) (K : Act → World → Prop) (a : Act) (w : World) : Prop :=
  if Region.wanted o (yielded ops a.tmps) then o.wpIn (fc ro) n P a w K Q else (∀ f, o.about P w a.eval = some f → (fc ro).fn f) ∧ K (a.put o.dst Go.undef) w

theorem about_fc (w : World) : ∀ f, o.about P w a.eval = some f → (fc ro).fn f := fun _ _ => trivial

theorem semAt_gives {R : Value → World → Prop} (hd : ∀ c, o.op ≠ .defer c) (h : Gives P o a w R) (hK : ∀ v w', R v w' → K (a.put o.dst v) w') : o.wpIn (fc ro) n P a w K Q := by
  obtain ⟨v, w', hr, hR⟩ := h
  refine ⟨about_fc w, ?_⟩
  rw [Oper.semAt_eq _ _ _ hd]
  rcases hr with hr | ⟨hr, rfl⟩
  · rw [hr]; exact hK v w' hR
  · rw [hr]; exact hK _ w' hR

theorem opE_no_defer (h : opE C T s o = some r) : ∀ c, o.op ≠ .defer c := by
  intro c e
  unfold opE at h
  rw [e] at h
  cases h

theorem oneE_frame (hS : SelfOk P C ρ self) (h : oneE C self ops T s o = some r) : Frm s r.s r.W := by
  unfold oneE at h
  split at h
  · cases h
  · rename_i s1 hw
    cases h
    obtain ⟨h1, h2, h3⟩ := wants_frame hw
    exact .same _ h1 h2 h3
  · rename_i s1 hw
    obtain ⟨h1, h2, h3⟩ := wants_frame hw
    have f1 : Frm s s1 [] := .same _ h1 h2 h3
    have comb : ∀ (s2 : St) (W : List Nat), Frm s1 s2 W → Frm s s2 W := fun s2 W f2 => f1.trans f2 (by simp) (fun b hb => .inl hb)
    split at h
    · split at h
      · split at h
        · rename_i c s2 R W hc
          cases h
          exact comb _ _ (hS _ _ _ _ _ _ _ hc).frm
        · cases h
      · cases h
    · exact comb _ _ (opE_frame h)

theorem oneE_lt (hS : SelfOk P C ρ self) (h : oneE C self ops T s o = some r) : Lts s r.R r.W := by
  unfold oneE at h
  split at h
  · cases h
  · cases h; exact .nil _
  · rename_i s1 hw
    obtain ⟨h1, h2, h3⟩ := wants_frame hw
    have comb : ∀ (R W : List Nat), Lts s1 R W → Lts s R W := fun R W hl => ⟨fun b hb => h1 ▸ hl.1 b hb, fun b hb => h1 ▸ hl.2 b hb⟩
    split at h
    · split at h
      · split at h
        · rename_i c s2 R W hc
          cases h
          exact comb _ _ (hS _ _ _ _ _ _ _ hc).lt
        · cases h
      · cases h
    · exact comb _ _ (opE_lt h)

theorem oneE_sound (hC : CtxOk2 P C) (hS : SelfOk P C ρ self) (h : oneE C self ops T s o = some r) (hp : ∀ p ∈ r.s.pc, p.holds ρ) (hL : Looks ρ σ T a ops o) (hH : HR ρ σ cur w) (hA : ∀ b, b ∈ r.R ∨ b ∈ r.W → cur b = s.heap.get b) (hN : ∀ b, s.next ≤ b → b < r.s.next → σ b = none)
    (hK : ∀ v w', Post ρ σ cur s.next w r.val r.s r.W v w' → K (a.put o.dst v) w') : OpGoal P ro n ops Q o K a w := by
  unfold oneE at h
  unfold OpGoal
  split at h
  · cases h
  · rename_i s1 hw
    cases h
    obtain ⟨h1, h2, h3⟩ := wants_frame hw
    rw [wants_run hw hL hp, if_neg (by simp)]
    exact ⟨about_fc w, hK _ _ (post_pure h1 (VR.undef _ _) hH)⟩
  · rename_i s1 hw
    obtain ⟨h1, h2, h3⟩ := wants_frame hw
    have hp1 : ∀ p ∈ s1.pc, p.holds ρ := by
      intro p hp'
      refine hp p ?_
      split at h
      · split at h
        · split at h
          · rename_i c s2 R W hc
            cases h
            obtain ⟨l, hl⟩ := (hS _ _ _ _ _ _ _ hc).frm.pc
            rw [hl]; simp [hp']
          · cases h
        · cases h
      · obtain ⟨l, hl⟩ := (opE_frame h).pc
        rw [hl]; simp [hp']
    rw [wants_run hw hL hp1, if_pos rfl]
    have hA1 : ∀ b, b ∈ r.R ∨ b ∈ r.W → cur b = s1.heap.get b := fun b hb => by rw [h2]; exact hA b hb
    have hN1 : ∀ b, s1.next ≤ b → b < r.s.next → σ b = none := fun b hb => by rw [h1] at hb; exact hN b hb
    rw [← h1] at hK
    split at h
    · rename_i f args tys hop
      split at h
      · rename_i g first captured vs hf hvs
        split at h
        · rename_i c s2 R W hc
          cases h
          have hok := hS _ _ _ _ _ _ _ hc
          obtain ⟨fn, hfn, hbody⟩ := hok.fn
          have hrd := hL.reads
          obtain ⟨x', y', hfv, hx, hy⟩ := (hrd.ev (x := f) (by rw [hop]; simp [Op.operands, Call.operands]) hf).fn_inv
          have hav := evs_run (σ := σ) (ρ := ρ) (a := a) (fun t ht => hrd t (by rw [hop]; simp only [Op.operands, Call.operands, Array.toList_append]; exact List.mem_append_right _ ht)) hvs
          have hargs : VRl ρ σ (first ++ vs ++ captured) ((x' ++ args.map a.eval) ++ y').toList := by
            simp only [Array.toList_append, Array.toList_map]
            exact (hx.append hav).append hy
          refine ⟨about_fc w, ?_⟩
          rw [Oper.semAt_eq _ _ _ (fun c e => by rw [hop] at e; cases e)]
          have hex : (execOp a.eval o).run P w = .ok (.enter g ((x' ++ args.map a.eval) ++ y')) w := by
            simp only [execOp, hop, resolve, Deferred.ofValue, hfv, pure_bind, invoke, callFunc_run hC hfn hbody]
          rw [hex]
          refine ⟨(fun h => by cases h), callsIn_fc ((hok.run (n - 1) σ cur w _ hp hargs hH hA1 hN1).mono ?_)⟩
          rintro e w' ⟨v, rfl, hpost⟩
          exact hK v w' hpost
        · cases h
      · cases h
    · exact semAt_gives (opE_no_defer h) (opE_sound h ⟨hC.toCtxOk, hp, hL.reads, hH, hA1, hN1⟩) hK

end
end Go.Proofs.Ytlffofemajfdjaa.Cx
