/- One operation that calls no Go function: what the evaluator says of it holds of every real world that its canonical memory stands for. -/
import Derived.Test.YtlffofemajfdjaaCxD
set_option linter.unusedSimpArgs false
set_option linter.unusedVariables false
namespace Go.Proofs.Ytlffofemajfdjaa.Cx
open Go Go.RowKit

/-- An operation yields a value, or nothing, and a world of which this holds. -/
def Gives (P : Program) (o : Oper) (a : Act) (w : World) (R : Value → World → Prop) : Prop :=
  ∃ v w', ((execOp a.eval o).run P w = .ok (.value v) w' ∨ ((execOp a.eval o).run P w = .ok .skip w' ∧ v = Go.undef)) ∧ R v w'

/-- Real cells of these kinds. -/
def ShapeV : List (Option IntKind) → List Value → Prop
  | [], [] => True
  | none :: ks, .bool _ :: l => ShapeV ks l
  | some k :: ks, .int k' _ :: l => k = k' ∧ ShapeV ks l
  | _, _ => False

def eqVals : List Value → List Value → Bool
  | .int _ a :: l, .int _ b :: m => (a == b) && eqVals l m
  | .bool a :: l, .bool b :: m => (a == b) && eqVals l m
  | _, _ => true

theorem shapeC_run {ρ : Env} {σ : Mp} : ∀ {ks : List (Option IntKind)} {l : List CV} {m : List Value}, shapeC ks l = true → VRl ρ σ l m → ShapeV ks m
  | [], [], _, _, .nil => trivial
  | none :: ks, .bool _ :: l, _, h, .cons h1 h2 => by
    cases h1
    simp only [shapeC] at h
    exact shapeC_run (ks := ks) (l := l) h h2
  | some k :: ks, .int k' _ :: l, _, h, .cons h1 h2 => by
    cases h1
    simp only [shapeC, Bool.and_eq_true, decide_eq_true_eq] at h
    exact ⟨h.1, shapeC_run (ks := ks) (l := l) h.2 h2⟩

/-- A type whose == compares cell by cell. -/
def EqOk (P : Program) (t : Nat) (ks : List (Option IntKind)) : Prop :=
  ∀ (x y : Array Value) (w : World), ShapeV ks x.toList → ShapeV ks y.toList →
    (∀ op u v, (eqGuard op t u v (.agg x) (.agg y)).run P w = .ok () w) ∧ (Op.equal t (.agg x) (.agg y)).run P w = .ok (eqVals x.toList y.toList) w

structure CtxOk (P : Program) (C : Ctx) : Prop where
  ty : ∀ t r, C.ty t = some r → TyOk P t r
  eq : ∀ t ks, C.eq t = some ks → EqOk P t ks

structure Inp (P : Program) (C : Ctx) (ρ : Env) (σ : Mp) (cur : Cur) (s : St) (T : Tr CV) (a : Act) (w : World) (o : Oper) (r : OR) : Prop where
  ok : CtxOk P C
  pc : ∀ p ∈ r.s.pc, p.holds ρ
  T : Reads ρ σ T a o.op.operands.toList
  H : HR ρ σ cur w
  A : ∀ b, b ∈ r.R ∨ b ∈ r.W → cur b = s.heap.get b
  N : ∀ b, s.next ≤ b → b < r.s.next → σ b = none

section
variable {P : Program} {C : Ctx} {ρ : Env} {σ : Mp} {cur : Cur} {s : St} {T : Tr CV} {a : Act} {w : World} {o : Oper} {r : OR}

theorem gives_pure {v : Value} {c : CV} {s1 : St} {R : List Nat} (hn : s1.next = s.next) (hH : HR ρ σ cur w) (hr : (execOp a.eval o).run P w = .ok (.value v) w) (hv : VR ρ σ c v) :
    Gives P o a w (Post ρ σ cur s.next w c s1 []) := ⟨v, w, .inl hr, post_pure hn hv hH⟩

theorem ask_parts {s s1 : St} {e : BE} {b : Bool} (h : s.ask e = some (b, s1)) : s1.next = s.next ∧ s1.heap = s.heap ∧ (∃ l, s1.pc = l ++ s.pc) ∧ ((∀ p ∈ s1.pc, p.holds ρ) → e.den ρ = b) := by
  unfold St.ask at h
  split at h
  · rename_i v hv
    cases h
    exact ⟨rfl, rfl, ⟨[], rfl⟩, fun hp => PC.find_holds hv hp⟩
  · split at h
    · cases h
    · cases h; exact ⟨rfl, rfl, ⟨[_], rfl⟩, fun hp => hp (.b e _) (by simp)⟩

theorem decide_parts {s s1 : St} {e : BE} {b : Bool} (h : s.decide e = some (b, s1)) : s1.next = s.next ∧ s1.heap = s.heap ∧ (∃ l, s1.pc = l ++ s.pc) ∧ ((∀ p ∈ s1.pc, p.holds ρ) → e.den ρ = b) := by
  cases e with
  | c x => simp only [St.decide] at h; cases h; exact ⟨rfl, rfl, ⟨[], rfl⟩, fun _ => rfl⟩
  | v i => exact ask_parts h
  | cmp q x y => exact ask_parts h
  | not x =>
    simp only [St.decide] at h
    split at h
    · rename_i v s2 hv
      cases h
      obtain ⟨h1, h2, h3, h4⟩ := ask_parts (ρ := ρ) hv
      exact ⟨h1, h2, h3, fun hp => by simp [BE.den, h4 hp]⟩
    · cases h

theorem conc_parts {s s1 : St} {e : IE} {n : Int} (h : s.conc e = some (n, s1)) : s1.next = s.next ∧ s1.heap = s.heap ∧ (∃ l, s1.pc = l ++ s.pc) ∧ ((∀ p ∈ s1.pc, p.holds ρ) → e.den ρ = n) := by
  have key : ∀ (m : Int), (∀ p ∈ (PC.b (.cmp .eql e (.c m)) true :: s.pc), p.holds ρ) → e.den ρ = m := fun m hp => by
    have := hp (.b (.cmp .eql e (.c m)) true) (by simp)
    simpa [PC.holds, BE.den, Cm.run, IE.den] using this
  have fin : ∀ (h : (match PC.findN e s.pc with
      | some n => some (n, s)
      | none => match s.orc with
        | [] => none
        | n :: t => some ((n : Int), { s with orc := t, pc := .b (.cmp .eql e (.c n)) true :: s.pc })) = some (n, s1)),
      s1.next = s.next ∧ s1.heap = s.heap ∧ (∃ l, s1.pc = l ++ s.pc) ∧ ((∀ p ∈ s1.pc, p.holds ρ) → e.den ρ = n) := fun h => by
    split at h
    · rename_i v hv
      cases h
      exact ⟨rfl, rfl, ⟨[], rfl⟩, fun hp => PC.findN_holds hv hp⟩
    · split at h
      · cases h
      · cases h; exact ⟨rfl, rfl, ⟨[_], rfl⟩, key _⟩
  cases e with
  | c x => simp only [St.conc] at h; cases h; exact ⟨rfl, rfl, ⟨[], rfl⟩, fun _ => rfl⟩
  | v i => exact fin h
  | bin q k x y => exact fin h

theorem VR.int_inv {k : IntKind} {e : IE} {v : Value} (h : VR ρ σ (.int k e) v) : v = .int k (e.den ρ) := by cases h; rfl
theorem VR.bool_inv {e : BE} {v : Value} (h : VR ρ σ (.bool e) v) : v = .bool (e.den ρ) := by cases h; rfl
theorem VR.ptr_inv {b o : Nat} {v : Value} (h : VR ρ σ (.ptr (some (b, o))) v) : ∃ l, σ b = some l ∧ v = .pointer (some ⟨l.blk, l.base + o, none⟩) := by cases h; exact ⟨_, ‹_›, rfl⟩
theorem VR.fn_inv {f : Fn} {x y : List CV} {v : Value} (h : VR ρ σ (.fn f x y) v) : ∃ x' y', v = .func f x' y' ∧ VRl ρ σ x x'.toList ∧ VRl ρ σ y y'.toList := by cases h; exact ⟨_, _, rfl, ‹_›, ‹_›⟩
theorem VR.agg_inv {l : List CV} {v : Value} (h : VR ρ σ (.agg l) v) : ∃ cs, v = .agg cs ∧ VRl ρ σ l cs.toList := by cases h; exact ⟨_, rfl, ‹_›⟩
theorem VR.tup_inv {l : List CV} {v : Value} (h : VR ρ σ (.tup l) v) : ∃ cs, v = .tuple cs ∧ VRl ρ σ l cs.toList := by cases h; exact ⟨_, rfl, ‹_›⟩

theorem mem_l {x : Operand} {l : List Operand} : x ∈ l.toArray.toList ↔ x ∈ l := by simp

/-! Operations, one by one. -/

theorem sound_move {x : Operand} (hop : o.op = .move x ∨ o.op = .assign x) (h : opE C T s o = some r) (I : Inp P C ρ σ cur s T a w o r) : Gives P o a w (Post ρ σ cur s.next w r.val r.s r.W) := by
  have hx : x ∈ o.op.operands.toList := by rcases hop with e | e <;> rw [e] <;> simp [Op.operands]
  have hr : (execOp a.eval o).run P w = .ok (.value (a.eval x)) w := by rcases hop with e | e <;> simp [execOp, e]
  have h' : (match ev T x with | some c => some (⟨c, s, [], []⟩ : OR) | none => none) = some r := by
    rcases hop with e | e <;> (unfold opE at h; rw [e] at h; exact h)
  split at h'
  · rename_i c hc
    cases h'
    exact gives_pure (R := []) rfl I.H hr (I.T.ev hx hc)
  · cases h'

theorem sound_pick {c x y : Operand} (hop : o.op = .pick c x y) (h : opE C T s o = some r) (I : Inp P C ρ σ cur s T a w o r) : Gives P o a w (Post ρ σ cur s.next w r.val r.s r.W) := by
  have hm : ∀ z ∈ [c, x, y], z ∈ o.op.operands.toList := by intro z hz; rw [hop]; simpa [Op.operands] using hz
  unfold opE at h
  rw [hop] at h
  simp only [opPick] at h
  split at h
  · rename_i e cx cy h1 h2 h3
    split at h
    · rename_i t s1 hd
      cases h
      obtain ⟨hn, _, _, hv⟩ := decide_parts (ρ := ρ) hd
      have hv := hv I.pc
      have hc := (I.T.ev (hm c (by simp)) h1).bool_inv
      rw [hv] at hc
      refine gives_pure (R := []) (v := if t then a.eval x else a.eval y) hn I.H ?_ ?_
      · simp [execOp, hop, hc, asBool]
      · cases t
        · exact I.T.ev (hm y (by simp)) h3
        · exact I.T.ev (hm x (by simp)) h2
    · cases h
  · cases h

theorem toA (l : List Value) : l.toArray.toList = l := rfl

theorem sound_alloc {t : TypeId} (hop : o.op = .alloc t) (h : opE C T s o = some r) (I : Inp P C ρ σ cur s T a w o r) : Gives P o a w (Post ρ σ cur s.next w r.val r.s r.W) := by
  unfold opE at h
  rw [hop] at h
  simp only [opAlloc] at h
  split at h
  · rename_i q hq
    cases h
    obtain ⟨z, hz, hz2⟩ := (I.ok.ty _ _ hq).zeroV w
    have hσ := I.N s.next (Nat.le_refl _) (by simp [St.new])
    refine ⟨.pointer (some ⟨w.heap.size, 0, none⟩), w.alloc (.cells z.cells t), .inl ?_, ?_⟩
    · simp [execOp, hop, Instr.alloc, hz, newVar, newRow]
    · have := post_new (s0 := s) (rest := []) (t := t) (e := 0) (K := []) (n := s.next) (c := .ptr (some (s.next, 0))) (v := .pointer (some ⟨w.heap.size, 0, none⟩)) I.H (VRl.ofVals hz2) rfl hσ (fun b hb => by cases hb) (by
        have := VR.ptr (ρ := ρ) (σ := fun b => if b = s.next then some ⟨w.heap.size, 0, (z.cells.toList ++ []).length, 0⟩ else σ b) (b := s.next) (o := 0) (l := ⟨w.heap.size, 0, (z.cells.toList ++ []).length, 0⟩) (if_pos rfl)
        exact this)
      simpa using this
  · cases h

theorem sound_box {t : TypeId} {x : Operand} (hop : o.op = .box t x) (h : opE C T s o = some r) (I : Inp P C ρ σ cur s T a w o r) : Gives P o a w (Post ρ σ cur s.next w r.val r.s r.W) := by
  have hx : x ∈ o.op.operands.toList := by rw [hop]; simp [Op.operands]
  unfold opE at h
  rw [hop] at h
  simp only [opBox] at h
  split at h
  · rename_i c hc
    cases hf : c.fit with
    | false => rw [hf, cond_false] at h; cases h
    | true =>
      rw [hf, cond_true] at h
      cases h
      have hσ := I.N s.next (Nat.le_refl _) (by simp [St.new])
      have hv := (I.T.ev hx hc).cells (fit_raw hf)
      refine ⟨.pointer (some ⟨w.heap.size, 0, none⟩), w.alloc (.cells (a.eval x).cells t), .inl ?_, ?_⟩
      · simp [execOp, hop, Instr.box, newVar, newRow]
      · have := post_new (s0 := s) (rest := []) (t := t) (e := 0) (K := []) (n := s.next) (c := .ptr (some (s.next, 0))) (v := .pointer (some ⟨w.heap.size, 0, none⟩)) I.H hv rfl hσ (fun b hb => by cases hb) (by
          have := VR.ptr (ρ := ρ) (σ := fun b => if b = s.next then some ⟨w.heap.size, 0, ((a.eval x).cells.toList ++ []).length, 0⟩ else σ b) (b := s.next) (o := 0) (l := ⟨w.heap.size, 0, ((a.eval x).cells.toList ++ []).length, 0⟩) (if_pos rfl)
          exact this)
        simpa using this
  · cases h

theorem sound_load {t : TypeId} {x : Operand} (hop : o.op = .load t x) (h : opE C T s o = some r) (I : Inp P C ρ σ cur s T a w o r) : Gives P o a w (Post ρ σ cur s.next w r.val r.s r.W) := by
  have hx : x ∈ o.op.operands.toList := by rw [hop]; simp [Op.operands]
  unfold opE at h
  rw [hop] at h
  simp only [opLoad] at h
  split at h
  · rename_i q b off hq hc
    obtain ⟨l, hl, hv⟩ := (I.T.ev hx hc).ptr_inv
    have hag := (I.ok.ty _ _ hq).isAgg' w
    have hsz := (I.ok.ty _ _ hq).sizeOf' w
    cases hqa : q.agg with
    | true =>
      rw [hqa, cond_true] at h
      split at h
      · rename_i cs hcs
        cases h
        obtain ⟨vs, h1, h2, h3, _⟩ := ld_run (P := P) I.H hcs (I.A b (.inl (by simp))) hl
        refine gives_pure (R := [b]) (v := .agg vs.toArray) rfl I.H ?_ (.agg h2)
        simp [execOp, hop, Instr.loadAt, hv, Instr.sureAddr, loadVar, hag, hqa, hsz, h1]
      · cases h
    | false =>
      rw [hqa, cond_false] at h
      split at h
      · rename_i c hcs
        cases h
        obtain ⟨v, h1, h2⟩ := ld_run1 (P := P) I.H hcs (I.A b (.inl (by simp))) hl
        refine gives_pure (R := [b]) (v := v) rfl I.H ?_ h2
        simp only [execOp, hop, Instr.loadAt, hv, Instr.sureAddr, loadVar, Sem.run_bind, hag, hqa, Result.andThen, Sem.run_pure, Bool.false_eq_true, if_false, h1, pure_bind]
      · cases h
  · cases h

theorem sound_store {t : TypeId} {x y : Operand} (hop : o.op = .store t x y) (h : opE C T s o = some r) (I : Inp P C ρ σ cur s T a w o r) : Gives P o a w (Post ρ σ cur s.next w r.val r.s r.W) := by
  have hx : x ∈ o.op.operands.toList := by rw [hop]; simp [Op.operands]
  have hy : y ∈ o.op.operands.toList := by rw [hop]; simp [Op.operands]
  unfold opE at h
  rw [hop] at h
  simp only [opStore] at h
  split at h
  · rename_i q b off c hq hc1 hc2
    obtain ⟨l, hl, hv⟩ := (I.T.ev hx hc1).ptr_inv
    have hsz := (I.ok.ty _ _ hq).sizeOf' w
    cases hf : (c.fit && Nat.beq c.cells.length q.size) with
    | false => rw [hf, cond_false] at h; cases h
    | true =>
      rw [hf, cond_true] at h
      simp only [Bool.and_eq_true] at hf
      split at h
      · rename_i s' hs'
        cases h
        have hvy := (I.T.ev hy hc2).cells (fit_raw hf.1)
        have hlen := hvy.length
        have hq2 := Nat.eq_of_beq_eq_true hf.2
        obtain ⟨w', h1, h2, h3⟩ := st_run (P := P) I.H hs' (I.A b (.inr (by simp))) hl hvy
        refine ⟨Go.undef, w', .inr ⟨?_, rfl⟩, σ, Ext.refl _ _ _, VR.undef _ _, h2, h3, by rw [(st_parts hs').choose_spec.2.2.2.2.2]; exact Fresh.none _ _ _ _ _ _⟩
        have hne : ((a.eval y).cells.size ≠ q.size) = False := by simp at hlen; simp; omega
        simp only [execOp, hop, Instr.storeAt, hv, Instr.sureAddr, storeVar, Sem.run_bind, hsz, Result.andThen, Sem.run_pure, pure_bind, hne, if_false]
        simp [h1]
      · cases h
  · cases h

theorem sound_nilCheck {x : Operand} (hop : o.op = .nilCheck x) (h : opE C T s o = some r) (I : Inp P C ρ σ cur s T a w o r) : Gives P o a w (Post ρ σ cur s.next w r.val r.s r.W) := by
  have hx : x ∈ o.op.operands.toList := by rw [hop]; simp [Op.operands]
  unfold opE at h
  rw [hop] at h
  simp only [opNil] at h
  split at h
  · rename_i p hc
    cases h
    have hv := I.T.ev hx hc
    refine gives_pure (R := []) rfl I.H ?_ hv
    obtain ⟨b, q⟩ := p
    obtain ⟨l, _, hv⟩ := hv.ptr_inv
    simp [execOp, hop, hv]
  · rename_i f x1 x2 hc
    cases h
    have hv := I.T.ev hx hc
    refine gives_pure (R := []) rfl I.H ?_ hv
    obtain ⟨a', b', e, _, _⟩ := hv.fn_inv
    simp [execOp, hop, e]
  · cases h

theorem sound_build {t : TypeId} {parts : Array (Nat × Operand)} (hop : o.op = .build t parts) (h : opE C T s o = some r) (I : Inp P C ρ σ cur s T a w o r) : Gives P o a w (Post ρ σ cur s.next w r.val r.s r.W) := by
  unfold opE at h
  rw [hop] at h
  simp only [opBuild] at h
  split at h
  · rename_i q ps hq hps
    have hpr := evps_run (σ := σ) (ρ := ρ) (a := a) (fun t ht => I.T t (by rw [hop]; simpa [Op.operands] using ht)) hps
    obtain ⟨z, hz, hz2⟩ := (I.ok.ty _ _ hq).zeroV w
    have hu := (I.ok.ty _ _ hq).under w
    have hpe : (parts.map fun (p : Nat × Operand) => (p.1, a.eval p.2)).toList = parts.toList.map fun p => (p.1, a.eval p.2) := by simp
    split at h
    · rename_i fs hd
      rw [hd] at hu
      split at h
      · rename_i pl hpl
        split at h
        · rename_i l hfill
          cases h
          obtain ⟨cs', h1, h2⟩ := fill_run _ hpr (VRl.ofVals (ρ := ρ) (σ := σ) hz2) hfill
          refine gives_pure (R := []) rfl I.H (v := .agg cs') ?_ (.agg h2)
          have hp := places_run I.ok.ty w hpl
          have hp2 : (fs.mapM (m := Sem) fun f => do pure (f.offset, ← sizeOf f.type)).run P w = .ok pl.toArray w := by
            rw [Array.mapM_eq_mapM_toList]
            simp only [Sem.run_map, hp, Result.andThen]
          have hg : (fun i : Nat => pl.toArray[i]?) = fun i : Nat => pl[i]? := by funext i; simp
          simp only [execOp, hop, Instr.build, Sem.run_bind, hz, hu, Result.andThen, hp2, hpe, hg, h1, Sem.run_pure]
        · cases h
      · cases h
    · rename_i n e hd
      rw [hd] at hu
      split at h
      · rename_i q2 hq2
        split at h
        · rename_i l hfill
          cases h
          obtain ⟨cs', h1, h2⟩ := fill_run _ hpr (VRl.ofVals (ρ := ρ) (σ := σ) hz2) hfill
          refine gives_pure (R := []) rfl I.H (v := .agg cs') ?_ (.agg h2)
          have hs := (I.ok.ty _ _ hq2).sizeOf' w
          simp only [execOp, hop, Instr.build, Sem.run_bind, hz, hu, Result.andThen, hs, hpe, h1, Sem.run_pure]
        · cases h
      · cases h
    · cases h
  · cases h

theorem sound_buildSlice {t : TypeId} {len : Nat} {parts : Array (Nat × Operand)} (hop : o.op = .buildSlice t len parts) (h : opE C T s o = some r) (I : Inp P C ρ σ cur s T a w o r) : Gives P o a w (Post ρ σ cur s.next w r.val r.s r.W) := by
  unfold opE at h
  rw [hop] at h
  simp only [opBuildSlice] at h
  split at h
  · rename_i q ps hq hps
    have hpr := evps_run (σ := σ) (ρ := ρ) (a := a) (fun t ht => I.T t (by rw [hop]; simpa [Op.operands] using ht)) hps
    have hu := (I.ok.ty _ _ hq).under w
    have hpe : (parts.map fun (p : Nat × Operand) => (p.1, a.eval p.2)).toList = parts.toList.map fun p => (p.1, a.eval p.2) := by simp
    split at h
    · rename_i e hd
      rw [hd] at hu
      split at h
      · rename_i q2 hq2
        cases hf : (Nat.ble 1 q2.size && Nat.ble (len * q2.size) 10000) with
        | false => rw [hf, cond_false] at h; cases h
        | true =>
          rw [hf, cond_true] at h
          simp only [Bool.and_eq_true] at hf
          have hf1 := Nat.le_of_ble_eq_true hf.1
          have hf2 := Nat.le_of_ble_eq_true hf.2
          split at h
          · rename_i l hfill
            cases h
            obtain ⟨z, hz, hz2⟩ := (I.ok.ty _ _ hq2).zeroV w
            have hzl : q2.zero.length = q2.size := (I.ok.ty _ _ hq2).2.2.1
            have hrr := rep_rel (VRl.ofVals (ρ := ρ) (σ := σ) hz2) len (by omega)
            rw [hzl] at hrr
            obtain ⟨cs', h1, h2⟩ := fill_run _ hpr hrr hfill
            have hs := (I.ok.ty _ _ hq2).sizeOf' w
            have hσ := I.N s.next (Nat.le_refl _) (by simp [St.new])
            have hll := h2.length
            simp only [Array.length_toList] at hll
            have hlen : l.length = len * q2.size := by
              rw [fillC_length hfill, rep_length, hzl]
            refine ⟨.slice (some ⟨w.heap.size, 0, none⟩) len len, w.alloc (.cells cs' e), .inl ?_, ?_⟩
            · have hbig : ¬ (len * q2.size > 2 ^ 24) := by omega
              by_cases h0 : len * q2.size = 0
              · have hl0 : len = 0 := by
                  rcases Nat.mul_eq_zero.1 h0 with h | h
                  · exact h
                  · omega
                subst hl0
                simp only [Nat.zero_mul] at h1
                simp only [execOp, hop, Instr.buildSlice, Sem.run_bind, hu, Result.andThen, hs, hbig, if_false, Nat.zero_mul, hpe, Sem.run_pure, if_true, Nat.lt_irrefl, gt_iff_lt, Nat.not_lt_zero]
                have e0 : ((Array.range 0).map fun x => (#[] : Array Value)[x % (#[] : Array Value).size]!) = ((Array.range 0).map fun x => z.cells[x % z.cells.size]!) := by simp
                rw [e0, h1]
                simp [newRow]
              · simp only [execOp, hop, Instr.buildSlice, Sem.run_bind, hu, Result.andThen, hs, hbig, if_false, hpe, Sem.run_pure, h0, hz]
                rw [h1]
                simp [newRow]
            · have := post_new (s0 := s) (rest := []) (t := e) (e := q2.size) (K := []) (n := s.next) (c := .slc (some (s.next, 0)) len len) (v := .slice (some ⟨w.heap.size, 0, none⟩) len len) I.H h2 rfl hσ (fun b hb => by cases hb) (by
                have := VR.slc (ρ := ρ) (σ := fun b => if b = s.next then some ⟨w.heap.size, 0, (cs'.toList ++ []).length, q2.size⟩ else σ b) (b := s.next) (o := 0) (n := len) (c := len) (c' := len) (l := ⟨w.heap.size, 0, (cs'.toList ++ []).length, q2.size⟩) (if_pos rfl) (Nat.le_refl _) (by simp; omega)
                exact this)
              simpa using this
          · cases h
      · cases h
    · cases h
  · cases h

end
end Go.Proofs.Ytlffofemajfdjaa.Cx
