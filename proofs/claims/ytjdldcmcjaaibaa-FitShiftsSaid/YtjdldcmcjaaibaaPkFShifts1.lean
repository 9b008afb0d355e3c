/- One operation that calls no Go function: what the evaluator says of it holds of every real world that its canonical memory stands for. -/
import Derived.IntWalk
import Derived.MapKept
import Derived.Test.YtjdldcmcjaaibaaPkFShifts0

namespace Go.Proofs.Ytjdldcmcjaaibaa.Cx
set_option linter.unusedSimpArgs false
set_option linter.unusedVariables false
open Go Go.RowKit
/-- An operation yields a value, or nothing, and a world of which this holds. -/
def Gives (P : Program) (o : Oper) (a : Act) (w : World) (R : Value → World → Prop) : Prop :=
  ∃ v w', ((execOp a.eval o).run P w = .ok (.value v) w' ∨ ((execOp a.eval o).run P w = .ok .skip w' ∧ v = Go.undef)) ∧ R v w'
/-- Real cells of these kinds. -/
def ShapeV : List (Option IntKind) → List Value → Prop
  | [], [] => True
  | none :: ks, .bool _ :: l => ShapeV ks l
  | some k :: ks, .int k' _ :: l => k = k' ∧ ShapeV ks l
  | _, _ => False
def eqVals : List Value → List Value → Bool
  | .int _ a :: l, .int _ b :: m => (a == b) && eqVals l m
  | .bool a :: l, .bool b :: m => (a == b) && eqVals l m
  | _, _ => true
theorem shapeC_run {ρ : Env} {σ : Mp} : ∀ {ks : List (Option IntKind)} {l : List CV} {m : List Value}, shapeC ks l = true → VRl ρ σ l m → ShapeV ks m
  | [], [], _, _, .nil => trivial
  | none :: ks, .bool _ :: l, _, h, .cons h1 h2 => by
    cases h1
    simp only [shapeC] at h
    exact shapeC_run (ks := ks) (l := l) h h2
  | some k :: ks, .int k' _ :: l, _, h, .cons h1 h2 => by
    cases h1
    simp only [shapeC, Bool.and_eq_true, decide_eq_true_eq] at h
    exact ⟨h.1, shapeC_run (ks := ks) (l := l) h.2 h2⟩
/-- A type whose == compares cell by cell. -/
def EqOk (P : Program) (t : Nat) (ks : List (Option IntKind)) : Prop :=
  ∀ (x y : Array Value) (w : World), ShapeV ks x.toList → ShapeV ks y.toList →
    (∀ op u v, (eqGuard op t u v (.agg x) (.agg y)).run P w = .ok () w) ∧ (Op.equal t (.agg x) (.agg y)).run P w = .ok (eqVals x.toList y.toList) w
structure CtxOk (P : Program) (C : Ctx) : Prop where
  ty : ∀ t r, C.ty t = some r → TyOk P t r
  eq : ∀ t ks, C.eq t = some ks → EqOk P t ks
  zv : ∀ t c, C.zv t = some c → ∃ z, (∀ w, (zeroValue t).run P w = .ok z w) ∧ ∀ ρ σ, VR ρ σ c z
  key : ∀ t ks, C.eq t = some ks → ∀ (x : Array Value) (em : Bool) (w : World), ShapeV ks x.toList → (Instr.checkKey em 10000 t (.agg x)).run P w = .ok () w
structure Inp (P : Program) (C : Ctx) (ρ : Env) (σ : Mp) (cur : Cur) (s : St) (T : Tr CV) (a : Act) (w : World) (o : Oper) (r : OR) : Prop where
  ok : CtxOk P C
  pc : ∀ p ∈ r.s.pc, p.holds ρ
  T : Reads ρ σ T a o.op.operands.toList
  H : HR ρ σ cur w
  A : ∀ b, b ∈ r.R ∨ b ∈ r.W → cur b = s.heap.get b
  N : ∀ b, s.next ≤ b → b < r.s.next → σ b = none
section
variable {P : Program} {C : Ctx} {ρ : Env} {σ : Mp} {cur : Cur} {s : St} {T : Tr CV} {a : Act} {w : World} {o : Oper} {r : OR}
theorem gives_pure {v : Value} {c : CV} {s1 : St} {R : List Nat} (hn : s1.next = s.next) (hH : HR ρ σ cur w) (hr : (execOp a.eval o).run P w = .ok (.value v) w) (hv : VR ρ σ c v) :
    Gives P o a w (Post ρ σ cur s.next w c s1 []) := ⟨v, w, .inl hr, post_pure hn hv hH⟩
theorem ask_parts {s s1 : St} {e : BE} {b : Bool} (h : s.ask e = some (b, s1)) : s1.next = s.next ∧ s1.heap = s.heap ∧ (∃ l, s1.pc = l ++ s.pc) ∧ ((∀ p ∈ s1.pc, p.holds ρ) → e.den ρ = b) := by
  unfold St.ask at h
  split at h
  · rename_i v hv
    cases h
    exact ⟨rfl, rfl, ⟨[], rfl⟩, fun hp => PC.find_holds hv hp⟩
  · split at h
    · cases h
    · cases h; exact ⟨rfl, rfl, ⟨[_], rfl⟩, fun hp => hp (.b e _) (by simp)⟩
theorem decide_parts {s s1 : St} {e : BE} {b : Bool} (h : s.decide e = some (b, s1)) : s1.next = s.next ∧ s1.heap = s.heap ∧ (∃ l, s1.pc = l ++ s.pc) ∧ ((∀ p ∈ s1.pc, p.holds ρ) → e.den ρ = b) := by
  cases e with
  | c x => simp only [St.decide] at h; cases h; exact ⟨rfl, rfl, ⟨[], rfl⟩, fun _ => rfl⟩
  | v i => exact ask_parts h
  | cmp q x y => exact ask_parts h
  | not x =>
    simp only [St.decide] at h
    split at h
    · rename_i v s2 hv
      cases h
      obtain ⟨h1, h2, h3, h4⟩ := ask_parts (ρ := ρ) hv
      exact ⟨h1, h2, h3, fun hp => by simp [BE.den, h4 hp]⟩
    · cases h
  | x y =>
    simp only [St.decide] at h
    split at h
    · cases h
    · cases h; exact ⟨rfl, rfl, ⟨[_], rfl⟩, fun hp => hp (.b (.x y) _) (by simp)⟩
theorem tell_parts {s s1 : St} {e b : BE} (h : s.tell e = some (b, s1)) : s1.next = s.next ∧ s1.heap = s.heap ∧ (∃ l, s1.pc = l ++ s.pc) ∧ ((∀ p ∈ s1.pc, p.holds ρ) → b.den ρ = e.den ρ) := by
  unfold St.tell at h
  split at h
  · split at h
    · rename_i v s2 hd
      cases h
      obtain ⟨h1, h2, h3, h4⟩ := decide_parts (ρ := ρ) hd
      exact ⟨h1, h2, h3, fun hp => (h4 hp).symm⟩
    · cases h
  · cases h; exact ⟨rfl, rfl, ⟨[], rfl⟩, fun _ => rfl⟩
theorem mustE_parts {s s1 : St} {e : BE} (h : s.must e = some s1) : s1.next = s.next ∧ s1.heap = s.heap ∧ (∃ l, s1.pc = l ++ s.pc) ∧ ((∀ p ∈ s1.pc, p.holds ρ) → e.den ρ = true) := by
  have fin : ∀ (h : (match s.decide e with | some (true, s) => some s | _ => none) = some s1), s1.next = s.next ∧ s1.heap = s.heap ∧ (∃ l, s1.pc = l ++ s.pc) ∧ ((∀ p ∈ s1.pc, p.holds ρ) → e.den ρ = true) := fun h => by
    split at h
    · rename_i s2 hd; cases h; exact decide_parts hd
    · cases h
  cases e with
  | c b =>
    simp only [St.must] at h
    cases b with
    | true => rw [cond_true] at h; cases h; exact ⟨rfl, rfl, ⟨[], rfl⟩, fun _ => rfl⟩
    | false => rw [cond_false] at h; cases h
  | x b => exact must_parts h
  | v i => exact fin h
  | cmp q x y => exact fin h
  | not x => exact fin h
theorem conc_parts {s s1 : St} {e : IE} {n : Int} (h : s.conc e = some (n, s1)) : s1.next = s.next ∧ s1.heap = s.heap ∧ (∃ l, s1.pc = l ++ s.pc) ∧ ((∀ p ∈ s1.pc, p.holds ρ) → e.den ρ = n) := by
  have key : ∀ (m : Int), (∀ p ∈ (PC.b (.cmp .eql e (.c m)) true :: s.pc), p.holds ρ) → e.den ρ = m := fun m hp => by
    have := hp (.b (.cmp .eql e (.c m)) true) (by simp)
    simpa [PC.holds, BE.den, Cm.run, IE.den] using this
  have fin : ∀ (h : (match PC.findN e s.pc with
      | some n => some (n, s)
      | none => match s.orc with
        | [] => none
        | n :: t => some ((n : Int), { s with orc := t, pc := .b (.cmp .eql e (.c n)) true :: s.pc })) = some (n, s1)),
      s1.next = s.next ∧ s1.heap = s.heap ∧ (∃ l, s1.pc = l ++ s.pc) ∧ ((∀ p ∈ s1.pc, p.holds ρ) → e.den ρ = n) := fun h => by
    split at h
    · rename_i v hv
      cases h
      exact ⟨rfl, rfl, ⟨[], rfl⟩, fun hp => PC.findN_holds hv hp⟩
    · split at h
      · cases h
      · cases h; exact ⟨rfl, rfl, ⟨[_], rfl⟩, key _⟩
  cases e with
  | c x => simp only [St.conc] at h; cases h; exact ⟨rfl, rfl, ⟨[], rfl⟩, fun _ => rfl⟩
  | v i => exact fin h
  | bin q k x y => exact fin h
  | x y =>
    simp only [St.conc] at h
    split at h
    · cases h
    · rename_i m t _
      cases h
      refine ⟨rfl, rfl, ⟨[_], rfl⟩, fun hp => ?_⟩
      have := hp (.b (.x (decide (y = (m : Int)))) true) (by simp)
      exact of_decide_eq_true this
theorem place_parts {s s1 : St} {x e : IE} {N n : Nat} (h : s.place x e N = some (n, s1)) : s1.next = s.next ∧ s1.heap = s.heap ∧ (∃ l, s1.pc = l ++ s.pc) ∧ ((∀ p ∈ s1.pc, p.holds ρ) → x.den ρ = n ∧ (n : Int) < e.den ρ) ∧ n < N := by
  unfold St.place at h
  split at h
  · rename_i m s2 h2
    cases hb : (decide (0 ≤ m) && Nat.blt m.toNat N) with
    | false => rw [hb, cond_false] at h; cases h
    | true =>
      rw [hb, cond_true] at h
      rw [Bool.and_eq_true] at hb
      have b1 : 0 ≤ m := of_decide_eq_true hb.1
      have b2 : m.toNat < N := Nat.lt_of_succ_le (Nat.le_of_ble_eq_true hb.2)
      split at h
      · rename_i s3 h3
        cases h
        obtain ⟨c1, c2, ⟨l, c3⟩, c4⟩ := conc_parts (ρ := ρ) h2
        obtain ⟨d1, d2, ⟨l', d3⟩, d4⟩ := decide_parts (ρ := ρ) h3
        refine ⟨d1.trans c1, d2.trans c2, ⟨l' ++ l, by rw [d3, c3, List.append_assoc]⟩, fun hp => ?_, b2⟩
        have e1 := c4 fun p hp' => hp p (by rw [d3]; exact List.mem_append_right _ hp')
        have e2 := d4 hp
        rw [BE.den_mk] at e2
        have e3 : m < e.den ρ := of_decide_eq_true e2
        have e4 : (m.toNat : Int) = m := Int.toNat_of_nonneg b1
        rw [e4]
        exact ⟨e1, e3⟩
      · cases h
  · cases h
theorem VR.int_inv {k : IntKind} {e : IE} {v : Value} (h : VR ρ σ (.int k e) v) : v = .int k (e.den ρ) := by cases h; rfl
theorem VR.raw_inv {u v : Value} (h : VR ρ σ (.raw u) v) : v = u := by cases h; rfl
theorem VR.map_inv {b : Nat} {v : Value} (h : VR ρ σ (.map b) v) : ∃ l, σ b = some l ∧ v = .map (some l.blk) := by cases h; exact ⟨_, ‹_›, rfl⟩
theorem VR.yld_inv {b : Nat} {v : Value} (h : VR ρ σ (.yld b) v) : ∃ l, σ b = some l ∧ v = .func (.yield l.blk) #[] #[] := by cases h; exact ⟨_, ‹_›, rfl⟩
theorem VR.bool_inv {e : BE} {v : Value} (h : VR ρ σ (.bool e) v) : v = .bool (e.den ρ) := by cases h; rfl
theorem VR.ptr_inv {b o : Nat} {v : Value} (h : VR ρ σ (.ptr (some (b, o))) v) : ∃ l, σ b = some l ∧ v = .pointer (some ⟨l.blk, l.base + o, none⟩) := by cases h; exact ⟨_, ‹_›, rfl⟩
theorem VR.fn_inv {f : Fn} {x y : List CV} {v : Value} (h : VR ρ σ (.fn f x y) v) : ∃ x' y', v = .func f x' y' ∧ VRl ρ σ x x'.toList ∧ VRl ρ σ y y'.toList := by cases h; exact ⟨_, _, rfl, ‹_›, ‹_›⟩
theorem VR.agg_inv {l : List CV} {v : Value} (h : VR ρ σ (.agg l) v) : ∃ cs, v = .agg cs ∧ VRl ρ σ l cs.toList := by cases h; exact ⟨_, rfl, ‹_›⟩
theorem VR.tup_inv {l : List CV} {v : Value} (h : VR ρ σ (.tup l) v) : ∃ cs, v = .tuple cs ∧ VRl ρ σ l cs.toList := by cases h; exact ⟨_, rfl, ‹_›⟩
theorem mem_l {x : Operand} {l : List Operand} : x ∈ l.toArray.toList ↔ x ∈ l := by simp
/-! Operations, one by one. -/
theorem sound_move {x : Operand} (hop : o.op = .move x ∨ o.op = .assign x) (h : opE C T s o = some r) (I : Inp P C ρ σ cur s T a w o r) : Gives P o a w (Post ρ σ cur s.next w r.val r.s r.W) := by
  have hx : x ∈ o.op.operands.toList := by rcases hop with e | e <;> rw [e] <;> simp [Op.operands]
  have hr : (execOp a.eval o).run P w = .ok (.value (a.eval x)) w := by rcases hop with e | e <;> simp [execOp, e]
  have h' : (match ev T x with | some c => some (⟨c, s, [], []⟩ : OR) | none => none) = some r := by
    rcases hop with e | e <;> (unfold opE at h; rw [e] at h; exact h)
  split at h'
  · rename_i c hc
    cases h'
    exact gives_pure (R := []) rfl I.H hr (I.T.ev hx hc)
  · cases h'
theorem sound_pick {c x y : Operand} (hop : o.op = .pick c x y) (h : opE C T s o = some r) (I : Inp P C ρ σ cur s T a w o r) : Gives P o a w (Post ρ σ cur s.next w r.val r.s r.W) := by
  have hm : ∀ z ∈ [c, x, y], z ∈ o.op.operands.toList := by intro z hz; rw [hop]; simpa [Op.operands] using hz
  unfold opE at h
  rw [hop] at h
  simp only [opPick] at h
  split at h
  · rename_i e cx cy h1 h2 h3
    split at h
    · rename_i t s1 hd
      cases h
      obtain ⟨hn, _, _, hv⟩ := decide_parts (ρ := ρ) hd
      have hv := hv I.pc
      have hc := (I.T.ev (hm c (by simp)) h1).bool_inv
      rw [hv] at hc
      refine gives_pure (R := []) (v := if t then a.eval x else a.eval y) hn I.H ?_ ?_
      · simp [execOp, hop, hc, asBool]
      · cases t
        · exact I.T.ev (hm y (by simp)) h3
        · exact I.T.ev (hm x (by simp)) h2
    · cases h
  · cases h
theorem toA (l : List Value) : l.toArray.toList = l := rfl
theorem sound_alloc {t : TypeId} (hop : o.op = .alloc t) (h : opE C T s o = some r) (I : Inp P C ρ σ cur s T a w o r) : Gives P o a w (Post ρ σ cur s.next w r.val r.s r.W) := by
  unfold opE at h
  rw [hop] at h
  simp only [opAlloc] at h
  split at h
  · rename_i q hq
    cases h
    obtain ⟨z, hz, hz2⟩ := (I.ok.ty _ _ hq).zeroV w
    have hσ := I.N s.next (Nat.le_refl _) (by simp [St.new])
    refine ⟨.pointer (some ⟨w.heap.size, 0, none⟩), w.alloc (.cells z.cells t), .inl ?_, ?_⟩
    · simp [execOp, hop, Instr.alloc, hz, newVar, newRow]
    · have := post_new (s0 := s) (rest := []) (t := t) (e := 0) (K := []) (n := s.next) (c := .ptr (some (s.next, 0))) (v := .pointer (some ⟨w.heap.size, 0, none⟩)) I.H (VRl.ofVals hz2) rfl hσ (fun b hb => by cases hb) (by
        have := VR.ptr (ρ := ρ) (σ := fun b => if b = s.next then some ⟨w.heap.size, 0, (z.cells.toList ++ []).length, 0⟩ else σ b) (b := s.next) (o := 0) (l := ⟨w.heap.size, 0, (z.cells.toList ++ []).length, 0⟩) (if_pos rfl)
        exact this)
      simpa using this
  · cases h
theorem sound_box {t : TypeId} {x : Operand} (hop : o.op = .box t x) (h : opE C T s o = some r) (I : Inp P C ρ σ cur s T a w o r) : Gives P o a w (Post ρ σ cur s.next w r.val r.s r.W) := by
  have hx : x ∈ o.op.operands.toList := by rw [hop]; simp [Op.operands]
  unfold opE at h
  rw [hop] at h
  simp only [opBox] at h
  split at h
  · rename_i c hc
    cases hf : c.fit with
    | false => rw [hf, cond_false] at h; cases h
    | true =>
      rw [hf, cond_true] at h
      cases h
      have hσ := I.N s.next (Nat.le_refl _) (by simp [St.new])
      have hv := (I.T.ev hx hc).cells (fit_raw hf)
      refine ⟨.pointer (some ⟨w.heap.size, 0, none⟩), w.alloc (.cells (a.eval x).cells t), .inl ?_, ?_⟩
      · simp [execOp, hop, Instr.box, newVar, newRow]
      · have := post_new (s0 := s) (rest := []) (t := t) (e := 0) (K := []) (n := s.next) (c := .ptr (some (s.next, 0))) (v := .pointer (some ⟨w.heap.size, 0, none⟩)) I.H hv rfl hσ (fun b hb => by cases hb) (by
          have := VR.ptr (ρ := ρ) (σ := fun b => if b = s.next then some ⟨w.heap.size, 0, ((a.eval x).cells.toList ++ []).length, 0⟩ else σ b) (b := s.next) (o := 0) (l := ⟨w.heap.size, 0, ((a.eval x).cells.toList ++ []).length, 0⟩) (if_pos rfl)
          exact this)
        simpa using this
  · cases h
theorem sound_load {t : TypeId} {x : Operand} (hop : o.op = .load t x) (h : opE C T s o = some r) (I : Inp P C ρ σ cur s T a w o r) : Gives P o a w (Post ρ σ cur s.next w r.val r.s r.W) := by
  have hx : x ∈ o.op.operands.toList := by rw [hop]; simp [Op.operands]
  unfold opE at h
  rw [hop] at h
  simp only [opLoad] at h
  split at h
  · rename_i q b off hq hc
    obtain ⟨l, hl, hv⟩ := (I.T.ev hx hc).ptr_inv
    have hag := (I.ok.ty _ _ hq).isAgg' w
    have hsz := (I.ok.ty _ _ hq).sizeOf' w
    cases hqa : q.agg with
    | true =>
      rw [hqa, cond_true] at h
      split at h
      · rename_i cs hcs
        cases h
        obtain ⟨vs, h1, h2, h3, _⟩ := ld_run (P := P) I.H hcs (I.A b (.inl (by simp))) hl
        refine gives_pure (R := [b]) (v := .agg vs.toArray) rfl I.H ?_ (.agg h2)
        simp [execOp, hop, Instr.loadAt, hv, Instr.sureAddr, loadVar, hag, hqa, hsz, h1]
      · cases h
    | false =>
      rw [hqa, cond_false] at h
      split at h
      · rename_i c hcs
        cases h
        obtain ⟨v, h1, h2⟩ := ld_run1 (P := P) I.H hcs (I.A b (.inl (by simp))) hl
        refine gives_pure (R := [b]) (v := v) rfl I.H ?_ h2
        simp only [execOp, hop, Instr.loadAt, hv, Instr.sureAddr, loadVar, Sem.run_bind, hag, hqa, Result.andThen, Sem.run_pure, Bool.false_eq_true, if_false, h1, pure_bind]
      · cases h
  · rename_i q b z j f hq hc
    obtain ⟨l, hl, hv⟩ := (I.T.ev hx hc).ptx_inv.ptr_inv
    have hag := (I.ok.ty _ _ hq).isAgg' w
    have hsz := (I.ok.ty _ _ hq).sizeOf' w
    cases hqa : q.agg with
    | true =>
      rw [hqa, cond_true] at h
      split at h
      · rename_i cs s1 hcs
        cases h
        obtain ⟨a1, a2, a3, _, a4⟩ := ldx_parts (ρ := ρ) hcs
        obtain ⟨vs, h1, h2, h3, _⟩ := ld_run (P := P) I.H (a4 I.pc) (I.A b (.inl (by simp))) hl
        refine gives_pure (R := [b]) (v := .agg vs.toArray) a1 I.H ?_ (.agg h2)
        simp [execOp, hop, Instr.loadAt, hv, Instr.sureAddr, loadVar, hag, hqa, hsz, h1]
      · cases h
    | false =>
      rw [hqa, cond_false] at h
      split at h
      · rename_i c s1 hcs
        cases h
        obtain ⟨a1, a2, a3, _, a4⟩ := ldx_parts (ρ := ρ) hcs
        obtain ⟨v, h1, h2⟩ := ld_run1 (P := P) I.H (a4 I.pc) (I.A b (.inl (by simp))) hl
        refine gives_pure (R := [b]) (v := v) a1 I.H ?_ h2
        simp only [execOp, hop, Instr.loadAt, hv, Instr.sureAddr, loadVar, Sem.run_bind, hag, hqa, Result.andThen, Sem.run_pure, Bool.false_eq_true, if_false, h1, pure_bind]
      · cases h
  · cases h
theorem IE.num_den {e : IE} {n : Int} (h : e.num = some n) : e.den ρ = n := by
  cases e <;> simp only [IE.num] at h <;> cases h <;> rfl
theorem BE.val_den {e : BE} {n : Bool} (h : e.val = some n) : e.den ρ = n := by
  cases e <;> simp only [BE.val] at h <;> cases h <;> rfl
/-- One of two values. -/
theorem VR.selT {a b : CV} {x : Value} (ha : VR ρ σ a x) (fa : a.flat = true) : VR ρ σ (CV.sel true a b) x := by
  unfold CV.sel
  split
  · rename_i k p k' q
    obtain rfl := ha.int_inv
    cases hk : decide (k = k') with
    | false => rw [cond_false]; exact .junk rfl
    | true =>
      rw [cond_true]
      split
      · rename_i u v h1 h2
        rw [IE.num_den (ρ := ρ) h1]
        exact VR.int (ρ := ρ) (σ := σ) k (.x u)
      · exact .junk rfl
  · rename_i p q
    obtain rfl := ha.bool_inv
    split
    · rename_i u v h1 h2
      rw [BE.val_den (ρ := ρ) h1]
      exact VR.bool (ρ := ρ) (σ := σ) (.x u)
    · exact .junk rfl
  · exact .junk (ha.flat fa)
theorem VR.selF {a b : CV} {x : Value} (hb : VR ρ σ b x) (fb : b.flat = true) : VR ρ σ (CV.sel false a b) x := by
  unfold CV.sel
  split
  · rename_i k p k' q
    obtain rfl := hb.int_inv
    cases hk : decide (k = k') with
    | false => rw [cond_false]; exact .junk rfl
    | true =>
      rw [cond_true]
      obtain rfl := of_decide_eq_true hk
      split
      · rename_i u v h1 h2
        rw [IE.num_den (ρ := ρ) h2]
        exact VR.int (ρ := ρ) (σ := σ) k (.x v)
      · exact .junk rfl
  · rename_i p q
    obtain rfl := hb.bool_inv
    split
    · rename_i u v h1 h2
      rw [BE.val_den (ρ := ρ) h2]
      exact VR.bool (ρ := ρ) (σ := σ) (.x v)
    · exact .junk rfl
  · exact .junk (hb.flat fb)
theorem VRl.selT : ∀ {a b : List CV} {x : List Value}, VRl ρ σ a x → a.length = b.length → a.all CV.flat = true → VRl ρ σ (selRow true a b) x
  | [], [], _, .nil, _, _ => .nil
  | a :: l, b :: m, _, .cons h1 h2, hl, fa => by
    simp only [List.all_cons, Bool.and_eq_true] at fa
    exact .cons (VR.selT h1 fa.1) (VRl.selT h2 (by simpa using hl) fa.2)
theorem VRl.selF : ∀ {a b : List CV} {x : List Value}, VRl ρ σ b x → b.all CV.flat = true → VRl ρ σ (selRow false a b) x
  | [], _, _, h, _ => by simpa [selRow] using h
  | a :: l, b :: m, _, .cons h1 h2, fb => by
    simp only [List.all_cons, Bool.and_eq_true] at fb
    exact .cons (VR.selF h1 fb.1) (VRl.selF h2 fb.2)
  | a :: l, [], _, h, _ => by simpa [selRow] using h
theorem VRl.updF : ∀ {f : Nat} {l r : List CV} {y : List Value}, VRl ρ σ r y → r.all CV.flat = true → VRl ρ σ (updRow false f l r) y
  | f + 1, l, c :: r, _, .cons h t, hf => by
    simp only [List.all_cons, Bool.and_eq_true] at hf
    exact .cons h (VRl.updF t hf.2)
  | 0, x :: l, c :: r, _, .cons h t, hf => by
    simp only [List.all_cons, Bool.and_eq_true] at hf
    exact .cons (VR.selF h hf.1) (VRl.updF t hf.2)
  | f + 1, l, [], _, h, _ => by simpa [updRow] using h
  | 0, [], r, _, h, _ => by cases r <;> simpa [updRow] using h
  | 0, x :: l, [], _, h, _ => by simpa [updRow] using h
theorem VRl.updT : ∀ {f : Nat} {l r : List CV} {x y : List Value}, VRl ρ σ l x → VRl ρ σ r y → f + l.length ≤ r.length → l.all CV.flat = true → r.all CV.flat = true → VRl ρ σ (updRow true f l r) (y.take f ++ x ++ y.drop (f + x.length))
  | f + 1, l, c :: r, x, _, hl, .cons h t, hle, fl, hf => by
    simp only [List.all_cons, Bool.and_eq_true] at hf
    have := VRl.updT (f := f) hl t (by simp only [List.length_cons] at hle; omega) fl hf.2
    rw [updRow, List.take_succ_cons, show f + 1 + x.length = (f + x.length) + 1 by omega, List.drop_succ_cons]
    exact .cons h this
  | 0, a :: l, c :: r, _, _, .cons h1 h2, .cons h t, hle, fl, hf => by
    simp only [List.all_cons, Bool.and_eq_true] at fl hf
    have := VRl.updT (f := 0) h2 t (by simp only [List.length_cons] at hle; omega) fl.2 hf.2
    have hd := VR.selT (b := c) h1 fl.1
    simp only [List.take_zero, List.nil_append, Nat.zero_add] at this ⊢
    rw [updRow]
    exact .cons hd this
  | f + 1, l, [], _, _, hl, h, hle, _, _ => by simp only [List.length_nil] at hle; omega
  | 0, [], r, _, y, .nil, h, _, _, _ => by cases r <;> simpa [updRow] using h
  | 0, a :: l, [], _, _, _, _, hle, _, _ => by simp only [List.length_cons, List.length_nil] at hle; omega
/-- Rows behind a store. -/
theorem rows_upd {row : Nat → List CV} {z j f : Nat} {l : List CV} {x : List Value} (hr : ∀ j, (row j).length = z ∧ (row j).all CV.flat = true) (hl : VRl ρ σ l x) (fl : l.all CV.flat = true) (hf : f + l.length ≤ z) : ∀ (m : Nat) (y : List Value), VRl ρ σ (flatR row m) y →
    VRl ρ σ (flatR (fun i => updRow (Nat.beq i j) f l (row i)) m) (if j < m then y.take (j * z + f) ++ x ++ y.drop (j * z + f + x.length) else y)
  | 0, y, h => by simpa [flatR] using h
  | m + 1, y, h => by
    have hlm := flatR_length (fun j => (hr j).1) m
    have hx := hl.length
    obtain ⟨y1, y2, rfl, h1, h2⟩ : ∃ y1 y2, y = y1 ++ y2 ∧ VRl ρ σ (flatR row m) y1 ∧ VRl ρ σ (row m) y2 := by
      refine ⟨y.take (m * z), y.drop (m * z), (List.take_append_drop _ _).symm, ?_, ?_⟩
      · have := h.take (m * z); rw [flatR, List.take_append_of_le_length (by omega), List.take_of_length_le (by omega)] at this; exact this
      · have := h.drop (m * z); rw [flatR, List.drop_append_of_le_length (by omega), List.drop_of_length_le (by omega), List.nil_append] at this; exact this
    have l1 := h1.length
    have l2 := h2.length
    rw [hlm] at l1
    rw [(hr m).1] at l2
    have ih := rows_upd (j := j) hr hl fl hf m y1 h1
    rw [flatR]
    by_cases hj : j = m
    · subst hj
      rw [if_neg (Nat.lt_irrefl _)] at ih
      rw [if_pos (by omega)]
      have e1 : Nat.beq j j = true := Nat.beq_refl j
      have := VRl.updT (f := f) hl h2 (by rw [(hr j).1]; exact hf) fl (hr j).2
      rw [e1]
      have e2 : (y1 ++ y2).take (j * z + f) ++ x ++ (y1 ++ y2).drop (j * z + f + x.length) = y1 ++ (y2.take f ++ x ++ y2.drop (f + x.length)) := by
        rw [List.take_append, List.drop_append, l1, List.take_of_length_le (by omega), List.drop_of_length_le (by omega), show j * z + f - j * z = f by omega, show j * z + f + x.length - j * z = f + x.length by omega]
        simp
      rw [e2]
      exact ih.append this
    · have e1 : Nat.beq m j = false := by
        cases hb : Nat.beq m j with
        | false => rfl
        | true => exact absurd (Nat.eq_of_beq_eq_true hb).symm hj
      rw [e1]
      have hu := VRl.updF (f := f) (l := l) h2 (hr m).2
      by_cases hlt : j < m
      · rw [if_pos hlt] at ih
        rw [if_pos (by omega)]
        have hle : j * z + f + x.length ≤ m * z := by
          have : (j + 1) * z ≤ m * z := Nat.mul_le_mul_right _ hlt
          rw [Nat.succ_mul] at this; omega
        have e2 : (y1 ++ y2).take (j * z + f) ++ x ++ (y1 ++ y2).drop (j * z + f + x.length) = (y1.take (j * z + f) ++ x ++ y1.drop (j * z + f + x.length)) ++ y2 := by
          rw [List.take_append_of_le_length (by omega), List.drop_append_of_le_length (by omega)]
          simp
        rw [e2]
        exact ih.append hu
      · rw [if_neg hlt] at ih
        rw [if_neg (by omega)]
        exact ih.append hu
theorem stx_parts {s s1 : St} {b z j f : Nat} {l : List CV} (h : s.stx b z j f l = some s1) : ∃ m row hr e x, s.heap.get b = some ⟨.rows m z row hr, e, true, x⟩ ∧ f + l.length ≤ z ∧ l.all CV.flat = true ∧ b < s.next ∧ s1.next = s.next ∧ (∃ l, s1.pc = l ++ s.pc) ∧ ((∀ p ∈ s1.pc, p.holds ρ) → j < m) ∧
    s1.heap = s.heap.set b ⟨.rows m z (fun i => updRow (Nat.beq i j) f l (row i)) (fun i => ⟨(updRow_ok _ _ _ _).1.trans (hr i).1, (updRow_ok _ _ _ _).2 (hr i).2⟩), e, true, x⟩ := by
  unfold St.stx at h
  split at h
  · rename_i m z' row hr e x hk
    cases hc : (Nat.beq z z' && Nat.ble (f + l.length) z && l.all CV.flat && Nat.blt b s.next) with
    | false => rw [hc, cond_false] at h; cases h
    | true =>
      rw [hc, cond_true] at h
      simp only [Bool.and_eq_true] at hc
      obtain rfl := Nat.eq_of_beq_eq_true hc.1.1.1
      split at h
      · rename_i s2 h2
        cases h
        obtain ⟨a1, a2, a3, a4⟩ := must_parts (ρ := ρ) h2
        exact ⟨m, row, hr, e, x, hk, Nat.le_of_ble_eq_true hc.1.1.2, hc.1.2, Nat.lt_of_succ_le (Nat.le_of_ble_eq_true hc.2), a1, a3, fun hp => of_decide_eq_true (a4 hp), by rw [a2]⟩
      · cases h
  · cases h
theorem sound_store {t : TypeId} {x y : Operand} (hop : o.op = .store t x y) (h : opE C T s o = some r) (I : Inp P C ρ σ cur s T a w o r) : Gives P o a w (Post ρ σ cur s.next w r.val r.s r.W) := by
  have hx : x ∈ o.op.operands.toList := by rw [hop]; simp [Op.operands]
  have hy : y ∈ o.op.operands.toList := by rw [hop]; simp [Op.operands]
  unfold opE at h
  rw [hop] at h
  simp only [opStore] at h
  split at h
  · rename_i q b off c hq hc1 hc2
    obtain ⟨l, hl, hv⟩ := (I.T.ev hx hc1).ptr_inv
    have hsz := (I.ok.ty _ _ hq).sizeOf' w
    cases hf : (c.fit && Nat.beq c.cells.length q.size) with
    | false => rw [hf, cond_false] at h; cases h
    | true =>
      rw [hf, cond_true] at h
      simp only [Bool.and_eq_true] at hf
      split at h
      · rename_i s' hs'
        cases h
        have hvy := (I.T.ev hy hc2).cells (fit_raw hf.1)
        have hlen := hvy.length
        have hq2 := Nat.eq_of_beq_eq_true hf.2
        obtain ⟨w', h1, h2, h3⟩ := st_run (P := P) I.H hs' (I.A b (.inr (by simp))) hl hvy
        refine ⟨Go.undef, w', .inr ⟨?_, rfl⟩, σ, Ext.refl _ _ _, VR.undef _ _, h2, h3, by rw [(st_parts hs').choose_spec.2.2.2.2.2.2]; exact Fresh.none _ _ _ _ _ _⟩
        have hne : ((a.eval y).cells.size ≠ q.size) = False := by simp at hlen; simp; omega
        simp only [execOp, hop, Instr.storeAt, hv, Instr.sureAddr, storeVar, Sem.run_bind, hsz, Result.andThen, Sem.run_pure, pure_bind, hne, if_false]
        simp [h1]
      · cases h
  · rename_i q b z j f c hq hc1 hc2
    obtain ⟨l, hl, hv⟩ := (I.T.ev hx hc1).ptx_inv.ptr_inv
    have hsz := (I.ok.ty _ _ hq).sizeOf' w
    cases hf : (c.fit && Nat.beq c.cells.length q.size) with
    | false => rw [hf, cond_false] at h; cases h
    | true =>
      rw [hf, cond_true] at h
      simp only [Bool.and_eq_true] at hf
      split at h
      · rename_i s' hs'
        cases h
        have hvy := (I.T.ev hy hc2).cells (fit_raw hf.1)
        have hlen := hvy.length
        have hq2 := Nat.eq_of_beq_eq_true hf.2
        obtain ⟨m, row, hr, e, x, hk, g1, g2, g3, g4, g5, g6, g7⟩ := stx_parts (ρ := ρ) hs'
        have hj := g6 I.pc
        have hcl : Blk.cells ⟨.rows m z row hr, e, true, x⟩ = flatR row m := rfl
        have hlm := flatR_length (fun j => (hr j).1) m
        obtain ⟨w', h1, h2, h3⟩ := st_runB (P := P) (s := s) (s' := s') (o := j * z + f) (l := c.cells) (B := .rows m z (fun i => updRow (Nat.beq i j) f c.cells (row i)) (fun i => ⟨(updRow_ok _ _ _ _).1.trans (hr i).1, (updRow_ok _ _ _ _).2 (hr i).2⟩)) I.H hk rfl rfl (by
            rw [hcl, hlm]
            have : (j + 1) * z ≤ m * z := Nat.mul_le_mul_right _ hj
            rw [Nat.succ_mul] at this; omega) (by simpa using g2) (fun us hus => by
            have := rows_upd (j := j) (f := f) hr hvy g2 g1 m us hus
            rw [if_pos hj] at this
            exact this) g4 g7 (I.A b (.inr (by simp))) hl hvy
        refine ⟨Go.undef, w', .inr ⟨?_, rfl⟩, σ, Ext.refl _ _ _, VR.undef _ _, h2, h3, by rw [g4]; exact Fresh.none _ _ _ _ _ _⟩
        have hne : ((a.eval y).cells.size ≠ q.size) = False := by simp at hlen; simp; omega
        simp only [execOp, hop, Instr.storeAt, hv, Instr.sureAddr, storeVar, Sem.run_bind, hsz, Result.andThen, Sem.run_pure, pure_bind, hne, if_false]
        simp [h1]
      · cases h
  · cases h
theorem sound_nilCheck {x : Operand} (hop : o.op = .nilCheck x) (h : opE C T s o = some r) (I : Inp P C ρ σ cur s T a w o r) : Gives P o a w (Post ρ σ cur s.next w r.val r.s r.W) := by
  have hx : x ∈ o.op.operands.toList := by rw [hop]; simp [Op.operands]
  unfold opE at h
  rw [hop] at h
  simp only [opNil] at h
  split at h
  · rename_i p hc
    cases h
    have hv := I.T.ev hx hc
    refine gives_pure (R := []) rfl I.H ?_ hv
    obtain ⟨b, q⟩ := p
    obtain ⟨l, _, hv⟩ := hv.ptr_inv
    simp [execOp, hop, hv]
  · rename_i b z j f hc
    cases h
    have hv := I.T.ev hx hc
    refine gives_pure (R := []) rfl I.H ?_ hv
    obtain ⟨l, _, hv⟩ := hv.ptx_inv.ptr_inv
    simp [execOp, hop, hv]
  · rename_i f x1 x2 hc
    cases h
    have hv := I.T.ev hx hc
    refine gives_pure (R := []) rfl I.H ?_ hv
    obtain ⟨a', b', e, _, _⟩ := hv.fn_inv
    simp [execOp, hop, e]
  · cases h
theorem sound_build {t : TypeId} {parts : Array (Nat × Operand)} (hop : o.op = .build t parts) (h : opE C T s o = some r) (I : Inp P C ρ σ cur s T a w o r) : Gives P o a w (Post ρ σ cur s.next w r.val r.s r.W) := by
  unfold opE at h
  rw [hop] at h
  simp only [opBuild] at h
  split at h
  · rename_i q ps hq hps
    have hpr := evps_run (σ := σ) (ρ := ρ) (a := a) (fun t ht => I.T t (by rw [hop]; simpa [Op.operands] using ht)) hps
    obtain ⟨z, hz, hz2⟩ := (I.ok.ty _ _ hq).zeroV w
    have hu := (I.ok.ty _ _ hq).under w
    have hpe : (parts.map fun (p : Nat × Operand) => (p.1, a.eval p.2)).toList = parts.toList.map fun p => (p.1, a.eval p.2) := by simp
    split at h
    · rename_i fs hd
      rw [hd] at hu
      split at h
      · rename_i pl hpl
        split at h
        · rename_i l hfill
          cases h
          obtain ⟨cs', h1, h2⟩ := fill_run _ hpr (VRl.ofVals (ρ := ρ) (σ := σ) hz2) hfill
          refine gives_pure (R := []) rfl I.H (v := .agg cs') ?_ (.agg h2)
          have hp := places_run I.ok.ty w hpl
          have hp2 : (fs.mapM (m := Sem) fun f => do pure (f.offset, ← sizeOf f.type)).run P w = .ok pl.toArray w := by
            rw [Array.mapM_eq_mapM_toList]
            simp only [Sem.run_map, hp, Result.andThen]
          have hg : (fun i : Nat => pl.toArray[i]?) = fun i : Nat => pl[i]? := by funext i; simp
          simp only [execOp, hop, Instr.build, Sem.run_bind, hz, hu, Result.andThen, hp2, hpe, hg, h1, Sem.run_pure]
        · cases h
      · cases h
    · rename_i n e hd
      rw [hd] at hu
      split at h
      · rename_i q2 hq2
        split at h
        · rename_i l hfill
          cases h
          obtain ⟨cs', h1, h2⟩ := fill_run _ hpr (VRl.ofVals (ρ := ρ) (σ := σ) hz2) hfill
          refine gives_pure (R := []) rfl I.H (v := .agg cs') ?_ (.agg h2)
          have hs := (I.ok.ty _ _ hq2).sizeOf' w
          simp only [execOp, hop, Instr.build, Sem.run_bind, hz, hu, Result.andThen, hs, hpe, h1, Sem.run_pure]
        · cases h
      · cases h
    · cases h
  · cases h
theorem sound_buildSlice {t : TypeId} {len : Nat} {parts : Array (Nat × Operand)} (hop : o.op = .buildSlice t len parts) (h : opE C T s o = some r) (I : Inp P C ρ σ cur s T a w o r) : Gives P o a w (Post ρ σ cur s.next w r.val r.s r.W) := by
  unfold opE at h
  rw [hop] at h
  simp only [opBuildSlice] at h
  split at h
  · rename_i q ps hq hps
    have hpr := evps_run (σ := σ) (ρ := ρ) (a := a) (fun t ht => I.T t (by rw [hop]; simpa [Op.operands] using ht)) hps
    have hu := (I.ok.ty _ _ hq).under w
    have hpe : (parts.map fun (p : Nat × Operand) => (p.1, a.eval p.2)).toList = parts.toList.map fun p => (p.1, a.eval p.2) := by simp
    split at h
    · rename_i e hd
      rw [hd] at hu
      split at h
      · rename_i q2 hq2
        cases hf : (Nat.ble 1 q2.size && Nat.ble (len * q2.size) 10000) with
        | false => rw [hf, cond_false] at h; cases h
        | true =>
          rw [hf, cond_true] at h
          simp only [Bool.and_eq_true] at hf
          have hf1 := Nat.le_of_ble_eq_true hf.1
          have hf2 := Nat.le_of_ble_eq_true hf.2
          split at h
          · rename_i l hfill
            cases h
            obtain ⟨z, hz, hz2⟩ := (I.ok.ty _ _ hq2).zeroV w
            have hzl : q2.zero.length = q2.size := (I.ok.ty _ _ hq2).2.2.1
            have hrr := rep_rel (VRl.ofVals (ρ := ρ) (σ := σ) hz2) len (by omega)
            rw [hzl] at hrr
            obtain ⟨cs', h1, h2⟩ := fill_run _ hpr hrr hfill
            have hs := (I.ok.ty _ _ hq2).sizeOf' w
            have hσ := I.N s.next (Nat.le_refl _) (by simp [St.new])
            have hll := h2.length
            simp only [Array.length_toList] at hll
            have hlen : l.length = len * q2.size := by
              rw [fillC_length hfill, rep_length, hzl]
            refine ⟨.slice (some ⟨w.heap.size, 0, none⟩) len len, w.alloc (.cells cs' e), .inl ?_, ?_⟩
            · have hbig : ¬ (len * q2.size > 2 ^ 24) := by omega
              by_cases h0 : len * q2.size = 0
              · have hl0 : len = 0 := by
                  rcases Nat.mul_eq_zero.1 h0 with h | h
                  · exact h
                  · omega
                subst hl0
                simp only [Nat.zero_mul] at h1
                simp only [execOp, hop, Instr.buildSlice, Sem.run_bind, hu, Result.andThen, hs, hbig, if_false, Nat.zero_mul, hpe, Sem.run_pure, if_true, Nat.lt_irrefl, gt_iff_lt, Nat.not_lt_zero]
                have e0 : ((Array.range 0).map fun x => (#[] : Array Value)[x % (#[] : Array Value).size]!) = ((Array.range 0).map fun x => z.cells[x % z.cells.size]!) := by simp
                rw [e0, h1]
                simp [newRow]
              · simp only [execOp, hop, Instr.buildSlice, Sem.run_bind, hu, Result.andThen, hs, hbig, if_false, hpe, Sem.run_pure, h0, hz]
                rw [h1]
                simp [newRow]
            · have := post_new (s0 := s) (rest := []) (t := e) (e := q2.size) (K := []) (n := s.next) (c := .slc (some (s.next, 0)) len len) (v := .slice (some ⟨w.heap.size, 0, none⟩) len len) I.H h2 rfl hσ (fun b hb => by cases hb) (by
                have := VR.slc (ρ := ρ) (σ := fun b => if b = s.next then some ⟨w.heap.size, 0, (cs'.toList ++ []).length, q2.size⟩ else σ b) (b := s.next) (o := 0) (n := len) (c := len) (c' := len) (l := ⟨w.heap.size, 0, (cs'.toList ++ []).length, q2.size⟩) (if_pos rfl) (Nat.le_refl _) (by simp; omega)
                exact this)
              simpa using this
          · cases h
      · cases h
    · cases h
  · cases h
end
end Go.Proofs.Ytjdldcmcjaaibaa.Cx

/- One operation that calls no Go function: numbers, tests, parts, addresses, slices. -/
namespace Go.Proofs.Ytjdldcmcjaaibaa.Cx
set_option linter.unusedSimpArgs false
set_option linter.unusedVariables false
open Go Go.RowKit
section
variable {P : Program} {C : Ctx} {ρ : Env} {σ : Mp} {cur : Cur} {s : St} {T : Tr CV} {a : Act} {w : World} {o : Oper} {r : OR}
theorem geq_zero {s1 : St} {b : IE} (h : s.must (BE.mk .geq b (.c 0)) = some s1) (hp : ∀ p ∈ s1.pc, p.holds ρ) : 0 ≤ b.den ρ := by
  have h1 := (mustE_parts (ρ := ρ) h).2.2.2 hp
  rw [BE.den_mk] at h1
  simpa [Cm.run, IE.den] using h1
theorem neq_zero {s1 : St} {b : IE} (h : s.must (BE.mk .neq b (.c 0)) = some s1) (hp : ∀ p ∈ s1.pc, p.holds ρ) : b.den ρ ≠ 0 := by
  have h1 := (mustE_parts (ρ := ρ) h).2.2.2 hp
  rw [BE.den_mk] at h1
  simpa [Cm.run, IE.den] using h1
theorem guard_int (op : BinOp) (t : TypeId) (x y : Operand) (k k' : IntKind) (m n : Int) : (eqGuard op t x y (.int k m) (.int k' n)).run P w = .ok () w := by
  unfold eqGuard
  cases op <;> simp
theorem guard_bool (op : BinOp) (t : TypeId) (x y : Operand) (m n : Bool) : (eqGuard op t x y (.bool m) (.bool n)).run P w = .ok () w := by
  unfold eqGuard
  cases op <;> simp
theorem nrm_den {s : St} {e : IE} (hp : ∀ p ∈ s.pc, p.holds ρ) : (s.nrm e).den ρ = e.den ρ := by
  unfold St.nrm
  split
  · split
    · rename_i h; exact (PC.findN_holds h hp).symm
    · rfl
  · rfl
theorem opBinInt_pc {s : St} {op : BinOp} {k k' : IntKind} {a b : IE} {r : OR} (h : opBinInt s op k a k' b = some r) : ∃ l, r.s.pc = l ++ s.pc := by
  have f1 : ∀ {e : BE} {s1 : St}, s.must e = some s1 → ∃ l, s1.pc = l ++ s.pc := fun h => (mustE_parts (ρ := ⟨fun _ => 0, fun _ => false⟩) h).2.2.1
  have f2 : ∀ {e e1 : BE} {s1 : St}, s.tell e = some (e1, s1) → ∃ l, s1.pc = l ++ s.pc := fun h => (tell_parts (ρ := ⟨fun _ => 0, fun _ => false⟩) h).2.2.1
  unfold opBinInt at h
  simp only [cmpE, Bool.cond_eq_ite] at h
  repeat' (first | (cases h; done) | (cases h; exact ⟨[], rfl⟩) | (cases h; exact f1 (by assumption)) | (cases h; exact f2 (by assumption)) | split at h)
set_option maxHeartbeats 1000000 in
theorem sound_binInt {op : BinOp} {t yt : TypeId} {x y : Operand} {k k' : IntKind} {e0 f0 : IE} (hop : o.op = .binOp op t x y yt) (h1 : ev T x = some (.int k e0)) (h2 : ev T y = some (.int k' f0)) (h : opE C T s o = some r) (I : Inp P C ρ σ cur s T a w o r) : Gives P o a w (Post ρ σ cur s.next w r.val r.s r.W) := by
  have hx := (I.T.ev (x := x) (by rw [hop]; simp [Op.operands]) h1).int_inv
  have hy := (I.T.ev (x := y) (by rw [hop]; simp [Op.operands]) h2).int_inv
  unfold opE at h
  rw [hop] at h
  simp only [opBin, h1, h2] at h
  obtain ⟨lpc, hlpc⟩ := opBinInt_pc h
  have hpc : ∀ p ∈ s.pc, p.holds ρ := fun p hp => I.pc p (by rw [hlpc]; exact List.mem_append_right _ hp)
  rw [← nrm_den (s := s) hpc] at hx hy
  generalize s.nrm e0 = e at *
  generalize s.nrm f0 = f at *
  simp only [opBinInt] at h
  have hg := guard_int (P := P) (w := w) op t x y k k' (e.den ρ) (f.den ρ)
  have fin : ∀ (c : CV) (v : Value) (s1 : St), r = ⟨c, s1, [], []⟩ → s1.next = s.next → (binOp op t (.int k (e.den ρ)) (.int k' (f.den ρ))).run P w = .ok v w → VR ρ σ c v → Gives P o a w (Post ρ σ cur s.next w r.val r.s r.W) := by
    rintro c v s1 rfl hn hr hv
    refine gives_pure (R := []) hn I.H ?_ hv
    simp only [execOp, hop, hx, hy, Sem.run_bind, hg, Result.andThen, hr, Sem.run_pure]
  by_cases hsh : op = .shl ∨ op = .shr
  · rcases hsh with rfl | rfl
    · simp only at h
      split at h
      · rename_i s1 hm
        have hr := (Option.some.inj h).symm
        have hz := geq_zero (ρ := ρ) hm (by rw [hr] at I; exact I.pc)
        refine fin _ (.int k (Ar.run .shl k (e.den ρ) (f.den ρ))) s1 hr (mustE_parts (ρ := ρ) hm).1 ?_ ?_
        · have : ¬ f.den ρ < 0 := by omega
          simp [binOp, Op.shift, this, Ar.run]
        · have := VR.int (ρ := ρ) (σ := σ) k (IE.mk .shl k e f); rwa [IE.den_mk] at this
      · cases h
    · simp only at h
      split at h
      · rename_i s1 hm
        have hr := (Option.some.inj h).symm
        have hz := geq_zero (ρ := ρ) hm (by rw [hr] at I; exact I.pc)
        refine fin _ (.int k (Ar.run .shr k (e.den ρ) (f.den ρ))) s1 hr (mustE_parts (ρ := ρ) hm).1 ?_ ?_
        · have : ¬ f.den ρ < 0 := by omega
          simp [binOp, Op.shift, this, Ar.run]
        · have := VR.int (ρ := ρ) (σ := σ) k (IE.mk .shr k e f); rwa [IE.den_mk] at this
      · cases h
  · by_cases hk : k = k'
    · subst hk
      have hd : decide (k = k) = true := by simp
      have ar : ∀ (q : Ar), some (⟨.int k (.mk q k e f), s, [], []⟩ : OR) = some r → (binOp op t (.int k (e.den ρ)) (.int k (f.den ρ))).run P w = .ok (.int k (q.run k (e.den ρ) (f.den ρ))) w → Gives P o a w (Post ρ σ cur s.next w r.val r.s r.W) := fun q hq hr => by
        refine fin _ _ s (Option.some.inj hq).symm rfl hr ?_
        have := VR.int (ρ := ρ) (σ := σ) k (IE.mk q k e f); rwa [IE.den_mk] at this
      have cm : ∀ (q : Cm), cmpE s (.mk q e f) = some r → (binOp op t (.int k (e.den ρ)) (.int k (f.den ρ))).run P w = .ok (.bool (q.run (e.den ρ) (f.den ρ))) w → Gives P o a w (Post ρ σ cur s.next w r.val r.s r.W) := fun q hq hr => by
        unfold cmpE at hq
        split at hq
        · rename_i b s1 ht
          have hr' := (Option.some.inj hq).symm
          obtain ⟨t1, _, _, t4⟩ := tell_parts (ρ := ρ) ht
          refine fin _ _ s1 hr' t1 hr ?_
          have := VR.bool (ρ := ρ) (σ := σ) b; rwa [t4 (by rw [hr'] at I; exact I.pc), BE.den_mk] at this
        · cases hq
      cases op with
      | shl => exact absurd (.inl rfl) hsh
      | shr => exact absurd (.inr rfl) hsh
      | add => simp only [hd, cond_true] at h; exact ar .add h (by simp [binOp, Op.intArith, Ar.run])
      | sub => simp only [hd, cond_true] at h; exact ar .sub h (by simp [binOp, Op.intArith, Ar.run])
      | mul => simp only [hd, cond_true] at h; exact ar .mul h (by simp [binOp, Op.intArith, Ar.run])
      | and => simp only [hd, cond_true] at h; exact ar .and h (by simp [binOp, Op.intBits, Ar.run])
      | or => simp only [hd, cond_true] at h; exact ar .or h (by simp [binOp, Op.intBits, Ar.run])
      | xor => simp only [hd, cond_true] at h; exact ar .xor h (by simp [binOp, Op.intBits, Ar.run])
      | andNot => simp only [hd, cond_true] at h; exact ar .andNot h (by simp [binOp, Op.intBits, Ar.run])
      | eql => simp only [hd, cond_true] at h; exact cm .eql h (by simp [binOp, Op.intCmp, Cm.run])
      | neq => simp only [hd, cond_true] at h; exact cm .neq h (by simp [binOp, Op.intCmp, Cm.run])
      | lss => simp only [hd, cond_true] at h; exact cm .lss h (by simp [binOp, Op.intCmp, Cm.run])
      | leq => simp only [hd, cond_true] at h; exact cm .leq h (by simp [binOp, Op.intCmp, Cm.run])
      | gtr => simp only [hd, cond_true] at h; exact cm .gtr h (by simp [binOp, Op.intCmp, Cm.run])
      | geq => simp only [hd, cond_true] at h; exact cm .geq h (by simp [binOp, Op.intCmp, Cm.run])
      | quo =>
        simp only [hd, cond_true] at h
        split at h
        · rename_i s1 hz
          have hr := (Option.some.inj h).symm
          have hz2 := neq_zero (ρ := ρ) hz (by rw [hr] at I; exact I.pc)
          refine fin _ (.int k (Ar.run .quo k (e.den ρ) (f.den ρ))) s1 hr (mustE_parts (ρ := ρ) hz).1 ?_ ?_
          · simp [binOp, Op.intDiv, hz2, Ar.run]
          · have := VR.int (ρ := ρ) (σ := σ) k (IE.mk .quo k e f); rwa [IE.den_mk] at this
        · cases h
      | rem =>
        simp only [hd, cond_true] at h
        split at h
        · rename_i s1 hz
          have hr := (Option.some.inj h).symm
          have hz2 := neq_zero (ρ := ρ) hz (by rw [hr] at I; exact I.pc)
          refine fin _ (.int k (Ar.run .rem k (e.den ρ) (f.den ρ))) s1 hr (mustE_parts (ρ := ρ) hz).1 ?_ ?_
          · simp [binOp, Op.intDiv, hz2, Ar.run]
          · have := VR.int (ρ := ρ) (σ := σ) k (IE.mk .rem k e f); rwa [IE.den_mk] at this
        · cases h
    · exfalso
      have hd : decide (k = k') = false := by simp [hk]
      cases op <;> first | exact hsh (.inl rfl) | exact hsh (.inr rfl) | (simp only [hd, cond_false] at h; cases h)
theorem equalIn_bool {t : TypeId} (hu : (underlying t).run P w = .ok .bool w) (m n : Bool) (d : Nat) : (Op.equalIn (d + 1) t (.bool m) (.bool n)).run P w = .ok (m == n) w := by
  simp only [Op.equalIn, Sem.run_bind, hu, Result.andThen, Sem.run_pure]
theorem equal_bool {t : TypeId} {q : TyR} (hq : TyOk P t q) (hd : q.desc = .bool) (m n : Bool) : (Op.equal t (.bool m) (.bool n)).run P w = .ok (m == n) w :=
  equalIn_bool (hd ▸ hq.under w) m n 9999
theorem eqCells_run : ∀ {ks : List (Option IntKind)} {l m : List CV} {s s1 : St} {v : Bool} {x y : List Value}, shapeC ks l = true → shapeC ks m = true → eqCells s l m = some (v, s1) → VRl ρ σ l x → VRl ρ σ m y →
    s1.next = s.next ∧ s1.heap = s.heap ∧ (∃ L, s1.pc = L ++ s.pc) ∧ ((∀ p ∈ s1.pc, p.holds ρ) → eqVals x y = v)
  | [], [], [], s, s1, v, _, _, _, _, h, .nil, .nil => by
    simp only [eqCells] at h; cases h; exact ⟨rfl, rfl, ⟨[], rfl⟩, fun _ => rfl⟩
  | none :: ks, .bool a :: l, .bool b :: m, s, s1, v, _, _, hs, ht, h, .cons h1 h2, .cons h3 h4 => by
    cases h1; cases h3
    simp only [eqCells] at h
    split at h
    · rename_i p sa hda
      obtain ⟨a1, a2, ⟨La, a3⟩, a4⟩ := decide_parts (ρ := ρ) hda
      split at h
      · rename_i q sb hdb
        obtain ⟨b1, b2, ⟨Lb, b3⟩, b4⟩ := decide_parts (ρ := ρ) hdb
        cases hpq : (p == q) with
        | true =>
          rw [hpq, cond_true] at h
          obtain ⟨c1, c2, ⟨Lc, c3⟩, c4⟩ := eqCells_run (ks := ks) hs ht h h2 h4
          refine ⟨by omega, by rw [c2, b2, a2], ⟨Lc ++ Lb ++ La, by rw [c3, b3, a3]; simp⟩, fun hp => ?_⟩
          have pb : ∀ p ∈ sb.pc, p.holds ρ := fun p hp' => hp p (by rw [c3]; simp [hp'])
          have pa : ∀ p ∈ sa.pc, p.holds ρ := fun p hp' => pb p (by rw [b3]; simp [hp'])
          simp only [eqVals, a4 pa, b4 pb, hpq, Bool.true_and]
          exact c4 hp
        | false =>
          rw [hpq, cond_false] at h
          cases h
          refine ⟨by omega, by rw [b2, a2], ⟨Lb ++ La, by rw [b3, a3]; simp⟩, fun hp => ?_⟩
          have pa : ∀ p ∈ sa.pc, p.holds ρ := fun p hp' => hp p (by rw [b3]; simp [hp'])
          simp only [eqVals, a4 pa, b4 hp, hpq, Bool.false_and]
      · cases h
    · cases h
  | some k :: ks, .int k1 a :: l, .int k2 b :: m, s, s1, v, _, _, hs, ht, h, .cons h1 h2, .cons h3 h4 => by
    cases h1; cases h3
    simp only [shapeC, Bool.and_eq_true] at hs ht
    simp only [eqCells] at h
    split at h
    · rename_i sa hda
      obtain ⟨a1, a2, ⟨La, a3⟩, a4⟩ := decide_parts (ρ := ρ) hda
      obtain ⟨c1, c2, ⟨Lc, c3⟩, c4⟩ := eqCells_run (ks := ks) hs.2 ht.2 h h2 h4
      refine ⟨by omega, by rw [c2, a2], ⟨Lc ++ La, by rw [c3, a3]; simp⟩, fun hp => ?_⟩
      have pa : ∀ p ∈ sa.pc, p.holds ρ := fun p hp' => hp p (by rw [c3]; simp [hp'])
      have := a4 pa
      rw [BE.den_mk] at this
      simp only [Cm.run] at this
      simp only [eqVals, this, Bool.true_and]
      exact c4 hp
    · rename_i sa hda
      obtain ⟨a1, a2, ⟨La, a3⟩, a4⟩ := decide_parts (ρ := ρ) hda
      cases h
      refine ⟨by omega, a2, ⟨La, a3⟩, fun hp => ?_⟩
      have := a4 hp
      rw [BE.den_mk] at this
      simp only [Cm.run] at this
      simp only [eqVals, this, Bool.false_and]
    · cases h
inductive NilV : TypeDesc → Value → Bool → Prop
  | slice0 (e : TypeId) (n k : Nat) : NilV (.slice e) (.slice none n k) true
  | slice1 (e : TypeId) (a : Addr) (n k : Nat) : NilV (.slice e) (.slice (some a) n k) false
  | map0 (e f : TypeId) : NilV (.map e f) (.map none) true
  | map1 (e f : TypeId) (b : Nat) : NilV (.map e f) (.map (some b)) false
  | func0 {x y z} : NilV (.func x y z) .nilFunc true
  | func1 {x y z} (f : Fn) (l m : Array Value) : NilV (.func x y z) (.func f l m) false
  | ptr0 (e : TypeId) : NilV (.pointer e) (.pointer none) true
  | ptr1 (e : TypeId) (a : Addr) : NilV (.pointer e) (.pointer (some a)) false
theorem isNil_v {d : TypeDesc} {c : CV} {b : Bool} {v : Value} (h : c.isNil d = some b) (hv : VR ρ σ c v) : NilV d v b := by
  unfold CV.isNil at h
  split at h
  · cases h; cases hv; exact .slice0 _ _ _
  · cases h; cases hv; exact .slice1 _ _ _ _
  · cases h
    have := hv.slx_inv
    cases this; exact .slice1 _ _ _ _
  · cases h; cases hv; exact .slice1 _ _ _ _
  · cases h; cases hv; exact .map1 _ _ _
  · cases h; cases hv; exact .map0 _ _
  · cases h; cases hv; exact .func0
  · cases h; cases hv; exact .func1 _ _ _
  · cases h; cases hv; exact .ptr0 _
  · cases h; cases hv; exact .ptr1 _ _
  · cases h
    have := hv.ptx_inv
    cases this; exact .ptr1 _ _
  · cases h
theorem nil_equal {t : TypeId} {d : TypeDesc} {m n : Bool} {v u : Value} {w : World} (hty : (underlying t).run P w = .ok d w) (hv : NilV d v m) (hu : NilV d u n) (hmn : (m || n) = true) (k : Nat) : (Op.equalIn (k + 1) t v u).run P w = .ok (m && n) w := by
  cases hv <;> cases hu <;> first | (simp at hmn; done) | simp only [Op.equalIn, Sem.run_bind, hty, Result.andThen, Sem.run_pure, Bool.and_true, Bool.true_and, Bool.and_false, Bool.false_and, Option.isNone]
theorem nil_run {t : TypeId} {q : TyR} (hq : TyOk P t q) {c d : CV} {m n : Bool} {v u : Value} (hc : c.isNil q.desc = some m) (hd : d.isNil q.desc = some n) (hv : VR ρ σ c v) (hu : VR ρ σ d u) (hmn : (m || n) = true) (w : World) (op : BinOp) (x y : Operand) :
    ((binOp .eql t v u).run P w = .ok (.bool (m && n)) w ∧ (binOp .neq t v u).run P w = .ok (.bool !(m && n)) w) ∧ (eqGuard op t x y v u).run P w = .ok () w := by
  have hty := hq.under w
  have nv := isNil_v hc hv
  have nu := isNil_v hd hu
  have he : (Op.equal t v u).run P w = .ok (m && n) w := nil_equal hty nv nu hmn 9999
  generalize q.desc = dsc at nv nu
  have e1 : binOp .eql t v u = (do pure (.bool (← Op.equal t v u))) := by cases nv <;> cases nu <;> rfl
  have e2 : binOp .neq t v u = (do pure (.bool (!(← Op.equal t v u)))) := by cases nv <;> cases nu <;> rfl
  refine ⟨⟨?_, ?_⟩, ?_⟩
  · rw [e1]; simp only [Sem.run_bind, he, Result.andThen, Sem.run_pure]
  · rw [e2]; simp only [Sem.run_bind, he, Result.andThen, Sem.run_pure]
  · unfold eqGuard
    cases nv <;> cases nu <;> cases op <;> simp
theorem sound_binOp {op : BinOp} {t yt : TypeId} {x y : Operand} (hop : o.op = .binOp op t x y yt) (h : opE C T s o = some r) (I : Inp P C ρ σ cur s T a w o r) : Gives P o a w (Post ρ σ cur s.next w r.val r.s r.W) := by
  have h0 := h
  have mx : x ∈ o.op.operands.toList := by rw [hop]; simp [Op.operands]
  have my : y ∈ o.op.operands.toList := by rw [hop]; simp [Op.operands]
  unfold opE at h
  rw [hop] at h
  simp only [opBin] at h
  split at h
  · rename_i k e k' f h1 h2
    exact sound_binInt hop h1 h2 h0 I
  · rename_i e f h1 h2
    have hx := (I.T.ev mx h1).bool_inv
    have hy := (I.T.ev my h2).bool_inv
    have hg := guard_bool (P := P) (w := w) op t x y (e.den ρ) (f.den ρ)
    simp only [opBinBool] at h
    split at h
    · rename_i q hq
      split at h
      · rename_i hd
        split at h
        · rename_i b1 s1 hd1
          split at h
          · rename_i b2 s2 hd2
            cases h
            obtain ⟨n1, _, ⟨l1, p1⟩, v1⟩ := decide_parts (ρ := ρ) hd1
            obtain ⟨n2, _, ⟨l2, p2⟩, v2⟩ := decide_parts (ρ := ρ) hd2
            have e2 := v2 I.pc
            have e1 := v1 (fun p hp => I.pc p (by show p ∈ s2.pc; rw [p2]; simp [hp]))
            refine gives_pure (R := []) (n2.trans n1) I.H (v := .bool (b1 == b2)) ?_ (.bool (.c _))
            have := equal_bool (w := w) (I.ok.ty _ _ hq) hd (e.den ρ) (f.den ρ)
            rw [e1, e2] at this hg
            rw [e1] at hx
            rw [e2] at hy
            simp only [execOp, hop, hx, hy, Sem.run_bind, hg, Result.andThen, binOp, this, Sem.run_pure]
          · cases h
        · cases h
      · cases h
    · rename_i q hq
      split at h
      · rename_i hd
        split at h
        · rename_i b1 s1 hd1
          split at h
          · rename_i b2 s2 hd2
            cases h
            obtain ⟨n1, _, ⟨l1, p1⟩, v1⟩ := decide_parts (ρ := ρ) hd1
            obtain ⟨n2, _, ⟨l2, p2⟩, v2⟩ := decide_parts (ρ := ρ) hd2
            have e2 := v2 I.pc
            have e1 := v1 (fun p hp => I.pc p (by show p ∈ s2.pc; rw [p2]; simp [hp]))
            refine gives_pure (R := []) (n2.trans n1) I.H (v := .bool (b1 != b2)) ?_ (.bool (.c _))
            have := equal_bool (w := w) (I.ok.ty _ _ hq) hd (e.den ρ) (f.den ρ)
            rw [e1, e2] at this hg
            rw [e1] at hx
            rw [e2] at hy
            simp only [execOp, hop, hx, hy, Sem.run_bind, hg, Result.andThen, binOp, this, Sem.run_pure]
            rfl
          · cases h
        · cases h
      · cases h
    · cases h
  · rename_i l m h1 h2
    obtain ⟨cs, hx, hx2⟩ := (I.T.ev mx h1).agg_inv
    obtain ⟨ds, hy, hy2⟩ := (I.T.ev my h2).agg_inv
    simp only [opBinAgg] at h
    split at h
    · rename_i ks hq
      cases hsh : (shapeC ks l && shapeC ks m) with
      | false => rw [hsh, cond_false] at h; cases h
      | true =>
        rw [hsh, cond_true] at h
        simp only [Bool.and_eq_true] at hsh
        obtain ⟨hg, hr⟩ := I.ok.eq t ks hq cs ds w (shapeC_run hsh.1 hx2) (shapeC_run hsh.2 hy2)
        split at h
        · rename_i v s1 he
          cases h
          obtain ⟨hn, _, _, hv⟩ := eqCells_run (ρ := ρ) (σ := σ) hsh.1 hsh.2 he hx2 hy2
          rw [hv I.pc] at hr
          refine gives_pure (R := []) hn I.H (v := .bool v) ?_ (.bool (.c v))
          simp only [execOp, hop, hx, hy, Sem.run_bind, hg, Result.andThen, binOp, hr, Sem.run_pure]
        · rename_i v s1 he
          cases h
          obtain ⟨hn, _, _, hv⟩ := eqCells_run (ρ := ρ) (σ := σ) hsh.1 hsh.2 he hx2 hy2
          rw [hv I.pc] at hr
          refine gives_pure (R := []) hn I.H (v := .bool !v) ?_ (.bool (.c !v))
          simp only [execOp, hop, hx, hy, Sem.run_bind, hg, Result.andThen, binOp, hr, Sem.run_pure]
        · cases h
    · cases h
  · rename_i c d hn1 hn2 hn3 h1 h2
    simp only [opBinNil] at h
    split at h
    · rename_i q hq
      split at h
      · rename_i p b hp hb
        cases hpb : (p || b) with
        | false => rw [hpb, cond_false] at h; cases h
        | true =>
          rw [hpb, cond_true] at h
          obtain ⟨he, hg⟩ := nil_run (I.ok.ty _ _ hq) hp hb (I.T.ev mx h1) (I.T.ev my h2) hpb w op x y
          split at h
          · cases h
            refine gives_pure (R := []) rfl I.H (v := .bool (p && b)) ?_ (.bool (.c _))
            simp only [execOp, hop, Sem.run_bind, hg, Result.andThen, he.1, Sem.run_pure]
          · cases h
            refine gives_pure (R := []) rfl I.H (v := .bool !(p && b)) ?_ (.bool (.c _))
            simp only [execOp, hop, Sem.run_bind, hg, Result.andThen, he.2, Sem.run_pure]
          · cases h
      · cases h
    · cases h
  · cases h
theorem sound_unOp {op : UnOp} {t : TypeId} {x : Operand} (hop : o.op = .unOp op t x) (h : opE C T s o = some r) (I : Inp P C ρ σ cur s T a w o r) : Gives P o a w (Post ρ σ cur s.next w r.val r.s r.W) := by
  have mx : x ∈ o.op.operands.toList := by rw [hop]; simp [Op.operands]
  unfold opE at h
  rw [hop] at h
  simp only [opUn] at h
  split at h
  · rename_i k e h1
    cases h
    have hx := (I.T.ev mx h1).int_inv
    refine gives_pure (R := []) rfl I.H (v := .int k (Ar.run .sub k 0 (e.den ρ))) ?_ ?_
    · simp [execOp, hop, hx, Op.unary, Op.intArith, Ar.run]
    · have := VR.int (ρ := ρ) (σ := σ) k (IE.mk .sub k (.c 0) e); rwa [IE.den_mk] at this
  · rename_i e h1
    cases h
    have hx := (I.T.ev mx h1).bool_inv
    refine gives_pure (R := []) rfl I.H (v := .bool (!e.den ρ)) ?_ ?_
    · simp [execOp, hop, hx, Op.unary]
    · have := VR.bool (ρ := ρ) (σ := σ) e.neg; rwa [BE.den_neg] at this
  · cases h
theorem sound_convert {st dt : TypeId} {x : Operand} (hop : o.op = .convert st dt x) (h : opE C T s o = some r) (I : Inp P C ρ σ cur s T a w o r) : Gives P o a w (Post ρ σ cur s.next w r.val r.s r.W) := by
  have mx : x ∈ o.op.operands.toList := by rw [hop]; simp [Op.operands]
  unfold opE at h
  rw [hop] at h
  simp only [opConv] at h
  split at h
  · rename_i q1 q2 k' e hq1 hq2 h1
    have hx := (I.T.ev mx h1).int_inv
    have u1 := (I.ok.ty _ _ hq1).under w
    have u2 := (I.ok.ty _ _ hq2).under w
    split at h
    · rename_i k hd
      rw [hd] at u2
      cases h
      refine gives_pure (R := []) rfl I.H (v := .int k (Ar.run .conv k (e.den ρ) 0)) ?_ ?_
      · simp only [execOp, hop, hx, convert, Sem.run_bind, u1, u2, Result.andThen, Conv.intToInt, Sem.run_pure, Ar.run]
      · have := VR.int (ρ := ρ) (σ := σ) k (IE.mk .conv k e (.c 0)); rwa [IE.den_mk] at this
    · cases h
  · cases h
theorem sound_makeFunc {f : Fn} {x y : Array Operand} (hop : o.op = .makeFunc f x y) (h : opE C T s o = some r) (I : Inp P C ρ σ cur s T a w o r) : Gives P o a w (Post ρ σ cur s.next w r.val r.s r.W) := by
  unfold opE at h
  rw [hop] at h
  simp only [opFunc] at h
  split at h
  · rename_i l m h1 h2
    cases h
    have e1 := evs_run (σ := σ) (ρ := ρ) (a := a) (fun t ht => I.T t (by rw [hop]; simp only [Op.operands, Array.toList_append, List.mem_append]; exact .inl ht)) h1
    have e2 := evs_run (σ := σ) (ρ := ρ) (a := a) (fun t ht => I.T t (by rw [hop]; simp only [Op.operands, Array.toList_append, List.mem_append]; exact .inr ht)) h2
    refine gives_pure (R := []) rfl I.H (v := .func f (x.map a.eval) (y.map a.eval)) ?_ (.fn f (by simpa using e1) (by simpa using e2))
    simp [execOp, hop, Instr.makeFunc]
  · cases h
theorem sound_fieldAddr {t : TypeId} {x : Operand} {f : Nat} (hop : o.op = .fieldAddr t x f) (h : opE C T s o = some r) (I : Inp P C ρ σ cur s T a w o r) : Gives P o a w (Post ρ σ cur s.next w r.val r.s r.W) := by
  have mx : x ∈ o.op.operands.toList := by rw [hop]; simp [Op.operands]
  unfold opE at h
  rw [hop] at h
  simp only [opFieldAddr] at h
  split at h
  · rename_i q b off hq h1
    obtain ⟨l, hl, hv⟩ := (I.T.ev mx h1).ptr_inv
    have hu := (I.ok.ty _ _ hq).under w
    split at h
    · rename_i fs hd
      rw [hd] at hu
      split at h
      · rename_i fd hfd
        split at h
        · rename_i q2 hq2
          have hs := (I.ok.ty _ _ hq2).sizeOf' w
          cases h0 : Nat.beq q2.size 0 with
          | true => rw [h0, cond_true] at h; cases h
          | false =>
            rw [h0, cond_false] at h
            cases h
            have h0' : ¬ q2.size = 0 := fun e => by rw [e] at h0; cases h0
            refine gives_pure (R := []) rfl I.H (v := .pointer (some ⟨l.blk, l.base + (off + fd.offset), none⟩)) ?_ (.ptr hl)
            simp only [execOp, hop, hv, Instr.fieldAt, Sem.run_bind, hu, Result.andThen, hfd, Instr.sureAddr, fieldPlace, hs, h0', if_false, Sem.run_pure, pure_bind, add_none, Nat.add_assoc]
        · cases h
      · cases h
    · cases h
  · rename_i q b z j off hq h1
    obtain ⟨l, hl, hv⟩ := (I.T.ev mx h1).ptx_inv.ptr_inv
    have hu := (I.ok.ty _ _ hq).under w
    split at h
    · rename_i fs hd
      rw [hd] at hu
      split at h
      · rename_i fd hfd
        split at h
        · rename_i q2 hq2
          have hs := (I.ok.ty _ _ hq2).sizeOf' w
          cases h0 : Nat.beq q2.size 0 with
          | true => rw [h0, cond_true] at h; cases h
          | false =>
            rw [h0, cond_false] at h
            cases h
            have h0' : ¬ q2.size = 0 := fun e => by rw [e] at h0; cases h0
            refine gives_pure (R := []) rfl I.H (v := .pointer (some ⟨l.blk, l.base + (j * z + (off + fd.offset)), none⟩)) ?_ (.ptx (.ptr hl))
            simp only [execOp, hop, hv, Instr.fieldAt, Sem.run_bind, hu, Result.andThen, hfd, Instr.sureAddr, fieldPlace, hs, h0', if_false, Sem.run_pure, pure_bind, add_none, Nat.add_assoc]
        · cases h
      · cases h
    · cases h
  · cases h
theorem part_run {q : TyR} {t : TypeId} {l : List CV} {cs : Array Value} (hq : TyOk P t q) (h : VRl ρ σ l cs.toList) (off : Nat) {c : CV}
    (hc : (bif q.agg then some (CV.agg ((l.drop off).take q.size)) else match l[off]? with | some c => some c | none => none) = some c) : ∃ v, (part t cs off).run P w = .ok v w ∧ VR ρ σ c v := by
  have h1 := hq.isAgg' w
  have h2 := hq.sizeOf' w
  cases hg : q.agg with
  | true =>
    rw [hg, cond_true] at hc
    cases hc
    refine ⟨.agg (cs.extract off (off + q.size)), ?_, .agg ?_⟩
    · simp [part, h1, hg, h2]
    · have := (h.drop off).take q.size
      rw [Array.toList_extract, List.extract_eq_take_drop]
      rw [Nat.add_sub_cancel_left]
      exact this
  | false =>
    rw [hg, cond_false] at hc
    split at hc
    · rename_i c' hc'
      cases hc
      obtain ⟨v, hv1, hv2⟩ := h.get hc'
      rw [Array.getElem?_toList] at hv1
      exact ⟨v, by simp [part, h1, hg, hv1], hv2⟩
    · cases hc
theorem sound_field {t : TypeId} {x : Operand} {f : Nat} (hop : o.op = .field t x f) (h : opE C T s o = some r) (I : Inp P C ρ σ cur s T a w o r) : Gives P o a w (Post ρ σ cur s.next w r.val r.s r.W) := by
  have mx : x ∈ o.op.operands.toList := by rw [hop]; simp [Op.operands]
  unfold opE at h
  rw [hop] at h
  simp only [opField] at h
  split at h
  · rename_i q l hq h1
    obtain ⟨cs, hv, hv2⟩ := (I.T.ev mx h1).agg_inv
    have hu := (I.ok.ty _ _ hq).under w
    split at h
    · rename_i fs hd
      rw [hd] at hu
      split at h
      · rename_i fd hfd
        split at h
        · rename_i q2 hq2
          obtain ⟨c, hc, rfl⟩ : ∃ c, (bif q2.agg then some (CV.agg ((l.drop fd.offset).take q2.size)) else match l[fd.offset]? with | some c => some c | none => none) = some c ∧ r = ⟨c, s, [], []⟩ := by
            cases hg : q2.agg with
            | true => rw [hg, cond_true] at h; exact ⟨_, rfl, (Option.some.inj h).symm⟩
            | false =>
              rw [hg, cond_false] at h
              split at h
              · rename_i c hc; rw [hc]; exact ⟨c, rfl, (Option.some.inj h).symm⟩
              · cases h
          obtain ⟨v, e1, e2⟩ := part_run (w := w) (I.ok.ty _ _ hq2) hv2 fd.offset hc
          refine gives_pure (R := []) rfl I.H (v := v) ?_ e2
          simp only [execOp, hop, hv, Instr.field, Sem.run_bind, hu, Result.andThen, hfd, asAgg, Sem.run_pure, pure_bind, e1]
        · cases h
      · cases h
    · cases h
  · cases h
theorem sound_extract {x : Operand} {i : Nat} (hop : o.op = .extract x i) (h : opE C T s o = some r) (I : Inp P C ρ σ cur s T a w o r) : Gives P o a w (Post ρ σ cur s.next w r.val r.s r.W) := by
  have mx : x ∈ o.op.operands.toList := by rw [hop]; simp [Op.operands]
  unfold opE at h
  rw [hop] at h
  simp only [opExtract] at h
  split at h
  · rename_i l h1
    obtain ⟨cs, hv, hv2⟩ := (I.T.ev mx h1).tup_inv
    split at h
    · rename_i c hc
      cases h
      obtain ⟨v, e1, e2⟩ := hv2.get hc
      rw [Array.getElem?_toList] at e1
      refine gives_pure (R := []) rfl I.H (v := v) ?_ e2
      simp [execOp, hop, hv, Instr.extract, e1]
    · cases h
  · cases h
theorem inRange {n : Int} {len : Nat} (h : (decide (0 ≤ n) && decide (n < (len : Int))) = true) : 0 ≤ n ∧ n < (len : Int) := by simpa using h
theorem sound_index {t : TypeId} {x i : Operand} (hop : o.op = .index t x i) (h : opE C T s o = some r) (I : Inp P C ρ σ cur s T a w o r) : Gives P o a w (Post ρ σ cur s.next w r.val r.s r.W) := by
  have mx : x ∈ o.op.operands.toList := by rw [hop]; simp [Op.operands]
  have mi : i ∈ o.op.operands.toList := by rw [hop]; simp [Op.operands]
  unfold opE at h
  rw [hop] at h
  simp only [opIndex] at h
  split at h
  · rename_i q l k e hq h1 h2
    obtain ⟨cs, hv, hv2⟩ := (I.T.ev mx h1).agg_inv
    have hi := (I.T.ev mi h2).int_inv
    have hu := (I.ok.ty _ _ hq).under w
    split at h
    · rename_i n s1 hcn
      obtain ⟨hn, _, _, hd⟩ := conc_parts (ρ := ρ) hcn
      split at h
      · rename_i len el hdd
        rw [hdd] at hu
        split at h
        · rename_i q2 hq2
          have hs := (I.ok.ty _ _ hq2).sizeOf' w
          cases hin : (decide (0 ≤ n) && decide (n < (len : Int))) with
          | false => rw [hin, cond_false] at h; cases h
          | true =>
            rw [hin, cond_true] at h
            have hin' := inRange hin
            obtain ⟨c, hc, rfl⟩ : ∃ c, (bif q2.agg then some (CV.agg ((l.drop (n.toNat * q2.size)).take q2.size)) else match l[n.toNat * q2.size]? with | some c => some c | none => none) = some c ∧ r = ⟨c, s1, [], []⟩ := by
              cases hg : q2.agg with
              | true => rw [hg, cond_true] at h; exact ⟨_, rfl, (Option.some.inj h).symm⟩
              | false =>
                rw [hg, cond_false] at h
                split at h
                · rename_i c hc; rw [hc]; exact ⟨c, rfl, (Option.some.inj h).symm⟩
                · cases h
            have hd := hd I.pc
            obtain ⟨v, e1, e2⟩ := part_run (w := w) (I.ok.ty _ _ hq2) hv2 (n.toNat * q2.size) hc
            refine gives_pure (R := []) hn I.H (v := v) ?_ e2
            simp only [execOp, hop, hv, hi, hd, Instr.index, asIntOf, Sem.run_bind, hu, Result.andThen, Sem.run_pure, pure_bind]
            rw [if_pos hin']
            simp [hs, e1]
        · cases h
      · cases h
    · cases h
  · rename_i q b k n hq h1 h2
    have hv := (I.T.ev mx h1).raw_inv
    have hi := (I.T.ev mi h2).int_inv
    simp only [IE.den] at hi
    have hu := (I.ok.ty _ _ hq).under w
    split at h
    · rename_i hd
      rw [hd] at hu
      cases hin : decide (0 ≤ n) with
      | false => rw [hin, cond_false] at h; cases h
      | true =>
        rw [hin, cond_true] at h
        have hin' : 0 ≤ n := of_decide_eq_true hin
        split at h
        · rename_i y hy
          cases h
          refine gives_pure (R := []) rfl I.H (v := .int .u8 (y.toNat : Int)) ?_ (.int .u8 (.c y.toNat))
          simp only [execOp, hop, hv, hi, Instr.index, asIntOf, Sem.run_bind, hu, Result.andThen, Sem.run_pure, pure_bind]
          rw [if_pos hin', hy]
          rfl
        · cases h
    · cases h
  · cases h
theorem sound_indexAddr {t : TypeId} {x i : Operand} (hop : o.op = .indexAddr t x i) (h : opE C T s o = some r) (I : Inp P C ρ σ cur s T a w o r) : Gives P o a w (Post ρ σ cur s.next w r.val r.s r.W) := by
  have mx : x ∈ o.op.operands.toList := by rw [hop]; simp [Op.operands]
  have mi : i ∈ o.op.operands.toList := by rw [hop]; simp [Op.operands]
  unfold opE at h
  rw [hop] at h
  simp only [opIndexAddr] at h
  split at h
  · rename_i q b z N e k y hq h1 h2
    have hv := I.T.ev mx h1
    have hi := (I.T.ev mi h2).int_inv
    have hu := (I.ok.ty _ _ hq).under w
    split at h
    · rename_i el hdd
      rw [hdd] at hu
      split at h
      · rename_i q2 hq2
        have hs := (I.ok.ty _ _ hq2).sizeOf' w
        cases hz : Nat.beq z q2.size with
        | false => rw [hz, cond_false] at h; cases h
        | true =>
          rw [hz, cond_true] at h
          have hz' := Nat.eq_of_beq_eq_true hz
          split at h
          · rename_i n s1 hat
            cases h
            obtain ⟨m1, _, _, m4, m5⟩ := place_parts (ρ := ρ) hat
            obtain ⟨d1, d2⟩ := m4 I.pc
            generalize hxv : a.eval x = vx at hv
            cases hv with
            | slr ad c' hn hr =>
              rename_i n'
              obtain ⟨l, o', rfl, e2, e3⟩ := hr n (by omega) m5
              refine gives_pure (R := []) m1 I.H (v := .pointer (some ⟨l.blk, l.base + 0, none⟩)) ?_ (.ptr e3)
              simp only [execOp, hop, hxv, hi, d1, Instr.indexAt, asIntOf, Sem.run_bind, hu, Result.andThen, Sem.run_pure, pure_bind]
              rw [if_pos ⟨by omega, by omega⟩]
              simp [hs, add_none, e2, ← hz']
          · cases h
      · cases h
    · cases h
  · rename_i q b z o' len cap k e hq h1 h2
    have hv := (I.T.ev mx h1).slx_inv
    have hi := (I.T.ev mi h2).int_inv
    have hu := (I.ok.ty _ _ hq).under w
    split at h
    · rename_i el n hdd hnum
      rw [hdd] at hu
      split at h
      · rename_i q2 hq2
        have hs := (I.ok.ty _ _ hq2).sizeOf' w
        cases hz : Nat.beq z q2.size with
        | false => rw [hz, cond_false] at h; cases h
        | true =>
          rw [hz, cond_true] at h
          have hz' := Nat.eq_of_beq_eq_true hz
          split at h
          · rename_i s1 hm
            cases h
            obtain ⟨m1, _, _, m4⟩ := musts_parts (ρ := ρ) hm
            have m4 := m4 I.pc
            have b1 : 0 ≤ n := of_decide_eq_true (m4 _ (by simp))
            have b2 : n < (len : Int) := of_decide_eq_true (m4 _ (by simp))
            have hd := IE.num_den (ρ := ρ) hnum
            generalize hxv : a.eval x = vx at hv
            cases hv with
            | slc hl hc hsz =>
              rename_i c' l
              have e0 : o' * z + n.toNat * q2.size = (o' + n.toNat) * z + 0 := by rw [Nat.add_mul, hz', Nat.add_zero]
              refine gives_pure (R := []) m1 I.H (v := .pointer (some ⟨l.blk, l.base + ((o' + n.toNat) * z + 0), none⟩)) ?_ (.ptx (.ptr hl))
              rw [← e0]
              simp only [execOp, hop, hxv, hi, hd, Instr.indexAt, asIntOf, Sem.run_bind, hu, Result.andThen, Sem.run_pure, pure_bind]
              rw [if_pos ⟨b1, b2⟩]
              simp [hs, add_none, Nat.add_assoc]
          · cases h
      · cases h
    · cases h
  · rename_i q b z o' len k e hq h1 h2
    have hv := I.T.ev mx h1
    have hi := (I.T.ev mi h2).int_inv
    have hu := (I.ok.ty _ _ hq).under w
    split at h
    · rename_i el n hdd hnum
      rw [hdd] at hu
      split at h
      · rename_i q2 hq2
        have hs := (I.ok.ty _ _ hq2).sizeOf' w
        cases hz : Nat.beq z q2.size with
        | false => rw [hz, cond_false] at h; cases h
        | true =>
          rw [hz, cond_true] at h
          have hz' := Nat.eq_of_beq_eq_true hz
          split at h
          · rename_i s1 hm
            cases h
            obtain ⟨m1, _, _, m4⟩ := musts_parts (ρ := ρ) hm
            have m4 := m4 I.pc
            have b1 : 0 ≤ n := of_decide_eq_true (m4 _ (by simp))
            have b2 : n < (len : Int) := of_decide_eq_true (m4 _ (by simp))
            have hd := IE.num_den (ρ := ρ) hnum
            generalize hxv : a.eval x = vx at hv
            cases hv with
            | sla hl hc =>
              rename_i c' l
              have e0 : o' * z + n.toNat * q2.size = (o' + n.toNat) * z + 0 := by rw [Nat.add_mul, hz', Nat.add_zero]
              refine gives_pure (R := []) m1 I.H (v := .pointer (some ⟨l.blk, l.base + ((o' + n.toNat) * z + 0), none⟩)) ?_ (.ptx (.ptr hl))
              rw [← e0]
              simp only [execOp, hop, hxv, hi, hd, Instr.indexAt, asIntOf, Sem.run_bind, hu, Result.andThen, Sem.run_pure, pure_bind]
              rw [if_pos ⟨b1, b2⟩]
              simp [hs, add_none, Nat.add_assoc]
            | sla0 a' c' => exfalso; simp at b2; omega
          · cases h
      · cases h
    · cases h
  · rename_i q b z j off k e hq h1 h2
    have hv := (I.T.ev mx h1).ptx_inv
    have hi := (I.T.ev mi h2).int_inv
    have hu := (I.ok.ty _ _ hq).under w
    split at h
    · rename_i n s1 hcn
      obtain ⟨hn, _, _, hd⟩ := conc_parts (ρ := ρ) hcn
      split at h
      · rename_i len el hdd
        rw [hdd] at hu
        split at h
        · rename_i q2 hq2
          have hs := (I.ok.ty _ _ hq2).sizeOf' w
          cases hin : (decide (0 ≤ n) && decide (n < (len : Int))) with
          | false => rw [hin, cond_false] at h; cases h
          | true =>
            rw [hin, cond_true] at h
            have hin' := inRange hin
            cases h
            have hd := hd I.pc
            obtain ⟨l, hl, hxv⟩ := hv.ptr_inv
            refine gives_pure (R := []) hn I.H (v := .pointer (some ⟨l.blk, l.base + (j * z + (off + n.toNat * q2.size)), none⟩)) ?_ (.ptx (.ptr hl))
            simp only [execOp, hop, hxv, hi, hd, Instr.indexAt, asIntOf, Sem.run_bind, hu, Result.andThen, Sem.run_pure, pure_bind, Instr.sureAddr]
            rw [if_pos hin']
            simp [hs, add_none, Nat.add_assoc]
        · cases h
      · cases h
    · cases h
  · rename_i q y k e hq h1 h2
    have hv := I.T.ev mx h1
    have hi := (I.T.ev mi h2).int_inv
    have hu := (I.ok.ty _ _ hq).under w
    split at h
    · rename_i n s1 hcn
      obtain ⟨hn, _, _, hd⟩ := conc_parts (ρ := ρ) hcn
      split at h
      · rename_i el b off len cap hdd
        rw [hdd] at hu
        split at h
        · rename_i q2 hq2
          have hs := (I.ok.ty _ _ hq2).sizeOf' w
          cases hin : (decide (0 ≤ n) && decide (n < (len : Int))) with
          | false => rw [hin, cond_false] at h; cases h
          | true =>
            rw [hin, cond_true] at h
            have hin' := inRange hin
            cases h
            have hd := hd I.pc
            generalize hxv : a.eval x = vx at hv
            cases hv with
            | slc hl hc hsz =>
              rename_i c' l
              refine gives_pure (R := []) hn I.H (v := .pointer (some ⟨l.blk, l.base + (off + n.toNat * q2.size), none⟩)) ?_ (.ptr hl)
              simp only [execOp, hop, hxv, hi, hd, Instr.indexAt, asIntOf, Sem.run_bind, hu, Result.andThen, Sem.run_pure, pure_bind]
              rw [if_pos hin']
              simp [hs, add_none, Nat.add_assoc]
        · cases h
      · rename_i len el b off hdd
        rw [hdd] at hu
        split at h
        · rename_i q2 hq2
          have hs := (I.ok.ty _ _ hq2).sizeOf' w
          cases hin : (decide (0 ≤ n) && decide (n < (len : Int))) with
          | false => rw [hin, cond_false] at h; cases h
          | true =>
            rw [hin, cond_true] at h
            have hin' := inRange hin
            cases h
            have hd := hd I.pc
            obtain ⟨l, hl, hxv⟩ := hv.ptr_inv
            refine gives_pure (R := []) hn I.H (v := .pointer (some ⟨l.blk, l.base + (off + n.toNat * q2.size), none⟩)) ?_ (.ptr hl)
            simp only [execOp, hop, hxv, hi, hd, Instr.indexAt, asIntOf, Sem.run_bind, hu, Result.andThen, Sem.run_pure, pure_bind, Instr.sureAddr]
            rw [if_pos hin']
            simp [hs, add_none, Nat.add_assoc]
        · cases h
      · cases h
    · cases h
  · cases h
end
end Go.Proofs.Ytjdldcmcjaaibaa.Cx

/- One operation that calls no Go function: slices made, cut and appended to; the builtins; all operations. -/
namespace Go.Proofs.Ytjdldcmcjaaibaa.Cx
set_option linter.unusedSimpArgs false
set_option linter.unusedVariables false
open Go Go.RowKit
section
variable {P : Program} {C : Ctx} {ρ : Env} {σ : Mp} {cur : Cur} {s : St} {T : Tr CV} {a : Act} {w : World} {o : Oper} {r : OR}
theorem flatR_rep (l : List CV) : ∀ n, flatR (fun _ => l) n = rep n l := by
  have comm : ∀ n, rep n l ++ l = l ++ rep n l := fun n => by
    induction n with
    | zero => simp [rep]
    | succ n ih => rw [rep, List.append_assoc, ih]
  intro n
  induction n with
  | zero => rfl
  | succ n ih => rw [flatR, ih, comm]; rfl
theorem wrap_small (n : Int) (h0 : 0 ≤ n) (h1 : n ≤ 10000) : IntKind.i64.wrap n = n := by
  exact IntWalk.i64_in _ (by omega)
theorem sound_makeSlice {t : TypeId} {x y : Operand} (hop : o.op = .makeSlice t x y) (h : opE C T s o = some r) (I : Inp P C ρ σ cur s T a w o r) : Gives P o a w (Post ρ σ cur s.next w r.val r.s r.W) := by
  have mx : x ∈ o.op.operands.toList := by rw [hop]; simp [Op.operands]
  have my : y ∈ o.op.operands.toList := by rw [hop]; simp [Op.operands]
  unfold opE at h
  rw [hop] at h
  simp only [opMakeSlice] at h
  split at h
  · rename_i q k1 n k2 m hq h1 h2
    have hx := (I.T.ev mx h1).int_inv
    have hy := (I.T.ev my h2).int_inv
    simp only [IE.den] at hx hy
    have hu := (I.ok.ty _ _ hq).under w
    split at h
    · rename_i e hd
      rw [hd] at hu
      split at h
      · rename_i q2 hq2
        split at h
        · rename_i s1 hm1
          obtain ⟨p1, p2, p3, p4⟩ := must_parts (ρ := ρ) hm1
          unfold zrows at h
          split at h
          · rename_i hfl
            cases hf : (Nat.ble 1 q2.size && Nat.ble q2.bytes 100000 && Nat.beq q2.zero.length q2.size) with
            | false => rw [hf, cond_false] at h; cases h
            | true =>
              rw [hf, cond_true] at h
              simp only [Bool.and_eq_true] at hf
              split at h
              · rename_i s2 hm2
                obtain ⟨r1, r2, ⟨lr, r3⟩, r4⟩ := musts_parts (ρ := ρ) hm2
                cases h
                have hpc : ∀ p ∈ s2.pc, p.holds ρ := I.pc
                have r4 := r4 hpc
                have h0 : 0 ≤ n := of_decide_eq_true (r4 _ (by simp))
                have hm : n ≤ 10000 := of_decide_eq_true (r4 _ (by simp))
                have hnm : n = m := of_decide_eq_true (p4 (fun p hp => hpc p (by rw [r3]; simp [hp])))
                subst hnm
                have hsz1 := Nat.le_of_ble_eq_true hf.1.1
                have hby := Nat.le_of_ble_eq_true hf.1.2
                have hzz := Nat.eq_of_beq_eq_true hf.2
                obtain ⟨i, hi1, hi2, hi3⟩ := (I.ok.ty _ _ hq2).info w
                have hs := (I.ok.ty _ _ hq2).sizeOf' w
                obtain ⟨z, hz, hz2⟩ := (I.ok.ty _ _ hq2).zeroV w
                have hzl : q2.zero.length = q2.size := (I.ok.ty _ _ hq2).2.2.1
                have hrr := rep_rel (VRl.ofVals (ρ := ρ) (σ := σ) hz2) n.toNat (by omega)
                rw [hzl] at hrr
                obtain ⟨A, hA⟩ : ∃ A, A = (Array.range (n.toNat * q2.size)).map (z.cells[· % z.cells.size]!) := ⟨_, rfl⟩
                rw [← hA] at hrr
                have hnx : s2.next = s.next := r1.trans p1
                have hσ := I.N s.next (Nat.le_refl _) (by simp [St.newB, hnx])
                have wn := wrap_small n h0 hm
                have hmul : (i.bytes : Int) * n ≤ 1000000000 := by
                  have : (i.bytes : Int) ≤ 100000 := by omega
                  calc (i.bytes : Int) * n ≤ 100000 * n := Int.mul_le_mul_of_nonneg_right this (by omega)
                    _ ≤ _ := by omega
                refine ⟨.slice (some ⟨w.heap.size, 0, none⟩) n.toNat n.toNat, w.alloc (.cells A e), .inl ?_, ?_⟩
                · have c1 : ((decide (n < 0) || decide ((i.bytes : Int) * n > 2 ^ 48)) || decide (n < 0) || decide (n > n)) = false := by
                    simp only [Bool.or_eq_false_iff, decide_eq_false_iff_not]
                    refine ⟨⟨⟨by omega, by omega⟩, by omega⟩, by omega⟩
                  have c2 : (n.toNat * i.bytes > roomBytes) = False := by
                    simp only [eq_iff_iff, iff_false, gt_iff_lt, Nat.not_lt, roomBytes]
                    have : n.toNat * i.bytes ≤ 10000 * 100000 := Nat.mul_le_mul (by omega) (by omega)
                    omega
                  simp only [execOp, hop, hx, hy, Instr.makeSlice, Sem.run_bind, hu, Result.andThen, asInt, asIntOf, Sem.run_pure, pure_bind, hi1, wn, c1, Bool.false_eq_true, if_false, askRoom, c2, hs]
                  by_cases h0 : n.toNat * q2.size = 0
                  · have e0 : A = (Array.range 0).map ((#[] : Array Value)[· % (#[] : Array Value).size]!) := by rw [hA, h0]; apply Array.ext'; simp
                    simp [h0, newRow, e0]
                  · simp [h0, hz, newRow, hA]
                · have hlen := hrr.length
                  rw [rep_length, hzl] at hlen
                  have hfr : flatR (fun _ => q2.zero) n.toNat = rep n.toNat q2.zero := flatR_rep _ _
                  have := post_newB (B := .rows n.toNat q2.zero.length (fun _ => q2.zero) (fun _ => ⟨rfl, hfl⟩)) (s := s2) (s0 := s) (rest := []) (t := e) (e := q2.size) (K := []) (n := s.next) (c := .slx s.next q2.zero.length 0 n.toNat n.toNat) (v := .slice (some ⟨w.heap.size, 0, none⟩) n.toNat n.toNat) I.H (by
                    show VRl ρ σ (flatR _ _) _
                    rw [hfr]; exact hrr) hnx hσ (fun b hb => by cases hb) (by
                    have := VR.slc (ρ := ρ) (σ := fun b => if b = s.next then some ⟨w.heap.size, 0, (A.toList ++ []).length, q2.size⟩ else σ b) (b := s.next) (o := 0 * q2.zero.length) (n := n.toNat) (c := n.toNat) (c' := n.toNat) (l := ⟨w.heap.size, 0, (A.toList ++ []).length, q2.size⟩) (if_pos rfl) (Nat.le_refl _) (by simp at hlen ⊢; omega)
                    simp only [Nat.zero_mul, Nat.add_zero] at this
                    refine .slx ?_
                    simpa using this)
                  rw [hnx]
                  simpa using this
              · cases h
          · cases h
        · cases h
      · cases h
    · cases h
  · rename_i q k1 x1 k2 y1 hne hq h1 h2
    have hx := (I.T.ev mx h1).int_inv
    have hy := (I.T.ev my h2).int_inv
    have hu := (I.ok.ty _ _ hq).under w
    split at h
    · rename_i e hd
      rw [hd] at hu
      split at h
      · rename_i q2 hq2
        split at h
        · rename_i n s1 hc1
          split at h
          · rename_i m s2 hc2
            obtain ⟨a1, a2, ⟨la, a3⟩, a4⟩ := conc_parts (ρ := ρ) hc1
            obtain ⟨b1, b2, ⟨lb, b3⟩, b4⟩ := conc_parts (ρ := ρ) hc2
            cases hf : (decide (0 ≤ n) && decide (n ≤ m) && decide (m ≤ 10000) && Nat.ble 1 q2.size && Nat.ble q2.bytes 100000) with
            | false => rw [hf, cond_false] at h; cases h
            | true =>
              rw [hf, cond_true] at h
              cases h
              have hpc : ∀ p ∈ s2.pc, p.holds ρ := I.pc
              have ex : x1.den ρ = n := a4 (fun p hp => hpc p (by rw [b3]; simp [hp]))
              have ey : y1.den ρ = m := b4 hpc
              rw [ex] at hx
              rw [ey] at hy
              have hnx : s2.next = s.next := b1.trans a1
              simp only [Bool.and_eq_true, decide_eq_true_eq] at hf
              obtain ⟨⟨⟨⟨h0, hnm⟩, hm⟩, hsz1⟩, hby⟩ := hf
              have hsz1 := Nat.le_of_ble_eq_true hsz1
              have hby := Nat.le_of_ble_eq_true hby
              obtain ⟨i, hi1, hi2, hi3⟩ := (I.ok.ty _ _ hq2).info w
              have hs := (I.ok.ty _ _ hq2).sizeOf' w
              obtain ⟨z, hz, hz2⟩ := (I.ok.ty _ _ hq2).zeroV w
              have hzl : q2.zero.length = q2.size := (I.ok.ty _ _ hq2).2.2.1
              have hrr := rep_rel (VRl.ofVals (ρ := ρ) (σ := σ) hz2) m.toNat (by omega)
              rw [hzl] at hrr
              obtain ⟨A, hA⟩ : ∃ A, A = (Array.range (m.toNat * q2.size)).map (z.cells[· % z.cells.size]!) := ⟨_, rfl⟩
              rw [← hA] at hrr
              have hσ := I.N s.next (Nat.le_refl _) (by simp [St.new, hnx])
              have wn := wrap_small n h0 (by omega)
              have wm := wrap_small m (by omega) hm
              have hmul : (i.bytes : Int) * m ≤ 1000000000 := by
                have : (i.bytes : Int) ≤ 100000 := by omega
                calc (i.bytes : Int) * m ≤ 100000 * m := Int.mul_le_mul_of_nonneg_right this (by omega)
                  _ ≤ _ := by omega
              refine ⟨.slice (some ⟨w.heap.size, 0, none⟩) n.toNat m.toNat, w.alloc (.cells A e), .inl ?_, ?_⟩
              · have c1 : ((decide (m < 0) || decide ((i.bytes : Int) * m > 2 ^ 48)) || decide (n < 0) || decide (n > m)) = false := by
                  simp only [Bool.or_eq_false_iff, decide_eq_false_iff_not]
                  refine ⟨⟨⟨by omega, by omega⟩, by omega⟩, by omega⟩
                have c2 : (m.toNat * i.bytes > roomBytes) = False := by
                  simp only [eq_iff_iff, iff_false, gt_iff_lt, Nat.not_lt, roomBytes]
                  have : m.toNat * i.bytes ≤ 10000 * 100000 := Nat.mul_le_mul (by omega) (by omega)
                  omega
                simp only [execOp, hop, hx, hy, Instr.makeSlice, Sem.run_bind, hu, Result.andThen, asInt, asIntOf, Sem.run_pure, pure_bind, hi1, wn, wm, c1, Bool.false_eq_true, if_false, askRoom, c2, hs]
                by_cases h0 : m.toNat * q2.size = 0
                · have e0 : A = (Array.range 0).map ((#[] : Array Value)[· % (#[] : Array Value).size]!) := by rw [hA, h0]; apply Array.ext'; simp
                  simp [h0, newRow, e0]
                · simp [h0, hz, newRow, hA]
              · have hlen := hrr.length
                rw [rep_length, hzl] at hlen
                have := post_new (s := s2) (s0 := s) (rest := []) (t := e) (e := q2.size) (K := []) (n := s.next) (c := .slc (some (s.next, 0)) n.toNat m.toNat) (v := .slice (some ⟨w.heap.size, 0, none⟩) n.toNat m.toNat) I.H hrr hnx hσ (fun b hb => by cases hb) (by
                  have := VR.slc (ρ := ρ) (σ := fun b => if b = s.next then some ⟨w.heap.size, 0, (A.toList ++ []).length, q2.size⟩ else σ b) (b := s.next) (o := 0) (n := n.toNat) (c := m.toNat) (c' := m.toNat) (l := ⟨w.heap.size, 0, (A.toList ++ []).length, q2.size⟩) (if_pos rfl) (Nat.le_refl _) (by simp at hlen ⊢; omega)
                  exact this)
                simpa using this
          · cases h
        · cases h
      · cases h
    · cases h
  · cases h
/-- A bound of a slice expression. -/
noncomputable def boundE (pc : List PC) (T : Tr CV) (x : Option Operand) (d : Nat) : Option Nat := match x with
  | none => some d
  | some x => match ev T x with
    | some (.int _ (.c m)) => bif decide (0 ≤ m) then some m.toNat else none
    | some (.int _ e) => match PC.findN e pc with | some m => bif decide (0 ≤ m) then some m.toNat else none | none => none
    | _ => none
theorem bound_inv {x : Operand} {l : Nat} {d : Nat} {pc : List PC} (hp : ∀ p ∈ pc, p.holds ρ) (hT : Reads ρ σ T a [x]) (h : boundE pc T (some x) d = some l) : ∃ k, a.eval x = .int k (l : Int) := by
  unfold boundE at h
  simp only at h
  split at h
  · rename_i k m hm
    cases hb : decide (0 ≤ m) with
    | false => rw [hb, cond_false] at h; cases h
    | true =>
      rw [hb, cond_true] at h
      cases h
      have := (hT.ev (by simp) hm).int_inv
      simp only [IE.den] at this
      refine ⟨k, ?_⟩
      rw [this, Int.toNat_of_nonneg (by simpa using hb)]
  · rename_i k e _ hm
    split at h
    · rename_i m hf
      cases hb : decide (0 ≤ m) with
      | false => rw [hb, cond_false] at h; cases h
      | true =>
        rw [hb, cond_true] at h
        cases h
        have := (hT.ev (by simp) hm).int_inv
        refine ⟨k, ?_⟩
        rw [this, PC.findN_holds hf hp, Int.toNat_of_nonneg (by simpa using hb)]
    · cases h
  · cases h
theorem opSlice_parts {t : TypeId} {x : Operand} {lo hi : Option Operand} (h : opSlice C T s t x lo hi = some r) : r.s = s ∧ r.W = [] ∧ ∀ b ∈ r.R, b < s.next := by
  simp only [opSlice, Bool.cond_eq_ite] at h
  repeat' (first | (cases h; done) | (cases h; exact ⟨rfl, rfl, fun b hb => absurd hb List.not_mem_nil⟩) | split at h)
  all_goals
    rename_i hb
    simp only [Bool.and_eq_true] at hb
    cases h
    refine ⟨rfl, rfl, fun x hx => ?_⟩
    obtain rfl := List.mem_singleton.1 hx
    exact Nat.lt_of_succ_le (Nat.le_of_ble_eq_true hb.2)
theorem concOp_parts {s1 : St} {x : Option Operand} (h : concOp T s x = some s1) : s1.next = s.next ∧ s1.heap = s.heap ∧ ∃ l, s1.pc = l ++ s.pc := by
  unfold concOp at h
  split at h
  · cases h; exact ⟨rfl, rfl, [], rfl⟩
  · split at h
    · split at h
      · rename_i hc
        cases h
        obtain ⟨h1, h2, h3, _⟩ := conc_parts (ρ := ⟨fun _ => 0, fun _ => false⟩) hc
        exact ⟨h1, h2, h3⟩
      · cases h
    · cases h; exact ⟨rfl, rfl, [], rfl⟩
theorem sound_sliceS {t : TypeId} {x : Operand} {lo hi : Option Operand} (hop : o.op = .slice t x lo hi none) (h : opSlice C T s t x lo hi = some r) (I : Inp P C ρ σ cur s T a w o r) : Gives P o a w (Post ρ σ cur s.next w r.val r.s r.W) := by
  have mx : x ∈ o.op.operands.toList := by rw [hop]; simp [Op.operands]
  have mlo : ∀ y, lo = some y → y ∈ o.op.operands.toList := by rintro y rfl; rw [hop]; simp [Op.operands]
  have mhi : ∀ y, hi = some y → y ∈ o.op.operands.toList := by rintro y rfl; rw [hop]; simp [Op.operands]
  have h' : (match C.ty t, ev T x with
    | some r, some (.slc a n c) =>
      match r.desc with
      | .slice e => match C.ty e with
        | some q =>
          match boundE s.pc T lo 0, boundE s.pc T hi n with
          | some l, some h =>
            bif Nat.ble l h && Nat.ble h c then
              match a with
              | some (b, o) =>
                bif Nat.beq l 0 then some (⟨.slc (some (b, o)) h c, s, [], []⟩ : OR) else
                bif Nat.blt l c then
                  match s.heap.get b with
                  | some k => bif k.live && Nat.beq k.esz q.size && Nat.blt b s.next then some ⟨.slc (some (b, o + l * q.size)) (h - l) (c - l), s, [b], []⟩ else none
                  | none => none
                else some ⟨.emp, s, [], []⟩
              | none => some ⟨.slc none 0 0, s, [], []⟩
            else none
          | _, _ => none
        | none => none
      | _ => none
    | _, _ => none) = some r := by
    exact h
  have hpc : ∀ p ∈ s.pc, p.holds ρ := by rw [← (opSlice_parts h).1]; exact I.pc
  clear h
  split at h'
  · rename_i q p n c hq h1
    have hv := I.T.ev mx h1
    have hu := (I.ok.ty _ _ hq).under w
    split at h'
    · rename_i e hd
      rw [hd] at hu
      split at h'
      · rename_i q2 hq2
        have hs := (I.ok.ty _ _ hq2).sizeOf' w
        split at h'
        · rename_i l hh hlo hhi
          cases hf : (Nat.ble l hh && Nat.ble hh c) with
          | false => rw [hf, cond_false] at h'; cases h'
          | true =>
            rw [hf, cond_true] at h'
            simp only [Bool.and_eq_true] at hf
            have hlh := Nat.le_of_ble_eq_true hf.1
            have hhc := Nat.le_of_ble_eq_true hf.2
            -- the bounds, with a real capacity that is no smaller
            have key : ∀ c' : Nat, c ≤ c' → (Instr.sliceBounds true n c' (lo.map a.eval) (hi.map a.eval) none).run P w = .ok (l, hh, c') w := by
              intro c' hc'
              have e1 : (match lo.map a.eval with | some v => Instr.sliceBound v hh .sliceB | none => pure 0 : Sem Nat).run P w = .ok l w := by
                cases lo with
                | none => simp only [boundE] at hlo; cases hlo; rfl
                | some y =>
                  obtain ⟨k, hk⟩ := bound_inv (ρ := ρ) (σ := σ) (a := a) hpc (fun t ht => I.T t (by simp at ht; subst ht; exact mlo _ rfl)) hlo
                  have hr : 0 ≤ (l : Int) ∧ (l : Int) ≤ (hh : Int) := by omega
                  simp only [Option.map_some, hk, Instr.sliceBound, asIntOf, Sem.run_bind, Sem.run_pure, Result.andThen, pure_bind]
                  rw [if_pos hr]; simp
              have e2 : (match hi.map a.eval with | some v => Instr.sliceBound v c' .sliceAcap | none => pure n : Sem Nat).run P w = .ok hh w := by
                cases hi with
                | none => simp only [boundE] at hhi; cases hhi; rfl
                | some y =>
                  obtain ⟨k, hk⟩ := bound_inv (ρ := ρ) (σ := σ) (a := a) hpc (fun t ht => I.T t (by simp at ht; subst ht; exact mhi _ rfl)) hhi
                  have hr : 0 ≤ (hh : Int) ∧ (hh : Int) ≤ (c' : Int) := by omega
                  simp only [Option.map_some, hk, Instr.sliceBound, asIntOf, Sem.run_bind, Sem.run_pure, Result.andThen, pure_bind]
                  rw [if_pos hr]; simp
              cases hi with
              | none =>
                simp only [boundE] at hhi; cases hhi
                cases lo with
                | none => simp only [boundE] at hlo; cases hlo; rfl
                | some y => simp only [Option.map_some] at e1; simp [Instr.sliceBounds, e1]
              | some z =>
                simp only [Option.map_some] at e2
                cases lo with
                | none => simp only [boundE] at hlo; cases hlo; simp [Instr.sliceBounds, e2]
                | some y => simp only [Option.map_some] at e1; simp [Instr.sliceBounds, e1, e2]
            split at h'
            · rename_i b off
              generalize hxv : a.eval x = vx at hv
              cases hv with
              | slc hl hc hsz =>
                rename_i c' lc
                have kr := key c' hc
                have run : (execOp a.eval o).run P w = .ok (.value (.slice (some (if c' = l then ⟨lc.blk, lc.base + off, none⟩ else ⟨lc.blk, lc.base + off + l * q2.size, none⟩)) (hh - l) (c' - l))) w := by
                  simp only [execOp, hop, hxv, Option.map_none, Instr.sliceAt, Instr.slice, Sem.run_bind, hu, Result.andThen, kr, hs, Sem.run_pure]
                  by_cases e : c' = l <;> simp [e, add_none]
                cases hb0 : Nat.beq l 0 with
                | true =>
                  rw [hb0, cond_true] at h'
                  cases h'
                  have hl0 := Nat.eq_of_beq_eq_true hb0
                  subst hl0
                  refine gives_pure (R := []) rfl I.H run ?_
                  have hif : (if c' = 0 then (⟨lc.blk, lc.base + off, none⟩ : Addr) else ⟨lc.blk, lc.base + off + 0 * q2.size, none⟩) = ⟨lc.blk, lc.base + off, none⟩ := by split <;> simp
                  rw [hif]
                  exact .slc hl hc hsz
                | false =>
                  rw [hb0, cond_false] at h'
                  cases hb : Nat.blt l c with
                  | true =>
                    rw [hb, cond_true] at h'
                    have hlc : l < c := Nat.lt_of_succ_le (Nat.le_of_ble_eq_true hb)
                    split at h'
                    · rename_i k hk
                      cases hf2 : (k.live && Nat.beq k.esz q2.size && Nat.blt b s.next) with
                      | false => rw [hf2, cond_false] at h'; cases h'
                      | true =>
                        rw [hf2, cond_true] at h'
                        cases h'
                        simp only [Bool.and_eq_true] at hf2
                        have hesz := Nat.eq_of_beq_eq_true hf2.1.2
                        obtain ⟨_, _, _, _, _, _, he, _⟩ := I.H.cell b k lc ((I.A b (.inl (by simp))).trans hk) hf2.1.1 hl
                        rw [hesz] at he
                        refine gives_pure (R := [b]) rfl I.H run ?_
                        rw [if_neg (by omega), Nat.add_assoc]
                        refine .slc hl (by omega) ?_
                        rw [← he] at hsz ⊢
                        have : l * q2.size + (c' - l) * q2.size = c' * q2.size := by rw [← Nat.add_mul]; congr 1; omega
                        omega
                    · cases h'
                  | false =>
                    rw [hb, cond_false] at h'
                    cases h'
                    refine gives_pure (R := []) rfl I.H run ?_
                    have h1 : ¬ l < c := fun h => by
                      have : Nat.blt l c = true := Nat.ble_eq_true_of_le h
                      simp [this] at hb
                    have h2 : hh - l = 0 := by omega
                    rw [h2]
                    exact .emp _ _
            · cases h'
              generalize hxv : a.eval x = vx at hv
              cases hv with
              | slc0 =>
                have kr := key 0 (Nat.le_refl _)
                have hl0 : l = 0 := by omega
                have hh0 : hh = 0 := by omega
                subst hl0 hh0
                refine gives_pure (R := []) rfl I.H (v := .slice none 0 0) ?_ .slc0
                simp only [execOp, hop, hxv, Option.map_none, Instr.sliceAt, Instr.slice, Sem.run_bind, hu, Result.andThen, kr, hs, Sem.run_pure]
                simp
        · cases h'
      · cases h'
    · cases h'
  · cases h'
theorem boundX_inv {x : Operand} {l : Int} {d : Nat} (hT : Reads ρ σ T a [x]) (h : boundX T (some x) d = some l) : ∃ k, a.eval x = .int k l := by
  unfold boundX at h
  simp only at h
  split at h
  · rename_i k e hm
    have := (hT.ev (by simp) hm).int_inv
    rw [IE.num_den (ρ := ρ) h] at this
    exact ⟨k, this⟩
  · cases h
theorem sound_sliceX {t : TypeId} {x : Operand} {lo hi : Option Operand} (hop : o.op = .slice t x lo hi none) (h' : opSliceX C T s t x lo hi = some r) (I : Inp P C ρ σ cur s T a w o r) : Gives P o a w (Post ρ σ cur s.next w r.val r.s r.W) := by
  have mx : x ∈ o.op.operands.toList := by rw [hop]; simp [Op.operands]
  have mlo : ∀ y, lo = some y → y ∈ o.op.operands.toList := by rintro y rfl; rw [hop]; simp [Op.operands]
  have mhi : ∀ y, hi = some y → y ∈ o.op.operands.toList := by rintro y rfl; rw [hop]; simp [Op.operands]
  have key : ∀ (li hi' : Int) (n c' : Nat), boundX T lo 0 = some li → boundX T hi n = some hi' → 0 ≤ li → li ≤ hi' → hi' ≤ (c' : Int) → (Instr.sliceBounds true n c' (lo.map a.eval) (hi.map a.eval) none).run P w = .ok (li.toNat, hi'.toNat, c') w := by
    intro li hi' n c' hlo hhi b1 b2 hc'
    have e1 : (match lo.map a.eval with | some v => Instr.sliceBound v hi'.toNat .sliceB | none => pure 0 : Sem Nat).run P w = .ok li.toNat w := by
      cases lo with
      | none => simp only [boundX] at hlo; cases hlo; rfl
      | some y =>
        obtain ⟨k, hk⟩ := boundX_inv (ρ := ρ) (σ := σ) (a := a) (fun t ht => I.T t (by simp at ht; subst ht; exact mlo _ rfl)) hlo
        have hr : 0 ≤ li ∧ li ≤ (hi'.toNat : Int) := by omega
        simp only [Option.map_some, hk, Instr.sliceBound, asIntOf, Sem.run_bind, Sem.run_pure, Result.andThen, pure_bind]
        rw [if_pos hr]; simp
    have e2 : (match hi.map a.eval with | some v => Instr.sliceBound v c' .sliceAcap | none => pure n : Sem Nat).run P w = .ok hi'.toNat w := by
      cases hi with
      | none => simp only [boundX] at hhi; cases hhi; simp
      | some y =>
        obtain ⟨k, hk⟩ := boundX_inv (ρ := ρ) (σ := σ) (a := a) (fun t ht => I.T t (by simp at ht; subst ht; exact mhi _ rfl)) hhi
        have hr : 0 ≤ hi' ∧ hi' ≤ (c' : Int) := by omega
        simp only [Option.map_some, hk, Instr.sliceBound, asIntOf, Sem.run_bind, Sem.run_pure, Result.andThen, pure_bind]
        rw [if_pos hr]; simp
    cases hi with
    | none =>
      simp only [boundX] at hhi; cases hhi
      cases lo with
      | none => simp only [boundX] at hlo; cases hlo; simp [Instr.sliceBounds]
      | some y => simp only [Option.map_some, Int.toNat_natCast] at e1 ⊢; simp [Instr.sliceBounds, e1]
    | some z =>
      simp only [Option.map_some] at e2
      cases lo with
      | none => simp only [boundX] at hlo; cases hlo; simp [Instr.sliceBounds, e2]
      | some y => simp only [Option.map_some] at e1; simp [Instr.sliceBounds, e1, e2]
  simp only [opSliceX] at h'
  split at h'
  · rename_i q b z o' n c hq h1
    have hv := (I.T.ev mx h1).slx_inv
    have hu := (I.ok.ty _ _ hq).under w
    split at h'
    · rename_i e hd
      rw [hd] at hu
      split at h'
      · rename_i q2 li hi' hq2 hlo hhi
        have hs := (I.ok.ty _ _ hq2).sizeOf' w
        cases hf : Nat.beq z q2.size with
        | false => rw [hf, cond_false] at h'; cases h'
        | true =>
          rw [hf, cond_true] at h'
          have hzq := Nat.eq_of_beq_eq_true hf
          split at h'
          · rename_i s1 hm
            cases h'
            obtain ⟨a1, a2, ⟨la, a3⟩, a4⟩ := musts_parts (ρ := ρ) hm
            have a4 := a4 I.pc
            have b1 : 0 ≤ li := of_decide_eq_true (a4 _ (by simp))
            have b2 : li ≤ hi' := of_decide_eq_true (a4 _ (by simp))
            have b3 : hi' ≤ (c : Int) := of_decide_eq_true (a4 _ (by simp))
            generalize hxv : a.eval x = vx at hv
            cases hv with
            | slc hl hc hsz =>
              rename_i c' lc
              have kr := key li hi' n c' hlo hhi b1 b2 (by omega)
              have run : (execOp a.eval o).run P w = .ok (.value (.slice (some (if c' = li.toNat then ⟨lc.blk, lc.base + o' * z, none⟩ else ⟨lc.blk, lc.base + o' * z + li.toNat * q2.size, none⟩)) (hi'.toNat - li.toNat) (c' - li.toNat))) w := by
                simp only [execOp, hop, hxv, Option.map_none, Instr.sliceAt, Instr.slice, Sem.run_bind, hu, Result.andThen, kr, hs, Sem.run_pure]
                by_cases e : c' = li.toNat <;> simp [e, add_none]
              refine gives_pure (R := []) a1 I.H run ?_
              cases hn : lo.isNone with
              | true =>
                rw [cond_true]
                have l0 : li = 0 := by
                  cases lo with
                  | none => simp only [boundX] at hlo; cases hlo; rfl
                  | some y => cases hn
                subst l0
                have hif : (if c' = (0 : Int).toNat then (⟨lc.blk, lc.base + o' * z, none⟩ : Addr) else ⟨lc.blk, lc.base + o' * z + (0 : Int).toNat * q2.size, none⟩) = ⟨lc.blk, lc.base + o' * z, none⟩ := by split <;> simp
                rw [hif]
                exact .slx (.slc hl hc hsz)
              | false =>
                rw [cond_false]
                by_cases e : c' = li.toNat
                · have e0 : hi'.toNat - li.toNat = 0 := by omega
                  rw [e0]; exact .sla0 _ _
                · rw [if_neg e, Nat.add_assoc, ← hzq, ← Nat.add_mul]
                  exact .sla hl (by omega)
          · cases h'
      · cases h'
    · cases h'
  · rename_i q b z o' n hq h1
    have hv := I.T.ev mx h1
    have hu := (I.ok.ty _ _ hq).under w
    split at h'
    · rename_i e hd
      rw [hd] at hu
      split at h'
      · rename_i q2 li hi' hq2 hlo hhi
        have hs := (I.ok.ty _ _ hq2).sizeOf' w
        cases hf : Nat.beq z q2.size with
        | false => rw [hf, cond_false] at h'; cases h'
        | true =>
          rw [hf, cond_true] at h'
          have hzq := Nat.eq_of_beq_eq_true hf
          split at h'
          · rename_i s1 hm
            cases h'
            obtain ⟨a1, a2, ⟨la, a3⟩, a4⟩ := musts_parts (ρ := ρ) hm
            have a4 := a4 I.pc
            have b1 : 0 ≤ li := of_decide_eq_true (a4 _ (by simp))
            have b2 : li ≤ hi' := of_decide_eq_true (a4 _ (by simp))
            have b3 : hi' ≤ (n : Int) := of_decide_eq_true (a4 _ (by simp))
            generalize hxv : a.eval x = vx at hv
            cases hv with
            | sla hl hc =>
              rename_i c' lc
              have kr := key li hi' n c' hlo hhi b1 b2 (by omega)
              have run : (execOp a.eval o).run P w = .ok (.value (.slice (some (if c' = li.toNat then ⟨lc.blk, lc.base + o' * z, none⟩ else ⟨lc.blk, lc.base + o' * z + li.toNat * q2.size, none⟩)) (hi'.toNat - li.toNat) (c' - li.toNat))) w := by
                simp only [execOp, hop, hxv, Option.map_none, Instr.sliceAt, Instr.slice, Sem.run_bind, hu, Result.andThen, kr, hs, Sem.run_pure]
                by_cases e : c' = li.toNat <;> simp [e, add_none]
              refine gives_pure (R := []) a1 I.H run ?_
              by_cases e : c' = li.toNat
              · have e0 : hi'.toNat - li.toNat = 0 := by omega
                rw [e0]; exact .sla0 _ _
              · rw [if_neg e, Nat.add_assoc, ← hzq, ← Nat.add_mul]
                exact .sla hl (by omega)
            | sla0 ad c' =>
              have hl0 : li = 0 := by omega
              have hh0 : hi' = 0 := by omega
              subst hl0 hh0
              have kr := key 0 0 0 c' hlo hhi (by omega) (by omega) (by omega)
              cases ad with
              | none =>
                refine gives_pure (R := []) (v := .slice none 0 (c' - 0)) a1 I.H ?_ (.sla0 _ _)
                simp only [execOp, hop, hxv, Option.map_none, Instr.sliceAt, Instr.slice, Sem.run_bind, hu, Result.andThen, kr, hs, Sem.run_pure]
                simp
              | some ad =>
                refine gives_pure (R := []) (v := .slice (some (if c' = 0 then ad else ad.add (0 * q2.size))) 0 (c' - 0)) a1 I.H ?_ (.sla0 _ _)
                simp only [execOp, hop, hxv, Option.map_none, Instr.sliceAt, Instr.slice, Sem.run_bind, hu, Result.andThen, kr, hs, Sem.run_pure]
                by_cases e : c' = 0 <;> simp [e]
          · cases h'
      · cases h'
    · cases h'
  · cases h'
theorem sound_sliceArr {t : TypeId} {x : Operand} (hop : o.op = .slice t x none none none) (h : opSliceArr C T s t x = some r) (I : Inp P C ρ σ cur s T a w o r) : Gives P o a w (Post ρ σ cur s.next w r.val r.s r.W) := by
  have mx : x ∈ o.op.operands.toList := by rw [hop]; simp [Op.operands]
  simp only [opSliceArr] at h
  split at h
  · rename_i q b off hq h1
    obtain ⟨l, hl, hv⟩ := (I.T.ev mx h1).ptr_inv
    have hu := (I.ok.ty _ _ hq).under w
    split at h
    · rename_i n e hd
      rw [hd] at hu
      split at h
      · rename_i q2 k hq2 hk
        have hs := (I.ok.ty _ _ hq2).sizeOf' w
        cases hf : (k.live && Nat.beq k.esz 0 && Nat.ble off k.cells.length && Nat.blt b s.next) with
        | false => rw [hf, cond_false] at h; cases h
        | true =>
          rw [hf, cond_true] at h
          cases h
          simp only [Bool.and_eq_true] at hf
          have he0 := Nat.eq_of_beq_eq_true hf.1.1.2
          have hle := Nat.le_of_ble_eq_true hf.1.2
          obtain ⟨_, _, _, _, _, _, he, hfit, _⟩ := I.H.cell b k l ((I.A b (.inl (by simp))).trans hk) hf.1.1.1 hl
          rw [he0] at he
          refine gives_pure (R := [b]) rfl I.H (v := .slice (some ⟨l.blk, l.base + off, none⟩) n n) ?_ (.slc hl (Nat.le_refl _) (by rw [← he]; omega))
          simp only [execOp, hop, hv, Option.map_none, Instr.sliceAt, Sem.run_bind, hu, Result.andThen, Instr.sureAddr, Instr.sliceBounds, Sem.run_pure, pure_bind, hs]
          by_cases e0 : n = 0 <;> simp [e0, add_none]
      · cases h
    · cases h
  · cases h
theorem sound_sliceArrH {t : TypeId} {x : Operand} {hi : Option Operand} (hop : o.op = .slice t x none hi none) (h : opSliceArrH C T s t x hi = some r) (I : Inp P C ρ σ cur s T a w o r) : Gives P o a w (Post ρ σ cur s.next w r.val r.s r.W) := by
  have mx : x ∈ o.op.operands.toList := by rw [hop]; simp [Op.operands]
  cases hi with
  | none => simp only [opSliceArrH] at h; cases h
  | some y =>
  have my : y ∈ o.op.operands.toList := by rw [hop]; simp [Op.operands]
  simp only [opSliceArrH] at h
  split at h
  · rename_i q b off k1 e1 hq h1 h2
    obtain ⟨l, hl, hv⟩ := (I.T.ev mx h1).ptr_inv
    have hy := (I.T.ev my h2).int_inv
    have hu := (I.ok.ty _ _ hq).under w
    split at h
    · rename_i m s1 hc
      obtain ⟨a1, a2, a3, a4⟩ := conc_parts (ρ := ρ) hc
      split at h
      · rename_i n e hd
        rw [hd] at hu
        split at h
        · rename_i q2 k hq2 hk
          have hs := (I.ok.ty _ _ hq2).sizeOf' w
          cases hf : (k.live && Nat.beq k.esz 0 && Nat.ble off k.cells.length && Nat.blt b s.next && decide (0 ≤ m) && Nat.ble m.toNat n) with
          | false => rw [hf, cond_false] at h; cases h
          | true =>
            rw [hf, cond_true] at h
            cases h
            simp only [Bool.and_eq_true, decide_eq_true_eq] at hf
            obtain ⟨⟨⟨⟨⟨f1, f2⟩, f3⟩, f4⟩, f5⟩, f6⟩ := hf
            have he0 := Nat.eq_of_beq_eq_true f2
            have hle := Nat.le_of_ble_eq_true f3
            have hmn := Nat.le_of_ble_eq_true f6
            obtain ⟨_, _, _, _, _, _, he, hfit, _⟩ := I.H.cell b k l ((I.A b (.inl (by simp))).trans hk) f1 hl
            rw [he0] at he
            have em : e1.den ρ = ((m.toNat : Nat) : Int) := by rw [a4 I.pc]; omega
            rw [em] at hy
            generalize m.toNat = M at *
            have hr : 0 ≤ (M : Int) ∧ (M : Int) ≤ (n : Int) := by omega
            refine gives_pure (R := [b]) a1 I.H (v := .slice (some ⟨l.blk, l.base + off, none⟩) M n) ?_ (.slc hl (Nat.le_refl _) (by rw [← he]; omega))
            simp only [execOp, hop, hv, hy, Option.map_none, Option.map_some, Instr.sliceAt, Sem.run_bind, hu, Result.andThen, Instr.sureAddr, Instr.sliceBounds, Instr.sliceBound, asIntOf, Sem.run_pure, pure_bind, hs]
            rw [if_pos hr]
            simp only [Int.toNat_natCast, Sem.run_bind, Sem.run_pure, Result.andThen, pure_bind, hs]
            by_cases e0 : n = 0 <;> simp [e0, add_none, Sem.run_bind, Sem.run_pure, Result.andThen, hs]
        · cases h
      · cases h
    · cases h
  · cases h
theorem sound_slice {t : TypeId} {x : Operand} {lo hi : Option Operand} (hop : o.op = .slice t x lo hi none) (h : opE C T s o = some r) (I : Inp P C ρ σ cur s T a w o r) : Gives P o a w (Post ρ σ cur s.next w r.val r.s r.W) := by
  have h' : opSlices C T s t x lo hi = some r := by
    unfold opE at h; rw [hop] at h; exact h
  unfold opSlices at h'
  split at h'
  · rename_i hr
    cases h'
    exact sound_sliceArr hop hr I
  · split at h'
    · cases h'
      exact sound_sliceArrH hop (by assumption) I
    split at h'
    · exact sound_sliceX hop h' I
    · exact sound_sliceX hop h' I
    · split at h'
      · rename_i s1 h1
        split at h'
        · rename_i s2 h2
          obtain ⟨a1, a2, _⟩ := concOp_parts h1
          obtain ⟨b1, b2, _⟩ := concOp_parts h2
          have key := sound_sliceS (s := s2) hop h' ⟨I.ok, I.pc, I.T, I.H, fun b hb => by rw [b2, a2]; exact I.A b hb, fun b c1 c2 => I.N b (by rw [b1, a1] at c1; exact c1) c2⟩
          rw [b1, a1] at key
          exact key
        · cases h'
      · cases h'
end
end Go.Proofs.Ytjdldcmcjaaibaa.Cx

/- One operation that calls no Go function: the builtins; then all operations together. -/
namespace Go.Proofs.Ytjdldcmcjaaibaa.Cx
set_option linter.unusedSimpArgs false
set_option linter.unusedVariables false
open Go Go.RowKit
section
variable {P : Program} {C : Ctx} {ρ : Env} {σ : Mp} {cur : Cur} {s : St} {T : Tr CV} {a : Act} {w : World} {o : Oper} {r : OR}
theorem post_drew {n : Nat} {c : CV} {s' : St} {W : List Nat} {v : Value} {w' : World} (h : Post ρ σ cur n w.drew c s' W v w') : Post ρ σ cur n w c s' W v w' := by
  obtain ⟨σ', h1, h2, h3, h4, h5⟩ := h
  exact ⟨σ', h1, h2, h3, ⟨h4.os, h4.tape, h4.output, h4.size, h4.block, h4.loops, h4.defd⟩, h5⟩
theorem nextcap_le (n c : Nat) (hc : c < n) (hn : n ≤ 20000) : Builtin.nextslicecap n c ≤ 200000 := by
  unfold Builtin.nextslicecap
  split
  · omega
  · split
    · omega
    · simp only [Builtin.growBy]
      repeat' split
      all_goals omega
/-- What an append appends, in the real world: the elements of a slice. -/
structure SrcS (P : Program) (w : World) (size yT : Nat) (y : Value) (n : Nat) (vs : List Value) : Prop where
  d : ∃ e, (underlying yT).run P w = .ok (.slice e) w
  len : (Builtin.lenOf y).run P w = .ok n w
  cells : (Builtin.firstCells size n y).run P w = .ok vs.toArray w
/-- What an append appends, in the real world: zeros of a make. -/
structure SrcZ (P : Program) (w : World) (elem size yT : Nat) (y : Value) (n : Nat) (vs : List Value) : Prop where
  d : ∃ k, (underlying yT).run P w = .ok (.int k) w
  y : ∃ k, y = .int k (n : Int)
  le : n ≤ 10000
  z : ∃ z, (zeroValue elem).run P w = .ok z w ∧ vs = (Builtin.zeroCells z.cells n).toList ∧ z.cells.size = size
section
variable {sT elem ty yT size n : Nat} {m c : Nat} {y : Value} {vs : List Value} {w' : World} {i : TypeInfo}
theorem append_place_S {b : Addr} (hu : (underlying sT).run P w = .ok (.slice elem) w) (hs : (sizeOf elem).run P w = .ok size w) (hS : SrcS P w size yT y n vs) (h : m + n ≤ c) (hst : (storeCells (b.add (m * size)) vs).run P w = .ok () w') :
    (Builtin.append_ #[sT, yT] ty #[.slice (some b) m c, y]).run P w = .ok (.slice (some b) (m + n) c) w' := by
  obtain ⟨e, hd⟩ := hS.d
  simp [Builtin.append_, hu, hs, hd, hS.len, hS.cells, h, hst]
theorem append_place_Z {b : Addr} (hu : (underlying sT).run P w = .ok (.slice elem) w) (hs : (sizeOf elem).run P w = .ok size w) (hi : (typeInfo elem).run P w = .ok i w) (hb : i.bytes ≤ 100000) (hsz : 1 ≤ size) (hn : 1 ≤ n) (hS : SrcZ P w elem size yT y n vs) (h : m + n ≤ c) (hst : (storeCells (b.add (m * size)) vs).run P w = .ok () w') :
    (Builtin.append_ #[sT, yT] ty #[.slice (some b) m c, y]).run P w = .ok (.slice (some b) (m + n) c) w' := by
  obtain ⟨k, hd⟩ := hS.d
  obtain ⟨k2, rfl⟩ := hS.y
  obtain ⟨z, hz, hvs, hzs⟩ := hS.z
  have hw := wrap_small (n : Int) (by omega) (by have := hS.le; omega)
  have c1 : ¬ ((n : Int) < 0) := by omega
  have c2 : ¬ ((2 : Int) ^ 48 < (n : Int) * (i.bytes : Int)) := by
    have : (n : Int) * (i.bytes : Int) ≤ 10000 * 100000 := Int.mul_le_mul (by have := hS.le; omega) (by omega) (by omega) (by omega)
    omega
  have h0 : ¬ (n * size = 0) := by
    intro h
    rcases Nat.mul_eq_zero.1 h with h | h <;> omega
  have hvs' : (Builtin.zeroCells z.cells n).toList = vs := hvs.symm
  simp only [Int.reducePow] at c2
  simp [Builtin.append_, hu, hs, hd, hi, asInt, asIntOf, hw, c1, c2, h, h0, hz, hvs', hst]
/-- Where an append finds no room: the new capacity. -/
def newCap (w : World) (elem need c : Nat) : Nat := Question.cut (.appendCap need c elem) (w.tape w.drawn (.appendCap need c elem))
theorem newCap_ge (w : World) (elem need c : Nat) : need ≤ newCap w elem need c := by simp [newCap, Question.cut]
theorem append_new_S {q : TyR} {b : Option Addr} {old : List Value} (hu : (underlying sT).run P w = .ok (.slice elem) w) (hq : TyOk P elem q) (hb : q.bytes ≤ 100000) {z : Value} (hz : (zeroValue elem).run P w.drew = .ok z w.drew) (hS : SrcS P w q.size yT y n vs) (hS2 : SrcS P w.drew q.size yT y n vs) (h : ¬ m + n ≤ c) (hn : m + n ≤ 20000)
    (hold : (Builtin.firstCells q.size m (.slice b m c)).run P w.drew = .ok old.toArray w.drew) :
    (Builtin.append_ #[sT, yT] ty #[.slice b m c, y]).run P w = .ok (.slice (some ⟨w.heap.size, 0, none⟩) (m + n) (newCap w elem (m + n) c)) (w.drew.alloc (.cells (old ++ vs ++ (Builtin.zeroCells z.cells (newCap w elem (m + n) c - (m + n))).toList).toArray elem)) := by
  obtain ⟨e, hd⟩ := hS.d
  obtain ⟨i, hi, hi2, hi3⟩ := hq.info w
  obtain ⟨i', hi', _⟩ := hq.info w.drew
  have hs := hq.sizeOf' w
  have c1 : ¬ ((9223372036854775807 : Int) < (m : Int) + (n : Int)) := by omega
  have c2 : ¬ (2 ^ 48 < Builtin.nextslicecap (m + n) c * i.bytes) := by
    have h1 := nextcap_le (m + n) c (by omega) (by omega)
    have : Builtin.nextslicecap (m + n) c * i.bytes ≤ 200000 * 100000 := Nat.mul_le_mul h1 (by omega)
    omega
  simp only [Nat.reducePow] at c2
  have c3 : ∀ k : Nat, (askRoom k).run P w.drew = .ok () w.drew := by intro k; unfold askRoom; split <;> rfl
  unfold newCap
  simp [Builtin.append_, hu, hs, hd, hS.len, h, c1, c2, hi, Question.forced, c3, hold, hS2.cells, hz, newRow, hi']
  apply congrArg
  apply congrArg (fun x => Obj.cells x elem)
  rw [← Array.toList_inj]
  simp
theorem append_new_Z {q : TyR} {b : Option Addr} {old : List Value} (hu : (underlying sT).run P w = .ok (.slice elem) w) (hq : TyOk P elem q) (hb : q.bytes ≤ 100000) (hsz : 1 ≤ q.size) (h1n : 1 ≤ n) (hS : SrcZ P w.drew elem q.size yT y n vs) (hd : ∃ k, (underlying yT).run P w = .ok (.int k) w) {z : Value} (hz : (zeroValue elem).run P w.drew = .ok z w.drew) (h : ¬ m + n ≤ c) (hn : m + n ≤ 20000)
    (hold : (Builtin.firstCells q.size m (.slice b m c)).run P w.drew = .ok old.toArray w.drew) :
    (Builtin.append_ #[sT, yT] ty #[.slice b m c, y]).run P w = .ok (.slice (some ⟨w.heap.size, 0, none⟩) (m + n) (newCap w elem (m + n) c)) (w.drew.alloc (.cells (old ++ vs ++ (Builtin.zeroCells z.cells (newCap w elem (m + n) c - (m + n))).toList).toArray elem)) := by
  obtain ⟨k, hd⟩ := hd
  obtain ⟨k2, rfl⟩ := hS.y
  obtain ⟨z', hz', hvs, hzs⟩ := hS.z
  have hzz : z' = z := by rw [hz] at hz'; injection hz' with e1; exact e1.symm
  subst hzz
  obtain ⟨i, hi, hi2, hi3⟩ := hq.info w
  obtain ⟨i', hi', _⟩ := hq.info w.drew
  have hs := hq.sizeOf' w
  have hw := wrap_small (n : Int) (by omega) (by have := hS.le; omega)
  have c0 : ¬ ((n : Int) < 0) := by omega
  have c4 : ¬ ((2 : Int) ^ 48 < (n : Int) * (i.bytes : Int)) := by
    have : (n : Int) * (i.bytes : Int) ≤ 10000 * 100000 := Int.mul_le_mul (by have := hS.le; omega) (by omega) (by omega) (by omega)
    omega
  have h0 : ¬ (n * q.size = 0) := by
    intro h
    rcases Nat.mul_eq_zero.1 h with h | h <;> omega
  have hvs' : Builtin.zeroCells z'.cells n = vs.toArray := by rw [hvs]
  simp only [Int.reducePow] at c4
  have c1 : ¬ ((9223372036854775807 : Int) < (m : Int) + (n : Int)) := by omega
  have c2 : ¬ (2 ^ 48 < Builtin.nextslicecap (m + n) c * i.bytes) := by
    have h1 := nextcap_le (m + n) c (by omega) (by omega)
    have : Builtin.nextslicecap (m + n) c * i.bytes ≤ 200000 * 100000 := Nat.mul_le_mul h1 (by omega)
    omega
  simp only [Nat.reducePow] at c2
  have c3 : ∀ k : Nat, (askRoom k).run P w.drew = .ok () w.drew := by intro k; unfold askRoom; split <;> rfl
  unfold newCap
  simp [Builtin.append_, hu, hs, hd, asInt, asIntOf, hw, c0, c4, h0, h, c1, c2, hi, Question.forced, c3, hold, hz, hvs', newRow, hi']
  apply congrArg
  apply congrArg (fun x => Obj.cells x elem)
  rw [← Array.toList_inj]
  simp
end
/-- What the evaluator says is appended is what is appended. -/
theorem src_inv {q r2 : TyR} {elem yT : Nat} {y : CV} {vy : Value} {l : List CV} {n : Nat} {R : List Nat} (hH : HR ρ σ cur w) (hq : TyOk P elem q) (h1 : 1 ≤ q.size) (hr2 : TyOk P yT r2) (h : srcE q s r2.desc y = some (l, n, R)) (hy : VR ρ σ y vy) (hA : ∀ b ∈ R, cur b = s.heap.get b) :
    ∃ vs, VRl ρ σ l vs ∧ vs.length = n * q.size ∧ n ≤ 10000 ∧ ((SrcS P w q.size yT vy n vs ∧ SrcS P w.drew q.size yT vy n vs) ∨ (SrcZ P w elem q.size yT vy n vs ∧ SrcZ P w.drew elem q.size yT vy n vs)) := by
  unfold srcE at h
  split at h
  · rename_i d k1 k2 m hd
    cases hb : (decide (0 ≤ m) && decide (m ≤ 10000)) with
    | false => rw [hb, cond_false] at h; cases h
    | true =>
      rw [hb, cond_true] at h
      cases h
      simp only [Bool.and_eq_true, decide_eq_true_eq] at hb
      have hv := hy.int_inv
      simp only [IE.den] at hv
      obtain ⟨z, hz, hz2⟩ := hq.zeroA
      have hzl : q.zero.length = q.size := hq.2.2.1
      have hzr := VRl.ofVals (ρ := ρ) (σ := σ) hz2
      have hzs := hzr.length
      simp only [Array.length_toList] at hzs
      have hrr := rep_rel hzr m.toNat (by omega)
      rw [hzl] at hrr
      have hlen := hrr.length
      rw [rep_length, hzl] at hlen
      have e : (Builtin.zeroCells z.cells m.toNat) = (Array.range (m.toNat * q.size)).map (z.cells[· % z.cells.size]!) := by
        unfold Builtin.zeroCells; rw [hzs, hzl]
      have hmm : ((m.toNat : Nat) : Int) = m := Int.toNat_of_nonneg hb.1
      refine ⟨(Builtin.zeroCells z.cells m.toNat).toList, by rw [e]; exact hrr, by rw [e]; exact hlen, by omega, .inr ⟨⟨⟨k1, by have := hr2.under w; rwa [hd] at this⟩, ⟨k2, by rw [hmm]; exact hv⟩, by omega, z, hz w, rfl, by omega⟩, ⟨⟨k1, by have := hr2.under w.drew; rwa [hd] at this⟩, ⟨k2, by rw [hmm]; exact hv⟩, by omega, z, hz w.drew, rfl, by omega⟩⟩⟩
  · rename_i e c1 c2 hd
    cases h
    generalize vy = u at hy
    cases hy
    refine ⟨[], .nil, by simp, by omega, .inl ⟨⟨⟨e, by have := hr2.under w; rwa [hd] at this⟩, by simp [Builtin.lenOf], by simp [Builtin.firstCells]⟩, ⟨⟨e, by have := hr2.under w.drew; rwa [hd] at this⟩, by simp [Builtin.lenOf], by simp [Builtin.firstCells]⟩⟩⟩
  · rename_i e hd
    cases h
    generalize vy = u at hy
    cases hy
    refine ⟨[], .nil, by simp, by omega, .inl ⟨⟨⟨e, by have := hr2.under w; rwa [hd] at this⟩, by simp [Builtin.lenOf], by simp [Builtin.firstCells, loadCells, loadCellsFrom]⟩, ⟨⟨e, by have := hr2.under w.drew; rwa [hd] at this⟩, by simp [Builtin.lenOf], by simp [Builtin.firstCells, loadCells, loadCellsFrom]⟩⟩⟩
  · rename_i e b off m c2 hd
    split at h
    · rename_i l' hl'
      cases hb : Nat.ble m 10000 with
      | false => rw [hb, cond_false] at h; cases h
      | true =>
        rw [hb, cond_true] at h
        cases h
        cases hy with
        | slc hl hc hsz =>
          rename_i c' lc
          obtain ⟨vs, e1, e2, e3, e4⟩ := ld_run (P := P) hH hl' (hA b (by simp)) hl
          exact ⟨vs, e2, e3, Nat.le_of_ble_eq_true hb, .inl ⟨⟨⟨e, by have := hr2.under w; rwa [hd] at this⟩, by simp [Builtin.lenOf], by simp [Builtin.firstCells, e1]⟩, ⟨⟨e, by have := hr2.under w.drew; rwa [hd] at this⟩, by simp [Builtin.lenOf], by simp [Builtin.firstCells, e4]⟩⟩⟩
    · cases h
  · rename_i e b z o m hd
    split at h
    · rename_i l' hl'
      cases hb : Nat.ble m 10000 with
      | false => rw [hb, cond_false] at h; cases h
      | true =>
        rw [hb, cond_true] at h
        cases h
        generalize vy = u at hy
        cases hy with
        | sla hl hc =>
          rename_i c' lc
          obtain ⟨vs, e1, e2, e3, e4⟩ := ld_run (P := P) hH hl' (hA b (by simp)) hl
          exact ⟨vs, e2, e3, Nat.le_of_ble_eq_true hb, .inl ⟨⟨⟨e, by have := hr2.under w; rwa [hd] at this⟩, by simp [Builtin.lenOf], by simp [Builtin.firstCells, e1]⟩, ⟨⟨e, by have := hr2.under w.drew; rwa [hd] at this⟩, by simp [Builtin.lenOf], by simp [Builtin.firstCells, e4]⟩⟩⟩
        | sla0 ad c' =>
          obtain ⟨k, _, _, _, rfl, _⟩ := ld_parts hl'
          refine ⟨[], by simpa using VRl.nil, by simp, by omega, .inl ⟨⟨⟨e, by have := hr2.under w; rwa [hd] at this⟩, by simp [Builtin.lenOf], ?_⟩, ⟨⟨e, by have := hr2.under w.drew; rwa [hd] at this⟩, by simp [Builtin.lenOf], ?_⟩⟩⟩
          · cases ad <;> simp [Builtin.firstCells, loadCells, loadCellsFrom]
          · cases ad <;> simp [Builtin.firstCells, loadCells, loadCellsFrom]
    · cases h
  · cases h
end
end Go.Proofs.Ytjdldcmcjaaibaa.Cx

/- One operation that calls no Go function: maps. -/
namespace Go.Proofs.Ytjdldcmcjaaibaa.Cx
set_option linter.unusedSimpArgs false
set_option linter.unusedVariables false
open Go Go.RowKit
section
variable {P : Program} {C : Ctx} {ρ : Env} {σ : Mp} {cur : Cur} {s : St} {T : Tr CV} {a : Act} {w : World} {o : Oper} {r : OR}
/-- Keys of this kind are compared by asking. -/
def wideD : TypeDesc → Bool
  | .struct _ | .array _ _ => true
  | _ => false
theorem bits_eq : ∀ {ks : List (Option IntKind)} {x y : List Value}, ShapeV ks x → ShapeV ks y → eqVals x y = true → x.length = y.length ∧ ∀ n, ((y.zip x).all fun (p, q) => Instr.sameBits n p q) = true
  | [], [], [], _, _, _ => ⟨rfl, fun n => rfl⟩
  | none :: ks, .bool p :: x, .bool q :: y, hx, hy, h => by
    simp only [eqVals, Bool.and_eq_true] at h
    obtain ⟨h1, h2⟩ := bits_eq (ks := ks) (by simpa [ShapeV] using hx) (by simpa [ShapeV] using hy) h.2
    refine ⟨by simp [h1], fun n => ?_⟩
    simp only [List.zip_cons_cons, List.all_cons, h2 n, Bool.and_true]
    have : p = q := by simpa using h.1
    subst this
    cases n <;> simp [Instr.sameBits]
  | some k :: ks, .int k1 p :: x, .int k2 q :: y, hx, hy, h => by
    simp only [eqVals, Bool.and_eq_true] at h
    simp only [ShapeV] at hx hy
    obtain ⟨rfl, hx⟩ := hx
    obtain ⟨rfl, hy⟩ := hy
    obtain ⟨h1, h2⟩ := bits_eq (ks := ks) hx hy h.2
    refine ⟨by simp [h1], fun n => ?_⟩
    simp only [List.zip_cons_cons, List.all_cons, h2 n, Bool.and_true]
    have : p = q := by simpa using h.1
    subst this
    cases n <;> simp [Instr.sameBits]
  | [], _ :: _, _, hx, _, _ => by simp [ShapeV] at hx
  | [], [], _ :: _, _, hy, _ => by simp [ShapeV] at hy
  | none :: ks, [], _, hx, _, _ => by simp [ShapeV] at hx
  | some k :: ks, [], _, hx, _, _ => by simp [ShapeV] at hx
  | none :: ks, v :: x, [], _, hy, _ => by simp [ShapeV] at hy
  | some k :: ks, v :: x, [], _, hy, _ => by simp [ShapeV] at hy
  | none :: ks, .bool p :: x, .int _ _ :: y, _, hy, _ => by simp [ShapeV] at hy
  | some k :: ks, .int _ _ :: x, .bool _ :: y, _, hy, _ => by simp [ShapeV] at hy
/-- What is known of two keys that were compared. -/
structure KeyEq (P : Program) (w : World) (kt : TypeId) (d : TypeDesc) (x y : Value) (b : Bool) : Prop where
  now : wideD d = false → Instr.sameNow d x y = some b
  wide : wideD d = true → Instr.sameNow d x y = none ∧ (Op.equal kt x y).run P w = .ok b w
  bits : b = true → Instr.sameBits 10000 y x = true
theorem keyE_frm {kt : TypeId} {s s1 : St} {k k' : CV} {b : Bool} (h : keyE C kt s k k' = some (b, s1)) : s1.next = s.next ∧ s1.heap = s.heap ∧ ∃ l, s1.pc = l ++ s.pc := by
  have eqc : ∀ {l m : List CV} {s s1 : St} {v : Bool}, eqCells s l m = some (v, s1) → s1.next = s.next ∧ s1.heap = s.heap ∧ ∃ L, s1.pc = L ++ s.pc := by
    intro l
    induction l with
    | nil => intro m s s1 v h; simp only [eqCells] at h; cases h; exact ⟨rfl, rfl, [], rfl⟩
    | cons c l ih =>
      intro m s s1 v h
      have dec : ∀ {e : BE} {x : Bool} {s s1 : St}, s.decide e = some (x, s1) → s1.next = s.next ∧ s1.heap = s.heap ∧ ∃ L, s1.pc = L ++ s.pc := fun h => by
        obtain ⟨h1, h2, h3, _⟩ := decide_parts (ρ := ⟨fun _ => 0, fun _ => false⟩) h
        exact ⟨h1, h2, h3⟩
      have tr : ∀ {s s1 s2 : St}, (s1.next = s.next ∧ s1.heap = s.heap ∧ ∃ L, s1.pc = L ++ s.pc) → (s2.next = s1.next ∧ s2.heap = s1.heap ∧ ∃ L, s2.pc = L ++ s1.pc) → (s2.next = s.next ∧ s2.heap = s.heap ∧ ∃ L, s2.pc = L ++ s.pc) := by
        rintro s s1 s2 ⟨a1, a2, L1, a3⟩ ⟨b1, b2, L2, b3⟩
        exact ⟨b1.trans a1, b2.trans a2, L2 ++ L1, by rw [b3, a3, List.append_assoc]⟩
      cases m with
      | nil => cases c <;> simp only [eqCells] at h <;> (cases h; exact ⟨rfl, rfl, [], rfl⟩)
      | cons d m =>
        cases c <;> cases d <;> simp only [eqCells] at h <;> try (cases h; exact ⟨rfl, rfl, [], rfl⟩)
        · split at h
          · rename_i x sa hd
            split at h
            · rename_i y sb hd2
              cases hxy : (x == y) with
              | true => rw [hxy, cond_true] at h; exact tr (dec hd) (tr (dec hd2) (ih h))
              | false => rw [hxy, cond_false] at h; cases h; exact tr (dec hd) (dec hd2)
            · cases h
          · cases h
        · split at h
          · rename_i sa hd; exact tr (dec hd) (ih h)
          · rename_i sa hd; cases h; exact dec hd
          · cases h
  unfold keyE at h
  split at h
  · rename_i j x j' y
    cases hj : decide (j = j') with
    | false => rw [hj, cond_false] at h; cases h
    | true =>
      rw [hj, cond_true] at h
      obtain ⟨h1, h2, h3, _⟩ := decide_parts (ρ := ⟨fun _ => 0, fun _ => false⟩) h
      exact ⟨h1, h2, h3⟩
  · exact eqc h
  · cases h; exact ⟨rfl, rfl, [], rfl⟩
  · rename_i x y
    split at h
    · rename_i ks hks
      cases hs : (shapeC ks x && shapeC ks y) with
      | false => rw [hs, cond_false] at h; cases h
      | true => rw [hs, cond_true] at h; exact eqc h
    · cases h
  · cases h
theorem keyE_run (hC : CtxOk P C) {kt : TypeId} {q : TyR} {s1 : St} {k k' : CV} {b : Bool} {v v' : Value} (hq : C.ty kt = some q) (hok : keyOkE C kt k = true) (h : keyE C kt s k k' = some (b, s1)) (hv : VR ρ σ k v) (hv' : VR ρ σ k' v') (hp : ∀ p ∈ s1.pc, p.holds ρ) (w : World) :
    KeyEq P w kt q.desc v v' b := by
  unfold keyOkE at hok
  rw [hq] at hok
  simp only at hok
  unfold keyE at h
  split at h
  · rename_i j x j' y
    cases hj : decide (j = j') with
    | false => rw [hj, cond_false] at h; cases h
    | true =>
      rw [hj, cond_true] at h
      obtain rfl := of_decide_eq_true hj
      have hd := (decide_parts (ρ := ρ) h).2.2.2 hp
      rw [BE.den_mk] at hd
      obtain rfl := hv.int_inv
      obtain rfl := hv'.int_inv
      cases hdd : q.desc <;> rw [hdd] at hok <;> first | (simp at hok; done) | skip
      refine ⟨fun _ => ?_, fun h => by simp [wideD] at h, fun hb => ?_⟩
      · simp [Instr.sameNow, ← hd, Cm.run]
      · rw [hb] at hd
        have : x.den ρ = y.den ρ := by simpa [Cm.run] using hd
        simp [Instr.sameBits, this]
  · rename_i x y
    obtain ⟨_, _, _, he⟩ := eqCells_run (ρ := ρ) (σ := σ) (ks := [none]) rfl rfl h (.cons hv .nil) (.cons hv' .nil)
    have he := he hp
    obtain rfl := hv.bool_inv
    obtain rfl := hv'.bool_inv
    simp only [eqVals, Bool.and_true] at he
    cases hdd : q.desc <;> rw [hdd] at hok <;> first | (simp at hok; done) | skip
    refine ⟨fun _ => ?_, fun h => by simp [wideD] at h, fun hb => ?_⟩
    · simp [Instr.sameNow, he]
    · rw [hb] at he
      have : x.den ρ = y.den ρ := by simpa using he
      simp [Instr.sameBits, this]
  · rename_i x y
    cases h
    obtain rfl := hv.raw_inv
    obtain rfl := hv'.raw_inv
    cases hdd : q.desc <;> rw [hdd] at hok <;> first | (simp at hok; done) | skip
    refine ⟨fun _ => by simp [Instr.sameNow], fun h => by simp [wideD] at h, fun hb => ?_⟩
    have : x = y := (MapKept.bytes_beq x y).1 hb
    subst this
    simpa [Instr.sameBits] using hb
  · rename_i x y
    split at h
    · rename_i ks hks
      cases hs : (shapeC ks x && shapeC ks y) with
      | false => rw [hs, cond_false] at h; cases h
      | true =>
        rw [hs, cond_true] at h
        simp only [Bool.and_eq_true] at hs
        obtain ⟨cs, rfl, hx⟩ := hv.agg_inv
        obtain ⟨cs', rfl, hy⟩ := hv'.agg_inv
        obtain ⟨_, _, _, he⟩ := eqCells_run (ρ := ρ) (σ := σ) hs.1 hs.2 h hx hy
        have he := he hp
        have sx := shapeC_run hs.1 hx
        have sy := shapeC_run hs.2 hy
        have hE := (hC.eq _ _ hks cs cs' w sx sy).2
        rw [he] at hE
        have hw : wideD q.desc = true := by
          cases hdd : q.desc <;> rw [hdd] at hok <;> first | rfl | (simp at hok; done)
        refine { now := fun h => absurd h (by rw [hw]; simp), wide := fun _ => ⟨?_, hE⟩, bits := fun hb => ?_ }
        · cases hdd : q.desc <;> rw [hdd] at hw <;> first | rfl | cases hw
        · rw [hb] at he
          obtain ⟨b1, b2⟩ := bits_eq sx sy he
          show Instr.sameBits (9999 + 1) (.agg cs') (.agg cs) = true
          simp only [Instr.sameBits, b2 9999, Bool.and_true]
          simp only [Array.length_toList] at b1
          simp [b1]
    · cases h
  · cases h
theorem findE_frm {kt : TypeId} {key : CV} : ∀ {es : List (CV × CV)} {i : Nat} {s s1 : St} {res : Option (Nat × CV)}, findE C kt key es i s = some (res, s1) → s1.next = s.next ∧ s1.heap = s.heap ∧ ∃ l, s1.pc = l ++ s.pc
  | [], i, s, s1, res, h => by simp only [findE] at h; cases h; exact ⟨rfl, rfl, [], rfl⟩
  | (k, v) :: es, i, s, s1, res, h => by
    simp only [findE] at h
    split at h
    · rename_i s2 h2; cases h; exact keyE_frm h2
    · rename_i s2 h2
      obtain ⟨a1, a2, l1, a3⟩ := keyE_frm h2
      obtain ⟨b1, b2, l2, b3⟩ := findE_frm h
      exact ⟨b1.trans a1, b2.trans a2, l2 ++ l1, by rw [b3, a3, List.append_assoc]⟩
    · cases h
/-- What was found, in both memories. -/
def Found (ρ : Env) (σ : Mp) (kv : Value) (i : Nat) (ents : List MapEntry) : Option (Nat × CV) → Option (Nat × Value) → Prop
  | none, r => r = none
  | some (n, c), r => ∃ e, i ≤ n ∧ ents[n - i]? = some e ∧ r = some (n, e.val) ∧ VR ρ σ c e.val ∧ Instr.sameBits 10000 e.key kv = true
theorem Found.shift {kv : Value} {i : Nat} {e : MapEntry} {ents : List MapEntry} {res : Option (Nat × CV)} {r : Option (Nat × Value)} (h : Found ρ σ kv (i + 1) ents res r) : Found ρ σ kv i (e :: ents) res r := by
  cases res with
  | none => exact h
  | some x =>
    obtain ⟨n, c⟩ := x
    obtain ⟨e', h1, h2, h3⟩ := h
    refine ⟨e', by omega, ?_, h3⟩
    rw [show n - i = (n - (i + 1)) + 1 by omega, List.getElem?_cons_succ]
    exact h2
theorem findE_run (hC : CtxOk P C) {kt : TypeId} {q : TyR} {key : CV} {kv : Value} (hq : C.ty kt = some q) (hok : keyOkE C kt key = true) (hv : VR ρ σ key kv) (w : World) : ∀ {es : List (CV × CV)} {ents : List MapEntry} {i : Nat} {s s1 : St} {res : Option (Nat × CV)}, findE C kt key es i s = some (res, s1) → MRl ρ σ es ents → (∀ p ∈ s1.pc, p.holds ρ) →
    ∃ r, ((wideD q.desc = false → Instr.findNow q.desc kv ents i = some r) ∧ (wideD q.desc = true → (Instr.findAsking kt kv ents i).run P w = .ok r w ∧ (ents = [] ∨ Instr.findNow q.desc kv ents i = none))) ∧ Found ρ σ kv i ents res r
  | [], ents, i, s, s1, res, h, hm, _ => by
    simp only [findE] at h
    cases h
    cases hm
    exact ⟨none, ⟨fun _ => rfl, fun _ => ⟨by simp [Instr.findAsking], .inl rfl⟩⟩, rfl⟩
  | (k, c) :: es, ents, i, s, s1, res, h, hm, hp => by
    cases hm with | cons hk hc ht =>
    rename_i e m
    simp only [findE] at h
    split at h
    · rename_i s2 h2
      cases h
      have K := keyE_run hC hq hok h2 hv hk hp w
      refine ⟨some (i, e.val), ⟨fun hw => by simp [Instr.findNow, K.now hw], fun hw => ?_⟩, e, Nat.le_refl _, by simp, rfl, hc, K.bits rfl⟩
      obtain ⟨k1, k2⟩ := K.wide hw
      exact ⟨by simp [Instr.findAsking, k2, Result.andThen], .inr (by simp [Instr.findNow, k1])⟩
    · rename_i s2 h2
      obtain ⟨_, _, l, hl⟩ := findE_frm h
      have K := keyE_run hC hq hok h2 hv hk (fun p hp' => hp p (by rw [hl]; simp [hp'])) w
      obtain ⟨r, ⟨r1, r2⟩, r3⟩ := findE_run hC hq hok hv w h ht hp
      refine ⟨r, ⟨fun hw => by simp [Instr.findNow, K.now hw, r1 hw], fun hw => ?_⟩, r3.shift⟩
      obtain ⟨k1, k2⟩ := K.wide hw
      exact ⟨by simp [Instr.findAsking, k2, Result.andThen, (r2 hw).1], .inr (by simp [Instr.findNow, k1])⟩
    · cases h
theorem find_run (hC : CtxOk P C) {kt : TypeId} {q : TyR} {key : CV} {kv : Value} (hq : C.ty kt = some q) (hok : keyOkE C kt key = true) (hv : VR ρ σ key kv) (w : World) {es : List (CV × CV)} {ents : List MapEntry} {s s1 : St} {res : Option (Nat × CV)} (h : findE C kt key es 0 s = some (res, s1)) (hm : MRl ρ σ es ents) (hp : ∀ p ∈ s1.pc, p.holds ρ) :
    ∃ r, (Instr.findKey kt kv ents).run P w = .ok r w ∧ Found ρ σ kv 0 ents res r := by
  obtain ⟨r, ⟨r1, r2⟩, r3⟩ := findE_run hC hq hok hv w h hm hp
  refine ⟨r, ?_, r3⟩
  have hu := (hC.ty _ _ hq).under w
  simp only [Instr.findKey, Sem.run_bind, hu, Result.andThen]
  cases hw : wideD q.desc with
  | false => rw [r1 hw]; rfl
  | true =>
    obtain ⟨a1, a2⟩ := r2 hw
    rcases a2 with rfl | a2
    · have : r = none := by
        simp only [Instr.findAsking, Sem.run_pure] at a1
        injection a1 with a1 _
        exact a1.symm
      rw [this]; rfl
    · rw [a2]; exact a1
theorem checkKey_run (hC : CtxOk P C) {kt : TypeId} {q : TyR} {key : CV} {kv : Value} (hq : C.ty kt = some q) (hok : keyOkE C kt key = true) (hv : VR ρ σ key kv) (em : Bool) (w : World) : (Instr.checkKey em 10000 kt kv).run P w = .ok () w := by
  have hu := (hC.ty _ _ hq).1
  unfold keyOkE at hok
  rw [hq] at hok
  simp only at hok
  split at hok
  · rename_i hd
    obtain rfl := hv.int_inv
    have hkk := of_decide_eq_true hok
    exact MapKept.run_checkKey hu (by rw [hd]; simp [MapKept.IsKey, hkk]) em 9999
  · rename_i hd
    obtain rfl := hv.bool_inv
    exact MapKept.run_checkKey hu (by rw [hd]; simp [MapKept.IsKey]) em 9999
  · rename_i hd
    obtain rfl := hv.raw_inv
    exact MapKept.run_checkKey hu (by rw [hd]; simp [MapKept.IsKey]) em 9999
  · rename_i hd
    split at hok
    · rename_i ks hks
      obtain ⟨cs, rfl, hx⟩ := hv.agg_inv
      exact hC.key _ _ hks cs em w (shapeC_run hok hx)
    · cases hok
  · rename_i hd
    split at hok
    · rename_i ks hks
      obtain ⟨cs, rfl, hx⟩ := hv.agg_inv
      exact hC.key _ _ hks cs em w (shapeC_run hok hx)
    · cases hok
  · cases hok
theorem keyOk_ty {kt : TypeId} {key : CV} (h : keyOkE C kt key = true) : ∃ q, C.ty kt = some q := by
  unfold keyOkE at h
  split at h
  · exact ⟨_, ‹_›⟩
  · cases h
theorem MRl.set {l : List (CV × CV)} {m : List MapEntry} (h : MRl ρ σ l m) {n : Nat} {k v : CV} {e : MapEntry} (hk : VR ρ σ k e.key) (hv : VR ρ σ v e.val) : MRl ρ σ (l.set n (k, v)) (m.set n e) := by
  induction h generalizing n with
  | nil => cases n <;> exact .nil
  | cons h1 h2 t ih =>
    cases n with
    | zero => exact .cons hk hv t
    | succ n => exact .cons h1 h2 ih
theorem MRl.append {l l' : List (CV × CV)} {m m' : List MapEntry} (h : MRl ρ σ l m) (h' : MRl ρ σ l' m') : MRl ρ σ (l ++ l') (m ++ m') := by
  induction h with
  | nil => exact h'
  | cons h1 h2 _ ih => exact .cons h1 h2 ih
theorem MRl.get {l : List (CV × CV)} {m : List MapEntry} (h : MRl ρ σ l m) {n : Nat} {k v : CV} (hn : l[n]? = some (k, v)) : ∃ e, m[n]? = some e ∧ VR ρ σ k e.key ∧ VR ρ σ v e.val := by
  induction h generalizing n with
  | nil => simp at hn
  | cons h1 h2 t ih =>
    cases n with
    | zero => simp at hn; obtain ⟨rfl, rfl⟩ := hn; exact ⟨_, by simp, h1, h2⟩
    | succ n => obtain ⟨e, q⟩ := ih (n := n) (by simpa using hn); exact ⟨e, by simpa using q⟩
theorem modify_list (a : Array MapEntry) (n : Nat) (f : MapEntry → MapEntry) (e : MapEntry) (h : a[n]? = some e) : (a.modify n f).toList = a.toList.set n (f e) := by
  apply List.ext_getElem?
  intro i
  rw [Array.getElem?_toList, Array.getElem?_modify, List.getElem?_set]
  by_cases hi : n = i
  · subst hi
    obtain ⟨hlt, he⟩ := Array.getElem?_eq_some_iff.1 h
    simp [h, hlt, he]
  · simp [hi]
theorem setMap_run {w : World} {g : Nat} {es : Array MapEntry} {clock : Nat} (o : Obj) (h : w.heap[g]? = some (.map es clock)) : (setObj g o).run P w = .ok () (w.putObj g o) := by
  simp [setObj, Sem.run, h, World.putObj]
theorem XR.map_inv {g : Nat} {l : List (CV × CV)} (h : XR ρ σ w g (.map l)) : ∃ ents : Array MapEntry, w.heap[g]? = some (.map ents ents.size) ∧ (∀ (i : Nat) (e : MapEntry), ents[i]? = some e → e.born = i) ∧ MRl ρ σ l ents.toList := by
  cases h with
  | map ents h hb hm => exact ⟨ents, h, hb, hm⟩
theorem stays_run {old new : Value} (h : Instr.sameBits 10000 old new = true) (w : World) : (Instr.keyThatStays old new).run P w = .ok new w := by
  simp [Instr.keyThatStays, h]
theorem sound_makeMap {t : TypeId} {x : Option Operand} (hop : o.op = .makeMap t x) (h : opE C T s o = some r) (I : Inp P C ρ σ cur s T a w o r) : Gives P o a w (Post ρ σ cur s.next w r.val r.s r.W) := by
  unfold opE at h
  rw [hop] at h
  simp only [opMakeMap] at h
  split at h
  · cases h
    have hσ := I.N s.next (Nat.le_refl _) (by simp [St.newX])
    obtain ⟨h1, h2, h3, h4⟩ := newX_run (x := .map []) (o := .map #[] 0) I.H hσ (.map #[] (alloc_new _ _) (fun i e h => by simp at h) .nil)
    exact ⟨.map (some w.heap.size), w.alloc (.map #[] 0), .inl (by simp [execOp, hop, Instr.makeMap, Result.andThen, run_newObj_alloc]), _, h2, VR.map (l := ⟨w.heap.size, 0, 0, 0⟩) (if_pos rfl), h1, h3, h4⟩
  · cases h
theorem sound_lookup {t : TypeId} {x i : Operand} {ok : Bool} (hop : o.op = .lookup t x i ok) (h : opE C T s o = some r) (I : Inp P C ρ σ cur s T a w o r) : Gives P o a w (Post ρ σ cur s.next w r.val r.s r.W) := by
  have mx : x ∈ o.op.operands.toList := by rw [hop]; simp [Op.operands]
  have mi : i ∈ o.op.operands.toList := by rw [hop]; simp [Op.operands]
  unfold opE at h
  rw [hop] at h
  simp only [opLookup] at h
  split at h
  · rename_i q y key hq h1 h2
    have hu := (I.ok.ty _ _ hq).under w
    split at h
    · rename_i kt e hd
      rw [hd] at hu
      cases hok : keyOkE C kt key with
      | false => rw [hok, cond_false] at h; cases h
      | true =>
        rw [hok, cond_true] at h
        obtain ⟨qk, hqk⟩ := keyOk_ty hok
        have hkv := I.T.ev mi h2
        split at h
        · rename_i z hz
          obtain ⟨zv, hzr, hzv⟩ := I.ok.zv _ _ hz
          split at h
          · rename_i b
            obtain ⟨l, hl, hxv⟩ := (I.T.ev mx h1).map_inv
            split at h
            · rename_i es hes
              obtain ⟨k, hk, hkx, hlt⟩ := getX_parts hes
              have fin : ∀ (res : Option (Nat × CV)) (s' : St), findE C kt key es 0 s = some (res, s') → (∀ p ∈ s'.pc, p.holds ρ) → cur b = s.heap.get b →
                  ∃ rr : Option (Nat × Value), (Instr.lookup t (.map (some l.blk)) (a.eval i) ok).run P w = .ok (match rr with | some (_, v) => if ok then .tuple #[v, .bool true] else v | none => if ok then .tuple #[zv, .bool false] else zv) w ∧ ∃ ents, Found ρ σ (a.eval i) 0 ents res rr := by
                intro res s' hf hp hb
                obtain ⟨ents, e1, e2, e3⟩ := (I.H.spec b k _ l (hb.trans hk) hkx hl).map_inv
                obtain ⟨rr, f1, f2⟩ := find_run I.ok hqk hok hkv w hf e3 hp
                refine ⟨rr, ?_, _, f2⟩
                have hg := MapKept.run_getObj_map (P := P) e1
                have hck := checkKey_run I.ok hqk hok hkv ents.isEmpty w
                simp only [Instr.lookup, Sem.run_bind, hu, Result.andThen, hg, Sem.run_pure, hck, f1]
                cases rr with
                | none => simp [hzr w, Result.andThen]
                | some p => simp [Result.andThen]
              split at h
              · rename_i n v s' hf
                cases h
                obtain ⟨hn, _, _⟩ := findE_frm hf
                obtain ⟨rr, hr, ents, e, _, _, rfl, hv, _⟩ := fin _ _ hf I.pc (I.A b (.inl (by simp)))
                cases ok with
                | true => exact gives_pure (R := [b]) hn I.H (v := .tuple #[e.val, .bool true]) (by simp [execOp, hop, hxv, hr]) (.tup (.cons hv (.cons (.bool (.c true)) .nil)))
                | false => exact gives_pure (R := [b]) hn I.H (v := e.val) (by simp [execOp, hop, hxv, hr]) hv
              · rename_i s' hf
                cases h
                obtain ⟨hn, _, _⟩ := findE_frm hf
                obtain ⟨rr, hr, ents, rfl⟩ := fin _ _ hf I.pc (I.A b (.inl (by simp)))
                cases ok with
                | true => exact gives_pure (R := [b]) hn I.H (v := .tuple #[zv, .bool false]) (by simp [execOp, hop, hxv, hr]) (.tup (.cons (hzv _ _) (.cons (.bool (.c false)) .nil)))
                | false => exact gives_pure (R := [b]) hn I.H (v := zv) (by simp [execOp, hop, hxv, hr]) (hzv _ _)
              · cases h
            · cases h
          · cases h
        · cases h
    · cases h
  · cases h
/-- A map's entries become others. -/
theorem map_put {b : Nat} {l : Loc} {es es' : List (CV × CV)} {ents ents' : Array MapEntry} {c : CV} {v : Value} {s' : St} (hH : HR ρ σ cur w) (hes : s.getX b = some (.map es)) (hb : cur b = s.heap.get b) (hl : σ b = some l) (hn : s'.next = s.next) (hh : s'.heap = s.heap)
    (he : w.heap[l.blk]? = some (.map ents ents.size)) (hs : ∀ (i : Nat) (e : MapEntry), ents'[i]? = some e → e.born = i) (hm : MRl ρ σ es' ents'.toList) (hv : VR ρ σ c v) :
    Post ρ σ cur s.next w c (s'.setX b (.map es')) [b] v (w.putObj l.blk (.map ents' ents'.size)) := by
  have hlt := (Array.getElem?_eq_some_iff.1 he).1
  obtain ⟨h1, h2⟩ := setX_run (s := s') (y := .map es') (o := .map ents' ents'.size) hH hes hb hl (.map ents' (World.putObj_heap_same hlt) hs hm) (fun r hr => by rw [he] at hr; cases hr)
  have hnx : (s'.setX b (.map es')).next = s.next := hn
  refine ⟨σ, Ext.refl _ _ _, hv, ?_, ?_, ?_⟩
  · rw [hnx, ← hn]; exact h1
  · rw [← hn]; exact h2
  · rw [hnx]; exact Fresh.none _ _ _ _ _ _
theorem found_entry {key : CV} {kv : Value} {n : Nat} {v : CV} {es : List (CV × CV)} {ents : Array MapEntry} {rr : Option (Nat × Value)} (hs : ∀ (i : Nat) (e : MapEntry), ents[i]? = some e → e.born = i) (hm : MRl ρ σ es ents.toList) (hkv : VR ρ σ key kv) (hf : Found ρ σ kv 0 ents.toList (some (n, v)) rr) :
    ∃ e : MapEntry, ents[n]? = some e ∧ rr = some (n, e.val) ∧ VR ρ σ v e.val ∧ Instr.sameBits 10000 e.key kv = true ∧ e.born = n ∧ ∀ (f : MapEntry → MapEntry) (c : CV), f e = { key := kv, val := (f e).val, born := n } → VR ρ σ c (f e).val →
      (∀ (i : Nat) (e' : MapEntry), (ents.modify n f)[i]? = some e' → e'.born = i) ∧ MRl ρ σ (es.set n (key, c)) (ents.modify n f).toList ∧ (ents.modify n f).size = ents.size := by
  obtain ⟨e, _, h1, h2, h3, h4⟩ := hf
  rw [Nat.sub_zero, Array.getElem?_toList] at h1
  refine ⟨e, h1, h2, h3, h4, hs n e h1, fun f c hfe hc => ⟨fun i e' hi => ?_, ?_, by simp⟩⟩
  · rw [Array.getElem?_modify] at hi
    by_cases hni : n = i
    · subst hni
      rw [if_pos rfl, h1] at hi
      simp only [Option.map_some, Option.some.injEq] at hi
      rw [← hi, hfe]
    · rw [if_neg hni] at hi; exact hs i e' hi
  · rw [modify_list ents n f e h1]
    refine hm.set ?_ hc
    rw [hfe]; exact hkv
theorem push_entry {key c : CV} {kv cv : Value} {es : List (CV × CV)} {ents : Array MapEntry} (hs : ∀ (i : Nat) (e : MapEntry), ents[i]? = some e → e.born = i) (hm : MRl ρ σ es ents.toList) (hkv : VR ρ σ key kv) (hc : VR ρ σ c cv) :
    (∀ (i : Nat) (e : MapEntry), (ents.push { key := kv, val := cv, born := ents.size })[i]? = some e → e.born = i) ∧ MRl ρ σ (es ++ [(key, c)]) (ents.push { key := kv, val := cv, born := ents.size }).toList := by
  refine ⟨fun i e h => ?_, ?_⟩
  · rw [Array.getElem?_push] at h
    split at h
    · rename_i hi
      cases h
      exact hi.symm
    · exact hs i e h
  · rw [Array.toList_push]
    exact hm.append (.cons hkv hc .nil)
theorem sound_mapUpdate {t : TypeId} {x i y : Operand} (hop : o.op = .mapUpdate t x i y ∨ o.op = .insert t x i y) (h : opE C T s o = some r) (I : Inp P C ρ σ cur s T a w o r) : Gives P o a w (Post ρ σ cur s.next w r.val r.s r.W) := by
  have mx : x ∈ o.op.operands.toList := by rcases hop with e | e <;> rw [e] <;> simp [Op.operands]
  have mi : i ∈ o.op.operands.toList := by rcases hop with e | e <;> rw [e] <;> simp [Op.operands]
  have my : y ∈ o.op.operands.toList := by rcases hop with e | e <;> rw [e] <;> simp [Op.operands]
  have h' : opMapUpdate C T s t x i y = some r := by rcases hop with e | e <;> (unfold opE at h; rw [e] at h; exact h)
  have hex : ∀ w', (Instr.mapUpdate t (a.eval x) (a.eval i) (a.eval y)).run P w = .ok () w' → (execOp a.eval o).run P w = .ok .skip w' := fun w' hr => by
    rcases hop with e | e <;> simp [execOp, e, hr]
  clear h
  simp only [opMapUpdate] at h'
  split at h'
  · rename_i q b key c hq h1 h2 h3
    have hu := (I.ok.ty _ _ hq).under w
    split at h'
    · rename_i kt e hd
      rw [hd] at hu
      cases hok : keyOkE C kt key with
      | false => rw [hok, cond_false] at h'; cases h'
      | true =>
        rw [hok, cond_true] at h'
        obtain ⟨qk, hqk⟩ := keyOk_ty hok
        have hkv := I.T.ev mi h2
        have hcv := I.T.ev my h3
        obtain ⟨l, hl, hxv⟩ := (I.T.ev mx h1).map_inv
        split at h'
        · rename_i es hes
          obtain ⟨k, hk, hkx, hlt⟩ := getX_parts hes
          split at h'
          · rename_i n v s' hf
            cases h'
            obtain ⟨hn, hh, _⟩ := findE_frm hf
            have hb := I.A b (.inl (by simp))
            obtain ⟨ents, e1, e2, e3⟩ := (I.H.spec b k _ l (hb.trans hk) hkx hl).map_inv
            obtain ⟨rr, f1, f2⟩ := find_run I.ok hqk hok hkv w hf e3 I.pc
            obtain ⟨e0, g1, rfl, g3, g4, g5, g6⟩ := found_entry e2 e3 hkv f2
            obtain ⟨m1, m2, m3⟩ := g6 (fun e => { e with key := a.eval i, val := a.eval y }) c (by simp [g5]) hcv
            refine ⟨Go.undef, _, .inr ⟨hex _ ?_, rfl⟩, map_put (ents' := ents.modify n fun e => { e with key := a.eval i, val := a.eval y }) I.H hes hb hl hn hh e1 m1 m2 (VR.undef _ _)⟩
            have hg := MapKept.run_getObj_map (P := P) e1
            have hck := checkKey_run I.ok hqk hok hkv false w
            have hst := stays_run (P := P) g4 w
            rw [hxv]
            simp only [Instr.mapUpdate, Sem.run_bind, hu, Result.andThen, hg, hck, f1, g1, Option.map_some, Option.getD_some, hst, setMap_run _ e1, m3]
          · rename_i s' hf
            cases h'
            obtain ⟨hn, hh, _⟩ := findE_frm hf
            have hb := I.A b (.inl (by simp))
            obtain ⟨ents, e1, e2, e3⟩ := (I.H.spec b k _ l (hb.trans hk) hkx hl).map_inv
            obtain ⟨rr, f1, rfl⟩ := find_run I.ok hqk hok hkv w hf e3 I.pc
            obtain ⟨m1, m2⟩ := push_entry e2 e3 hkv hcv
            refine ⟨Go.undef, _, .inr ⟨hex _ ?_, rfl⟩, map_put (ents' := ents.push { key := a.eval i, val := a.eval y, born := ents.size }) I.H hes hb hl hn hh e1 m1 m2 (VR.undef _ _)⟩
            have hg := MapKept.run_getObj_map (P := P) e1
            have hck := checkKey_run I.ok hqk hok hkv false w
            rw [hxv]
            simp only [Instr.mapUpdate, Sem.run_bind, hu, Result.andThen, hg, hck, f1, setMap_run _ e1, Array.size_push]
          · cases h'
        · cases h'
    · cases h'
  · cases h'
theorem sound_mapEntry {t : TypeId} {x i : Operand} (hop : o.op = .mapEntry t x i) (h : opE C T s o = some r) (I : Inp P C ρ σ cur s T a w o r) : Gives P o a w (Post ρ σ cur s.next w r.val r.s r.W) := by
  have mx : x ∈ o.op.operands.toList := by rw [hop]; simp [Op.operands]
  have mi : i ∈ o.op.operands.toList := by rw [hop]; simp [Op.operands]
  unfold opE at h
  rw [hop] at h
  simp only [opMapEntry] at h
  split at h
  · rename_i q b key hq h1 h2
    have hu := (I.ok.ty _ _ hq).under w
    split at h
    · rename_i kt e hd
      rw [hd] at hu
      cases hok : keyOkE C kt key with
      | false => rw [hok, cond_false] at h; cases h
      | true =>
        rw [hok, cond_true] at h
        obtain ⟨qk, hqk⟩ := keyOk_ty hok
        have hkv := I.T.ev mi h2
        obtain ⟨l, hl, hxv⟩ := (I.T.ev mx h1).map_inv
        split at h
        · rename_i z es hz hes
          obtain ⟨zv, hzr, hzv⟩ := I.ok.zv _ _ hz
          obtain ⟨k, hk, hkx, hlt⟩ := getX_parts hes
          split at h
          · rename_i n v s' hf
            cases h
            obtain ⟨hn, hh, _⟩ := findE_frm hf
            have hb := I.A b (.inl (by simp))
            obtain ⟨ents, e1, e2, e3⟩ := (I.H.spec b k _ l (hb.trans hk) hkx hl).map_inv
            obtain ⟨rr, f1, f2⟩ := find_run I.ok hqk hok hkv w hf e3 I.pc
            obtain ⟨e0, g1, rfl, g3, g4, g5, g6⟩ := found_entry e2 e3 hkv f2
            obtain ⟨m1, m2, m3⟩ := g6 (fun e => { e with key := a.eval i }) v (by simp [g5]) g3
            refine ⟨.tuple #[e0.val, .int .i64 (n : Int)], _, .inl ?_, map_put (ents' := ents.modify n fun e => { e with key := a.eval i }) I.H hes hb hl hn hh e1 m1 m2 (.tup (.cons g3 (.cons (.int .i64 (.c n)) .nil)))⟩
            have hg := MapKept.run_getObj_map (P := P) e1
            have hck := checkKey_run I.ok hqk hok hkv false w
            have hst := stays_run (P := P) g4 w
            simp only [execOp, hop, hxv, Instr.mapEntry, Sem.run_bind, hu, Result.andThen, hg, hck, f1, g1, Option.map_some, Option.getD_some, hst, setMap_run _ e1, m3, Sem.run_pure, goInt, g5]
          · rename_i s' hf
            cases h
            obtain ⟨hn, hh, _⟩ := findE_frm hf
            have hb := I.A b (.inl (by simp))
            obtain ⟨ents, e1, e2, e3⟩ := (I.H.spec b k _ l (hb.trans hk) hkx hl).map_inv
            obtain ⟨rr, f1, rfl⟩ := find_run I.ok hqk hok hkv w hf e3 I.pc
            obtain ⟨m1, m2⟩ := push_entry e2 e3 hkv (hzv ρ σ)
            have hlen : es.length = ents.size := by have := e3.length; simp at this; omega
            refine ⟨.tuple #[zv, .int .i64 (es.length : Int)], _, .inl ?_, map_put (ents' := ents.push { key := a.eval i, val := zv, born := ents.size }) I.H hes hb hl hn hh e1 m1 m2 (.tup (.cons (hzv _ _) (.cons (.int .i64 (.c es.length)) .nil)))⟩
            have hg := MapKept.run_getObj_map (P := P) e1
            have hck := checkKey_run I.ok hqk hok hkv false w
            simp only [execOp, hop, hxv, Instr.mapEntry, Sem.run_bind, hu, Result.andThen, hg, hck, f1, hzr w, setMap_run _ e1, Array.size_push, Sem.run_pure, goInt, hlen]
          · cases h
        · cases h
    · cases h
  · cases h
theorem sound_entryStore {t : TypeId} {x i y : Operand} (hop : o.op = .entryStore t x i y) (h : opE C T s o = some r) (I : Inp P C ρ σ cur s T a w o r) : Gives P o a w (Post ρ σ cur s.next w r.val r.s r.W) := by
  have mx : x ∈ o.op.operands.toList := by rw [hop]; simp [Op.operands]
  have mi : i ∈ o.op.operands.toList := by rw [hop]; simp [Op.operands]
  have my : y ∈ o.op.operands.toList := by rw [hop]; simp [Op.operands]
  unfold opE at h
  rw [hop] at h
  simp only [opEntryStore] at h
  split at h
  · rename_i b kk n c h1 h2 h3
    have hcv := I.T.ev my h3
    have hiv := (I.T.ev mi h2).int_inv
    simp only [IE.den] at hiv
    obtain ⟨l, hl, hxv⟩ := (I.T.ev mx h1).map_inv
    split at h
    · rename_i es hes
      obtain ⟨k, hk, hkx, hlt⟩ := getX_parts hes
      cases hn0 : decide (0 ≤ n) with
      | false => rw [hn0, cond_false] at h; cases h
      | true =>
        rw [hn0, cond_true] at h
        have hn0 := of_decide_eq_true hn0
        split at h
        · rename_i kc vc hget
          cases h
          have hb := I.A b (.inl (by simp))
          obtain ⟨ents, e1, e2, e3⟩ := (I.H.spec b k _ l (hb.trans hk) hkx hl).map_inv
          obtain ⟨e0, g1, g2, g3⟩ := e3.get hget
          rw [Array.getElem?_toList] at g1
          have hlt2 := (Array.getElem?_eq_some_iff.1 g1).1
          have hidx : ents.findIdx? (fun e => (e.born : Int) == n) = some n.toNat := by
            rw [Array.findIdx?_eq_some_iff_getElem]
            refine ⟨hlt2, ?_, fun j hj => ?_⟩
            · have := e2 n.toNat _ (Array.getElem?_eq_getElem hlt2)
              rw [this]; simp; omega
            · have := e2 j _ (Array.getElem?_eq_getElem (by omega))
              rw [this]; simp; omega
          have m1 : ∀ (i : Nat) (e : MapEntry), (ents.modify n.toNat fun e => { e with val := a.eval y })[i]? = some e → e.born = i := by
            intro j e' hj
            rw [Array.getElem?_modify] at hj
            by_cases hni : n.toNat = j
            · subst hni
              rw [if_pos rfl, g1] at hj
              simp only [Option.map_some, Option.some.injEq] at hj
              rw [← hj]; exact e2 n.toNat e0 g1
            · rw [if_neg hni] at hj; exact e2 j e' hj
          have m2 : MRl ρ σ (es.set n.toNat (kc, c)) (ents.modify n.toNat fun e => { e with val := a.eval y }).toList := by
            rw [modify_list ents _ _ e0 g1]
            exact e3.set g2 hcv
          refine ⟨Go.undef, _, .inr ⟨?_, rfl⟩, map_put (ents' := ents.modify n.toNat fun e => { e with val := a.eval y }) I.H hes hb hl rfl rfl e1 m1 m2 (VR.undef _ _)⟩
          have hg := MapKept.run_getObj_map (P := P) e1
          simp only [execOp, hop, hxv, hiv, Instr.entryStore, Sem.run_bind, Result.andThen, hg, asInt, asIntOf, Sem.run_pure, pure_bind, hidx, setMap_run _ e1, Array.size_modify]
        · cases h
    · cases h
  · cases h
end
end Go.Proofs.Ytjdldcmcjaaibaa.Cx
