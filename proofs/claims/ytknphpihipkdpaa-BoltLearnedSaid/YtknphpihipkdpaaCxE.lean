/- One operation that calls no Go function: what the evaluator says of it holds of every real world that its canonical memory stands for. -/
import Derived.Test.YtknphpihipkdpaaCxD
set_option linter.unusedSimpArgs false
set_option linter.unusedVariables false
namespace Go.Proofs.Ytknphpihipkdpaa.Cx
open Go Go.RowKit

/-- An operation yields a value, or nothing, and a world of which this holds. -/
def Gives (P : Program) (o : Oper) (a : Act) (w : World) (R : Value → World → Prop) : Prop :=
  ∃ v w', ((execOp a.eval o).run P w = .ok (.value v) w' ∨ ((execOp a.eval o).run P w = .ok .skip w' ∧ v = Go.undef)) ∧ R v w'

/-- Real cells of these kinds. -/
def ShapeV : List (Option IntKind) → List Value → Prop
  | [], [] => True
  | none :: ks, .bool _ :: l => ShapeV ks l
  | some k :: ks, .int k' _ :: l => k = k' ∧ ShapeV ks l
  | _, _ => False

def eqVals : List Value → List Value → Bool
  | .int _ a :: l, .int _ b :: m => (a == b) && eqVals l m
  | .bool a :: l, .bool b :: m => (a == b) && eqVals l m
  | _, _ => true

theorem shapeC_run {ρ : Env} {σ : Mp} : ∀ {ks : List (Option IntKind)} {l : List CV} {m : List Value}, shapeC ks l = true → VRl ρ σ l m → ShapeV ks m
  | [], [], _, _, .nil => trivial
  | none :: ks, .bool _ :: l, _, h, .cons h1 h2 => by
    cases h1
    simp only [shapeC] at h
    exact shapeC_run (ks := ks) (l := l) h h2
  | some k :: ks, .int k' _ :: l, _, h, .cons h1 h2 => by
    cases h1
    simp only [shapeC, Bool.and_eq_true, decide_eq_true_eq] at h
    exact ⟨h.1, shapeC_run (ks := ks) (l := l) h.2 h2⟩

/-- A type whose == compares cell by cell. -/
def EqOk (P : Program) (t : Nat) (ks : List (Option IntKind)) : Prop :=
  ∀ (x y : Array Value) (w : World), ShapeV ks x.toList → ShapeV ks y.toList →
    (∀ op u v, (eqGuard op t u v (.agg x) (.agg y)).run P w = .ok () w) ∧ (Op.equal t (.agg x) (.agg y)).run P w = .ok (eqVals x.toList y.toList) w

structure CtxOk (P : Program) (C : Ctx) : Prop where
  ty : ∀ t r, C.ty t = some r → TyOk P t r
  eq : ∀ t ks, C.eq t = some ks → EqOk P t ks
  zv : ∀ t c, C.zv t = some c → ∃ z, (∀ w, (zeroValue t).run P w = .ok z w) ∧ ∀ ρ σ, VR ρ σ c z
  key : ∀ t ks, C.eq t = some ks → ∀ (x : Array Value) (em : Bool) (w : World), ShapeV ks x.toList → (Instr.checkKey em 10000 t (.agg x)).run P w = .ok () w

structure Inp (P : Program) (C : Ctx) (ρ : Env) (σ : Mp) (cur : Cur) (s : St) (T : Tr CV) (a : Act) (w : World) (o : Oper) (r : OR) : Prop where
  ok : CtxOk P C
  pc : ∀ p ∈ r.s.pc, p.holds ρ
  T : Reads ρ σ T a o.op.operands.toList
  H : HR ρ σ cur w
  A : ∀ b, b ∈ r.R ∨ b ∈ r.W → cur b = s.heap.get b
  N : ∀ b, s.next ≤ b → b < r.s.next → σ b = none

section
variable {P : Program} {C : Ctx} {ρ : Env} {σ : Mp} {cur : Cur} {s : St} {T : Tr CV} {a : Act} {w : World} {o : Oper} {r : OR}

theorem gives_pure {v : Value} {c : CV} {s1 : St} {R : List Nat} (hn : s1.next = s.next) (hH : HR ρ σ cur w) (hr : (execOp a.eval o).run P w = .ok (.value v) w) (hv : VR ρ σ c v) :
    Gives P o a w (Post ρ σ cur s.next w c s1 []) := ⟨v, w, .inl hr, post_pure hn hv hH⟩

theorem ask_parts {s s1 : St} {e : BE} {b : Bool} (h : s.ask e = some (b, s1)) : s1.next = s.next ∧ s1.heap = s.heap ∧ (∃ l, s1.pc = l ++ s.pc) ∧ ((∀ p ∈ s1.pc, p.holds ρ) → e.den ρ = b) := by
  unfold St.ask at h
  split at h
  · rename_i v hv
    cases h
    exact ⟨rfl, rfl, ⟨[], rfl⟩, fun hp => PC.find_holds hv hp⟩
  · split at h
    · cases h
    · cases h; exact ⟨rfl, rfl, ⟨[_], rfl⟩, fun hp => hp (.b e _) (by simp)⟩

theorem decide_parts {s s1 : St} {e : BE} {b : Bool} (h : s.decide e = some (b, s1)) : s1.next = s.next ∧ s1.heap = s.heap ∧ (∃ l, s1.pc = l ++ s.pc) ∧ ((∀ p ∈ s1.pc, p.holds ρ) → e.den ρ = b) := by
  cases e with
  | c x => simp only [St.decide] at h; cases h; exact ⟨rfl, rfl, ⟨[], rfl⟩, fun _ => rfl⟩
  | v i => exact ask_parts h
  | cmp q x y => exact ask_parts h
  | not x =>
    simp only [St.decide] at h
    split at h
    · rename_i v s2 hv
      cases h
      obtain ⟨h1, h2, h3, h4⟩ := ask_parts (ρ := ρ) hv
      exact ⟨h1, h2, h3, fun hp => by simp [BE.den, h4 hp]⟩
    · cases h
  | x y =>
    simp only [St.decide] at h
    split at h
    · cases h
    · cases h; exact ⟨rfl, rfl, ⟨[_], rfl⟩, fun hp => hp (.b (.x y) _) (by simp)⟩

theorem tell_parts {s s1 : St} {e b : BE} (h : s.tell e = some (b, s1)) : s1.next = s.next ∧ s1.heap = s.heap ∧ (∃ l, s1.pc = l ++ s.pc) ∧ ((∀ p ∈ s1.pc, p.holds ρ) → b.den ρ = e.den ρ) := by
  unfold St.tell at h
  split at h
  · split at h
    · rename_i v s2 hd
      cases h
      obtain ⟨h1, h2, h3, h4⟩ := decide_parts (ρ := ρ) hd
      exact ⟨h1, h2, h3, fun hp => (h4 hp).symm⟩
    · cases h
  · cases h; exact ⟨rfl, rfl, ⟨[], rfl⟩, fun _ => rfl⟩

theorem mustE_parts {s s1 : St} {e : BE} (h : s.must e = some s1) : s1.next = s.next ∧ s1.heap = s.heap ∧ (∃ l, s1.pc = l ++ s.pc) ∧ ((∀ p ∈ s1.pc, p.holds ρ) → e.den ρ = true) := by
  have fin : ∀ (h : (match s.decide e with | some (true, s) => some s | _ => none) = some s1), s1.next = s.next ∧ s1.heap = s.heap ∧ (∃ l, s1.pc = l ++ s.pc) ∧ ((∀ p ∈ s1.pc, p.holds ρ) → e.den ρ = true) := fun h => by
    split at h
    · rename_i s2 hd; cases h; exact decide_parts hd
    · cases h
  cases e with
  | c b =>
    simp only [St.must] at h
    cases b with
    | true => rw [cond_true] at h; cases h; exact ⟨rfl, rfl, ⟨[], rfl⟩, fun _ => rfl⟩
    | false => rw [cond_false] at h; cases h
  | x b => exact must_parts h
  | v i => exact fin h
  | cmp q x y => exact fin h
  | not x => exact fin h

theorem conc_parts {s s1 : St} {e : IE} {n : Int} (h : s.conc e = some (n, s1)) : s1.next = s.next ∧ s1.heap = s.heap ∧ (∃ l, s1.pc = l ++ s.pc) ∧ ((∀ p ∈ s1.pc, p.holds ρ) → e.den ρ = n) := by
  have key : ∀ (m : Int), (∀ p ∈ (PC.b (.cmp .eql e (.c m)) true :: s.pc), p.holds ρ) → e.den ρ = m := fun m hp => by
    have := hp (.b (.cmp .eql e (.c m)) true) (by simp)
    simpa [PC.holds, BE.den, Cm.run, IE.den] using this
  have fin : ∀ (h : (match PC.findN e s.pc with
      | some n => some (n, s)
      | none => match s.orc with
        | [] => none
        | n :: t => some ((n : Int), { s with orc := t, pc := .b (.cmp .eql e (.c n)) true :: s.pc })) = some (n, s1)),
      s1.next = s.next ∧ s1.heap = s.heap ∧ (∃ l, s1.pc = l ++ s.pc) ∧ ((∀ p ∈ s1.pc, p.holds ρ) → e.den ρ = n) := fun h => by
    split at h
    · rename_i v hv
      cases h
      exact ⟨rfl, rfl, ⟨[], rfl⟩, fun hp => PC.findN_holds hv hp⟩
    · split at h
      · cases h
      · cases h; exact ⟨rfl, rfl, ⟨[_], rfl⟩, key _⟩
  cases e with
  | c x => simp only [St.conc] at h; cases h; exact ⟨rfl, rfl, ⟨[], rfl⟩, fun _ => rfl⟩
  | v i => exact fin h
  | bin q k x y => exact fin h
  | x y =>
    simp only [St.conc] at h
    split at h
    · cases h
    · rename_i m t _
      cases h
      refine ⟨rfl, rfl, ⟨[_], rfl⟩, fun hp => ?_⟩
      have := hp (.b (.x (decide (y = (m : Int)))) true) (by simp)
      exact of_decide_eq_true this

theorem place_parts {s s1 : St} {x e : IE} {N n : Nat} (h : s.place x e N = some (n, s1)) : s1.next = s.next ∧ s1.heap = s.heap ∧ (∃ l, s1.pc = l ++ s.pc) ∧ ((∀ p ∈ s1.pc, p.holds ρ) → x.den ρ = n ∧ (n : Int) < e.den ρ) ∧ n < N := by
  unfold St.place at h
  split at h
  · rename_i m s2 h2
    cases hb : (decide (0 ≤ m) && Nat.blt m.toNat N) with
    | false => rw [hb, cond_false] at h; cases h
    | true =>
      rw [hb, cond_true] at h
      rw [Bool.and_eq_true] at hb
      have b1 : 0 ≤ m := of_decide_eq_true hb.1
      have b2 : m.toNat < N := Nat.lt_of_succ_le (Nat.le_of_ble_eq_true hb.2)
      split at h
      · rename_i s3 h3
        cases h
        obtain ⟨c1, c2, ⟨l, c3⟩, c4⟩ := conc_parts (ρ := ρ) h2
        obtain ⟨d1, d2, ⟨l', d3⟩, d4⟩ := decide_parts (ρ := ρ) h3
        refine ⟨d1.trans c1, d2.trans c2, ⟨l' ++ l, by rw [d3, c3, List.append_assoc]⟩, fun hp => ?_, b2⟩
        have e1 := c4 fun p hp' => hp p (by rw [d3]; exact List.mem_append_right _ hp')
        have e2 := d4 hp
        rw [BE.den_mk] at e2
        have e3 : m < e.den ρ := of_decide_eq_true e2
        have e4 : (m.toNat : Int) = m := Int.toNat_of_nonneg b1
        rw [e4]
        exact ⟨e1, e3⟩
      · cases h
  · cases h

theorem VR.int_inv {k : IntKind} {e : IE} {v : Value} (h : VR ρ σ (.int k e) v) : v = .int k (e.den ρ) := by cases h; rfl
theorem VR.raw_inv {u v : Value} (h : VR ρ σ (.raw u) v) : v = u := by cases h; rfl
theorem VR.map_inv {b : Nat} {v : Value} (h : VR ρ σ (.map b) v) : ∃ l, σ b = some l ∧ v = .map (some l.blk) := by cases h; exact ⟨_, ‹_›, rfl⟩
theorem VR.yld_inv {b : Nat} {v : Value} (h : VR ρ σ (.yld b) v) : ∃ l, σ b = some l ∧ v = .func (.yield l.blk) #[] #[] := by cases h; exact ⟨_, ‹_›, rfl⟩
theorem VR.bool_inv {e : BE} {v : Value} (h : VR ρ σ (.bool e) v) : v = .bool (e.den ρ) := by cases h; rfl
theorem VR.ptr_inv {b o : Nat} {v : Value} (h : VR ρ σ (.ptr (some (b, o))) v) : ∃ l, σ b = some l ∧ v = .pointer (some ⟨l.blk, l.base + o, none⟩) := by cases h; exact ⟨_, ‹_›, rfl⟩
theorem VR.fn_inv {f : Fn} {x y : List CV} {v : Value} (h : VR ρ σ (.fn f x y) v) : ∃ x' y', v = .func f x' y' ∧ VRl ρ σ x x'.toList ∧ VRl ρ σ y y'.toList := by cases h; exact ⟨_, _, rfl, ‹_›, ‹_›⟩
theorem VR.agg_inv {l : List CV} {v : Value} (h : VR ρ σ (.agg l) v) : ∃ cs, v = .agg cs ∧ VRl ρ σ l cs.toList := by cases h; exact ⟨_, rfl, ‹_›⟩
theorem VR.tup_inv {l : List CV} {v : Value} (h : VR ρ σ (.tup l) v) : ∃ cs, v = .tuple cs ∧ VRl ρ σ l cs.toList := by cases h; exact ⟨_, rfl, ‹_›⟩

theorem mem_l {x : Operand} {l : List Operand} : x ∈ l.toArray.toList ↔ x ∈ l := by simp

/-! Operations, one by one. -/

theorem sound_move {x : Operand} (hop : o.op = .move x ∨ o.op = .assign x) (h : opE C T s o = some r) (I : Inp P C ρ σ cur s T a w o r) : Gives P o a w (Post ρ σ cur s.next w r.val r.s r.W) := by
  have hx : x ∈ o.op.operands.toList := by rcases hop with e | e <;> rw [e] <;> simp [Op.operands]
  have hr : (execOp a.eval o).run P w = .ok (.value (a.eval x)) w := by rcases hop with e | e <;> simp [execOp, e]
  have h' : (match ev T x with | some c => some (⟨c, s, [], []⟩ : OR) | none => none) = some r := by
    rcases hop with e | e <;> (unfold opE at h; rw [e] at h; exact h)
  split at h'
  · rename_i c hc
    cases h'
    exact gives_pure (R := []) rfl I.H hr (I.T.ev hx hc)
  · cases h'

theorem sound_pick {c x y : Operand} (hop : o.op = .pick c x y) (h : opE C T s o = some r) (I : Inp P C ρ σ cur s T a w o r) : Gives P o a w (Post ρ σ cur s.next w r.val r.s r.W) := by
  have hm : ∀ z ∈ [c, x, y], z ∈ o.op.operands.toList := by intro z hz; rw [hop]; simpa [Op.operands] using hz
  unfold opE at h
  rw [hop] at h
  simp only [opPick] at h
  split at h
  · rename_i e cx cy h1 h2 h3
    split at h
    · rename_i t s1 hd
      cases h
      obtain ⟨hn, _, _, hv⟩ := decide_parts (ρ := ρ) hd
      have hv := hv I.pc
      have hc := (I.T.ev (hm c (by simp)) h1).bool_inv
      rw [hv] at hc
      refine gives_pure (R := []) (v := if t then a.eval x else a.eval y) hn I.H ?_ ?_
      · simp [execOp, hop, hc, asBool]
      · cases t
        · exact I.T.ev (hm y (by simp)) h3
        · exact I.T.ev (hm x (by simp)) h2
    · cases h
  · cases h

theorem toA (l : List Value) : l.toArray.toList = l := rfl

theorem sound_alloc {t : TypeId} (hop : o.op = .alloc t) (h : opE C T s o = some r) (I : Inp P C ρ σ cur s T a w o r) : Gives P o a w (Post ρ σ cur s.next w r.val r.s r.W) := by
  unfold opE at h
  rw [hop] at h
  simp only [opAlloc] at h
  split at h
  · rename_i q hq
    cases h
    obtain ⟨z, hz, hz2⟩ := (I.ok.ty _ _ hq).zeroV w
    have hσ := I.N s.next (Nat.le_refl _) (by simp [St.new])
    refine ⟨.pointer (some ⟨w.heap.size, 0, none⟩), w.alloc (.cells z.cells t), .inl ?_, ?_⟩
    · simp [execOp, hop, Instr.alloc, hz, newVar, newRow]
    · have := post_new (s0 := s) (rest := []) (t := t) (e := 0) (K := []) (n := s.next) (c := .ptr (some (s.next, 0))) (v := .pointer (some ⟨w.heap.size, 0, none⟩)) I.H (VRl.ofVals hz2) rfl hσ (fun b hb => by cases hb) (by
        have := VR.ptr (ρ := ρ) (σ := fun b => if b = s.next then some ⟨w.heap.size, 0, (z.cells.toList ++ []).length, 0⟩ else σ b) (b := s.next) (o := 0) (l := ⟨w.heap.size, 0, (z.cells.toList ++ []).length, 0⟩) (if_pos rfl)
        exact this)
      simpa using this
  · cases h

theorem sound_box {t : TypeId} {x : Operand} (hop : o.op = .box t x) (h : opE C T s o = some r) (I : Inp P C ρ σ cur s T a w o r) : Gives P o a w (Post ρ σ cur s.next w r.val r.s r.W) := by
  have hx : x ∈ o.op.operands.toList := by rw [hop]; simp [Op.operands]
  unfold opE at h
  rw [hop] at h
  simp only [opBox] at h
  split at h
  · rename_i c hc
    cases hf : c.fit with
    | false => rw [hf, cond_false] at h; cases h
    | true =>
      rw [hf, cond_true] at h
      cases h
      have hσ := I.N s.next (Nat.le_refl _) (by simp [St.new])
      have hv := (I.T.ev hx hc).cells (fit_raw hf)
      refine ⟨.pointer (some ⟨w.heap.size, 0, none⟩), w.alloc (.cells (a.eval x).cells t), .inl ?_, ?_⟩
      · simp [execOp, hop, Instr.box, newVar, newRow]
      · have := post_new (s0 := s) (rest := []) (t := t) (e := 0) (K := []) (n := s.next) (c := .ptr (some (s.next, 0))) (v := .pointer (some ⟨w.heap.size, 0, none⟩)) I.H hv rfl hσ (fun b hb => by cases hb) (by
          have := VR.ptr (ρ := ρ) (σ := fun b => if b = s.next then some ⟨w.heap.size, 0, ((a.eval x).cells.toList ++ []).length, 0⟩ else σ b) (b := s.next) (o := 0) (l := ⟨w.heap.size, 0, ((a.eval x).cells.toList ++ []).length, 0⟩) (if_pos rfl)
          exact this)
        simpa using this
  · cases h

theorem sound_load {t : TypeId} {x : Operand} (hop : o.op = .load t x) (h : opE C T s o = some r) (I : Inp P C ρ σ cur s T a w o r) : Gives P o a w (Post ρ σ cur s.next w r.val r.s r.W) := by
  have hx : x ∈ o.op.operands.toList := by rw [hop]; simp [Op.operands]
  unfold opE at h
  rw [hop] at h
  simp only [opLoad] at h
  split at h
  · rename_i q b off hq hc
    obtain ⟨l, hl, hv⟩ := (I.T.ev hx hc).ptr_inv
    have hag := (I.ok.ty _ _ hq).isAgg' w
    have hsz := (I.ok.ty _ _ hq).sizeOf' w
    cases hqa : q.agg with
    | true =>
      rw [hqa, cond_true] at h
      split at h
      · rename_i cs hcs
        cases h
        obtain ⟨vs, h1, h2, h3, _⟩ := ld_run (P := P) I.H hcs (I.A b (.inl (by simp))) hl
        refine gives_pure (R := [b]) (v := .agg vs.toArray) rfl I.H ?_ (.agg h2)
        simp [execOp, hop, Instr.loadAt, hv, Instr.sureAddr, loadVar, hag, hqa, hsz, h1]
      · cases h
    | false =>
      rw [hqa, cond_false] at h
      split at h
      · rename_i c hcs
        cases h
        obtain ⟨v, h1, h2⟩ := ld_run1 (P := P) I.H hcs (I.A b (.inl (by simp))) hl
        refine gives_pure (R := [b]) (v := v) rfl I.H ?_ h2
        simp only [execOp, hop, Instr.loadAt, hv, Instr.sureAddr, loadVar, Sem.run_bind, hag, hqa, Result.andThen, Sem.run_pure, Bool.false_eq_true, if_false, h1, pure_bind]
      · cases h
  · rename_i q b z j f hq hc
    obtain ⟨l, hl, hv⟩ := (I.T.ev hx hc).ptx_inv.ptr_inv
    have hag := (I.ok.ty _ _ hq).isAgg' w
    have hsz := (I.ok.ty _ _ hq).sizeOf' w
    cases hqa : q.agg with
    | true =>
      rw [hqa, cond_true] at h
      split at h
      · rename_i cs s1 hcs
        cases h
        obtain ⟨a1, a2, a3, _, a4⟩ := ldx_parts (ρ := ρ) hcs
        obtain ⟨vs, h1, h2, h3, _⟩ := ld_run (P := P) I.H (a4 I.pc) (I.A b (.inl (by simp))) hl
        refine gives_pure (R := [b]) (v := .agg vs.toArray) a1 I.H ?_ (.agg h2)
        simp [execOp, hop, Instr.loadAt, hv, Instr.sureAddr, loadVar, hag, hqa, hsz, h1]
      · cases h
    | false =>
      rw [hqa, cond_false] at h
      split at h
      · rename_i c s1 hcs
        cases h
        obtain ⟨a1, a2, a3, _, a4⟩ := ldx_parts (ρ := ρ) hcs
        obtain ⟨v, h1, h2⟩ := ld_run1 (P := P) I.H (a4 I.pc) (I.A b (.inl (by simp))) hl
        refine gives_pure (R := [b]) (v := v) a1 I.H ?_ h2
        simp only [execOp, hop, Instr.loadAt, hv, Instr.sureAddr, loadVar, Sem.run_bind, hag, hqa, Result.andThen, Sem.run_pure, Bool.false_eq_true, if_false, h1, pure_bind]
      · cases h
  · cases h

theorem IE.num_den {e : IE} {n : Int} (h : e.num = some n) : e.den ρ = n := by
  cases e <;> simp only [IE.num] at h <;> cases h <;> rfl
theorem BE.val_den {e : BE} {n : Bool} (h : e.val = some n) : e.den ρ = n := by
  cases e <;> simp only [BE.val] at h <;> cases h <;> rfl

/-- One of two values. -/
theorem VR.selT {a b : CV} {x : Value} (ha : VR ρ σ a x) (fa : a.flat = true) : VR ρ σ (CV.sel true a b) x := by
  unfold CV.sel
  split
  · rename_i k p k' q
    obtain rfl := ha.int_inv
    cases hk : decide (k = k') with
    | false => rw [cond_false]; exact .junk rfl
    | true =>
      rw [cond_true]
      split
      · rename_i u v h1 h2
        rw [IE.num_den (ρ := ρ) h1]
        exact VR.int (ρ := ρ) (σ := σ) k (.x u)
      · exact .junk rfl
  · rename_i p q
    obtain rfl := ha.bool_inv
    split
    · rename_i u v h1 h2
      rw [BE.val_den (ρ := ρ) h1]
      exact VR.bool (ρ := ρ) (σ := σ) (.x u)
    · exact .junk rfl
  · exact .junk (ha.flat fa)
theorem VR.selF {a b : CV} {x : Value} (hb : VR ρ σ b x) (fb : b.flat = true) : VR ρ σ (CV.sel false a b) x := by
  unfold CV.sel
  split
  · rename_i k p k' q
    obtain rfl := hb.int_inv
    cases hk : decide (k = k') with
    | false => rw [cond_false]; exact .junk rfl
    | true =>
      rw [cond_true]
      obtain rfl := of_decide_eq_true hk
      split
      · rename_i u v h1 h2
        rw [IE.num_den (ρ := ρ) h2]
        exact VR.int (ρ := ρ) (σ := σ) k (.x v)
      · exact .junk rfl
  · rename_i p q
    obtain rfl := hb.bool_inv
    split
    · rename_i u v h1 h2
      rw [BE.val_den (ρ := ρ) h2]
      exact VR.bool (ρ := ρ) (σ := σ) (.x v)
    · exact .junk rfl
  · exact .junk (hb.flat fb)

theorem VRl.selT : ∀ {a b : List CV} {x : List Value}, VRl ρ σ a x → a.length = b.length → a.all CV.flat = true → VRl ρ σ (selRow true a b) x
  | [], [], _, .nil, _, _ => .nil
  | a :: l, b :: m, _, .cons h1 h2, hl, fa => by
    simp only [List.all_cons, Bool.and_eq_true] at fa
    exact .cons (VR.selT h1 fa.1) (VRl.selT h2 (by simpa using hl) fa.2)
theorem VRl.selF : ∀ {a b : List CV} {x : List Value}, VRl ρ σ b x → b.all CV.flat = true → VRl ρ σ (selRow false a b) x
  | [], _, _, h, _ => by simpa [selRow] using h
  | a :: l, b :: m, _, .cons h1 h2, fb => by
    simp only [List.all_cons, Bool.and_eq_true] at fb
    exact .cons (VR.selF h1 fb.1) (VRl.selF h2 fb.2)
  | a :: l, [], _, h, _ => by simpa [selRow] using h

theorem VRl.updF : ∀ {f : Nat} {l r : List CV} {y : List Value}, VRl ρ σ r y → r.all CV.flat = true → VRl ρ σ (updRow false f l r) y
  | f + 1, l, c :: r, _, .cons h t, hf => by
    simp only [List.all_cons, Bool.and_eq_true] at hf
    exact .cons h (VRl.updF t hf.2)
  | 0, x :: l, c :: r, _, .cons h t, hf => by
    simp only [List.all_cons, Bool.and_eq_true] at hf
    exact .cons (VR.selF h hf.1) (VRl.updF t hf.2)
  | f + 1, l, [], _, h, _ => by simpa [updRow] using h
  | 0, [], r, _, h, _ => by cases r <;> simpa [updRow] using h
  | 0, x :: l, [], _, h, _ => by simpa [updRow] using h

theorem VRl.updT : ∀ {f : Nat} {l r : List CV} {x y : List Value}, VRl ρ σ l x → VRl ρ σ r y → f + l.length ≤ r.length → l.all CV.flat = true → r.all CV.flat = true → VRl ρ σ (updRow true f l r) (y.take f ++ x ++ y.drop (f + x.length))
  | f + 1, l, c :: r, x, _, hl, .cons h t, hle, fl, hf => by
    simp only [List.all_cons, Bool.and_eq_true] at hf
    have := VRl.updT (f := f) hl t (by simp only [List.length_cons] at hle; omega) fl hf.2
    rw [updRow, List.take_succ_cons, show f + 1 + x.length = (f + x.length) + 1 by omega, List.drop_succ_cons]
    exact .cons h this
  | 0, a :: l, c :: r, _, _, .cons h1 h2, .cons h t, hle, fl, hf => by
    simp only [List.all_cons, Bool.and_eq_true] at fl hf
    have := VRl.updT (f := 0) h2 t (by simp only [List.length_cons] at hle; omega) fl.2 hf.2
    have hd := VR.selT (b := c) h1 fl.1
    simp only [List.take_zero, List.nil_append, Nat.zero_add] at this ⊢
    rw [updRow]
    exact .cons hd this
  | f + 1, l, [], _, _, hl, h, hle, _, _ => by simp only [List.length_nil] at hle; omega
  | 0, [], r, _, y, .nil, h, _, _, _ => by cases r <;> simpa [updRow] using h
  | 0, a :: l, [], _, _, _, _, hle, _, _ => by simp only [List.length_cons, List.length_nil] at hle; omega

/-- Rows behind a store. -/
theorem rows_upd {row : Nat → List CV} {z j f : Nat} {l : List CV} {x : List Value} (hr : ∀ j, (row j).length = z ∧ (row j).all CV.flat = true) (hl : VRl ρ σ l x) (fl : l.all CV.flat = true) (hf : f + l.length ≤ z) : ∀ (m : Nat) (y : List Value), VRl ρ σ (flatR row m) y →
    VRl ρ σ (flatR (fun i => updRow (Nat.beq i j) f l (row i)) m) (if j < m then y.take (j * z + f) ++ x ++ y.drop (j * z + f + x.length) else y)
  | 0, y, h => by simpa [flatR] using h
  | m + 1, y, h => by
    have hlm := flatR_length (fun j => (hr j).1) m
    have hx := hl.length
    obtain ⟨y1, y2, rfl, h1, h2⟩ : ∃ y1 y2, y = y1 ++ y2 ∧ VRl ρ σ (flatR row m) y1 ∧ VRl ρ σ (row m) y2 := by
      refine ⟨y.take (m * z), y.drop (m * z), (List.take_append_drop _ _).symm, ?_, ?_⟩
      · have := h.take (m * z); rw [flatR, List.take_append_of_le_length (by omega), List.take_of_length_le (by omega)] at this; exact this
      · have := h.drop (m * z); rw [flatR, List.drop_append_of_le_length (by omega), List.drop_of_length_le (by omega), List.nil_append] at this; exact this
    have l1 := h1.length
    have l2 := h2.length
    rw [hlm] at l1
    rw [(hr m).1] at l2
    have ih := rows_upd (j := j) hr hl fl hf m y1 h1
    rw [flatR]
    by_cases hj : j = m
    · subst hj
      rw [if_neg (Nat.lt_irrefl _)] at ih
      rw [if_pos (by omega)]
      have e1 : Nat.beq j j = true := Nat.beq_refl j
      have := VRl.updT (f := f) hl h2 (by rw [(hr j).1]; exact hf) fl (hr j).2
      rw [e1]
      have e2 : (y1 ++ y2).take (j * z + f) ++ x ++ (y1 ++ y2).drop (j * z + f + x.length) = y1 ++ (y2.take f ++ x ++ y2.drop (f + x.length)) := by
        rw [List.take_append, List.drop_append, l1, List.take_of_length_le (by omega), List.drop_of_length_le (by omega), show j * z + f - j * z = f by omega, show j * z + f + x.length - j * z = f + x.length by omega]
        simp
      rw [e2]
      exact ih.append this
    · have e1 : Nat.beq m j = false := by
        cases hb : Nat.beq m j with
        | false => rfl
        | true => exact absurd (Nat.eq_of_beq_eq_true hb).symm hj
      rw [e1]
      have hu := VRl.updF (f := f) (l := l) h2 (hr m).2
      by_cases hlt : j < m
      · rw [if_pos hlt] at ih
        rw [if_pos (by omega)]
        have hle : j * z + f + x.length ≤ m * z := by
          have : (j + 1) * z ≤ m * z := Nat.mul_le_mul_right _ hlt
          rw [Nat.succ_mul] at this; omega
        have e2 : (y1 ++ y2).take (j * z + f) ++ x ++ (y1 ++ y2).drop (j * z + f + x.length) = (y1.take (j * z + f) ++ x ++ y1.drop (j * z + f + x.length)) ++ y2 := by
          rw [List.take_append_of_le_length (by omega), List.drop_append_of_le_length (by omega)]
          simp
        rw [e2]
        exact ih.append hu
      · rw [if_neg hlt] at ih
        rw [if_neg (by omega)]
        exact ih.append hu

theorem stx_parts {s s1 : St} {b z j f : Nat} {l : List CV} (h : s.stx b z j f l = some s1) : ∃ m row hr e x, s.heap.get b = some ⟨.rows m z row hr, e, true, x⟩ ∧ f + l.length ≤ z ∧ l.all CV.flat = true ∧ b < s.next ∧ s1.next = s.next ∧ (∃ l, s1.pc = l ++ s.pc) ∧ ((∀ p ∈ s1.pc, p.holds ρ) → j < m) ∧
    s1.heap = s.heap.set b ⟨.rows m z (fun i => updRow (Nat.beq i j) f l (row i)) (fun i => ⟨(updRow_ok _ _ _ _).1.trans (hr i).1, (updRow_ok _ _ _ _).2 (hr i).2⟩), e, true, x⟩ := by
  unfold St.stx at h
  split at h
  · rename_i m z' row hr e x hk
    cases hc : (Nat.beq z z' && Nat.ble (f + l.length) z && l.all CV.flat && Nat.blt b s.next) with
    | false => rw [hc, cond_false] at h; cases h
    | true =>
      rw [hc, cond_true] at h
      simp only [Bool.and_eq_true] at hc
      obtain rfl := Nat.eq_of_beq_eq_true hc.1.1.1
      split at h
      · rename_i s2 h2
        cases h
        obtain ⟨a1, a2, a3, a4⟩ := must_parts (ρ := ρ) h2
        exact ⟨m, row, hr, e, x, hk, Nat.le_of_ble_eq_true hc.1.1.2, hc.1.2, Nat.lt_of_succ_le (Nat.le_of_ble_eq_true hc.2), a1, a3, fun hp => of_decide_eq_true (a4 hp), by rw [a2]⟩
      · cases h
  · cases h

theorem sound_store {t : TypeId} {x y : Operand} (hop : o.op = .store t x y) (h : opE C T s o = some r) (I : Inp P C ρ σ cur s T a w o r) : Gives P o a w (Post ρ σ cur s.next w r.val r.s r.W) := by
  have hx : x ∈ o.op.operands.toList := by rw [hop]; simp [Op.operands]
  have hy : y ∈ o.op.operands.toList := by rw [hop]; simp [Op.operands]
  unfold opE at h
  rw [hop] at h
  simp only [opStore] at h
  split at h
  · rename_i q b off c hq hc1 hc2
    obtain ⟨l, hl, hv⟩ := (I.T.ev hx hc1).ptr_inv
    have hsz := (I.ok.ty _ _ hq).sizeOf' w
    cases hf : (c.fit && Nat.beq c.cells.length q.size) with
    | false => rw [hf, cond_false] at h; cases h
    | true =>
      rw [hf, cond_true] at h
      simp only [Bool.and_eq_true] at hf
      split at h
      · rename_i s' hs'
        cases h
        have hvy := (I.T.ev hy hc2).cells (fit_raw hf.1)
        have hlen := hvy.length
        have hq2 := Nat.eq_of_beq_eq_true hf.2
        obtain ⟨w', h1, h2, h3⟩ := st_run (P := P) I.H hs' (I.A b (.inr (by simp))) hl hvy
        refine ⟨Go.undef, w', .inr ⟨?_, rfl⟩, σ, Ext.refl _ _ _, VR.undef _ _, h2, h3, by rw [(st_parts hs').choose_spec.2.2.2.2.2.2]; exact Fresh.none _ _ _ _ _ _⟩
        have hne : ((a.eval y).cells.size ≠ q.size) = False := by simp at hlen; simp; omega
        simp only [execOp, hop, Instr.storeAt, hv, Instr.sureAddr, storeVar, Sem.run_bind, hsz, Result.andThen, Sem.run_pure, pure_bind, hne, if_false]
        simp [h1]
      · cases h
  · rename_i q b z j f c hq hc1 hc2
    obtain ⟨l, hl, hv⟩ := (I.T.ev hx hc1).ptx_inv.ptr_inv
    have hsz := (I.ok.ty _ _ hq).sizeOf' w
    cases hf : (c.fit && Nat.beq c.cells.length q.size) with
    | false => rw [hf, cond_false] at h; cases h
    | true =>
      rw [hf, cond_true] at h
      simp only [Bool.and_eq_true] at hf
      split at h
      · rename_i s' hs'
        cases h
        have hvy := (I.T.ev hy hc2).cells (fit_raw hf.1)
        have hlen := hvy.length
        have hq2 := Nat.eq_of_beq_eq_true hf.2
        obtain ⟨m, row, hr, e, x, hk, g1, g2, g3, g4, g5, g6, g7⟩ := stx_parts (ρ := ρ) hs'
        have hj := g6 I.pc
        have hcl : Blk.cells ⟨.rows m z row hr, e, true, x⟩ = flatR row m := rfl
        have hlm := flatR_length (fun j => (hr j).1) m
        obtain ⟨w', h1, h2, h3⟩ := st_runB (P := P) (s := s) (s' := s') (o := j * z + f) (l := c.cells) (B := .rows m z (fun i => updRow (Nat.beq i j) f c.cells (row i)) (fun i => ⟨(updRow_ok _ _ _ _).1.trans (hr i).1, (updRow_ok _ _ _ _).2 (hr i).2⟩)) I.H hk rfl rfl (by
            rw [hcl, hlm]
            have : (j + 1) * z ≤ m * z := Nat.mul_le_mul_right _ hj
            rw [Nat.succ_mul] at this; omega) (by simpa using g2) (fun us hus => by
            have := rows_upd (j := j) (f := f) hr hvy g2 g1 m us hus
            rw [if_pos hj] at this
            exact this) g4 g7 (I.A b (.inr (by simp))) hl hvy
        refine ⟨Go.undef, w', .inr ⟨?_, rfl⟩, σ, Ext.refl _ _ _, VR.undef _ _, h2, h3, by rw [g4]; exact Fresh.none _ _ _ _ _ _⟩
        have hne : ((a.eval y).cells.size ≠ q.size) = False := by simp at hlen; simp; omega
        simp only [execOp, hop, Instr.storeAt, hv, Instr.sureAddr, storeVar, Sem.run_bind, hsz, Result.andThen, Sem.run_pure, pure_bind, hne, if_false]
        simp [h1]
      · cases h
  · cases h

theorem sound_nilCheck {x : Operand} (hop : o.op = .nilCheck x) (h : opE C T s o = some r) (I : Inp P C ρ σ cur s T a w o r) : Gives P o a w (Post ρ σ cur s.next w r.val r.s r.W) := by
  have hx : x ∈ o.op.operands.toList := by rw [hop]; simp [Op.operands]
  unfold opE at h
  rw [hop] at h
  simp only [opNil] at h
  split at h
  · rename_i p hc
    cases h
    have hv := I.T.ev hx hc
    refine gives_pure (R := []) rfl I.H ?_ hv
    obtain ⟨b, q⟩ := p
    obtain ⟨l, _, hv⟩ := hv.ptr_inv
    simp [execOp, hop, hv]
  · rename_i b z j f hc
    cases h
    have hv := I.T.ev hx hc
    refine gives_pure (R := []) rfl I.H ?_ hv
    obtain ⟨l, _, hv⟩ := hv.ptx_inv.ptr_inv
    simp [execOp, hop, hv]
  · rename_i f x1 x2 hc
    cases h
    have hv := I.T.ev hx hc
    refine gives_pure (R := []) rfl I.H ?_ hv
    obtain ⟨a', b', e, _, _⟩ := hv.fn_inv
    simp [execOp, hop, e]
  · cases h

theorem sound_build {t : TypeId} {parts : Array (Nat × Operand)} (hop : o.op = .build t parts) (h : opE C T s o = some r) (I : Inp P C ρ σ cur s T a w o r) : Gives P o a w (Post ρ σ cur s.next w r.val r.s r.W) := by
  unfold opE at h
  rw [hop] at h
  simp only [opBuild] at h
  split at h
  · rename_i q ps hq hps
    have hpr := evps_run (σ := σ) (ρ := ρ) (a := a) (fun t ht => I.T t (by rw [hop]; simpa [Op.operands] using ht)) hps
    obtain ⟨z, hz, hz2⟩ := (I.ok.ty _ _ hq).zeroV w
    have hu := (I.ok.ty _ _ hq).under w
    have hpe : (parts.map fun (p : Nat × Operand) => (p.1, a.eval p.2)).toList = parts.toList.map fun p => (p.1, a.eval p.2) := by simp
    split at h
    · rename_i fs hd
      rw [hd] at hu
      split at h
      · rename_i pl hpl
        split at h
        · rename_i l hfill
          cases h
          obtain ⟨cs', h1, h2⟩ := fill_run _ hpr (VRl.ofVals (ρ := ρ) (σ := σ) hz2) hfill
          refine gives_pure (R := []) rfl I.H (v := .agg cs') ?_ (.agg h2)
          have hp := places_run I.ok.ty w hpl
          have hp2 : (fs.mapM (m := Sem) fun f => do pure (f.offset, ← sizeOf f.type)).run P w = .ok pl.toArray w := by
            rw [Array.mapM_eq_mapM_toList]
            simp only [Sem.run_map, hp, Result.andThen]
          have hg : (fun i : Nat => pl.toArray[i]?) = fun i : Nat => pl[i]? := by funext i; simp
          simp only [execOp, hop, Instr.build, Sem.run_bind, hz, hu, Result.andThen, hp2, hpe, hg, h1, Sem.run_pure]
        · cases h
      · cases h
    · rename_i n e hd
      rw [hd] at hu
      split at h
      · rename_i q2 hq2
        split at h
        · rename_i l hfill
          cases h
          obtain ⟨cs', h1, h2⟩ := fill_run _ hpr (VRl.ofVals (ρ := ρ) (σ := σ) hz2) hfill
          refine gives_pure (R := []) rfl I.H (v := .agg cs') ?_ (.agg h2)
          have hs := (I.ok.ty _ _ hq2).sizeOf' w
          simp only [execOp, hop, Instr.build, Sem.run_bind, hz, hu, Result.andThen, hs, hpe, h1, Sem.run_pure]
        · cases h
      · cases h
    · cases h
  · cases h

theorem sound_buildSlice {t : TypeId} {len : Nat} {parts : Array (Nat × Operand)} (hop : o.op = .buildSlice t len parts) (h : opE C T s o = some r) (I : Inp P C ρ σ cur s T a w o r) : Gives P o a w (Post ρ σ cur s.next w r.val r.s r.W) := by
  unfold opE at h
  rw [hop] at h
  simp only [opBuildSlice] at h
  split at h
  · rename_i q ps hq hps
    have hpr := evps_run (σ := σ) (ρ := ρ) (a := a) (fun t ht => I.T t (by rw [hop]; simpa [Op.operands] using ht)) hps
    have hu := (I.ok.ty _ _ hq).under w
    have hpe : (parts.map fun (p : Nat × Operand) => (p.1, a.eval p.2)).toList = parts.toList.map fun p => (p.1, a.eval p.2) := by simp
    split at h
    · rename_i e hd
      rw [hd] at hu
      split at h
      · rename_i q2 hq2
        cases hf : (Nat.ble 1 q2.size && Nat.ble (len * q2.size) 10000) with
        | false => rw [hf, cond_false] at h; cases h
        | true =>
          rw [hf, cond_true] at h
          simp only [Bool.and_eq_true] at hf
          have hf1 := Nat.le_of_ble_eq_true hf.1
          have hf2 := Nat.le_of_ble_eq_true hf.2
          split at h
          · rename_i l hfill
            cases h
            obtain ⟨z, hz, hz2⟩ := (I.ok.ty _ _ hq2).zeroV w
            have hzl : q2.zero.length = q2.size := (I.ok.ty _ _ hq2).2.2.1
            have hrr := rep_rel (VRl.ofVals (ρ := ρ) (σ := σ) hz2) len (by omega)
            rw [hzl] at hrr
            obtain ⟨cs', h1, h2⟩ := fill_run _ hpr hrr hfill
            have hs := (I.ok.ty _ _ hq2).sizeOf' w
            have hσ := I.N s.next (Nat.le_refl _) (by simp [St.new])
            have hll := h2.length
            simp only [Array.length_toList] at hll
            have hlen : l.length = len * q2.size := by
              rw [fillC_length hfill, rep_length, hzl]
            refine ⟨.slice (some ⟨w.heap.size, 0, none⟩) len len, w.alloc (.cells cs' e), .inl ?_, ?_⟩
            · have hbig : ¬ (len * q2.size > 2 ^ 24) := by omega
              by_cases h0 : len * q2.size = 0
              · have hl0 : len = 0 := by
                  rcases Nat.mul_eq_zero.1 h0 with h | h
                  · exact h
                  · omega
                subst hl0
                simp only [Nat.zero_mul] at h1
                simp only [execOp, hop, Instr.buildSlice, Sem.run_bind, hu, Result.andThen, hs, hbig, if_false, Nat.zero_mul, hpe, Sem.run_pure, if_true, Nat.lt_irrefl, gt_iff_lt, Nat.not_lt_zero]
                have e0 : ((Array.range 0).map fun x => (#[] : Array Value)[x % (#[] : Array Value).size]!) = ((Array.range 0).map fun x => z.cells[x % z.cells.size]!) := by simp
                rw [e0, h1]
                simp [newRow]
              · simp only [execOp, hop, Instr.buildSlice, Sem.run_bind, hu, Result.andThen, hs, hbig, if_false, hpe, Sem.run_pure, h0, hz]
                rw [h1]
                simp [newRow]
            · have := post_new (s0 := s) (rest := []) (t := e) (e := q2.size) (K := []) (n := s.next) (c := .slc (some (s.next, 0)) len len) (v := .slice (some ⟨w.heap.size, 0, none⟩) len len) I.H h2 rfl hσ (fun b hb => by cases hb) (by
                have := VR.slc (ρ := ρ) (σ := fun b => if b = s.next then some ⟨w.heap.size, 0, (cs'.toList ++ []).length, q2.size⟩ else σ b) (b := s.next) (o := 0) (n := len) (c := len) (c' := len) (l := ⟨w.heap.size, 0, (cs'.toList ++ []).length, q2.size⟩) (if_pos rfl) (Nat.le_refl _) (by simp; omega)
                exact this)
              simpa using this
          · cases h
      · cases h
    · cases h
  · cases h

end
end Go.Proofs.Ytknphpihipkdpaa.Cx
