/- One operation that calls no Go function: numbers, tests, parts, addresses, slices. -/
import Derived.Test.YtknphpihipkdpaaCxE
set_option linter.unusedSimpArgs false
set_option linter.unusedVariables false
namespace Go.Proofs.Ytknphpihipkdpaa.Cx
open Go Go.RowKit

section
variable {P : Program} {C : Ctx} {ρ : Env} {σ : Mp} {cur : Cur} {s : St} {T : Tr CV} {a : Act} {w : World} {o : Oper} {r : OR}

theorem geq_zero {s1 : St} {b : IE} (h : s.must (BE.mk .geq b (.c 0)) = some s1) (hp : ∀ p ∈ s1.pc, p.holds ρ) : 0 ≤ b.den ρ := by
  have h1 := (mustE_parts (ρ := ρ) h).2.2.2 hp
  rw [BE.den_mk] at h1
  simpa [Cm.run, IE.den] using h1

theorem neq_zero {s1 : St} {b : IE} (h : s.must (BE.mk .neq b (.c 0)) = some s1) (hp : ∀ p ∈ s1.pc, p.holds ρ) : b.den ρ ≠ 0 := by
  have h1 := (mustE_parts (ρ := ρ) h).2.2.2 hp
  rw [BE.den_mk] at h1
  simpa [Cm.run, IE.den] using h1

theorem guard_int (op : BinOp) (t : TypeId) (x y : Operand) (k k' : IntKind) (m n : Int) : (eqGuard op t x y (.int k m) (.int k' n)).run P w = .ok () w := by
  unfold eqGuard
  cases op <;> simp

theorem guard_bool (op : BinOp) (t : TypeId) (x y : Operand) (m n : Bool) : (eqGuard op t x y (.bool m) (.bool n)).run P w = .ok () w := by
  unfold eqGuard
  cases op <;> simp

set_option maxHeartbeats 1000000 in
theorem sound_binInt {op : BinOp} {t yt : TypeId} {x y : Operand} {k k' : IntKind} {e f : IE} (hop : o.op = .binOp op t x y yt) (h1 : ev T x = some (.int k e)) (h2 : ev T y = some (.int k' f)) (h : opE C T s o = some r) (I : Inp P C ρ σ cur s T a w o r) : Gives P o a w (Post ρ σ cur s.next w r.val r.s r.W) := by
  have hx := (I.T.ev (x := x) (by rw [hop]; simp [Op.operands]) h1).int_inv
  have hy := (I.T.ev (x := y) (by rw [hop]; simp [Op.operands]) h2).int_inv
  unfold opE at h
  rw [hop] at h
  simp only [opBin, h1, h2, opBinInt] at h
  have hg := guard_int (P := P) (w := w) op t x y k k' (e.den ρ) (f.den ρ)
  have fin : ∀ (c : CV) (v : Value) (s1 : St), r = ⟨c, s1, [], []⟩ → s1.next = s.next → (binOp op t (.int k (e.den ρ)) (.int k' (f.den ρ))).run P w = .ok v w → VR ρ σ c v → Gives P o a w (Post ρ σ cur s.next w r.val r.s r.W) := by
    rintro c v s1 rfl hn hr hv
    refine gives_pure (R := []) hn I.H ?_ hv
    simp only [execOp, hop, hx, hy, Sem.run_bind, hg, Result.andThen, hr, Sem.run_pure]
  by_cases hsh : op = .shl ∨ op = .shr
  · rcases hsh with rfl | rfl
    · simp only at h
      split at h
      · rename_i s1 hm
        have hr := (Option.some.inj h).symm
        have hz := geq_zero (ρ := ρ) hm (by rw [hr] at I; exact I.pc)
        refine fin _ (.int k (Ar.run .shl k (e.den ρ) (f.den ρ))) s1 hr (mustE_parts (ρ := ρ) hm).1 ?_ ?_
        · have : ¬ f.den ρ < 0 := by omega
          simp [binOp, Op.shift, this, Ar.run]
        · have := VR.int (ρ := ρ) (σ := σ) k (IE.mk .shl k e f); rwa [IE.den_mk] at this
      · cases h
    · simp only at h
      split at h
      · rename_i s1 hm
        have hr := (Option.some.inj h).symm
        have hz := geq_zero (ρ := ρ) hm (by rw [hr] at I; exact I.pc)
        refine fin _ (.int k (Ar.run .shr k (e.den ρ) (f.den ρ))) s1 hr (mustE_parts (ρ := ρ) hm).1 ?_ ?_
        · have : ¬ f.den ρ < 0 := by omega
          simp [binOp, Op.shift, this, Ar.run]
        · have := VR.int (ρ := ρ) (σ := σ) k (IE.mk .shr k e f); rwa [IE.den_mk] at this
      · cases h
  · by_cases hk : k = k'
    · subst hk
      have hd : decide (k = k) = true := by simp
      have ar : ∀ (q : Ar), some (⟨.int k (.mk q k e f), s, [], []⟩ : OR) = some r → (binOp op t (.int k (e.den ρ)) (.int k (f.den ρ))).run P w = .ok (.int k (q.run k (e.den ρ) (f.den ρ))) w → Gives P o a w (Post ρ σ cur s.next w r.val r.s r.W) := fun q hq hr => by
        refine fin _ _ s (Option.some.inj hq).symm rfl hr ?_
        have := VR.int (ρ := ρ) (σ := σ) k (IE.mk q k e f); rwa [IE.den_mk] at this
      have cm : ∀ (q : Cm), cmpE s (.mk q e f) = some r → (binOp op t (.int k (e.den ρ)) (.int k (f.den ρ))).run P w = .ok (.bool (q.run (e.den ρ) (f.den ρ))) w → Gives P o a w (Post ρ σ cur s.next w r.val r.s r.W) := fun q hq hr => by
        unfold cmpE at hq
        split at hq
        · rename_i b s1 ht
          have hr' := (Option.some.inj hq).symm
          obtain ⟨t1, _, _, t4⟩ := tell_parts (ρ := ρ) ht
          refine fin _ _ s1 hr' t1 hr ?_
          have := VR.bool (ρ := ρ) (σ := σ) b; rwa [t4 (by rw [hr'] at I; exact I.pc), BE.den_mk] at this
        · cases hq
      cases op with
      | shl => exact absurd (.inl rfl) hsh
      | shr => exact absurd (.inr rfl) hsh
      | add => simp only [hd, cond_true] at h; exact ar .add h (by simp [binOp, Op.intArith, Ar.run])
      | sub => simp only [hd, cond_true] at h; exact ar .sub h (by simp [binOp, Op.intArith, Ar.run])
      | mul => simp only [hd, cond_true] at h; exact ar .mul h (by simp [binOp, Op.intArith, Ar.run])
      | and => simp only [hd, cond_true] at h; exact ar .and h (by simp [binOp, Op.intBits, Ar.run])
      | or => simp only [hd, cond_true] at h; exact ar .or h (by simp [binOp, Op.intBits, Ar.run])
      | xor => simp only [hd, cond_true] at h; exact ar .xor h (by simp [binOp, Op.intBits, Ar.run])
      | andNot => simp only [hd, cond_true] at h; exact ar .andNot h (by simp [binOp, Op.intBits, Ar.run])
      | eql => simp only [hd, cond_true] at h; exact cm .eql h (by simp [binOp, Op.intCmp, Cm.run])
      | neq => simp only [hd, cond_true] at h; exact cm .neq h (by simp [binOp, Op.intCmp, Cm.run])
      | lss => simp only [hd, cond_true] at h; exact cm .lss h (by simp [binOp, Op.intCmp, Cm.run])
      | leq => simp only [hd, cond_true] at h; exact cm .leq h (by simp [binOp, Op.intCmp, Cm.run])
      | gtr => simp only [hd, cond_true] at h; exact cm .gtr h (by simp [binOp, Op.intCmp, Cm.run])
      | geq => simp only [hd, cond_true] at h; exact cm .geq h (by simp [binOp, Op.intCmp, Cm.run])
      | quo =>
        simp only [hd, cond_true] at h
        split at h
        · rename_i s1 hz
          have hr := (Option.some.inj h).symm
          have hz2 := neq_zero (ρ := ρ) hz (by rw [hr] at I; exact I.pc)
          refine fin _ (.int k (Ar.run .quo k (e.den ρ) (f.den ρ))) s1 hr (mustE_parts (ρ := ρ) hz).1 ?_ ?_
          · simp [binOp, Op.intDiv, hz2, Ar.run]
          · have := VR.int (ρ := ρ) (σ := σ) k (IE.mk .quo k e f); rwa [IE.den_mk] at this
        · cases h
      | rem =>
        simp only [hd, cond_true] at h
        split at h
        · rename_i s1 hz
          have hr := (Option.some.inj h).symm
          have hz2 := neq_zero (ρ := ρ) hz (by rw [hr] at I; exact I.pc)
          refine fin _ (.int k (Ar.run .rem k (e.den ρ) (f.den ρ))) s1 hr (mustE_parts (ρ := ρ) hz).1 ?_ ?_
          · simp [binOp, Op.intDiv, hz2, Ar.run]
          · have := VR.int (ρ := ρ) (σ := σ) k (IE.mk .rem k e f); rwa [IE.den_mk] at this
        · cases h
    · exfalso
      have hd : decide (k = k') = false := by simp [hk]
      cases op <;> first | exact hsh (.inl rfl) | exact hsh (.inr rfl) | (simp only [hd, cond_false] at h; cases h)

theorem equalIn_bool {t : TypeId} (hu : (underlying t).run P w = .ok .bool w) (m n : Bool) (d : Nat) : (Op.equalIn (d + 1) t (.bool m) (.bool n)).run P w = .ok (m == n) w := by
  simp only [Op.equalIn, Sem.run_bind, hu, Result.andThen, Sem.run_pure]

theorem equal_bool {t : TypeId} {q : TyR} (hq : TyOk P t q) (hd : q.desc = .bool) (m n : Bool) : (Op.equal t (.bool m) (.bool n)).run P w = .ok (m == n) w :=
  equalIn_bool (hd ▸ hq.under w) m n 9999

theorem eqCells_run : ∀ {ks : List (Option IntKind)} {l m : List CV} {s s1 : St} {v : Bool} {x y : List Value}, shapeC ks l = true → shapeC ks m = true → eqCells s l m = some (v, s1) → VRl ρ σ l x → VRl ρ σ m y →
    s1.next = s.next ∧ s1.heap = s.heap ∧ (∃ L, s1.pc = L ++ s.pc) ∧ ((∀ p ∈ s1.pc, p.holds ρ) → eqVals x y = v)
  | [], [], [], s, s1, v, _, _, _, _, h, .nil, .nil => by
    simp only [eqCells] at h; cases h; exact ⟨rfl, rfl, ⟨[], rfl⟩, fun _ => rfl⟩
  | none :: ks, .bool a :: l, .bool b :: m, s, s1, v, _, _, hs, ht, h, .cons h1 h2, .cons h3 h4 => by
    cases h1; cases h3
    simp only [eqCells] at h
    split at h
    · rename_i p sa hda
      obtain ⟨a1, a2, ⟨La, a3⟩, a4⟩ := decide_parts (ρ := ρ) hda
      split at h
      · rename_i q sb hdb
        obtain ⟨b1, b2, ⟨Lb, b3⟩, b4⟩ := decide_parts (ρ := ρ) hdb
        cases hpq : (p == q) with
        | true =>
          rw [hpq, cond_true] at h
          obtain ⟨c1, c2, ⟨Lc, c3⟩, c4⟩ := eqCells_run (ks := ks) hs ht h h2 h4
          refine ⟨by omega, by rw [c2, b2, a2], ⟨Lc ++ Lb ++ La, by rw [c3, b3, a3]; simp⟩, fun hp => ?_⟩
          have pb : ∀ p ∈ sb.pc, p.holds ρ := fun p hp' => hp p (by rw [c3]; simp [hp'])
          have pa : ∀ p ∈ sa.pc, p.holds ρ := fun p hp' => pb p (by rw [b3]; simp [hp'])
          simp only [eqVals, a4 pa, b4 pb, hpq, Bool.true_and]
          exact c4 hp
        | false =>
          rw [hpq, cond_false] at h
          cases h
          refine ⟨by omega, by rw [b2, a2], ⟨Lb ++ La, by rw [b3, a3]; simp⟩, fun hp => ?_⟩
          have pa : ∀ p ∈ sa.pc, p.holds ρ := fun p hp' => hp p (by rw [b3]; simp [hp'])
          simp only [eqVals, a4 pa, b4 hp, hpq, Bool.false_and]
      · cases h
    · cases h
  | some k :: ks, .int k1 a :: l, .int k2 b :: m, s, s1, v, _, _, hs, ht, h, .cons h1 h2, .cons h3 h4 => by
    cases h1; cases h3
    simp only [shapeC, Bool.and_eq_true] at hs ht
    simp only [eqCells] at h
    split at h
    · rename_i sa hda
      obtain ⟨a1, a2, ⟨La, a3⟩, a4⟩ := decide_parts (ρ := ρ) hda
      obtain ⟨c1, c2, ⟨Lc, c3⟩, c4⟩ := eqCells_run (ks := ks) hs.2 ht.2 h h2 h4
      refine ⟨by omega, by rw [c2, a2], ⟨Lc ++ La, by rw [c3, a3]; simp⟩, fun hp => ?_⟩
      have pa : ∀ p ∈ sa.pc, p.holds ρ := fun p hp' => hp p (by rw [c3]; simp [hp'])
      have := a4 pa
      rw [BE.den_mk] at this
      simp only [Cm.run] at this
      simp only [eqVals, this, Bool.true_and]
      exact c4 hp
    · rename_i sa hda
      obtain ⟨a1, a2, ⟨La, a3⟩, a4⟩ := decide_parts (ρ := ρ) hda
      cases h
      refine ⟨by omega, a2, ⟨La, a3⟩, fun hp => ?_⟩
      have := a4 hp
      rw [BE.den_mk] at this
      simp only [Cm.run] at this
      simp only [eqVals, this, Bool.false_and]
    · cases h

inductive NilV : TypeDesc → Value → Bool → Prop
  | slice0 (e : TypeId) (n k : Nat) : NilV (.slice e) (.slice none n k) true
  | slice1 (e : TypeId) (a : Addr) (n k : Nat) : NilV (.slice e) (.slice (some a) n k) false
  | map0 (e f : TypeId) : NilV (.map e f) (.map none) true
  | map1 (e f : TypeId) (b : Nat) : NilV (.map e f) (.map (some b)) false
  | func0 {x y z} : NilV (.func x y z) .nilFunc true
  | func1 {x y z} (f : Fn) (l m : Array Value) : NilV (.func x y z) (.func f l m) false
  | ptr0 (e : TypeId) : NilV (.pointer e) (.pointer none) true
  | ptr1 (e : TypeId) (a : Addr) : NilV (.pointer e) (.pointer (some a)) false

theorem isNil_v {d : TypeDesc} {c : CV} {b : Bool} {v : Value} (h : c.isNil d = some b) (hv : VR ρ σ c v) : NilV d v b := by
  unfold CV.isNil at h
  split at h
  · cases h; cases hv; exact .slice0 _ _ _
  · cases h; cases hv; exact .slice1 _ _ _ _
  · cases h
    have := hv.slx_inv
    cases this; exact .slice1 _ _ _ _
  · cases h; cases hv; exact .slice1 _ _ _ _
  · cases h; cases hv; exact .map1 _ _ _
  · cases h; cases hv; exact .map0 _ _
  · cases h; cases hv; exact .func0
  · cases h; cases hv; exact .func1 _ _ _
  · cases h; cases hv; exact .ptr0 _
  · cases h; cases hv; exact .ptr1 _ _
  · cases h
    have := hv.ptx_inv
    cases this; exact .ptr1 _ _
  · cases h

theorem nil_equal {t : TypeId} {d : TypeDesc} {m n : Bool} {v u : Value} {w : World} (hty : (underlying t).run P w = .ok d w) (hv : NilV d v m) (hu : NilV d u n) (hmn : (m || n) = true) (k : Nat) : (Op.equalIn (k + 1) t v u).run P w = .ok (m && n) w := by
  cases hv <;> cases hu <;> first | (simp at hmn; done) | simp only [Op.equalIn, Sem.run_bind, hty, Result.andThen, Sem.run_pure, Bool.and_true, Bool.true_and, Bool.and_false, Bool.false_and, Option.isNone]

theorem nil_run {t : TypeId} {q : TyR} (hq : TyOk P t q) {c d : CV} {m n : Bool} {v u : Value} (hc : c.isNil q.desc = some m) (hd : d.isNil q.desc = some n) (hv : VR ρ σ c v) (hu : VR ρ σ d u) (hmn : (m || n) = true) (w : World) (op : BinOp) (x y : Operand) :
    ((binOp .eql t v u).run P w = .ok (.bool (m && n)) w ∧ (binOp .neq t v u).run P w = .ok (.bool !(m && n)) w) ∧ (eqGuard op t x y v u).run P w = .ok () w := by
  have hty := hq.under w
  have nv := isNil_v hc hv
  have nu := isNil_v hd hu
  have he : (Op.equal t v u).run P w = .ok (m && n) w := nil_equal hty nv nu hmn 9999
  generalize q.desc = dsc at nv nu
  have e1 : binOp .eql t v u = (do pure (.bool (← Op.equal t v u))) := by cases nv <;> cases nu <;> rfl
  have e2 : binOp .neq t v u = (do pure (.bool (!(← Op.equal t v u)))) := by cases nv <;> cases nu <;> rfl
  refine ⟨⟨?_, ?_⟩, ?_⟩
  · rw [e1]; simp only [Sem.run_bind, he, Result.andThen, Sem.run_pure]
  · rw [e2]; simp only [Sem.run_bind, he, Result.andThen, Sem.run_pure]
  · unfold eqGuard
    cases nv <;> cases nu <;> cases op <;> simp

theorem sound_binOp {op : BinOp} {t yt : TypeId} {x y : Operand} (hop : o.op = .binOp op t x y yt) (h : opE C T s o = some r) (I : Inp P C ρ σ cur s T a w o r) : Gives P o a w (Post ρ σ cur s.next w r.val r.s r.W) := by
  have h0 := h
  have mx : x ∈ o.op.operands.toList := by rw [hop]; simp [Op.operands]
  have my : y ∈ o.op.operands.toList := by rw [hop]; simp [Op.operands]
  unfold opE at h
  rw [hop] at h
  simp only [opBin] at h
  split at h
  · rename_i k e k' f h1 h2
    exact sound_binInt hop h1 h2 h0 I
  · rename_i e f h1 h2
    have hx := (I.T.ev mx h1).bool_inv
    have hy := (I.T.ev my h2).bool_inv
    have hg := guard_bool (P := P) (w := w) op t x y (e.den ρ) (f.den ρ)
    simp only [opBinBool] at h
    split at h
    · rename_i q hq
      split at h
      · rename_i hd
        split at h
        · rename_i b1 s1 hd1
          split at h
          · rename_i b2 s2 hd2
            cases h
            obtain ⟨n1, _, ⟨l1, p1⟩, v1⟩ := decide_parts (ρ := ρ) hd1
            obtain ⟨n2, _, ⟨l2, p2⟩, v2⟩ := decide_parts (ρ := ρ) hd2
            have e2 := v2 I.pc
            have e1 := v1 (fun p hp => I.pc p (by show p ∈ s2.pc; rw [p2]; simp [hp]))
            refine gives_pure (R := []) (n2.trans n1) I.H (v := .bool (b1 == b2)) ?_ (.bool (.c _))
            have := equal_bool (w := w) (I.ok.ty _ _ hq) hd (e.den ρ) (f.den ρ)
            rw [e1, e2] at this hg
            rw [e1] at hx
            rw [e2] at hy
            simp only [execOp, hop, hx, hy, Sem.run_bind, hg, Result.andThen, binOp, this, Sem.run_pure]
          · cases h
        · cases h
      · cases h
    · rename_i q hq
      split at h
      · rename_i hd
        split at h
        · rename_i b1 s1 hd1
          split at h
          · rename_i b2 s2 hd2
            cases h
            obtain ⟨n1, _, ⟨l1, p1⟩, v1⟩ := decide_parts (ρ := ρ) hd1
            obtain ⟨n2, _, ⟨l2, p2⟩, v2⟩ := decide_parts (ρ := ρ) hd2
            have e2 := v2 I.pc
            have e1 := v1 (fun p hp => I.pc p (by show p ∈ s2.pc; rw [p2]; simp [hp]))
            refine gives_pure (R := []) (n2.trans n1) I.H (v := .bool (b1 != b2)) ?_ (.bool (.c _))
            have := equal_bool (w := w) (I.ok.ty _ _ hq) hd (e.den ρ) (f.den ρ)
            rw [e1, e2] at this hg
            rw [e1] at hx
            rw [e2] at hy
            simp only [execOp, hop, hx, hy, Sem.run_bind, hg, Result.andThen, binOp, this, Sem.run_pure]
            rfl
          · cases h
        · cases h
      · cases h
    · cases h
  · rename_i l m h1 h2
    obtain ⟨cs, hx, hx2⟩ := (I.T.ev mx h1).agg_inv
    obtain ⟨ds, hy, hy2⟩ := (I.T.ev my h2).agg_inv
    simp only [opBinAgg] at h
    split at h
    · rename_i ks hq
      cases hsh : (shapeC ks l && shapeC ks m) with
      | false => rw [hsh, cond_false] at h; cases h
      | true =>
        rw [hsh, cond_true] at h
        simp only [Bool.and_eq_true] at hsh
        obtain ⟨hg, hr⟩ := I.ok.eq t ks hq cs ds w (shapeC_run hsh.1 hx2) (shapeC_run hsh.2 hy2)
        split at h
        · rename_i v s1 he
          cases h
          obtain ⟨hn, _, _, hv⟩ := eqCells_run (ρ := ρ) (σ := σ) hsh.1 hsh.2 he hx2 hy2
          rw [hv I.pc] at hr
          refine gives_pure (R := []) hn I.H (v := .bool v) ?_ (.bool (.c v))
          simp only [execOp, hop, hx, hy, Sem.run_bind, hg, Result.andThen, binOp, hr, Sem.run_pure]
        · rename_i v s1 he
          cases h
          obtain ⟨hn, _, _, hv⟩ := eqCells_run (ρ := ρ) (σ := σ) hsh.1 hsh.2 he hx2 hy2
          rw [hv I.pc] at hr
          refine gives_pure (R := []) hn I.H (v := .bool !v) ?_ (.bool (.c !v))
          simp only [execOp, hop, hx, hy, Sem.run_bind, hg, Result.andThen, binOp, hr, Sem.run_pure]
        · cases h
    · cases h
  · rename_i c d hn1 hn2 hn3 h1 h2
    simp only [opBinNil] at h
    split at h
    · rename_i q hq
      split at h
      · rename_i p b hp hb
        cases hpb : (p || b) with
        | false => rw [hpb, cond_false] at h; cases h
        | true =>
          rw [hpb, cond_true] at h
          obtain ⟨he, hg⟩ := nil_run (I.ok.ty _ _ hq) hp hb (I.T.ev mx h1) (I.T.ev my h2) hpb w op x y
          split at h
          · cases h
            refine gives_pure (R := []) rfl I.H (v := .bool (p && b)) ?_ (.bool (.c _))
            simp only [execOp, hop, Sem.run_bind, hg, Result.andThen, he.1, Sem.run_pure]
          · cases h
            refine gives_pure (R := []) rfl I.H (v := .bool !(p && b)) ?_ (.bool (.c _))
            simp only [execOp, hop, Sem.run_bind, hg, Result.andThen, he.2, Sem.run_pure]
          · cases h
      · cases h
    · cases h
  · cases h

theorem sound_unOp {op : UnOp} {t : TypeId} {x : Operand} (hop : o.op = .unOp op t x) (h : opE C T s o = some r) (I : Inp P C ρ σ cur s T a w o r) : Gives P o a w (Post ρ σ cur s.next w r.val r.s r.W) := by
  have mx : x ∈ o.op.operands.toList := by rw [hop]; simp [Op.operands]
  unfold opE at h
  rw [hop] at h
  simp only [opUn] at h
  split at h
  · rename_i k e h1
    cases h
    have hx := (I.T.ev mx h1).int_inv
    refine gives_pure (R := []) rfl I.H (v := .int k (Ar.run .sub k 0 (e.den ρ))) ?_ ?_
    · simp [execOp, hop, hx, Op.unary, Op.intArith, Ar.run]
    · have := VR.int (ρ := ρ) (σ := σ) k (IE.mk .sub k (.c 0) e); rwa [IE.den_mk] at this
  · rename_i e h1
    cases h
    have hx := (I.T.ev mx h1).bool_inv
    refine gives_pure (R := []) rfl I.H (v := .bool (!e.den ρ)) ?_ ?_
    · simp [execOp, hop, hx, Op.unary]
    · have := VR.bool (ρ := ρ) (σ := σ) e.neg; rwa [BE.den_neg] at this
  · cases h

theorem sound_convert {st dt : TypeId} {x : Operand} (hop : o.op = .convert st dt x) (h : opE C T s o = some r) (I : Inp P C ρ σ cur s T a w o r) : Gives P o a w (Post ρ σ cur s.next w r.val r.s r.W) := by
  have mx : x ∈ o.op.operands.toList := by rw [hop]; simp [Op.operands]
  unfold opE at h
  rw [hop] at h
  simp only [opConv] at h
  split at h
  · rename_i q1 q2 k' e hq1 hq2 h1
    have hx := (I.T.ev mx h1).int_inv
    have u1 := (I.ok.ty _ _ hq1).under w
    have u2 := (I.ok.ty _ _ hq2).under w
    split at h
    · rename_i k hd
      rw [hd] at u2
      cases h
      refine gives_pure (R := []) rfl I.H (v := .int k (Ar.run .conv k (e.den ρ) 0)) ?_ ?_
      · simp only [execOp, hop, hx, convert, Sem.run_bind, u1, u2, Result.andThen, Conv.intToInt, Sem.run_pure, Ar.run]
      · have := VR.int (ρ := ρ) (σ := σ) k (IE.mk .conv k e (.c 0)); rwa [IE.den_mk] at this
    · cases h
  · cases h

theorem sound_makeFunc {f : Fn} {x y : Array Operand} (hop : o.op = .makeFunc f x y) (h : opE C T s o = some r) (I : Inp P C ρ σ cur s T a w o r) : Gives P o a w (Post ρ σ cur s.next w r.val r.s r.W) := by
  unfold opE at h
  rw [hop] at h
  simp only [opFunc] at h
  split at h
  · rename_i l m h1 h2
    cases h
    have e1 := evs_run (σ := σ) (ρ := ρ) (a := a) (fun t ht => I.T t (by rw [hop]; simp only [Op.operands, Array.toList_append, List.mem_append]; exact .inl ht)) h1
    have e2 := evs_run (σ := σ) (ρ := ρ) (a := a) (fun t ht => I.T t (by rw [hop]; simp only [Op.operands, Array.toList_append, List.mem_append]; exact .inr ht)) h2
    refine gives_pure (R := []) rfl I.H (v := .func f (x.map a.eval) (y.map a.eval)) ?_ (.fn f (by simpa using e1) (by simpa using e2))
    simp [execOp, hop, Instr.makeFunc]
  · cases h

theorem sound_fieldAddr {t : TypeId} {x : Operand} {f : Nat} (hop : o.op = .fieldAddr t x f) (h : opE C T s o = some r) (I : Inp P C ρ σ cur s T a w o r) : Gives P o a w (Post ρ σ cur s.next w r.val r.s r.W) := by
  have mx : x ∈ o.op.operands.toList := by rw [hop]; simp [Op.operands]
  unfold opE at h
  rw [hop] at h
  simp only [opFieldAddr] at h
  split at h
  · rename_i q b off hq h1
    obtain ⟨l, hl, hv⟩ := (I.T.ev mx h1).ptr_inv
    have hu := (I.ok.ty _ _ hq).under w
    split at h
    · rename_i fs hd
      rw [hd] at hu
      split at h
      · rename_i fd hfd
        split at h
        · rename_i q2 hq2
          have hs := (I.ok.ty _ _ hq2).sizeOf' w
          cases h0 : Nat.beq q2.size 0 with
          | true => rw [h0, cond_true] at h; cases h
          | false =>
            rw [h0, cond_false] at h
            cases h
            have h0' : ¬ q2.size = 0 := fun e => by rw [e] at h0; cases h0
            refine gives_pure (R := []) rfl I.H (v := .pointer (some ⟨l.blk, l.base + (off + fd.offset), none⟩)) ?_ (.ptr hl)
            simp only [execOp, hop, hv, Instr.fieldAt, Sem.run_bind, hu, Result.andThen, hfd, Instr.sureAddr, fieldPlace, hs, h0', if_false, Sem.run_pure, pure_bind, add_none, Nat.add_assoc]
        · cases h
      · cases h
    · cases h
  · rename_i q b z j off hq h1
    obtain ⟨l, hl, hv⟩ := (I.T.ev mx h1).ptx_inv.ptr_inv
    have hu := (I.ok.ty _ _ hq).under w
    split at h
    · rename_i fs hd
      rw [hd] at hu
      split at h
      · rename_i fd hfd
        split at h
        · rename_i q2 hq2
          have hs := (I.ok.ty _ _ hq2).sizeOf' w
          cases h0 : Nat.beq q2.size 0 with
          | true => rw [h0, cond_true] at h; cases h
          | false =>
            rw [h0, cond_false] at h
            cases h
            have h0' : ¬ q2.size = 0 := fun e => by rw [e] at h0; cases h0
            refine gives_pure (R := []) rfl I.H (v := .pointer (some ⟨l.blk, l.base + (j * z + (off + fd.offset)), none⟩)) ?_ (.ptx (.ptr hl))
            simp only [execOp, hop, hv, Instr.fieldAt, Sem.run_bind, hu, Result.andThen, hfd, Instr.sureAddr, fieldPlace, hs, h0', if_false, Sem.run_pure, pure_bind, add_none, Nat.add_assoc]
        · cases h
      · cases h
    · cases h
  · cases h

theorem part_run {q : TyR} {t : TypeId} {l : List CV} {cs : Array Value} (hq : TyOk P t q) (h : VRl ρ σ l cs.toList) (off : Nat) {c : CV}
    (hc : (bif q.agg then some (CV.agg ((l.drop off).take q.size)) else match l[off]? with | some c => some c | none => none) = some c) : ∃ v, (part t cs off).run P w = .ok v w ∧ VR ρ σ c v := by
  have h1 := hq.isAgg' w
  have h2 := hq.sizeOf' w
  cases hg : q.agg with
  | true =>
    rw [hg, cond_true] at hc
    cases hc
    refine ⟨.agg (cs.extract off (off + q.size)), ?_, .agg ?_⟩
    · simp [part, h1, hg, h2]
    · have := (h.drop off).take q.size
      rw [Array.toList_extract, List.extract_eq_take_drop]
      rw [Nat.add_sub_cancel_left]
      exact this
  | false =>
    rw [hg, cond_false] at hc
    split at hc
    · rename_i c' hc'
      cases hc
      obtain ⟨v, hv1, hv2⟩ := h.get hc'
      rw [Array.getElem?_toList] at hv1
      exact ⟨v, by simp [part, h1, hg, hv1], hv2⟩
    · cases hc

theorem sound_field {t : TypeId} {x : Operand} {f : Nat} (hop : o.op = .field t x f) (h : opE C T s o = some r) (I : Inp P C ρ σ cur s T a w o r) : Gives P o a w (Post ρ σ cur s.next w r.val r.s r.W) := by
  have mx : x ∈ o.op.operands.toList := by rw [hop]; simp [Op.operands]
  unfold opE at h
  rw [hop] at h
  simp only [opField] at h
  split at h
  · rename_i q l hq h1
    obtain ⟨cs, hv, hv2⟩ := (I.T.ev mx h1).agg_inv
    have hu := (I.ok.ty _ _ hq).under w
    split at h
    · rename_i fs hd
      rw [hd] at hu
      split at h
      · rename_i fd hfd
        split at h
        · rename_i q2 hq2
          obtain ⟨c, hc, rfl⟩ : ∃ c, (bif q2.agg then some (CV.agg ((l.drop fd.offset).take q2.size)) else match l[fd.offset]? with | some c => some c | none => none) = some c ∧ r = ⟨c, s, [], []⟩ := by
            cases hg : q2.agg with
            | true => rw [hg, cond_true] at h; exact ⟨_, rfl, (Option.some.inj h).symm⟩
            | false =>
              rw [hg, cond_false] at h
              split at h
              · rename_i c hc; rw [hc]; exact ⟨c, rfl, (Option.some.inj h).symm⟩
              · cases h
          obtain ⟨v, e1, e2⟩ := part_run (w := w) (I.ok.ty _ _ hq2) hv2 fd.offset hc
          refine gives_pure (R := []) rfl I.H (v := v) ?_ e2
          simp only [execOp, hop, hv, Instr.field, Sem.run_bind, hu, Result.andThen, hfd, asAgg, Sem.run_pure, pure_bind, e1]
        · cases h
      · cases h
    · cases h
  · cases h

theorem sound_extract {x : Operand} {i : Nat} (hop : o.op = .extract x i) (h : opE C T s o = some r) (I : Inp P C ρ σ cur s T a w o r) : Gives P o a w (Post ρ σ cur s.next w r.val r.s r.W) := by
  have mx : x ∈ o.op.operands.toList := by rw [hop]; simp [Op.operands]
  unfold opE at h
  rw [hop] at h
  simp only [opExtract] at h
  split at h
  · rename_i l h1
    obtain ⟨cs, hv, hv2⟩ := (I.T.ev mx h1).tup_inv
    split at h
    · rename_i c hc
      cases h
      obtain ⟨v, e1, e2⟩ := hv2.get hc
      rw [Array.getElem?_toList] at e1
      refine gives_pure (R := []) rfl I.H (v := v) ?_ e2
      simp [execOp, hop, hv, Instr.extract, e1]
    · cases h
  · cases h

theorem inRange {n : Int} {len : Nat} (h : (decide (0 ≤ n) && decide (n < (len : Int))) = true) : 0 ≤ n ∧ n < (len : Int) := by simpa using h

theorem sound_index {t : TypeId} {x i : Operand} (hop : o.op = .index t x i) (h : opE C T s o = some r) (I : Inp P C ρ σ cur s T a w o r) : Gives P o a w (Post ρ σ cur s.next w r.val r.s r.W) := by
  have mx : x ∈ o.op.operands.toList := by rw [hop]; simp [Op.operands]
  have mi : i ∈ o.op.operands.toList := by rw [hop]; simp [Op.operands]
  unfold opE at h
  rw [hop] at h
  simp only [opIndex] at h
  split at h
  · rename_i q l k e hq h1 h2
    obtain ⟨cs, hv, hv2⟩ := (I.T.ev mx h1).agg_inv
    have hi := (I.T.ev mi h2).int_inv
    have hu := (I.ok.ty _ _ hq).under w
    split at h
    · rename_i n s1 hcn
      obtain ⟨hn, _, _, hd⟩ := conc_parts (ρ := ρ) hcn
      split at h
      · rename_i len el hdd
        rw [hdd] at hu
        split at h
        · rename_i q2 hq2
          have hs := (I.ok.ty _ _ hq2).sizeOf' w
          cases hin : (decide (0 ≤ n) && decide (n < (len : Int))) with
          | false => rw [hin, cond_false] at h; cases h
          | true =>
            rw [hin, cond_true] at h
            have hin' := inRange hin
            obtain ⟨c, hc, rfl⟩ : ∃ c, (bif q2.agg then some (CV.agg ((l.drop (n.toNat * q2.size)).take q2.size)) else match l[n.toNat * q2.size]? with | some c => some c | none => none) = some c ∧ r = ⟨c, s1, [], []⟩ := by
              cases hg : q2.agg with
              | true => rw [hg, cond_true] at h; exact ⟨_, rfl, (Option.some.inj h).symm⟩
              | false =>
                rw [hg, cond_false] at h
                split at h
                · rename_i c hc; rw [hc]; exact ⟨c, rfl, (Option.some.inj h).symm⟩
                · cases h
            have hd := hd I.pc
            obtain ⟨v, e1, e2⟩ := part_run (w := w) (I.ok.ty _ _ hq2) hv2 (n.toNat * q2.size) hc
            refine gives_pure (R := []) hn I.H (v := v) ?_ e2
            simp only [execOp, hop, hv, hi, hd, Instr.index, asIntOf, Sem.run_bind, hu, Result.andThen, Sem.run_pure, pure_bind]
            rw [if_pos hin']
            simp [hs, e1]
        · cases h
      · cases h
    · cases h
  · rename_i q b k n hq h1 h2
    have hv := (I.T.ev mx h1).raw_inv
    have hi := (I.T.ev mi h2).int_inv
    simp only [IE.den] at hi
    have hu := (I.ok.ty _ _ hq).under w
    split at h
    · rename_i hd
      rw [hd] at hu
      cases hin : decide (0 ≤ n) with
      | false => rw [hin, cond_false] at h; cases h
      | true =>
        rw [hin, cond_true] at h
        have hin' : 0 ≤ n := of_decide_eq_true hin
        split at h
        · rename_i y hy
          cases h
          refine gives_pure (R := []) rfl I.H (v := .int .u8 (y.toNat : Int)) ?_ (.int .u8 (.c y.toNat))
          simp only [execOp, hop, hv, hi, Instr.index, asIntOf, Sem.run_bind, hu, Result.andThen, Sem.run_pure, pure_bind]
          rw [if_pos hin', hy]
          rfl
        · cases h
    · cases h
  · cases h

theorem sound_indexAddr {t : TypeId} {x i : Operand} (hop : o.op = .indexAddr t x i) (h : opE C T s o = some r) (I : Inp P C ρ σ cur s T a w o r) : Gives P o a w (Post ρ σ cur s.next w r.val r.s r.W) := by
  have mx : x ∈ o.op.operands.toList := by rw [hop]; simp [Op.operands]
  have mi : i ∈ o.op.operands.toList := by rw [hop]; simp [Op.operands]
  unfold opE at h
  rw [hop] at h
  simp only [opIndexAddr] at h
  split at h
  · rename_i q b z N e k y hq h1 h2
    have hv := I.T.ev mx h1
    have hi := (I.T.ev mi h2).int_inv
    have hu := (I.ok.ty _ _ hq).under w
    split at h
    · rename_i el hdd
      rw [hdd] at hu
      split at h
      · rename_i q2 hq2
        have hs := (I.ok.ty _ _ hq2).sizeOf' w
        cases hz : Nat.beq z q2.size with
        | false => rw [hz, cond_false] at h; cases h
        | true =>
          rw [hz, cond_true] at h
          have hz' := Nat.eq_of_beq_eq_true hz
          split at h
          · rename_i n s1 hat
            cases h
            obtain ⟨m1, _, _, m4, m5⟩ := place_parts (ρ := ρ) hat
            obtain ⟨d1, d2⟩ := m4 I.pc
            generalize hxv : a.eval x = vx at hv
            cases hv with
            | slr ad c' hn hr =>
              rename_i n'
              obtain ⟨l, o', rfl, e2, e3⟩ := hr n (by omega) m5
              refine gives_pure (R := []) m1 I.H (v := .pointer (some ⟨l.blk, l.base + 0, none⟩)) ?_ (.ptr e3)
              simp only [execOp, hop, hxv, hi, d1, Instr.indexAt, asIntOf, Sem.run_bind, hu, Result.andThen, Sem.run_pure, pure_bind]
              rw [if_pos ⟨by omega, by omega⟩]
              simp [hs, add_none, e2, ← hz']
          · cases h
      · cases h
    · cases h
  · rename_i q b z o' len cap k e hq h1 h2
    have hv := (I.T.ev mx h1).slx_inv
    have hi := (I.T.ev mi h2).int_inv
    have hu := (I.ok.ty _ _ hq).under w
    split at h
    · rename_i el n hdd hnum
      rw [hdd] at hu
      split at h
      · rename_i q2 hq2
        have hs := (I.ok.ty _ _ hq2).sizeOf' w
        cases hz : Nat.beq z q2.size with
        | false => rw [hz, cond_false] at h; cases h
        | true =>
          rw [hz, cond_true] at h
          have hz' := Nat.eq_of_beq_eq_true hz
          split at h
          · rename_i s1 hm
            cases h
            obtain ⟨m1, _, _, m4⟩ := musts_parts (ρ := ρ) hm
            have m4 := m4 I.pc
            have b1 : 0 ≤ n := of_decide_eq_true (m4 _ (by simp))
            have b2 : n < (len : Int) := of_decide_eq_true (m4 _ (by simp))
            have hd := IE.num_den (ρ := ρ) hnum
            generalize hxv : a.eval x = vx at hv
            cases hv with
            | slc hl hc hsz =>
              rename_i c' l
              have e0 : o' * z + n.toNat * q2.size = (o' + n.toNat) * z + 0 := by rw [Nat.add_mul, hz', Nat.add_zero]
              refine gives_pure (R := []) m1 I.H (v := .pointer (some ⟨l.blk, l.base + ((o' + n.toNat) * z + 0), none⟩)) ?_ (.ptx (.ptr hl))
              rw [← e0]
              simp only [execOp, hop, hxv, hi, hd, Instr.indexAt, asIntOf, Sem.run_bind, hu, Result.andThen, Sem.run_pure, pure_bind]
              rw [if_pos ⟨b1, b2⟩]
              simp [hs, add_none, Nat.add_assoc]
          · cases h
      · cases h
    · cases h
  · rename_i q b z o' len k e hq h1 h2
    have hv := I.T.ev mx h1
    have hi := (I.T.ev mi h2).int_inv
    have hu := (I.ok.ty _ _ hq).under w
    split at h
    · rename_i el n hdd hnum
      rw [hdd] at hu
      split at h
      · rename_i q2 hq2
        have hs := (I.ok.ty _ _ hq2).sizeOf' w
        cases hz : Nat.beq z q2.size with
        | false => rw [hz, cond_false] at h; cases h
        | true =>
          rw [hz, cond_true] at h
          have hz' := Nat.eq_of_beq_eq_true hz
          split at h
          · rename_i s1 hm
            cases h
            obtain ⟨m1, _, _, m4⟩ := musts_parts (ρ := ρ) hm
            have m4 := m4 I.pc
            have b1 : 0 ≤ n := of_decide_eq_true (m4 _ (by simp))
            have b2 : n < (len : Int) := of_decide_eq_true (m4 _ (by simp))
            have hd := IE.num_den (ρ := ρ) hnum
            generalize hxv : a.eval x = vx at hv
            cases hv with
            | sla hl hc =>
              rename_i c' l
              have e0 : o' * z + n.toNat * q2.size = (o' + n.toNat) * z + 0 := by rw [Nat.add_mul, hz', Nat.add_zero]
              refine gives_pure (R := []) m1 I.H (v := .pointer (some ⟨l.blk, l.base + ((o' + n.toNat) * z + 0), none⟩)) ?_ (.ptx (.ptr hl))
              rw [← e0]
              simp only [execOp, hop, hxv, hi, hd, Instr.indexAt, asIntOf, Sem.run_bind, hu, Result.andThen, Sem.run_pure, pure_bind]
              rw [if_pos ⟨b1, b2⟩]
              simp [hs, add_none, Nat.add_assoc]
            | sla0 a' c' => exfalso; simp at b2; omega
          · cases h
      · cases h
    · cases h
  · rename_i q b z j off k e hq h1 h2
    have hv := (I.T.ev mx h1).ptx_inv
    have hi := (I.T.ev mi h2).int_inv
    have hu := (I.ok.ty _ _ hq).under w
    split at h
    · rename_i n s1 hcn
      obtain ⟨hn, _, _, hd⟩ := conc_parts (ρ := ρ) hcn
      split at h
      · rename_i len el hdd
        rw [hdd] at hu
        split at h
        · rename_i q2 hq2
          have hs := (I.ok.ty _ _ hq2).sizeOf' w
          cases hin : (decide (0 ≤ n) && decide (n < (len : Int))) with
          | false => rw [hin, cond_false] at h; cases h
          | true =>
            rw [hin, cond_true] at h
            have hin' := inRange hin
            cases h
            have hd := hd I.pc
            obtain ⟨l, hl, hxv⟩ := hv.ptr_inv
            refine gives_pure (R := []) hn I.H (v := .pointer (some ⟨l.blk, l.base + (j * z + (off + n.toNat * q2.size)), none⟩)) ?_ (.ptx (.ptr hl))
            simp only [execOp, hop, hxv, hi, hd, Instr.indexAt, asIntOf, Sem.run_bind, hu, Result.andThen, Sem.run_pure, pure_bind, Instr.sureAddr]
            rw [if_pos hin']
            simp [hs, add_none, Nat.add_assoc]
        · cases h
      · cases h
    · cases h
  · rename_i q y k e hq h1 h2
    have hv := I.T.ev mx h1
    have hi := (I.T.ev mi h2).int_inv
    have hu := (I.ok.ty _ _ hq).under w
    split at h
    · rename_i n s1 hcn
      obtain ⟨hn, _, _, hd⟩ := conc_parts (ρ := ρ) hcn
      split at h
      · rename_i el b off len cap hdd
        rw [hdd] at hu
        split at h
        · rename_i q2 hq2
          have hs := (I.ok.ty _ _ hq2).sizeOf' w
          cases hin : (decide (0 ≤ n) && decide (n < (len : Int))) with
          | false => rw [hin, cond_false] at h; cases h
          | true =>
            rw [hin, cond_true] at h
            have hin' := inRange hin
            cases h
            have hd := hd I.pc
            generalize hxv : a.eval x = vx at hv
            cases hv with
            | slc hl hc hsz =>
              rename_i c' l
              refine gives_pure (R := []) hn I.H (v := .pointer (some ⟨l.blk, l.base + (off + n.toNat * q2.size), none⟩)) ?_ (.ptr hl)
              simp only [execOp, hop, hxv, hi, hd, Instr.indexAt, asIntOf, Sem.run_bind, hu, Result.andThen, Sem.run_pure, pure_bind]
              rw [if_pos hin']
              simp [hs, add_none, Nat.add_assoc]
        · cases h
      · rename_i len el b off hdd
        rw [hdd] at hu
        split at h
        · rename_i q2 hq2
          have hs := (I.ok.ty _ _ hq2).sizeOf' w
          cases hin : (decide (0 ≤ n) && decide (n < (len : Int))) with
          | false => rw [hin, cond_false] at h; cases h
          | true =>
            rw [hin, cond_true] at h
            have hin' := inRange hin
            cases h
            have hd := hd I.pc
            obtain ⟨l, hl, hxv⟩ := hv.ptr_inv
            refine gives_pure (R := []) hn I.H (v := .pointer (some ⟨l.blk, l.base + (off + n.toNat * q2.size), none⟩)) ?_ (.ptr hl)
            simp only [execOp, hop, hxv, hi, hd, Instr.indexAt, asIntOf, Sem.run_bind, hu, Result.andThen, Sem.run_pure, pure_bind, Instr.sureAddr]
            rw [if_pos hin']
            simp [hs, add_none, Nat.add_assoc]
        · cases h
      · cases h
    · cases h
  · cases h

end
end Go.Proofs.Ytknphpihipkdpaa.Cx
