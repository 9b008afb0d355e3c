/- LOOPS AND CUTS: a small logic over canonical memory. What holds at a point is a frame's temporaries and canonical memory; between points the evaluator runs; at a point memory may be named anew, and what is not wanted is forgotten. -/
import Derived.Test.YtknphpihipkdpaaCxR
import Derived.Sort.LoopGhostIn
set_option linter.unusedSimpArgs false
set_option linter.unusedVariables false
namespace Go.Proofs.Ytknphpihipkdpaa.Cx
open Go Go.RowKit

/-- What is at a function's start. -/
structure Fx where
  σ : Mp
  cur : Cur
  base : Nat
  W : List Nat
  w : World
  nt : Nat
  a : Act
  ro : Option Nat
  n : Nat

structure FxOk (ρ : Env) (X : Fx) : Prop where
  H : HR ρ X.σ X.cur X.w
  N : ∀ b, X.base ≤ b → X.σ b = none
  lt : ∀ b ∈ X.W, b < X.base
  ro : ∀ l, X.ro = some l → ∃ r, X.w.heap[l]? = some (.loop r)

/-- A point: temporaries, memory, the next number. -/
structure Pt where
  T : Tr CV
  h : Tr Blk
  n : Nat

def Pt.st (p : Pt) (o : List Nat) : St := ⟨p.h, p.n, o, []⟩

/-- A real frame and world stand for a point. -/
structure SR (ρ : Env) (X : Fx) (p : Pt) (a : Act) (w : World) : Prop where
  le : X.base ≤ p.n
  old : ∀ b, b < X.base → b ∉ X.W → X.cur b = p.h.get b
  rel : ∃ σ, Inv ρ X.σ X.cur X.base X.W X.base X.w (p.st []) σ w ∧ FRc ρ σ X.nt p.T X.a a X.w w

/-- A statement from a point: however it is left, it is left at such a point. -/
def Sem (P : Program) (ρ : Env) (X : Fx) (c : Code) (p : Pt) (Φ : Ex → Pt → Prop) : Prop :=
  ∀ (Q : Exit → Act → World → Prop) (a : Act) (w : World), SR ρ X p a w → (∀ e p' a' w', Φ e p' → SR ρ X p' a' w' → Q e.conv a' w') → c.wpIn (fc X.ro) X.n P Q a w

section
variable {P : Program} {C : Ctx} {ρ : Env} {X : Fx} {c d : Code} {p : Pt} {Φ Ψ : Ex → Pt → Prop}

theorem Inv.same {σ σ' : Mp} {cur : Cur} {base n0 : Nat} {W : List Nat} {w0 w : World} {s s' : St} (h : Inv ρ σ cur base W n0 w0 s σ' w) (h1 : s'.next = s.next) (h2 : s'.heap = s.heap) : Inv ρ σ cur base W n0 w0 s' σ' w :=
  ⟨by rw [h1]; exact h.ext, by rw [h1, h2]; exact h.H, h.K, by rw [h1]; exact h.F⟩

/-- The evaluator runs. -/
theorem Sem.evalS {m : Nat} {s0 : St} {e : Ex} {T' : Tr CV} {s' : St} {R W : List Nat} (hC : CtxOk3 P C) (hM : MemoOk P C ρ) (hX : FxOk ρ X) (hr : regsOk c = true) (hs1 : s0.heap = p.h) (hs2 : s0.next = p.n) (he : Cx.eval C m X.base (.code c X.nt p.T) s0 = some ⟨.code e T', s', R, W⟩)
    (hp : ∀ q ∈ s'.pc, q.holds ρ) (hW : ∀ b ∈ W, b ∈ X.W) (hΦ : Φ e ⟨T', s'.heap, s'.next⟩) : Sem P ρ X c p Φ := by
  intro Q a w hS hQ
  obtain ⟨σ1, hI, hF⟩ := hS.rel
  have k1 := (eval_ok (ρ := ρ) hC hM m).code _ _ _ _ _ _ _ _ _ _ he (by rw [hs2]; exact hS.le)
  refine (k1.run hr X.W X.ro X.n Q σ1 (upd X.cur X.base p.n p.h X.W) w a a hW hX.lt hp (fun l hl => (hX.ro l hl).elim fun r h1 => hI.K.loops l r h1) hI.H (fun b hb => ?_) (fun b h1 h2 => ?_) hF.self ?_).wpIn
  · rw [hs2] at hb
    rw [hs1]
    show (if b ∈ X.W ∨ (X.base ≤ b ∧ b < p.n) then _ else X.cur b) = p.h.get b
    by_cases hc : b ∈ X.W ∨ (X.base ≤ b ∧ b < p.n)
    · rw [if_pos hc]
    · rw [if_neg hc]
      rcases hb with hb | hb
      · exact hS.old b (k1.lt b (.inl hb)) (fun h => hc (.inl h))
      · exact absurd hb hc
  · rw [hs2] at h1
    rw [hI.ext b (.inr h1)]; exact hX.N b (Nat.le_trans hS.le h1)
  · rintro a' w' ⟨σ2, hI2, hF2⟩
    have n1 : p.n ≤ s'.next := by rw [← hs2]; exact k1.frm.next
    have f2 : FrmB X.base (p.st []) s' X.W := ⟨n1, fun b hb hn => by show _ = p.h.get b; rw [← hs1]; exact k1.frm.get b (fun h => hb (hW b h)) hn, ⟨s'.pc, by simp [Pt.st]⟩⟩
    have hI2 : Inv ρ σ1 (upd X.cur X.base p.n p.h X.W) X.base X.W p.n w s' σ2 w' := by rw [← hs2]; rw [← hs2] at hI2; exact hI2
    have hI3 := hI.step hS.le (Nat.le_refl _) hS.le (fun b hb => .inl hb) f2 hI2.ext hI2.H hI2.K hI2.F
    refine hQ e ⟨T', s'.heap, s'.next⟩ a' w' hΦ ⟨Nat.le_trans hS.le n1, fun b hb hn => ?_, σ2, hI3.same rfl rfl, hF2.1, hF2.2.1, hF.2.2.trans hI.K.size (fun k hk => hI2.K.defd k hk) hF2.2.2⟩
    rw [hS.old b hb hn, ← hs1]
    exact (k1.frm.get b (fun h => hn (hW b h)) (fun h => by omega)).symm

theorem Sem.eval {m : Nat} {o : List Nat} {e : Ex} {T' : Tr CV} {s' : St} {R W : List Nat} (hC : CtxOk3 P C) (hM : MemoOk P C ρ) (hX : FxOk ρ X) (hr : regsOk c = true) (he : Cx.eval C m X.base (.code c X.nt p.T) (p.st o) = some ⟨.code e T', s', R, W⟩)
    (hp : ∀ q ∈ s'.pc, q.holds ρ) (hW : ∀ b ∈ W, b ∈ X.W) (hΦ : Φ e ⟨T', s'.heap, s'.next⟩) : Sem P ρ X c p Φ := .evalS hC hM hX hr rfl rfl he hp hW hΦ

theorem Sem.post (h : Sem P ρ X c p Ψ) (hq : ∀ e p', Ψ e p' → Φ e p') : Sem P ρ X c p Φ :=
  fun Q a w hS hQ => h Q a w hS fun e p' a' w' h1 h2 => hQ e p' a' w' (hq e p' h1) h2

theorem Sem.pre {p2 : Pt} (hs : ∀ a w, SR ρ X p a w → SR ρ X p2 a w) (h : Sem P ρ X c p2 Φ) : Sem P ρ X c p Φ :=
  fun Q a w hS hQ => h Q a w (hs a w hS) hQ

theorem Sem.skip (h : Φ .normal p) : Sem P ρ X .skip p Φ := fun Q a w hS hQ => wpIn_skip (hQ .normal p a w h hS)

/-- What follows in a sequence. -/
def Then (P : Program) (ρ : Env) (X : Fx) (d : Code) (Φ : Ex → Pt → Prop) : Ex → Pt → Prop
  | .normal, p => Sem P ρ X d p Φ
  | e, p => Φ e p

theorem Sem.seq (h : Sem P ρ X c p (Then P ρ X d Φ)) : Sem P ρ X (.seq c d) p Φ := by
  intro Q a w hS hQ
  refine wpIn_seq (h _ a w hS fun e p' a' w' h1 h2 => ?_)
  cases e with
  | normal => exact h1 Q a' w' h2 hQ
  | exit i => exact hQ _ _ _ _ h1 h2
  | ret => exact hQ _ _ _ _ h1 h2

def Inside (i : Nat) (Φ : Ex → Pt → Prop) : Ex → Pt → Prop
  | .exit j, p => bif Nat.beq j i then Φ .normal p else Φ (.exit j) p
  | e, p => Φ e p

theorem Sem.block {i : Nat} (h : Sem P ρ X c p (Inside i Φ)) : Sem P ρ X (.block i c) p Φ := by
  intro Q a w hS hQ
  refine wpIn_block (h _ a w hS fun e p' a' w' h1 h2 => ?_)
  cases e with
  | normal => exact hQ _ _ _ _ h1 h2
  | ret => exact hQ _ _ _ _ h1 h2
  | exit j =>
    show (if j = i then Q .normal a' w' else Q (.exit j) a' w')
    simp only [Inside] at h1
    by_cases hj : j = i
    · rw [if_pos hj]
      have e1 : Nat.beq j i = true := by rw [hj]; exact Nat.beq_refl i
      rw [e1] at h1
      exact hQ _ _ _ _ h1 h2
    · rw [if_neg hj]
      have e1 : Nat.beq j i = false := by
        cases hbq : Nat.beq j i with
        | false => rfl
        | true => exact absurd (Nat.eq_of_beq_eq_true hbq) hj
      rw [e1] at h1
      exact hQ _ _ _ _ h1 h2

theorem Sem.scope (h : Sem P ρ X c p Φ) : Sem P ρ X (.scope c) p Φ := by
  intro Q a w hS hQ
  refine wpIn_scope (h _ a w hS fun e p' a' w' h1 h2 => ?_)
  have := hQ e p' a' w' h1 h2
  cases e <;> exact this

/-- A loop's round: it goes on, at a point of the family with a smaller number, or it is left. -/
def Round (I : Nat → Pt → Prop) (k : Nat) (Φ : Ex → Pt → Prop) : Ex → Pt → Prop
  | .normal, p => ∃ k', k' < k ∧ I k' p
  | e, p => Φ e p

theorem Sem.loop (I : Nat → Pt → Prop) (hb : ∀ k p, I k p → Sem P ρ X c p (Round I k Φ)) (k : Nat) (h : I k p) : Sem P ρ X (.loop c) p Φ := by
  intro Q a w hS hQ
  refine wpIn_loop_ghost (fun k a w => ∃ p, I k p ∧ SR ρ X p a w) k ⟨p, h, hS⟩ ?_
  rintro k a w ⟨p, hI, hS⟩
  refine hb k p hI _ a w hS fun e p' a' w' h1 h2 => ?_
  cases e with
  | normal => obtain ⟨k', h3, h4⟩ := h1; exact ⟨k', h3, p', h4, h2⟩
  | exit i => exact hQ _ _ _ _ h1 h2
  | ret => exact hQ _ _ _ _ h1 h2

theorem Sem.cond {x : Operand} {e : BE} {v : Bool} (hx : ev p.T x = some (.bool e)) (hv : e.den ρ = v) (h : Sem P ρ X (if v then c else d) p Φ) : Sem P ρ X (.cond x c d) p Φ := by
  intro Q a w hS hQ
  obtain ⟨σ1, hI, hF⟩ := hS.rel
  have hxv := (ev_run (σ := σ1) (ρ := ρ) (a := a) (fun t _ => hF.2.1 t) hx).bool_inv
  rw [hv] at hxv
  exact wpIn_cond hxv (h Q a w hS hQ)

/-! ## Points named anew -/

/-- A value under other names. -/
def MC (ρ : Env) (ren : Nat → Nat) (n2 : Nat) (c0 c : CV) : Prop := ∀ (σ σ2 : Mp) (v : Value), (∀ b, b < n2 → σ2 b = σ (ren b)) → VR ρ σ c0 v → VR ρ σ2 c v
def MB (ρ : Env) (ren : Nat → Nat) (n2 : Nat) (k0 k : Blk) : Prop := k.live = k0.live ∧ k.esz = k0.esz ∧ k.ext = none ∧ (k.ro = false → k0.ro = false) ∧ ∀ (σ σ2 : Mp) (us : List Value), (∀ b, b < n2 → σ2 b = σ (ren b)) → VRl ρ σ k0.cells us → VRl ρ σ2 k.cells us

/-- The record of a range, under other names. -/
def MX (ρ : Env) (ren : Nat → Nat) (n2 : Nat) (k0 k : Blk) : Prop := k.live = false ∧ ∃ r0 r : LR, k0.ext = some (.loop r0) ∧ k.ext = some (.loop r) ∧ r.nt = r0.nt ∧ r.ps = r0.ps ∧ r.assign = r0.assign ∧ r.body = r0.body ∧ r.st = r0.st ∧ r.pend = r0.pend ∧ ∀ t, MC ρ ren n2 (rd r0.T t) (rd r.T t)

structure Mat (ρ : Env) (X : Fx) (ren : Nat → Nat) (p p2 : Pt) : Prop where
  le : X.base ≤ p2.n
  fix : ∀ b, b < X.base → ren b = b
  rng : ∀ b, X.base ≤ b → b < p2.n → X.base ≤ ren b ∧ ren b < p.n
  inj : ∀ b b', b < p2.n → b' < p2.n → ren b = ren b' → b = b'
  T : ∀ t, MC ρ ren p2.n (rd p.T t) (rd p2.T t)
  old : ∀ b, b < X.base → b ∉ X.W → p2.h.get b = p.h.get b
  blk : ∀ b k, (b ∈ X.W ∨ (X.base ≤ b ∧ b < p2.n)) → p2.h.get b = some k → ∃ k0, p.h.get (ren b) = some k0 ∧ (MB ρ ren p2.n k0 k ∨ MX ρ ren p2.n k0 k)

theorem Inv.mat {ren : Nat → Nat} {p2 : Pt} {w : World} {σ : Mp} (hX : FxOk ρ X) (hI : Inv ρ X.σ X.cur X.base X.W X.base X.w (p.st []) σ w) (hm : Mat ρ X ren p p2) : Inv ρ X.σ X.cur X.base X.W X.base X.w (p2.st []) (fun b => if b < p2.n then σ (ren b) else none) w := by
  have ltn : ∀ b, b < X.base → b < p2.n := fun b hb => Nat.lt_of_lt_of_le hb hm.le
  have low : ∀ b, b < X.base → (if b < p2.n then σ (ren b) else none) = X.σ b := fun b hb => by
    rw [if_pos (ltn b hb), hm.fix b hb]; exact hI.ext b (.inl hb)
  have hle0 : X.σ.le σ := hI.ext.le (fun b h1 h2 => hX.N b h1)
  have hle2 : X.σ.le (fun b => if b < p2.n then σ (ren b) else none) := fun b l hl => by
    show (if b < p2.n then σ (ren b) else none) = _
    by_cases hb : b < X.base
    · rw [low b hb]; exact hl
    · rw [hX.N b (by omega)] at hl; cases hl
  -- the blocks of either kind
  have cases2 : ∀ b k, upd X.cur X.base p2.n p2.h X.W b = some k → ∀ l, (if b < p2.n then σ (ren b) else none) = some l → b < p2.n ∧ σ (ren b) = some l ∧
      ((∃ k0, upd X.cur X.base p.n p.h X.W (ren b) = some k0 ∧ (MB ρ ren p2.n k0 k ∨ MX ρ ren p2.n k0 k)) ∨ (b < X.base ∧ ren b = b ∧ X.cur b = some k ∧ upd X.cur X.base p.n p.h X.W (ren b) = some k ∧ X.σ b = some l)) := by
    intro b k hk l hl
    have hb : b < p2.n := by
      by_cases h : b < p2.n
      · exact h
      · rw [if_neg h] at hl; cases hl
    rw [if_pos hb] at hl
    refine ⟨hb, hl, ?_⟩
    by_cases hc : b ∈ X.W ∨ (X.base ≤ b ∧ b < p2.n)
    · left
      have hk' : p2.h.get b = some k := by
        have : (if b ∈ X.W ∨ (X.base ≤ b ∧ b < p2.n) then p2.h.get b else X.cur b) = some k := hk
        rwa [if_pos hc] at this
      obtain ⟨k0, h1, h2⟩ := hm.blk b k hc hk'
      refine ⟨k0, ?_, h2⟩
      show (if ren b ∈ X.W ∨ (X.base ≤ ren b ∧ ren b < p.n) then p.h.get (ren b) else X.cur (ren b)) = some k0
      rw [if_pos]
      · exact h1
      · rcases hc with hc | hc
        · left; rw [hm.fix b (hX.lt b hc)]; exact hc
        · right; exact hm.rng b hc.1 hc.2
    · right
      have hb0 : b < X.base := by
        by_cases h : b < X.base
        · exact h
        · exact absurd (.inr ⟨by omega, hb⟩) hc
      have hk' : X.cur b = some k := by
        have : (if b ∈ X.W ∨ (X.base ≤ b ∧ b < p2.n) then p2.h.get b else X.cur b) = some k := hk
        rwa [if_neg hc] at this
      refine ⟨hb0, hm.fix b hb0, hk', ?_, ?_⟩
      · rw [hm.fix b hb0]
        show (if b ∈ X.W ∨ (X.base ≤ b ∧ b < p.n) then p.h.get b else X.cur b) = some k
        rw [if_neg (fun h => h.elim (fun h => hc (.inl h)) (fun h => by omega))]
        exact hk'
      · rw [← low b hb0, if_pos hb]; exact hl
  refine ⟨fun b hb => ?_, ⟨fun b k l hk hlive hl => ?_, fun b b' k k' l l' a1 a2 a3 a4 a5 a6 a7 a8 => ?_, fun b k x l hk hx hl => ?_, fun b b' k k' x x' l l' a1 a2 a3 a4 a5 a6 a7 => ?_⟩, hI.K, fun b l h1 h2 h3 => ?_⟩
  · show (if b < p2.n then σ (ren b) else none) = X.σ b
    rcases hb with hb | hb
    · exact low b hb
    · have hb' : ¬ b < p2.n := by have : p2.n ≤ b := hb; omega
      rw [if_neg hb', hX.N b (Nat.le_trans hm.le hb)]
  · obtain ⟨hb, hl', hc⟩ := cases2 b k hk l hl
    rcases hc with ⟨k0, h1, ⟨h2, h3, h4, hk0, h5⟩ | ⟨hx, _⟩⟩ | ⟨hb0, hren, hcur, hup, hσ0⟩
    · obtain ⟨cs, t, ppq1, q1, qqq1, q2, q3, q4, q5⟩ := hI.H.cell (ren b) k0 l h1 (h2 ▸ hlive) hl'
      have l1 := q5.length
      have q6 := h5 σ (fun b => if b < p2.n then σ (ren b) else none) _ (fun b hb => if_pos hb) q5
      have l2 := q6.length
      have hlen : k.cells.length = k0.cells.length := l2.symm.trans l1
      exact ⟨cs, t, ppq1, q1, fun h => qqq1 (hk0 h), q2, h3.trans q3, by rw [hlen]; exact q4, by rw [hlen]; exact q6⟩
    · rw [hx] at hlive; cases hlive
    · obtain ⟨cs, t, ppq1, q1, qqq1, q2, q3, q4, q5⟩ := hI.H.cell (ren b) k l hup hlive hl'
      obtain ⟨cs0, t0, ppr1, r1, qqr1, r2, r3, r4, r5⟩ := hX.H.cell b k l hcur hlive hσ0
      exact ⟨cs, t, ppq1, q1, qqq1, q2, q3, q4, (VRl.back hle0 r5 q5).mono hle2⟩
  · obtain ⟨hb, hl1, hc⟩ := cases2 b k a1 l a3
    obtain ⟨hb', hl2, hc'⟩ := cases2 b' k' a4 l' a6
    refine hm.inj b b' hb hb' ?_
    rcases hc with ⟨k0, h1, ⟨h2, _, _, r1, _⟩ | ⟨hx, _⟩⟩ | ⟨_, _, _, hup, _⟩
    · rcases hc' with ⟨k1, g1, ⟨g2, _, _, r2, _⟩ | ⟨hx', _⟩⟩ | ⟨_, _, _, hup', _⟩
      · exact hI.H.inj _ _ k0 k1 l l' h1 (h2 ▸ a2) hl1 g1 (g2 ▸ a5) hl2 a7 (a8.imp r1 r2)
      · rw [hx'] at a5; cases a5
      · exact hI.H.inj _ _ k0 k' l l' h1 (h2 ▸ a2) hl1 hup' a5 hl2 a7 (a8.imp r1 id)
    · rw [hx] at a2; cases a2
    · rcases hc' with ⟨k1, g1, ⟨g2, _, _, r2, _⟩ | ⟨hx', _⟩⟩ | ⟨_, _, _, hup', _⟩
      · exact hI.H.inj _ _ k k1 l l' hup a2 hl1 g1 (g2 ▸ a5) hl2 a7 (a8.imp id r2)
      · rw [hx'] at a5; cases a5
      · exact hI.H.inj _ _ k k' l l' hup a2 hl1 hup' a5 hl2 a7 a8
  · obtain ⟨hb, hl', hc⟩ := cases2 b k hk l hl
    rcases hc with ⟨k0, h1, ⟨h2, h3, h4, h5⟩ | ⟨_, r0, r, e0, e1, m1, m2, m3, m4, m5, m6, m7⟩⟩ | ⟨hb0, hren, hcur, hup, hσ0⟩
    · rw [h4] at hx; cases hx
    · rw [e1] at hx
      cases hx
      have s1 := hI.H.spec (ren b) k0 _ l h1 e0 hl'
      cases s1 with
      | loop q hq hs hp hps ha hb' hn hT ra rb =>
        refine .loop q hq (hs.trans m5.symm) (hp.trans m6.symm) (hps.trans m2.symm) (ha.trans m3.symm) (hb'.trans m4.symm) (hn.trans m1.symm) (fun t => m7 t σ _ _ (fun b hb => if_pos hb) (hT t)) (by rw [m3]; exact ra) (by rw [m4]; exact rb)
    · have s1 := hI.H.spec (ren b) k x l hup hx hl'
      exact ((hX.H.spec b k x l hcur hx hσ0).back hle0 s1).mono hle2
  · obtain ⟨hb, hl1, hc⟩ := cases2 b k a1 l a3
    obtain ⟨hb', hl2, hc'⟩ := cases2 b' k' a4 l' a6
    refine hm.inj b b' hb hb' ?_
    have ex : ∀ {c : Nat} {k : Blk} {x : BX} {l : Loc}, k.ext = some x → ((∃ k0, upd X.cur X.base p.n p.h X.W (ren c) = some k0 ∧ (MB ρ ren p2.n k0 k ∨ MX ρ ren p2.n k0 k)) ∨ (c < X.base ∧ ren c = c ∧ X.cur c = some k ∧ upd X.cur X.base p.n p.h X.W (ren c) = some k ∧ X.σ c = some l)) → ∃ k0 x0, upd X.cur X.base p.n p.h X.W (ren c) = some k0 ∧ k0.ext = some x0 := fun {c k x l} hx h => by
      rcases h with ⟨k0, h1, ⟨_, _, h4, _⟩ | ⟨_, r0, r, e0, _⟩⟩ | ⟨_, _, _, hup, _⟩
      · rw [h4] at hx; cases hx
      · exact ⟨k0, _, h1, e0⟩
      · exact ⟨k, x, hup, hx⟩
    obtain ⟨k0, x0, u1, u2⟩ := ex a2 hc
    obtain ⟨k1, x1, v1, v2⟩ := ex a5 hc'
    exact hI.H.injX _ _ k0 k1 x0 x1 l l' u1 u2 hl1 v1 v2 hl2 a7
  · have h2' : b < p2.n := h2
    have h3' : (if b < p2.n then σ (ren b) else none) = some l := h3
    rw [if_pos h2'] at h3'
    obtain ⟨r1, r2⟩ := hm.rng b h1 h2'
    exact hI.F (ren b) l r1 r2 h3'

theorem SR.mat {ren : Nat → Nat} {p2 : Pt} {a : Act} {w : World} (hX : FxOk ρ X) (hS : SR ρ X p a w) (hm : Mat ρ X ren p p2) : SR ρ X p2 a w := by
  obtain ⟨σ, hI, hF⟩ := hS.rel
  exact ⟨hm.le, fun b h1 h2 => (hS.old b h1 h2).trans (hm.old b h1 h2).symm, fun b => if b < p2.n then σ (ren b) else none, hI.mat hX hm, hF.1, fun t => hm.T t σ _ _ (fun b hb => if_pos hb) (hF.2.1 t), hF.2.2⟩

theorem Sem.mat {ren : Nat → Nat} {p2 : Pt} (hX : FxOk ρ X) (hm : Mat ρ X ren p p2) (h : Sem P ρ X c p2 Φ) : Sem P ρ X c p Φ := .pre (fun a w hS => hS.mat hX hm) h

end
end Go.Proofs.Ytknphpihipkdpaa.Cx
