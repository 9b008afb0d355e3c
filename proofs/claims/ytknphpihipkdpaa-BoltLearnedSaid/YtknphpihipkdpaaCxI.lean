/- One operation that calls no Go function: append, the other builtins; then all operations together. -/
import Derived.Test.YtknphpihipkdpaaCxH2
set_option linter.unusedSimpArgs false
set_option linter.unusedVariables false
namespace Go.Proofs.Ytknphpihipkdpaa.Cx
open Go Go.RowKit

section
variable {P : Program} {C : Ctx} {ρ : Env} {σ : Mp} {cur : Cur} {s : St} {T : Tr CV} {a : Act} {w : World} {o : Oper} {r : OR}

section
variable {sT elem ty yT size n : Nat} {m c : Nat} {y : Value} {vs : List Value} {w' : World} {i : TypeInfo}

theorem append_zero_S {b : Option Addr} (hu : (underlying sT).run P w = .ok (.slice elem) w) (hs : (sizeOf elem).run P w = .ok size w) (hS : SrcS P w size yT y 0 vs) (hv : vs = []) (h : m ≤ c) :
    (Builtin.append_ #[sT, yT] ty #[.slice b m c, y]).run P w = .ok (.slice b m c) w := by
  obtain ⟨e, hd⟩ := hS.d
  subst hv
  cases b <;> simp [Builtin.append_, hu, hs, hd, hS.len, hS.cells, h, storeCells]

theorem append_zero_Z {b : Option Addr} (hu : (underlying sT).run P w = .ok (.slice elem) w) (hs : (sizeOf elem).run P w = .ok size w) (hi : (typeInfo elem).run P w = .ok i w) (hS : SrcZ P w elem size yT y 0 vs) (h : m ≤ c) :
    (Builtin.append_ #[sT, yT] ty #[.slice b m c, y]).run P w = .ok (.slice b m c) w := by
  obtain ⟨k, hd⟩ := hS.d
  obtain ⟨k2, rfl⟩ := hS.y
  have hw := wrap_small (0 : Int) (by omega) (by omega)
  cases b <;> simp [Builtin.append_, hu, hs, hd, hi, asInt, asIntOf, hw, h, storeCells]
end

theorem exec_builtin {b : Builtin} {args : Array Operand} {tys : Array TypeId} (hop : o.op = .call { callee := .builtin b, args := args, argTypes := tys }) :
    ∃ cs, (execOp a.eval o).run P w = (builtin b tys o.type cs (args.map a.eval)).run P w :=
  ⟨_, by simp only [execOp, hop, resolve, pure_bind, invoke]; rfl⟩

theorem zeroCells_length (z : Array Value) (n : Nat) : (Builtin.zeroCells z n).toList.length = n * z.size := by simp [Builtin.zeroCells]

theorem sound_append {q r2 : TyR} {sT yT e ty n : Nat} {d : TypeDesc} {x y : CV} {vx vy : Value} {l : List CV} {R : List Nat} (hu : (underlying sT).run P w = .ok (.slice e) w) (hq : TyOk P e q) (h1 : 1 ≤ q.size) (hby : q.bytes ≤ 100000) (hr2 : TyOk P yT r2)
    (hsrc : srcE q s r2.desc y = some (l, n, R)) (h : appE q s x l n R = some r) (hx : VR ρ σ x vx) (hy : VR ρ σ y vy) (hH : HR ρ σ cur w) (hA : ∀ b, b ∈ r.R ∨ b ∈ r.W → cur b = s.heap.get b) (hN : ∀ b, s.next ≤ b → b < r.s.next → σ b = none) :
    ∃ v w', (Builtin.append_ #[sT, yT] ty #[vx, vy]).run P w = .ok v w' ∧ Post ρ σ cur s.next w r.val r.s r.W v w' := by
  have hRr : ∀ b ∈ R, b ∈ r.R := by
    unfold appE at h
    split at h
    · cases hb : Nat.beq n 0 with
      | true => rw [hb, cond_true] at h; cases h; exact fun _ hb => hb
      | false => rw [hb, cond_false] at h; cases h; exact fun _ hb => hb
    · cases hb : Nat.beq n 0 with
      | true => rw [hb, cond_true] at h; cases h; exact fun _ hb => hb
      | false => rw [hb, cond_false] at h; cases h
    · rename_i b off m c
      cases hb : Nat.beq n 0 with
      | true =>
        rw [hb, cond_true] at h
        cases hb2 : Nat.ble m c with
        | true => rw [hb2, cond_true] at h; cases h; exact fun _ hb => hb
        | false => rw [hb2, cond_false] at h; cases h
      | false =>
        rw [hb, cond_false] at h
        split at h
        · rename_i hh k _ _
          cases hf : (Nat.beq k.esz q.size && Nat.ble (m + n) 10000 && l.all CV.flat && !k.ro) with
          | true => rw [hf, cond_true] at h; cases h; exact fun _ hb => by simp [hb]
          | false => rw [hf, cond_false] at h; cases h
        · cases h
    · cases h
  obtain ⟨vs, hv, hvl, hn, hS⟩ := src_inv hH hq h1 hr2 hsrc hy (fun b hb => hA b (.inl (hRr b hb)))
  have hs := hq.sizeOf' w
  obtain ⟨i, hi, hi2, hi3⟩ := hq.info w
  obtain ⟨z, hz, hz2⟩ := hq.zeroA
  have hzs : z.cells.size = q.size := by
    have := (VRl.ofVals (ρ := ρ) (σ := σ) hz2).length
    simp only [Array.length_toList] at this
    rw [this, hq.2.2.1]
  -- nothing is appended
  have zero : ∀ (b : Option Addr) (m c : Nat), n = 0 → m ≤ c → (Builtin.append_ #[sT, yT] ty #[.slice b m c, vy]).run P w = .ok (.slice b m c) w := by
    intro b m c hn0 hmc
    subst hn0
    rcases hS with hS | hS
    · exact append_zero_S hu hs hS.1 (List.eq_nil_of_length_eq_zero (by omega)) hmc
    · exact append_zero_Z hu hs hi hS.1 hmc
  -- a new block
  have fresh : ∀ (b : Option Addr) (m c : Nat) (old : List Value), 1 ≤ n → ¬ m + n ≤ c → m + n ≤ 20000 → (Builtin.firstCells q.size m (.slice b m c)).run P w.drew = .ok old.toArray w.drew →
      (Builtin.append_ #[sT, yT] ty #[.slice b m c, vy]).run P w = .ok (.slice (some ⟨w.heap.size, 0, none⟩) (m + n) (newCap w e (m + n) c)) (w.drew.alloc (.cells (old ++ vs ++ (Builtin.zeroCells z.cells (newCap w e (m + n) c - (m + n))).toList).toArray e)) := by
    intro b m c old h1n hroom h20 hold
    rcases hS with hS | hS
    · exact append_new_S hu hq hby (hz _) hS.1 hS.2 hroom h20 hold
    · exact append_new_Z hu hq hby h1 h1n hS.2 hS.1.d (hz _) hroom h20 hold
  unfold appE at h
  split at h
  · -- nil
    rename_i c1 c2
    generalize vx = u at hx
    cases hx
    cases hb : Nat.beq n 0 with
    | true =>
      rw [hb, cond_true] at h; cases h
      exact ⟨_, _, zero none 0 0 (Nat.eq_of_beq_eq_true hb) (Nat.le_refl _), post_pure rfl .slc0 hH⟩
    | false =>
      rw [hb, cond_false] at h; cases h
      have hn0 : n ≠ 0 := fun e => by rw [e] at hb; cases hb
      have hσ := hN s.next (Nat.le_refl _) (by simp [St.new])
      have hr := fresh none 0 0 [] (by omega) (by omega) (by omega) (by simp [Builtin.firstCells])
      refine ⟨_, _, hr, post_drew ?_⟩
      simp only [Nat.zero_add]
      have hge := newCap_ge w e n 0
      refine post_new (s0 := s) (l := l) (vs := [] ++ vs) (K := []) hH.drew hv rfl hσ (fun b hb => by cases hb) ?_
      have hlen : ([] ++ vs ++ (Builtin.zeroCells z.cells (newCap w e n 0 - n)).toList).length = newCap w e n 0 * q.size := by
        simp only [List.length_append, List.length_nil, zeroCells_length, hzs, hvl]
        rw [Nat.zero_add, ← Nat.add_mul]; congr 1; omega
      have := VR.slc (ρ := ρ) (σ := fun b => if b = s.next then some ⟨w.drew.heap.size, 0, ([] ++ vs ++ (Builtin.zeroCells z.cells (newCap w e n 0 - n)).toList).length, q.size⟩ else σ b) (b := s.next) (o := 0) (n := n) (c := n) (c' := newCap w e n 0) (l := ⟨w.drew.heap.size, 0, ([] ++ vs ++ (Builtin.zeroCells z.cells (newCap w e n 0 - n)).toList).length, q.size⟩) (if_pos rfl) hge (by rw [hlen]; simp)
      exact this
  · -- an empty slice somewhere
    cases hb : Nat.beq n 0 with
    | true =>
      rw [hb, cond_true] at h; cases h
      generalize vx = u at hx
      cases hx
      exact ⟨_, _, zero _ 0 _ (Nat.eq_of_beq_eq_true hb) (Nat.zero_le _), post_pure rfl (.emp _ _) hH⟩
    | false => rw [hb, cond_false] at h; cases h
  · rename_i b off m c
    cases hx with
    | slc hl hc hsz =>
      rename_i c' lc
      cases hb : Nat.beq n 0 with
      | true =>
        rw [hb, cond_true] at h
        cases hb2 : Nat.ble m c with
        | true =>
          rw [hb2, cond_true] at h; cases h
          exact ⟨_, _, zero _ m c' (Nat.eq_of_beq_eq_true hb) (Nat.le_trans (Nat.le_of_ble_eq_true hb2) hc), post_pure rfl (.slc hl hc hsz) hH⟩
        | false => rw [hb2, cond_false] at h; cases h
      | false =>
        rw [hb, cond_false] at h
        have hn0 : n ≠ 0 := fun e => by rw [e] at hb; cases hb
        split at h
        · rename_i hh k hld hk
          cases hf : (Nat.beq k.esz q.size && Nat.ble (m + n) 10000 && l.all CV.flat && !k.ro) with
          | false => rw [hf, cond_false] at h; cases h
          | true =>
            rw [hf, cond_true] at h; cases h
            simp only [Bool.and_eq_true, List.all_eq_true, Bool.not_eq_true'] at hf
            obtain ⟨⟨⟨hf1, hf2⟩, hf3⟩, hro⟩ := hf
            have hesz := Nat.eq_of_beq_eq_true hf1
            have hmn := Nat.le_of_ble_eq_true hf2
            have hcb := hA b (.inl (by simp))
            have hσ := hN s.next (Nat.le_refl _) (by simp [St.new, kill_next])
            obtain ⟨k', hk', hlive, hle, hhe, _⟩ := ld_parts hld
            rw [hk] at hk'
            obtain rfl := Option.some.inj hk'
            obtain ⟨_, _, _, _, _, _, hez, _⟩ := hH.cell b k lc (hcb.trans hk) hlive hl
            have hbn : b ≠ s.next := fun e => by rw [e, hσ] at hl; cases hl
            obtain ⟨old, ho1, ho2, ho3, ho4⟩ := ld_run (P := P) hH hld hcb hl
            by_cases hroom : m + n ≤ c'
            · -- in place
              have hfit2 : lc.base + off + m * q.size + vs.length ≤ lc.size := by
                rw [← hez, hesz] at hsz
                have : (m + n) * q.size ≤ c' * q.size := Nat.mul_le_mul_right _ hroom
                rw [Nat.add_mul] at this
                omega
              obtain ⟨w', p1, p2, p3⟩ := place_run (P := P) hH hk hro hlive hle hcb hl hv hf3 hfit2 hσ
              have hst : (storeCells ((⟨lc.blk, lc.base + off, none⟩ : Addr).add (m * q.size)) vs).run P w = .ok () w' := by rw [add_none]; exact p1
              refine ⟨.slice (some ⟨lc.blk, lc.base + off, none⟩) (m + n) c', w', ?_, ?_⟩
              · rcases hS with hS | hS
                · exact append_place_S hu hs hS.1 hroom hst
                · exact append_place_Z hu hs hi (by omega) h1 (by omega) hS.1 hroom hst
              · rw [hesz, ← hhe] at p2
                have hnx : ((s.kill b).new (hh ++ l) q.size).next = s.next + 1 := by simp [St.new, kill_next]
                refine ⟨_, ?_, ?_, by rw [hnx]; exact p2, p3, ?_⟩
                · intro x hx
                  rw [hnx] at hx
                  show (if x = s.next then _ else σ x) = σ x
                  rw [if_neg (by omega)]
                · have := VR.slc (ρ := ρ) (σ := fun x => if x = s.next then some ⟨lc.blk, lc.base + off, lc.size, lc.esz⟩ else σ x) (b := s.next) (o := 0) (n := m + n) (c := m + n) (c' := c') (l := ⟨lc.blk, lc.base + off, lc.size, lc.esz⟩) (if_pos rfl) hroom (by simpa using hsz)
                  exact this
                · intro x l' h1' h2' h3'
                  rw [hnx] at h2'
                  obtain rfl : x = s.next := by omega
                  simp only [if_true] at h3'
                  obtain rfl := Option.some.inj h3'
                  exact .inr ⟨b, .inl (by simp), lc, hl, rfl⟩
            · have hr := fresh (some ⟨lc.blk, lc.base + off, none⟩) m c' old (by omega) hroom (by omega) (by simp [Builtin.firstCells, ho4])
              refine ⟨_, _, hr, post_drew ?_⟩
              have hge := newCap_ge w e (m + n) c'
              have hlen : (old ++ vs ++ (Builtin.zeroCells z.cells (newCap w e (m + n) c' - (m + n))).toList).length = newCap w e (m + n) c' * q.size := by
                simp only [List.length_append, zeroCells_length, hzs, hvl, ho3]
                rw [← Nat.add_mul, ← Nat.add_mul]; congr 1; omega
              refine post_new (s0 := s) (s := s.kill b) (l := hh ++ l) (vs := old ++ vs) (K := [b]) hH.drew (ho2.append hv) (kill_next s b) hσ (fun x hx => ?_) ?_
              · obtain rfl : x = b := by simpa using hx
                refine ⟨hbn, fun k2 hk2 => ?_⟩
                rw [kill_get hk, if_pos rfl] at hk2
                obtain rfl := Option.some.inj hk2
                exact ⟨rfl, rfl⟩
              · have := VR.slc (ρ := ρ) (σ := fun b => if b = s.next then some ⟨w.drew.heap.size, 0, (old ++ vs ++ (Builtin.zeroCells z.cells (newCap w e (m + n) c' - (m + n))).toList).length, q.size⟩ else σ b) (b := s.next) (o := 0) (n := m + n) (c := m + n) (c' := newCap w e (m + n) c') (l := ⟨w.drew.heap.size, 0, (old ++ vs ++ (Builtin.zeroCells z.cells (newCap w e (m + n) c' - (m + n))).toList).length, q.size⟩) (if_pos rfl) hge (by rw [hlen]; simp)
                exact this
        · cases h
  · cases h

/-! ## Rows appended -/

/-- Blocks that hold the same, said otherwise. -/
theorem HR.imp {cur' : Cur} (h : HR ρ σ cur w) (hc : ∀ b k, cur' b = some k → ∃ k0, cur b = some k0 ∧ k.live = k0.live ∧ k.ext = k0.ext ∧ k.esz = k0.esz ∧ (k.ro = false → k0.ro = false) ∧ ∀ us, VRl ρ σ k0.cells us → VRl ρ σ k.cells us) : HR ρ σ cur' w := by
  refine ⟨fun b k l h1 h2 h3 => ?_, fun b b' k k' l l' h1 h2 h3 h4 h5 h6 h7 h8 => ?_, fun b k x l h1 h2 h3 => ?_, fun b b' k k' x x' l l' h1 h2 h3 h4 h5 h6 h7 => ?_⟩
  · obtain ⟨k0, e1, e2, e3, e4, er, e5⟩ := hc b k h1
    obtain ⟨c, t, ppq1, q1, qqq1, q2, q3, q4, q5⟩ := h.cell b k0 l e1 (e2 ▸ h2) h3
    have l1 := q5.length
    have l2 := (e5 _ q5).length
    have hl : k.cells.length = k0.cells.length := l2.symm.trans l1
    exact ⟨c, t, ppq1, q1, fun h => qqq1 (er h), q2, e4.trans q3, by rw [hl]; exact q4, by rw [hl]; exact e5 _ q5⟩
  · obtain ⟨k0, e1, e2, _, _, er, _⟩ := hc b k h1
    obtain ⟨k1, g1, g2, _, _, gr, _⟩ := hc b' k' h4
    exact h.inj b b' k0 k1 l l' e1 (e2 ▸ h2) h3 g1 (g2 ▸ h5) h6 h7 (h8.imp er gr)
  · obtain ⟨k0, e1, e2, e3, _⟩ := hc b k h1
    exact h.spec b k0 x l e1 (e3 ▸ h2) h3
  · obtain ⟨k0, e1, e2, e3, _⟩ := hc b k h1
    obtain ⟨k1, g1, g2, g3, _⟩ := hc b' k' h4
    exact h.injX b b' k0 k1 x x' l l' e1 (e3 ▸ h2) h3 g1 (g3 ▸ h5) h6 h7

theorem VRl.cut {a b : List CV} {us : List Value} (h : VRl ρ σ (a ++ b) us) : ∃ x y, us = x ++ y ∧ VRl ρ σ a x ∧ VRl ρ σ b y := by
  refine ⟨us.take a.length, us.drop a.length, (List.take_append_drop _ _).symm, ?_, ?_⟩
  · have := h.take a.length; rwa [List.take_append_of_le_length (Nat.le_refl _), List.take_of_length_le (Nat.le_refl _)] at this
  · have := h.drop a.length; rwa [List.drop_append_of_le_length (Nat.le_refl _), List.drop_of_length_le (Nat.le_refl _), List.nil_append] at this

theorem flatR_flat {row : Nat → List CV} (h : ∀ j, (row j).all CV.flat = true) : ∀ n, (flatR row n).all CV.flat = true
  | 0 => rfl
  | n + 1 => by rw [flatR, List.all_append, flatR_flat h n, h n]; rfl

theorem rows_app {A B : Nat → List CV} {m z : Nat} (hA : ∀ j, (A j).length = z ∧ (A j).all CV.flat = true) (hB : ∀ j, (B j).length = z ∧ (B j).all CV.flat = true) : ∀ (n : Nat) (us : List Value), VRl ρ σ (flatR A m ++ flatR B n) us →
    VRl ρ σ (flatR (fun i => selRow (Nat.blt i m) (A i) (B (i - m))) (m + n)) us := by
  have low : ∀ (k : Nat) (us : List Value), k ≤ m → VRl ρ σ (flatR A k) us → VRl ρ σ (flatR (fun i => selRow (Nat.blt i m) (A i) (B (i - m))) k) us := by
    intro k
    induction k with
    | zero => intro us _ h; exact h
    | succ k ih =>
      intro us hk h
      rw [flatR] at h
      obtain ⟨x, y, rfl, h1, h2⟩ := h.cut
      have e : Nat.blt k m = true := Nat.ble_eq_true_of_le (by omega)
      rw [flatR, e]
      exact (ih x (by omega) h1).append (VRl.selT h2 ((hA k).1.trans (hB _).1.symm) (hA k).2)
  intro n
  induction n with
  | zero => intro us h; rw [flatR, List.append_nil] at h; exact low m us (Nat.le_refl _) h
  | succ n ih =>
    intro us h
    rw [flatR, ← List.append_assoc] at h
    obtain ⟨x, y, rfl, h1, h2⟩ := h.cut
    have e : Nat.blt (m + n) m = false := by
      cases hb : Nat.blt (m + n) m with
      | false => rfl
      | true => have := Nat.lt_of_succ_le (Nat.le_of_ble_eq_true hb); omega
    rw [← Nat.add_assoc, flatR, e]
    refine (ih x h1).append (VRl.selF ?_ (hB _).2)
    rw [show m + n - m = n by omega]; exact h2

theorem ld_rows {b z o n M : Nat} {row : Nat → List CV} {hr : ∀ j, (row j).length = z ∧ (row j).all CV.flat = true} {e : Nat} {x : Option BX} (hk : s.heap.get b = some ⟨.rows M z row hr, e, true, x⟩) (hb : Nat.blt b s.next = true) (hle : o + n ≤ M) : s.ld b (o * z) (n * z) = some (flatR (fun i => row (o + i)) n) := by
  unfold St.ld
  rw [hk]
  have hcl : Blk.cells ⟨.rows M z row hr, e, true, x⟩ = flatR row M := rfl
  have hlen := flatR_length (fun j => (hr j).1) M
  simp only [hcl, hlen]
  have e1 : Nat.ble (o * z + n * z) (M * z) = true := Nat.ble_eq_true_of_le (by rw [← Nat.add_mul]; exact Nat.mul_le_mul_right _ hle)
  rw [e1, hb, flatR_part (fun j => (hr j).1) o n M hle]
  rfl

theorem ld_rowsA {b z o n M : Nat} {row : Nat → List CV} {hr : ∀ j, (row j).length = z ∧ (row j).all CV.flat = true} {e : Nat} {x : Option BX} (hk : s.heap.get b = some ⟨.arg M z row hr, e, true, x⟩) (hb : Nat.blt b s.next = true) (hle : o + n ≤ M) : s.ld b (o * z) (n * z) = some (flatR (fun i => row (o + i)) n) := by
  unfold St.ld
  rw [hk]
  have hcl : Blk.cells ⟨.arg M z row hr, e, true, x⟩ = flatR row M := rfl
  have hlen := flatR_length (fun j => (hr j).1) M
  simp only [hcl, hlen]
  have e1 : Nat.ble (o * z + n * z) (M * z) = true := Nat.ble_eq_true_of_le (by rw [← Nat.add_mul]; exact Nat.mul_le_mul_right _ hle)
  rw [e1, hb, flatR_part (fun j => (hr j).1) o n M hle]
  rfl

/-- The source of an append of rows, as cells. -/
theorem srcX_lit {q : TyR} {s1 : St} {d : TypeDesc} {y : CV} {rs : RS} {vy : Value} (h : srcX q s d y = some (rs, s1)) (hy : VR ρ σ y vy) (hp : ∀ p ∈ s1.pc, p.holds ρ) :
    s1.next = s.next ∧ s1.heap = s.heap ∧ (∃ l, s1.pc = l ++ s.pc) ∧ 1 ≤ rs.n ∧ (rs.n ≤ 10000 → ∃ y', VR ρ σ y' vy ∧ srcE q s d y' = some (flatR rs.row rs.n, rs.n, rs.R)) := by
  unfold srcX at h
  split at h
  · rename_i e b z o n c
    split at h
    · rename_i m z' row hr e' x hk
      cases hc : (Nat.beq z z' && Nat.beq z q.size && Nat.blt b s.next) with
      | false => rw [hc, cond_false] at h; cases h
      | true =>
        rw [hc, cond_true] at h
        simp only [Bool.and_eq_true] at hc
        obtain rfl := Nat.eq_of_beq_eq_true hc.1.1
        have hzq := Nat.eq_of_beq_eq_true hc.1.2
        split at h
        · rename_i s2 hm
          cases h
          obtain ⟨a1, a2, a3, a4⟩ := musts_parts (ρ := ρ) hm
          have a4 := a4 hp
          have b1 : o + n ≤ m := of_decide_eq_true (a4 _ (by simp))
          have b2 : 1 ≤ n := of_decide_eq_true (a4 _ (by simp))
          refine ⟨a1, a2, a3, b2, fun hn => ⟨_, hy.slx_inv, ?_⟩⟩
          simp only [srcE]
          rw [← hzq, ld_rows hk hc.2 b1]
          have e1 : Nat.ble n 10000 = true := Nat.ble_eq_true_of_le hn
          simp only [e1, cond_true]
        · cases h
    · rename_i m z' row hr e' x hk
      cases hc : (Nat.beq z z' && Nat.beq z q.size && Nat.blt b s.next) with
      | false => rw [hc, cond_false] at h; cases h
      | true =>
        rw [hc, cond_true] at h
        simp only [Bool.and_eq_true] at hc
        obtain rfl := Nat.eq_of_beq_eq_true hc.1.1
        have hzq := Nat.eq_of_beq_eq_true hc.1.2
        split at h
        · rename_i s2 hm
          cases h
          obtain ⟨a1, a2, a3, a4⟩ := musts_parts (ρ := ρ) hm
          have a4 := a4 hp
          have b1 : o + n ≤ m := of_decide_eq_true (a4 _ (by simp))
          have b2 : 1 ≤ n := of_decide_eq_true (a4 _ (by simp))
          refine ⟨a1, a2, a3, b2, fun hn => ⟨_, hy.slx_inv, ?_⟩⟩
          simp only [srcE]
          rw [← hzq, ld_rowsA hk hc.2 b1]
          have e1 : Nat.ble n 10000 = true := Nat.ble_eq_true_of_le hn
          simp only [e1, cond_true]
        · cases h
    · cases h
  · rename_i e b z o n
    split at h
    · rename_i m z' row hr e' x hk
      cases hc : (Nat.beq z z' && Nat.beq z q.size && Nat.blt b s.next) with
      | false => rw [hc, cond_false] at h; cases h
      | true =>
        rw [hc, cond_true] at h
        simp only [Bool.and_eq_true] at hc
        obtain rfl := Nat.eq_of_beq_eq_true hc.1.1
        have hzq := Nat.eq_of_beq_eq_true hc.1.2
        split at h
        · rename_i s2 hm
          cases h
          obtain ⟨a1, a2, a3, a4⟩ := musts_parts (ρ := ρ) hm
          have a4 := a4 hp
          have b1 : o + n ≤ m := of_decide_eq_true (a4 _ (by simp))
          have b2 : 1 ≤ n := of_decide_eq_true (a4 _ (by simp))
          refine ⟨a1, a2, a3, b2, fun hn => ⟨_, hy, ?_⟩⟩
          simp only [srcE]
          rw [← hzq, ld_rows hk hc.2 b1]
          have e1 : Nat.ble n 10000 = true := Nat.ble_eq_true_of_le hn
          simp only [e1, cond_true]
        · cases h
    · rename_i m z' row hr e' x hk
      cases hc : (Nat.beq z z' && Nat.beq z q.size && Nat.blt b s.next) with
      | false => rw [hc, cond_false] at h; cases h
      | true =>
        rw [hc, cond_true] at h
        simp only [Bool.and_eq_true] at hc
        obtain rfl := Nat.eq_of_beq_eq_true hc.1.1
        have hzq := Nat.eq_of_beq_eq_true hc.1.2
        split at h
        · rename_i s2 hm
          cases h
          obtain ⟨a1, a2, a3, a4⟩ := musts_parts (ρ := ρ) hm
          have a4 := a4 hp
          have b1 : o + n ≤ m := of_decide_eq_true (a4 _ (by simp))
          have b2 : 1 ≤ n := of_decide_eq_true (a4 _ (by simp))
          refine ⟨a1, a2, a3, b2, fun hn => ⟨_, hy, ?_⟩⟩
          simp only [srcE]
          rw [← hzq, ld_rowsA hk hc.2 b1]
          have e1 : Nat.ble n 10000 = true := Nat.ble_eq_true_of_le hn
          simp only [e1, cond_true]
        · cases h
    · cases h
  · rename_i e b o c
    split at h
    · rename_i l hl
      split at h
      · rename_i hf
        cases hc : Nat.beq l.length q.size with
        | false => rw [hc, cond_false] at h; cases h
        | true =>
          rw [hc, cond_true] at h
          cases h
          refine ⟨rfl, rfl, ⟨[], rfl⟩, Nat.le_refl _, fun _ => ⟨_, hy, ?_⟩⟩
          simp only [srcE, Nat.one_mul, hl, flatR, List.nil_append]
          rfl
      · cases h
    · cases h
  · cases h

theorem beq_pos {n : Nat} (h : 1 ≤ n) : Nat.beq n 0 = false := by cases n with | zero => omega | succ n => rfl

/-- An append of rows, as one of cells: its value, and what memory holds. -/
theorem appX_lit {q : TyR} {x : CV} {rs : RS} {vx : Value} (h : appX q s x rs = some r) (hn : 1 ≤ rs.n) (hx : VR ρ σ x vx) (hp : ∀ p ∈ r.s.pc, p.holds ρ) :
    rs.n ≤ 10000 ∧ (∃ l, r.s.pc = l ++ s.pc) ∧ ∃ x' r', VR ρ σ x' vx ∧ appE q s x' (flatR rs.row rs.n) rs.n rs.R = some r' ∧ r'.R = r.R ∧ r'.W = r.W ∧ r'.s.next = r.s.next ∧ (∀ τ v, VR ρ τ r'.val v → VR ρ τ r.val v) ∧
      ∀ b k, r.s.heap.get b = some k → ∃ k0, r'.s.heap.get b = some k0 ∧ k.live = k0.live ∧ k.ext = k0.ext ∧ k.esz = k0.esz ∧ (k.ro = false → k0.ro = false) ∧ ∀ τ us, VRl ρ τ k0.cells us → VRl ρ τ k.cells us := by
  have hn0 := beq_pos hn
  have hfl := flatR_flat (fun j => (rs.h j).2) rs.n
  unfold appX at h
  split at h
  · rename_i b z o m c
    split at h
    · rename_i M z' row hr e ex hk
      cases hc : (Nat.beq z z' && Nat.beq e q.size && Nat.beq z q.size && Nat.beq rs.z q.size && Nat.blt b s.next) with
      | false => rw [hc, cond_false] at h; cases h
      | true =>
        rw [hc, cond_true] at h
        simp only [Bool.and_eq_true] at hc
        obtain ⟨⟨⟨⟨c1, c2⟩, c3⟩, c4⟩, c5⟩ := hc
        obtain rfl := Nat.eq_of_beq_eq_true c1
        have hz1 := Nat.eq_of_beq_eq_true c3
        have hz2 := Nat.eq_of_beq_eq_true c4
        split at h
        · rename_i s2 hm
          cases h
          obtain ⟨a1, a2, ⟨la, a3⟩, a4⟩ := musts_parts (ρ := ρ) hm
          have a4 := a4 (fun p hp' => hp p (by show p ∈ ((s2.kill b).newB _ _).pc; simpa [St.newB, kill_pc] using hp'))
          have b1 : o + m ≤ M := of_decide_eq_true (a4 _ (by simp))
          have b2 : m + rs.n ≤ 10000 := of_decide_eq_true (a4 _ (by simp))
          refine ⟨by omega, ⟨la, by simp [St.newB, kill_pc, a3]⟩, _, ⟨.slc (some (s.next, 0)) (m + rs.n) (m + rs.n), (s.kill b).new (flatR (fun i => row (o + i)) m ++ flatR rs.row rs.n) q.size, b :: rs.R, [b]⟩, hx.slx_inv, ?_, rfl, rfl, ?_, ?_, ?_⟩
          · simp only [appE, hn0, cond_false]
            rw [← hz1, ld_rows hk c5 b1, hk]
            have e1 : Nat.ble (m + rs.n) 10000 = true := Nat.ble_eq_true_of_le b2
            simp only [hz1, c2, e1, hfl, Bool.and_self, Bool.true_and]
            rfl
          · simp [St.newB, St.new, kill_next, a1]
          · rintro τ v hv
            refine .slx ?_
            rw [Nat.zero_mul, a1]; exact hv
          · intro b' k' hk'
            rw [newB_get, kill_next, a1] at hk'
            rw [new_get, kill_next]
            by_cases e1 : b' = s.next
            · rw [if_pos e1] at hk' ⊢
              cases hk'
              refine ⟨_, rfl, rfl, rfl, rfl, fun _ => rfl, fun τ us hus => ?_⟩
              exact rows_app (A := fun i => row (o + i)) (fun j => by rw [hz2, ← hz1]; exact hr _) rs.h rs.n us hus
            · rw [if_neg e1] at hk' ⊢
              have hk2 : s2.heap.get b = some ⟨.rows M z row hr, e, true, ex⟩ := by rw [a2]; exact hk
              rw [kill_get hk2] at hk'
              rw [kill_get hk]
              by_cases e2 : b' = b
              · rw [if_pos e2] at hk' ⊢
                cases hk'
                exact ⟨_, rfl, rfl, rfl, rfl, fun h => h, fun _ _ h => h⟩
              · rw [if_neg e2] at hk' ⊢
                rw [a2] at hk'
                exact ⟨_, hk', rfl, rfl, rfl, fun h => h, fun _ _ h => h⟩
        · cases h
    · cases h
  · cases hz : Nat.beq rs.z q.size with
    | false => rw [hz, cond_false] at h; cases h
    | true =>
      rw [hz, cond_true] at h
      split at h
      · rename_i s2 hm
        cases h
        obtain ⟨a1, a2, ⟨la, a3⟩, a4⟩ := musts_parts (ρ := ρ) hm
        have a4 := a4 (fun p hp' => hp p hp')
        have b2 : rs.n ≤ 10000 := of_decide_eq_true (a4 _ (by simp))
        refine ⟨b2, ⟨la, a3⟩, _, ⟨.slc (some (s.next, 0)) rs.n rs.n, s.new (flatR rs.row rs.n) q.size, rs.R, []⟩, hx, by simp only [appE, hn0, cond_false], rfl, rfl, by simp [St.newB, St.new, a1], ?_, ?_⟩
        · rintro τ v hv
          refine .slx ?_
          rw [Nat.zero_mul, a1]; exact hv
        · intro b' k' hk'
          rw [newB_get, a1] at hk'
          rw [new_get]
          by_cases e1 : b' = s.next
          · rw [if_pos e1] at hk' ⊢
            cases hk'
            exact ⟨_, rfl, rfl, rfl, rfl, fun h => h, fun _ _ h => h⟩
          · rw [if_neg e1] at hk' ⊢
            rw [a2] at hk'
            exact ⟨_, hk', rfl, rfl, rfl, fun h => h, fun _ _ h => h⟩
      · cases h
  · rename_i b o c
    split at h
    · rename_i l e ex hk
      cases hc : (Nat.ble o l.length && Nat.beq e q.size && Nat.beq rs.z q.size && Nat.blt b s.next) with
      | false => rw [hc, cond_false] at h; cases h
      | true =>
        rw [hc, cond_true] at h
        simp only [Bool.and_eq_true] at hc
        obtain ⟨⟨⟨c1, c2⟩, c3⟩, c5⟩ := hc
        split at h
        · rename_i s2 hm
          cases h
          obtain ⟨a1, a2, ⟨la, a3⟩, a4⟩ := musts_parts (ρ := ρ) hm
          have a4 := a4 (fun p hp' => hp p (by show p ∈ ((s2.kill b).newB _ _).pc; simpa [St.newB, kill_pc] using hp'))
          have b2 : rs.n ≤ 10000 := of_decide_eq_true (a4 _ (by simp))
          have hcl : Blk.cells ⟨.lit l, e, true, ex⟩ = l := rfl
          have hld : s.ld b o (0 * q.size) = some [] := by
            unfold St.ld
            rw [hk]
            simp only [hcl, Nat.zero_mul, Nat.add_zero, c1, c5, Bool.and_self, cond_true, List.take_zero]
          refine ⟨b2, ⟨la, by simp [St.newB, kill_pc, a3]⟩, _, ⟨.slc (some (s.next, 0)) (0 + rs.n) (0 + rs.n), (s.kill b).new ([] ++ flatR rs.row rs.n) q.size, b :: rs.R, [b]⟩, hx, ?_, rfl, rfl, ?_, ?_, ?_⟩
          · simp only [appE, hn0, cond_false]
            rw [hld, hk]
            have e1 : Nat.ble (0 + rs.n) 10000 = true := Nat.ble_eq_true_of_le (by omega)
            simp only [c2, e1, hfl, Bool.and_self, Bool.true_and]
            rfl
          · simp [St.newB, St.new, kill_next, a1]
          · rintro τ v hv
            refine .slx ?_
            rw [Nat.zero_mul, a1]
            rw [Nat.zero_add] at hv
            exact hv
          · intro b' k' hk'
            rw [newB_get, kill_next, a1] at hk'
            rw [new_get, kill_next]
            by_cases e1 : b' = s.next
            · rw [if_pos e1] at hk' ⊢
              cases hk'
              exact ⟨_, rfl, rfl, rfl, rfl, fun h => h, fun _ _ h => h⟩
            · rw [if_neg e1] at hk' ⊢
              have hk2 : s2.heap.get b = some ⟨.lit l, e, true, ex⟩ := by rw [a2]; exact hk
              rw [kill_get hk2] at hk'
              rw [kill_get hk]
              by_cases e2 : b' = b
              · rw [if_pos e2] at hk' ⊢
                cases hk'
                exact ⟨_, rfl, rfl, rfl, rfl, fun h => h, fun _ _ h => h⟩
              · rw [if_neg e2] at hk' ⊢
                rw [a2] at hk'
                exact ⟨_, hk', rfl, rfl, rfl, fun h => h, fun _ _ h => h⟩
        · cases h
    · cases h
  · cases h

theorem sound_appX {q r2 : TyR} {s1 : St} {sT yT e ty : Nat} {x y : CV} {vx vy : Value} {rs : RS} (hu : (underlying sT).run P w = .ok (.slice e) w) (hq : TyOk P e q) (h1 : 1 ≤ q.size) (hby : q.bytes ≤ 100000) (hr2 : TyOk P yT r2)
    (hsrc : srcX q s r2.desc y = some (rs, s1)) (h : appX q s1 x rs = some r) (hx : VR ρ σ x vx) (hy : VR ρ σ y vy) (hH : HR ρ σ cur w) (hA : ∀ b, b ∈ r.R ∨ b ∈ r.W → cur b = s.heap.get b) (hN : ∀ b, s.next ≤ b → b < r.s.next → σ b = none) (hp : ∀ p ∈ r.s.pc, p.holds ρ) :
    ∃ v w', (Builtin.append_ #[sT, yT] ty #[vx, vy]).run P w = .ok v w' ∧ Post ρ σ cur s.next w r.val r.s r.W v w' := by
  have hpc1 : ∃ l, r.s.pc = l ++ s1.pc := by
    unfold appX at h
    simp only [Bool.cond_eq_ite] at h
    repeat' (first | (cases h; done) | split at h)
    all_goals (rename_i hm; obtain ⟨_, _, ⟨l, a3⟩, _⟩ := musts_parts (ρ := ρ) hm; cases h; exact ⟨l, by simp [St.newB, kill_pc, a3]⟩)
  obtain ⟨l1, hl1⟩ := hpc1
  obtain ⟨n1, n2, n3, hn, hlit⟩ := srcX_lit hsrc hy (fun p hp' => hp p (by rw [hl1]; simp [hp']))
  obtain ⟨hn2, _, x', r', hx', happ, eR, eW, eN, hval, hheap⟩ := appX_lit h hn hx hp
  obtain ⟨y', hy', hsE⟩ := hlit hn2
  have hsE1 : srcE q s1 r2.desc y' = some (flatR rs.row rs.n, rs.n, rs.R) := by
    rw [← hsE]
    unfold srcE St.ld
    rw [n1, n2]
  obtain ⟨v, w', e1, σ', p1, p2, p3, p4, p5⟩ := sound_append (s := s1) (cur := cur) (ty := ty) (d := r2.desc) hu hq h1 hby hr2 hsE1 happ hx' hy' hH (by rw [eR, eW, n2]; exact hA) (by rw [n1, eN]; exact hN)
  rw [n1] at p1 p3 p4 p5
  rw [eN] at p1 p3 p5
  rw [eW] at p3 p4 p5
  refine ⟨v, w', e1, σ', p1, hval _ _ p2, p3.imp ?_, p4, p5⟩
  intro b k hk
  unfold upd at hk ⊢
  split at hk
  · rename_i hb
    rw [if_pos hb]
    obtain ⟨k0, g1, g2, g3, g4, gr, g5⟩ := hheap b k hk
    exact ⟨k0, g1, g2, g3, g4, gr, g5 σ'⟩
  · rename_i hb
    rw [if_neg hb]
    exact ⟨k, hk, rfl, rfl, rfl, fun h => h, fun _ h => h⟩

theorem VRl.one {c : CV} {l : List Value} (h : VRl ρ σ [c] l) : ∃ v, l = [v] ∧ VR ρ σ c v := by
  cases h with
  | cons h t => cases t; exact ⟨_, rfl, h⟩
theorem VRl.two {c d : CV} {l : List Value} (h : VRl ρ σ [c, d] l) : ∃ v u, l = [v, u] ∧ VR ρ σ c v ∧ VR ρ σ d u := by
  cases h with
  | cons h t => obtain ⟨u, rfl, h2⟩ := t.one; exact ⟨_, _, rfl, h, h2⟩

theorem VRl.three {c d e : CV} {l : List Value} (h : VRl ρ σ [c, d, e] l) : ∃ v u t, l = [v, u, t] ∧ VR ρ σ c v ∧ VR ρ σ d u ∧ VR ρ σ e t := by
  cases h with
  | cons h t => obtain ⟨u, t, rfl, h2, h3⟩ := t.two; exact ⟨_, _, _, rfl, h, h2, h3⟩

theorem tys_two {tys : Array TypeId} {t1 t2 : TypeId} (h1 : tys[0]? = some t1) (h2 : tys[1]? = some t2) (ty : TypeId) (args : Array Value) : Builtin.append_ tys ty args = Builtin.append_ #[t1, t2] ty args := by
  unfold Builtin.append_
  have e0 : (#[t1, t2] : Array TypeId)[0]? = some t1 := rfl
  have e1 : (#[t1, t2] : Array TypeId)[1]? = some t2 := rfl
  rw [h1, h2, e0, e1]

theorem sound_builtin {b : Builtin} {args : Array Operand} {tys : Array TypeId} (hop : o.op = .call { callee := .builtin b, args := args, argTypes := tys }) (h : opE C T s o = some r) (I : Inp P C ρ σ cur s T a w o r) : Gives P o a w (Post ρ σ cur s.next w r.val r.s r.W) := by
  obtain ⟨cns, hex⟩ := exec_builtin (P := P) (a := a) (w := w) hop
  unfold opE at h
  rw [hop] at h
  simp only [opBuiltin] at h
  split at h
  · cases h
  · rename_i vs hvs
    have hV := evs_run (σ := σ) (ρ := ρ) (a := a) (fun t ht => I.T t (by rw [hop]; simpa [Op.operands, Call.operands] using ht)) hvs
    have hargs : ∀ l : List Value, args.toList.map a.eval = l → args.map a.eval = l.toArray := by
      intro l hl
      rw [← hl, ← Array.toList_inj, Array.toList_map]
    have one : ∀ {v : Value} {c : CV} {s1 : St}, s1.next = s.next → (builtin b tys o.type cns (args.map a.eval)).run P w = .ok (.value v) w → VR ρ σ c v → Gives P o a w (Post ρ σ cur s.next w c s1 []) :=
      fun hn hr hv => gives_pure (R := []) hn I.H (hex.trans hr) hv
    split at h
    · -- len
      rename_i x
      obtain ⟨v, hl, hx⟩ := hV.one
      have ha := hargs _ hl
      split at h
      · rename_i t ht
        split at h
        · rename_i q hq
          have hu := (I.ok.ty _ _ hq).under w
          split at h
          · rename_i e p n c hd
            cases h
            rw [hd] at hu
            refine one rfl (v := .int .i64 n) ?_ (.int .i64 (.c n))
            rw [ha]
            generalize v = u at hx
            cases hx <;> simp [builtin, Builtin.len_, ht, hu, goInt]
          · rename_i e b z o n c hd
            cases h
            rw [hd] at hu
            refine one rfl (v := .int .i64 n) ?_ (.int .i64 (.x n))
            rw [ha]
            have hx := hx.slx_inv
            generalize v = u at hx
            cases hx <;> simp [builtin, Builtin.len_, ht, hu, goInt]
          · rename_i e b z o n hd
            cases h
            rw [hd] at hu
            refine one rfl (v := .int .i64 n) ?_ (.int .i64 (.x n))
            rw [ha]
            generalize v = u at hx
            cases hx <;> simp [builtin, Builtin.len_, ht, hu, goInt]
          · rename_i e e' hd
            cases h
            rw [hd] at hu
            generalize v = u at hx ha
            cases hx with
            | sln ad c' hn =>
              rename_i n
              refine one rfl (v := .int .i64 n) ?_ (by rw [← hn]; exact .int .i64 _)
              rw [ha]
              simp [builtin, Builtin.len_, ht, hu, goInt]
          · rename_i e b z N e' hd
            cases h
            rw [hd] at hu
            generalize v = u at hx ha
            cases hx with
            | slr ad c' hn hq' =>
              rename_i n
              refine one rfl (v := .int .i64 n) ?_ (by rw [← hn]; exact .int .i64 _)
              rw [ha]
              simp [builtin, Builtin.len_, ht, hu, goInt]
          · rename_i e hd
            cases h
            rw [hd] at hu
            refine one rfl (v := .int .i64 0) ?_ (.int .i64 (.c 0))
            rw [ha]
            generalize v = u at hx
            cases hx <;> simp [builtin, Builtin.len_, ht, hu, goInt]
          · rename_i n e hd
            cases h
            rw [hd] at hu
            refine one rfl (v := .int .i64 n) ?_ (.int .i64 (.c n))
            rw [ha]
            simp [builtin, Builtin.len_, ht, hu, goInt]
          · cases h
        · cases h
      · cases h
    · -- min
      rename_i k e k' f
      obtain ⟨v, u, hl, hx, hy⟩ := hV.two
      have ha := hargs _ hl
      cases hk : decide (k = k') with
      | false => rw [hk, cond_false] at h; cases h
      | true =>
        rw [hk, cond_true] at h
        obtain rfl : k = k' := by simpa using hk
        cases h
        obtain rfl := hx.int_inv
        obtain rfl := hy.int_inv
        refine one rfl (v := .int k (Ar.run .mn k (e.den ρ) (f.den ρ))) ?_ (by have := VR.int (ρ := ρ) (σ := σ) k (IE.mk .mn k e f); rwa [IE.den_mk] at this)
        rw [ha]
        simp [builtin, Builtin.min_, Builtin.min2, Ar.run]
    · -- max
      rename_i k e k' f
      obtain ⟨v, u, hl, hx, hy⟩ := hV.two
      have ha := hargs _ hl
      cases hk : decide (k = k') with
      | false => rw [hk, cond_false] at h; cases h
      | true =>
        rw [hk, cond_true] at h
        obtain rfl : k = k' := by simpa using hk
        cases h
        obtain rfl := hx.int_inv
        obtain rfl := hy.int_inv
        refine one rfl (v := .int k (Ar.run .mx k (e.den ρ) (f.den ρ))) ?_ (by have := VR.int (ρ := ρ) (σ := σ) k (IE.mk .mx k e f); rwa [IE.den_mk] at this)
        rw [ha]
        simp [builtin, Builtin.max_, Builtin.max2, Ar.run]
    · -- min of three
      rename_i k e k' f k'' g
      obtain ⟨v, u, t, hl, hx, hy, hz⟩ := hV.three
      have ha := hargs _ hl
      cases hk : decide (k = k') with
      | false => rw [hk, Bool.false_and, cond_false] at h; cases h
      | true =>
        cases hk2 : decide (k = k'') with
        | false => rw [hk, hk2, Bool.and_false, cond_false] at h; cases h
        | true =>
          rw [hk, hk2, Bool.and_true, cond_true] at h
          obtain rfl : k = k' := by simpa using hk
          obtain rfl : k = k'' := by simpa using hk2
          cases h
          obtain rfl := hx.int_inv
          obtain rfl := hy.int_inv
          obtain rfl := hz.int_inv
          refine one rfl (v := .int k (Ar.run .mn k (Ar.run .mn k (e.den ρ) (f.den ρ)) (g.den ρ))) ?_ (by have := VR.int (ρ := ρ) (σ := σ) k (IE.mk .mn k (IE.mk .mn k e f) g); rwa [IE.den_mk, IE.den_mk] at this)
          rw [ha]
          simp [builtin, Builtin.min_, Builtin.min2, Ar.run]
          try rfl
    · -- max of three
      rename_i k e k' f k'' g
      obtain ⟨v, u, t, hl, hx, hy, hz⟩ := hV.three
      have ha := hargs _ hl
      cases hk : decide (k = k') with
      | false => rw [hk, Bool.false_and, cond_false] at h; cases h
      | true =>
        cases hk2 : decide (k = k'') with
        | false => rw [hk, hk2, Bool.and_false, cond_false] at h; cases h
        | true =>
          rw [hk, hk2, Bool.and_true, cond_true] at h
          obtain rfl : k = k' := by simpa using hk
          obtain rfl : k = k'' := by simpa using hk2
          cases h
          obtain rfl := hx.int_inv
          obtain rfl := hy.int_inv
          obtain rfl := hz.int_inv
          refine one rfl (v := .int k (Ar.run .mx k (Ar.run .mx k (e.den ρ) (f.den ρ)) (g.den ρ))) ?_ (by have := VR.int (ρ := ρ) (σ := σ) k (IE.mk .mx k (IE.mk .mx k e f) g); rwa [IE.den_mk, IE.den_mk] at this)
          rw [ha]
          simp [builtin, Builtin.max_, Builtin.max2, Ar.run]
          try rfl
    · -- cap
      rename_i c1 c2
      obtain ⟨v, hl, hx⟩ := hV.one
      have ha := hargs _ hl
      split at h
      · rename_i t ht
        split at h
        · rename_i q hq
          have hu := (I.ok.ty _ _ hq).under w
          split at h
          · rename_i e hd
            cases h
            rw [hd] at hu
            refine one rfl (v := .int .i64 0) ?_ (.int .i64 (.c 0))
            rw [ha]
            generalize v = u at hx
            cases hx
            simp [builtin, Builtin.cap_, ht, hu, goInt]
          · cases h
        · cases h
      · cases h
    · -- append
      rename_i x y
      obtain ⟨v, u, hl, hx, hy⟩ := hV.two
      have ha := hargs _ hl
      split at h
      · rename_i t1 t2 ht1 ht2
        split at h
        · rename_i q1 r2 hq1 hr2
          split at h
          · rename_i e hd
            split at h
            · rename_i q hq
              cases hf : (Nat.ble 1 q.size && Nat.ble q.bytes 100000) with
              | false => rw [hf, cond_false] at h; cases h
              | true =>
                rw [hf, cond_true] at h
                simp only [Bool.and_eq_true] at hf
                cases hX : isX x y with
                | true =>
                  rw [hX, cond_true] at h
                  split at h
                  · rename_i rs s1 hsrc
                    have hu := (I.ok.ty _ _ hq1).under w
                    rw [hd] at hu
                    obtain ⟨v', w', e1, e2⟩ := sound_appX (ty := o.type) (yT := t2) hu (I.ok.ty _ _ hq) (Nat.le_of_ble_eq_true hf.1) (Nat.le_of_ble_eq_true hf.2) (I.ok.ty _ _ hr2) hsrc h hx hy I.H I.A I.N I.pc
                    refine ⟨v', w', .inl ?_, e2⟩
                    rw [hex, ha]
                    simp only [builtin, tys_two ht1 ht2, Sem.run_bind, e1, Result.andThen, Sem.run_pure]
                  · cases h
                | false =>
                rw [hX, cond_false] at h
                split at h
                · rename_i l n R hsrc
                  have hu := (I.ok.ty _ _ hq1).under w
                  rw [hd] at hu
                  obtain ⟨v', w', e1, e2⟩ := sound_append (ty := o.type) (yT := t2) (d := q1.desc) hu (I.ok.ty _ _ hq) (Nat.le_of_ble_eq_true hf.1) (Nat.le_of_ble_eq_true hf.2) (I.ok.ty _ _ hr2) hsrc h hx hy I.H I.A I.N
                  refine ⟨v', w', .inl ?_, e2⟩
                  rw [hex, ha]
                  simp only [builtin, tys_two ht1 ht2, Sem.run_bind, e1, Result.andThen, Sem.run_pure]
                · cases h
            · cases h
          · cases h
        · cases h
      · cases h
    · cases h


/-- ALL OPERATIONS THAT CALL NO GO FUNCTION. -/
theorem opE_sound (h : opE C T s o = some r) (I : Inp P C ρ σ cur s T a w o r) : Gives P o a w (Post ρ σ cur s.next w r.val r.s r.W) := by
  cases hop : o.op with
  | move x => exact sound_move (.inl hop) h I
  | assign x => exact sound_move (.inr hop) h I
  | pick c x y => exact sound_pick hop h I
  | alloc t => exact sound_alloc hop h I
  | box t x => exact sound_box hop h I
  | build t p => exact sound_build hop h I
  | buildSlice t n p => exact sound_buildSlice hop h I
  | load t x => exact sound_load hop h I
  | store t x y => exact sound_store hop h I
  | nilCheck x => exact sound_nilCheck hop h I
  | binOp op t x y u => exact sound_binOp hop h I
  | unOp op t x => exact sound_unOp hop h I
  | convert st dt x => exact sound_convert hop h I
  | makeFunc f x y => exact sound_makeFunc hop h I
  | makeSlice t x y => exact sound_makeSlice hop h I
  | slice t x lo hi mx =>
    cases mx with
    | none => exact sound_slice hop h I
    | some m => unfold opE at h; rw [hop] at h; cases h
  | fieldAddr t x f => exact sound_fieldAddr hop h I
  | field t x f => exact sound_field hop h I
  | indexAddr t x i => exact sound_indexAddr hop h I
  | index t x i => exact sound_index hop h I
  | extract x i => exact sound_extract hop h I
  | makeMap t r => exact sound_makeMap hop h I
  | lookup t x i ok => exact sound_lookup hop h I
  | mapUpdate t x i y => exact sound_mapUpdate (.inl hop) h I
  | insert t x i y => exact sound_mapUpdate (.inr hop) h I
  | mapEntry t x i => exact sound_mapEntry hop h I
  | entryStore t x i y => exact sound_entryStore hop h I
  | call c =>
    obtain ⟨cal, args, tys⟩ := c
    cases cal with
    | builtin b => exact sound_builtin hop h I
    | value f => unfold opE at h; rw [hop] at h; cases h
    | invoke f m => unfold opE at h; rw [hop] at h; cases h
  | _ => unfold opE at h; rw [hop] at h; cases h

end
end Go.Proofs.Ytknphpihipkdpaa.Cx
