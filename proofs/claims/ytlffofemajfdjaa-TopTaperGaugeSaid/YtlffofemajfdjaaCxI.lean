/- One operation that calls no Go function: append, the other builtins; then all operations together. -/
import Derived.Test.YtlffofemajfdjaaCxH
set_option linter.unusedSimpArgs false
set_option linter.unusedVariables false
namespace Go.Proofs.Ytlffofemajfdjaa.Cx
open Go Go.RowKit

section
variable {P : Program} {C : Ctx} {ρ : Env} {σ : Mp} {cur : Cur} {s : St} {T : Tr CV} {a : Act} {w : World} {o : Oper} {r : OR}

section
variable {sT elem ty yT size n : Nat} {m c : Nat} {y : Value} {vs : List Value} {w' : World} {i : TypeInfo}

theorem append_zero_S {b : Option Addr} (hu : (underlying sT).run P w = .ok (.slice elem) w) (hs : (sizeOf elem).run P w = .ok size w) (hS : SrcS P w size yT y 0 vs) (hv : vs = []) (h : m ≤ c) :
    (Builtin.append_ #[sT, yT] ty #[.slice b m c, y]).run P w = .ok (.slice b m c) w := by
  obtain ⟨e, hd⟩ := hS.d
  subst hv
  cases b <;> simp [Builtin.append_, hu, hs, hd, hS.len, hS.cells, h, storeCells]

theorem append_zero_Z {b : Option Addr} (hu : (underlying sT).run P w = .ok (.slice elem) w) (hs : (sizeOf elem).run P w = .ok size w) (hi : (typeInfo elem).run P w = .ok i w) (hS : SrcZ P w elem size yT y 0 vs) (h : m ≤ c) :
    (Builtin.append_ #[sT, yT] ty #[.slice b m c, y]).run P w = .ok (.slice b m c) w := by
  obtain ⟨k, hd⟩ := hS.d
  obtain ⟨k2, rfl⟩ := hS.y
  have hw := wrap_small (0 : Int) (by omega) (by omega)
  cases b <;> simp [Builtin.append_, hu, hs, hd, hi, asInt, asIntOf, hw, h, storeCells]
end

theorem exec_builtin {b : Builtin} {args : Array Operand} {tys : Array TypeId} (hop : o.op = .call { callee := .builtin b, args := args, argTypes := tys }) :
    ∃ cs, (execOp a.eval o).run P w = (builtin b tys o.type cs (args.map a.eval)).run P w :=
  ⟨_, by simp only [execOp, hop, resolve, pure_bind, invoke]; rfl⟩

theorem zeroCells_length (z : Array Value) (n : Nat) : (Builtin.zeroCells z n).toList.length = n * z.size := by simp [Builtin.zeroCells]

theorem sound_append {q r2 : TyR} {sT yT e ty n : Nat} {d : TypeDesc} {x y : CV} {vx vy : Value} {l : List CV} {R : List Nat} (hu : (underlying sT).run P w = .ok (.slice e) w) (hq : TyOk P e q) (h1 : 1 ≤ q.size) (hby : q.bytes ≤ 100000) (hr2 : TyOk P yT r2)
    (hsrc : srcE q s r2.desc y = some (l, n, R)) (h : appE q s x l n R = some r) (hx : VR ρ σ x vx) (hy : VR ρ σ y vy) (hH : HR ρ σ cur w) (hA : ∀ b, b ∈ r.R ∨ b ∈ r.W → cur b = s.heap.get b) (hN : ∀ b, s.next ≤ b → b < r.s.next → σ b = none) :
    ∃ v w', (Builtin.append_ #[sT, yT] ty #[vx, vy]).run P w = .ok v w' ∧ Post ρ σ cur s.next w r.val r.s r.W v w' := by
  have hRr : ∀ b ∈ R, b ∈ r.R := by
    unfold appE at h
    split at h
    · cases hb : Nat.beq n 0 with
      | true => rw [hb, cond_true] at h; cases h; exact fun _ hb => hb
      | false => rw [hb, cond_false] at h; cases h; exact fun _ hb => hb
    · cases hb : Nat.beq n 0 with
      | true => rw [hb, cond_true] at h; cases h; exact fun _ hb => hb
      | false => rw [hb, cond_false] at h; cases h
    · rename_i b off m c
      cases hb : Nat.beq n 0 with
      | true =>
        rw [hb, cond_true] at h
        cases hb2 : Nat.ble m c with
        | true => rw [hb2, cond_true] at h; cases h; exact fun _ hb => hb
        | false => rw [hb2, cond_false] at h; cases h
      | false =>
        rw [hb, cond_false] at h
        split at h
        · rename_i hh k _ _
          cases hf : (Nat.beq k.esz q.size && Nat.ble (m + n) 10000 && l.all CV.flat) with
          | true => rw [hf, cond_true] at h; cases h; exact fun _ hb => by simp [hb]
          | false => rw [hf, cond_false] at h; cases h
        · cases h
    · cases h
  obtain ⟨vs, hv, hvl, hn, hS⟩ := src_inv hH hq h1 hr2 hsrc hy (fun b hb => hA b (.inl (hRr b hb)))
  have hs := hq.sizeOf' w
  obtain ⟨i, hi, hi2, hi3⟩ := hq.info w
  obtain ⟨z, hz, hz2⟩ := hq.zeroA
  have hzs : z.cells.size = q.size := by
    have := (VRl.ofVals (ρ := ρ) (σ := σ) hz2).length
    simp only [Array.length_toList] at this
    rw [this, hq.2.2.1]
  -- nothing is appended
  have zero : ∀ (b : Option Addr) (m c : Nat), n = 0 → m ≤ c → (Builtin.append_ #[sT, yT] ty #[.slice b m c, vy]).run P w = .ok (.slice b m c) w := by
    intro b m c hn0 hmc
    subst hn0
    rcases hS with hS | hS
    · exact append_zero_S hu hs hS.1 (List.eq_nil_of_length_eq_zero (by omega)) hmc
    · exact append_zero_Z hu hs hi hS.1 hmc
  -- a new block
  have fresh : ∀ (b : Option Addr) (m c : Nat) (old : List Value), 1 ≤ n → ¬ m + n ≤ c → m + n ≤ 20000 → (Builtin.firstCells q.size m (.slice b m c)).run P w.drew = .ok old.toArray w.drew →
      (Builtin.append_ #[sT, yT] ty #[.slice b m c, vy]).run P w = .ok (.slice (some ⟨w.heap.size, 0, none⟩) (m + n) (newCap w e (m + n) c)) (w.drew.alloc (.cells (old ++ vs ++ (Builtin.zeroCells z.cells (newCap w e (m + n) c - (m + n))).toList).toArray e)) := by
    intro b m c old h1n hroom h20 hold
    rcases hS with hS | hS
    · exact append_new_S hu hq hby (hz _) hS.1 hS.2 hroom h20 hold
    · exact append_new_Z hu hq hby h1 h1n hS.2 hS.1.d (hz _) hroom h20 hold
  unfold appE at h
  split at h
  · -- nil
    rename_i c1 c2
    generalize vx = u at hx
    cases hx
    cases hb : Nat.beq n 0 with
    | true =>
      rw [hb, cond_true] at h; cases h
      exact ⟨_, _, zero none 0 0 (Nat.eq_of_beq_eq_true hb) (Nat.le_refl _), post_pure rfl .slc0 hH⟩
    | false =>
      rw [hb, cond_false] at h; cases h
      have hn0 : n ≠ 0 := fun e => by rw [e] at hb; cases hb
      have hσ := hN s.next (Nat.le_refl _) (by simp [St.new])
      have hr := fresh none 0 0 [] (by omega) (by omega) (by omega) (by simp [Builtin.firstCells])
      refine ⟨_, _, hr, post_drew ?_⟩
      simp only [Nat.zero_add]
      have hge := newCap_ge w e n 0
      refine post_new (s0 := s) (l := l) (vs := [] ++ vs) (K := []) hH.drew hv rfl hσ (fun b hb => by cases hb) ?_
      have hlen : ([] ++ vs ++ (Builtin.zeroCells z.cells (newCap w e n 0 - n)).toList).length = newCap w e n 0 * q.size := by
        simp only [List.length_append, List.length_nil, zeroCells_length, hzs, hvl]
        rw [Nat.zero_add, ← Nat.add_mul]; congr 1; omega
      have := VR.slc (ρ := ρ) (σ := fun b => if b = s.next then some ⟨w.drew.heap.size, 0, ([] ++ vs ++ (Builtin.zeroCells z.cells (newCap w e n 0 - n)).toList).length, q.size⟩ else σ b) (b := s.next) (o := 0) (n := n) (c := n) (c' := newCap w e n 0) (l := ⟨w.drew.heap.size, 0, ([] ++ vs ++ (Builtin.zeroCells z.cells (newCap w e n 0 - n)).toList).length, q.size⟩) (if_pos rfl) hge (by rw [hlen]; simp)
      exact this
  · -- an empty slice somewhere
    cases hb : Nat.beq n 0 with
    | true =>
      rw [hb, cond_true] at h; cases h
      generalize vx = u at hx
      cases hx
      exact ⟨_, _, zero _ 0 _ (Nat.eq_of_beq_eq_true hb) (Nat.zero_le _), post_pure rfl (.emp _ _) hH⟩
    | false => rw [hb, cond_false] at h; cases h
  · rename_i b off m c
    cases hx with
    | slc hl hc hsz =>
      rename_i c' lc
      cases hb : Nat.beq n 0 with
      | true =>
        rw [hb, cond_true] at h
        cases hb2 : Nat.ble m c with
        | true =>
          rw [hb2, cond_true] at h; cases h
          exact ⟨_, _, zero _ m c' (Nat.eq_of_beq_eq_true hb) (Nat.le_trans (Nat.le_of_ble_eq_true hb2) hc), post_pure rfl (.slc hl hc hsz) hH⟩
        | false => rw [hb2, cond_false] at h; cases h
      | false =>
        rw [hb, cond_false] at h
        have hn0 : n ≠ 0 := fun e => by rw [e] at hb; cases hb
        split at h
        · rename_i hh k hld hk
          cases hf : (Nat.beq k.esz q.size && Nat.ble (m + n) 10000 && l.all CV.flat) with
          | false => rw [hf, cond_false] at h; cases h
          | true =>
            rw [hf, cond_true] at h; cases h
            simp only [Bool.and_eq_true, List.all_eq_true] at hf
            obtain ⟨⟨hf1, hf2⟩, hf3⟩ := hf
            have hesz := Nat.eq_of_beq_eq_true hf1
            have hmn := Nat.le_of_ble_eq_true hf2
            have hcb := hA b (.inl (by simp))
            have hσ := hN s.next (Nat.le_refl _) (by simp [St.new, kill_next])
            obtain ⟨k', hk', hlive, hle, hhe, _⟩ := ld_parts hld
            rw [hk] at hk'
            obtain rfl := Option.some.inj hk'
            obtain ⟨_, _, _, _, hez, _⟩ := hH.cell b k lc (hcb.trans hk) hlive hl
            have hbn : b ≠ s.next := fun e => by rw [e, hσ] at hl; cases hl
            obtain ⟨old, ho1, ho2, ho3, ho4⟩ := ld_run (P := P) hH hld hcb hl
            by_cases hroom : m + n ≤ c'
            · -- in place
              have hfit2 : lc.base + off + m * q.size + vs.length ≤ lc.size := by
                rw [← hez, hesz] at hsz
                have : (m + n) * q.size ≤ c' * q.size := Nat.mul_le_mul_right _ hroom
                rw [Nat.add_mul] at this
                omega
              obtain ⟨w', p1, p2, p3⟩ := place_run (P := P) hH hk hlive hle hcb hl hv hf3 hfit2 hσ
              have hst : (storeCells ((⟨lc.blk, lc.base + off, none⟩ : Addr).add (m * q.size)) vs).run P w = .ok () w' := by rw [add_none]; exact p1
              refine ⟨.slice (some ⟨lc.blk, lc.base + off, none⟩) (m + n) c', w', ?_, ?_⟩
              · rcases hS with hS | hS
                · exact append_place_S hu hs hS.1 hroom hst
                · exact append_place_Z hu hs hi (by omega) h1 (by omega) hS.1 hroom hst
              · rw [hesz, ← hhe] at p2
                have hnx : ((s.kill b).new (hh ++ l) q.size).next = s.next + 1 := by simp [St.new, kill_next]
                refine ⟨_, ?_, ?_, by rw [hnx]; exact p2, p3, ?_⟩
                · intro x hx
                  rw [hnx] at hx
                  show (if x = s.next then _ else σ x) = σ x
                  rw [if_neg (by omega)]
                · have := VR.slc (ρ := ρ) (σ := fun x => if x = s.next then some ⟨lc.blk, lc.base + off, lc.size, lc.esz⟩ else σ x) (b := s.next) (o := 0) (n := m + n) (c := m + n) (c' := c') (l := ⟨lc.blk, lc.base + off, lc.size, lc.esz⟩) (if_pos rfl) hroom (by simpa using hsz)
                  exact this
                · intro x l' h1' h2' h3'
                  rw [hnx] at h2'
                  obtain rfl : x = s.next := by omega
                  simp only [if_true] at h3'
                  obtain rfl := Option.some.inj h3'
                  exact .inr ⟨b, .inl (by simp), lc, hl, rfl⟩
            · have hr := fresh (some ⟨lc.blk, lc.base + off, none⟩) m c' old (by omega) hroom (by omega) (by simp [Builtin.firstCells, ho4])
              refine ⟨_, _, hr, post_drew ?_⟩
              have hge := newCap_ge w e (m + n) c'
              have hlen : (old ++ vs ++ (Builtin.zeroCells z.cells (newCap w e (m + n) c' - (m + n))).toList).length = newCap w e (m + n) c' * q.size := by
                simp only [List.length_append, zeroCells_length, hzs, hvl, ho3]
                rw [← Nat.add_mul, ← Nat.add_mul]; congr 1; omega
              refine post_new (s0 := s) (s := s.kill b) (l := hh ++ l) (vs := old ++ vs) (K := [b]) hH.drew (ho2.append hv) (kill_next s b) hσ (fun x hx => ?_) ?_
              · obtain rfl : x = b := by simpa using hx
                refine ⟨hbn, fun k2 hk2 => ?_⟩
                rw [kill_get hk, if_pos rfl] at hk2
                obtain rfl := Option.some.inj hk2
                rfl
              · have := VR.slc (ρ := ρ) (σ := fun b => if b = s.next then some ⟨w.drew.heap.size, 0, (old ++ vs ++ (Builtin.zeroCells z.cells (newCap w e (m + n) c' - (m + n))).toList).length, q.size⟩ else σ b) (b := s.next) (o := 0) (n := m + n) (c := m + n) (c' := newCap w e (m + n) c') (l := ⟨w.drew.heap.size, 0, (old ++ vs ++ (Builtin.zeroCells z.cells (newCap w e (m + n) c' - (m + n))).toList).length, q.size⟩) (if_pos rfl) hge (by rw [hlen]; simp)
                exact this
        · cases h
  · cases h

theorem VRl.one {c : CV} {l : List Value} (h : VRl ρ σ [c] l) : ∃ v, l = [v] ∧ VR ρ σ c v := by
  cases h with
  | cons h t => cases t; exact ⟨_, rfl, h⟩
theorem VRl.two {c d : CV} {l : List Value} (h : VRl ρ σ [c, d] l) : ∃ v u, l = [v, u] ∧ VR ρ σ c v ∧ VR ρ σ d u := by
  cases h with
  | cons h t => obtain ⟨u, rfl, h2⟩ := t.one; exact ⟨_, _, rfl, h, h2⟩

theorem tys_two {tys : Array TypeId} {t1 t2 : TypeId} (h1 : tys[0]? = some t1) (h2 : tys[1]? = some t2) (ty : TypeId) (args : Array Value) : Builtin.append_ tys ty args = Builtin.append_ #[t1, t2] ty args := by
  unfold Builtin.append_
  have e0 : (#[t1, t2] : Array TypeId)[0]? = some t1 := rfl
  have e1 : (#[t1, t2] : Array TypeId)[1]? = some t2 := rfl
  rw [h1, h2, e0, e1]

theorem sound_builtin {b : Builtin} {args : Array Operand} {tys : Array TypeId} (hop : o.op = .call { callee := .builtin b, args := args, argTypes := tys }) (h : opE C T s o = some r) (I : Inp P C ρ σ cur s T a w o r) : Gives P o a w (Post ρ σ cur s.next w r.val r.s r.W) := by
  obtain ⟨cns, hex⟩ := exec_builtin (P := P) (a := a) (w := w) hop
  unfold opE at h
  rw [hop] at h
  simp only [opBuiltin] at h
  split at h
  · cases h
  · rename_i vs hvs
    have hV := evs_run (σ := σ) (ρ := ρ) (a := a) (fun t ht => I.T t (by rw [hop]; simpa [Op.operands, Call.operands] using ht)) hvs
    have hargs : ∀ l : List Value, args.toList.map a.eval = l → args.map a.eval = l.toArray := by
      intro l hl
      rw [← hl, ← Array.toList_inj, Array.toList_map]
    have one : ∀ {v : Value} {c : CV} {s1 : St}, s1.next = s.next → (builtin b tys o.type cns (args.map a.eval)).run P w = .ok (.value v) w → VR ρ σ c v → Gives P o a w (Post ρ σ cur s.next w c s1 []) :=
      fun hn hr hv => gives_pure (R := []) hn I.H (hex.trans hr) hv
    split at h
    · -- len
      rename_i x
      obtain ⟨v, hl, hx⟩ := hV.one
      have ha := hargs _ hl
      split at h
      · rename_i t ht
        split at h
        · rename_i q hq
          have hu := (I.ok.ty _ _ hq).under w
          split at h
          · rename_i e p n c hd
            cases h
            rw [hd] at hu
            refine one rfl (v := .int .i64 n) ?_ (.int .i64 (.c n))
            rw [ha]
            generalize v = u at hx
            cases hx <;> simp [builtin, Builtin.len_, ht, hu, goInt]
          · rename_i e hd
            cases h
            rw [hd] at hu
            refine one rfl (v := .int .i64 0) ?_ (.int .i64 (.c 0))
            rw [ha]
            generalize v = u at hx
            cases hx <;> simp [builtin, Builtin.len_, ht, hu, goInt]
          · rename_i n e hd
            cases h
            rw [hd] at hu
            refine one rfl (v := .int .i64 n) ?_ (.int .i64 (.c n))
            rw [ha]
            simp [builtin, Builtin.len_, ht, hu, goInt]
          · cases h
        · cases h
      · cases h
    · -- min
      rename_i k e k' f
      obtain ⟨v, u, hl, hx, hy⟩ := hV.two
      have ha := hargs _ hl
      cases hk : decide (k = k') with
      | false => rw [hk, cond_false] at h; cases h
      | true =>
        rw [hk, cond_true] at h
        obtain rfl : k = k' := by simpa using hk
        cases h
        obtain rfl := hx.int_inv
        obtain rfl := hy.int_inv
        refine one rfl (v := .int k (Ar.run .mn k (e.den ρ) (f.den ρ))) ?_ (by have := VR.int (ρ := ρ) (σ := σ) k (IE.mk .mn k e f); rwa [IE.den_mk] at this)
        rw [ha]
        simp [builtin, Builtin.min_, Builtin.min2, Ar.run]
    · -- max
      rename_i k e k' f
      obtain ⟨v, u, hl, hx, hy⟩ := hV.two
      have ha := hargs _ hl
      cases hk : decide (k = k') with
      | false => rw [hk, cond_false] at h; cases h
      | true =>
        rw [hk, cond_true] at h
        obtain rfl : k = k' := by simpa using hk
        cases h
        obtain rfl := hx.int_inv
        obtain rfl := hy.int_inv
        refine one rfl (v := .int k (Ar.run .mx k (e.den ρ) (f.den ρ))) ?_ (by have := VR.int (ρ := ρ) (σ := σ) k (IE.mk .mx k e f); rwa [IE.den_mk] at this)
        rw [ha]
        simp [builtin, Builtin.max_, Builtin.max2, Ar.run]
    · -- cap
      rename_i c1 c2
      obtain ⟨v, hl, hx⟩ := hV.one
      have ha := hargs _ hl
      split at h
      · rename_i t ht
        split at h
        · rename_i q hq
          have hu := (I.ok.ty _ _ hq).under w
          split at h
          · rename_i e hd
            cases h
            rw [hd] at hu
            refine one rfl (v := .int .i64 0) ?_ (.int .i64 (.c 0))
            rw [ha]
            generalize v = u at hx
            cases hx
            simp [builtin, Builtin.cap_, ht, hu, goInt]
          · cases h
        · cases h
      · cases h
    · -- append
      rename_i x y
      obtain ⟨v, u, hl, hx, hy⟩ := hV.two
      have ha := hargs _ hl
      split at h
      · rename_i t1 t2 ht1 ht2
        split at h
        · rename_i q1 r2 hq1 hr2
          split at h
          · rename_i e hd
            split at h
            · rename_i q hq
              cases hf : (Nat.ble 1 q.size && Nat.ble q.bytes 100000) with
              | false => rw [hf, cond_false] at h; cases h
              | true =>
                rw [hf, cond_true] at h
                simp only [Bool.and_eq_true] at hf
                split at h
                · rename_i l n R hsrc
                  have hu := (I.ok.ty _ _ hq1).under w
                  rw [hd] at hu
                  obtain ⟨v', w', e1, e2⟩ := sound_append (ty := o.type) (yT := t2) (d := q1.desc) hu (I.ok.ty _ _ hq) (Nat.le_of_ble_eq_true hf.1) (Nat.le_of_ble_eq_true hf.2) (I.ok.ty _ _ hr2) hsrc h hx hy I.H I.A I.N
                  refine ⟨v', w', .inl ?_, e2⟩
                  rw [hex, ha]
                  simp only [builtin, tys_two ht1 ht2, Sem.run_bind, e1, Result.andThen, Sem.run_pure]
                · cases h
            · cases h
          · cases h
        · cases h
      · cases h
    · cases h


/-- ALL OPERATIONS THAT CALL NO GO FUNCTION. -/
theorem opE_sound (h : opE C T s o = some r) (I : Inp P C ρ σ cur s T a w o r) : Gives P o a w (Post ρ σ cur s.next w r.val r.s r.W) := by
  cases hop : o.op with
  | move x => exact sound_move (.inl hop) h I
  | assign x => exact sound_move (.inr hop) h I
  | pick c x y => exact sound_pick hop h I
  | alloc t => exact sound_alloc hop h I
  | box t x => exact sound_box hop h I
  | build t p => exact sound_build hop h I
  | buildSlice t n p => exact sound_buildSlice hop h I
  | load t x => exact sound_load hop h I
  | store t x y => exact sound_store hop h I
  | nilCheck x => exact sound_nilCheck hop h I
  | binOp op t x y u => exact sound_binOp hop h I
  | unOp op t x => exact sound_unOp hop h I
  | convert st dt x => exact sound_convert hop h I
  | makeFunc f x y => exact sound_makeFunc hop h I
  | makeSlice t x y => exact sound_makeSlice hop h I
  | slice t x lo hi mx =>
    cases mx with
    | none => exact sound_slice hop h I
    | some m => unfold opE at h; rw [hop] at h; cases h
  | fieldAddr t x f => exact sound_fieldAddr hop h I
  | field t x f => exact sound_field hop h I
  | indexAddr t x i => exact sound_indexAddr hop h I
  | index t x i => exact sound_index hop h I
  | extract x i => exact sound_extract hop h I
  | call c =>
    obtain ⟨cal, args, tys⟩ := c
    cases cal with
    | builtin b => exact sound_builtin hop h I
    | value f => unfold opE at h; rw [hop] at h; cases h
    | invoke f m => unfold opE at h; rw [hop] at h; cases h
  | _ => unfold opE at h; rw [hop] at h; cases h

end
end Go.Proofs.Ytlffofemajfdjaa.Cx
