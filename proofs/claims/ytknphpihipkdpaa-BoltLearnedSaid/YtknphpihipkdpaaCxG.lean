/- One operation that calls no Go function: slices made, cut and appended to; the builtins; all operations. -/
import Derived.Test.YtknphpihipkdpaaCxF
import Derived.IntWalk
set_option linter.unusedSimpArgs false
set_option linter.unusedVariables false
namespace Go.Proofs.Ytknphpihipkdpaa.Cx
open Go Go.RowKit

section
variable {P : Program} {C : Ctx} {ρ : Env} {σ : Mp} {cur : Cur} {s : St} {T : Tr CV} {a : Act} {w : World} {o : Oper} {r : OR}

theorem flatR_rep (l : List CV) : ∀ n, flatR (fun _ => l) n = rep n l := by
  have comm : ∀ n, rep n l ++ l = l ++ rep n l := fun n => by
    induction n with
    | zero => simp [rep]
    | succ n ih => rw [rep, List.append_assoc, ih]
  intro n
  induction n with
  | zero => rfl
  | succ n ih => rw [flatR, ih, comm]; rfl

theorem wrap_small (n : Int) (h0 : 0 ≤ n) (h1 : n ≤ 10000) : IntKind.i64.wrap n = n := by
  exact IntWalk.i64_in _ (by omega)

theorem sound_makeSlice {t : TypeId} {x y : Operand} (hop : o.op = .makeSlice t x y) (h : opE C T s o = some r) (I : Inp P C ρ σ cur s T a w o r) : Gives P o a w (Post ρ σ cur s.next w r.val r.s r.W) := by
  have mx : x ∈ o.op.operands.toList := by rw [hop]; simp [Op.operands]
  have my : y ∈ o.op.operands.toList := by rw [hop]; simp [Op.operands]
  unfold opE at h
  rw [hop] at h
  simp only [opMakeSlice] at h
  split at h
  · rename_i q k1 n k2 m hq h1 h2
    have hx := (I.T.ev mx h1).int_inv
    have hy := (I.T.ev my h2).int_inv
    simp only [IE.den] at hx hy
    have hu := (I.ok.ty _ _ hq).under w
    split at h
    · rename_i e hd
      rw [hd] at hu
      split at h
      · rename_i q2 hq2
        cases hf : (decide (0 ≤ n) && decide (n ≤ m) && decide (m ≤ 10000) && Nat.ble 1 q2.size && Nat.ble q2.bytes 100000) with
        | false => rw [hf, cond_false] at h; cases h
        | true =>
          rw [hf, cond_true] at h
          cases h
          simp only [Bool.and_eq_true, decide_eq_true_eq] at hf
          obtain ⟨⟨⟨⟨h0, hnm⟩, hm⟩, hsz1⟩, hby⟩ := hf
          have hsz1 := Nat.le_of_ble_eq_true hsz1
          have hby := Nat.le_of_ble_eq_true hby
          obtain ⟨i, hi1, hi2, hi3⟩ := (I.ok.ty _ _ hq2).info w
          have hs := (I.ok.ty _ _ hq2).sizeOf' w
          obtain ⟨z, hz, hz2⟩ := (I.ok.ty _ _ hq2).zeroV w
          have hzl : q2.zero.length = q2.size := (I.ok.ty _ _ hq2).2.2.1
          have hrr := rep_rel (VRl.ofVals (ρ := ρ) (σ := σ) hz2) m.toNat (by omega)
          rw [hzl] at hrr
          obtain ⟨A, hA⟩ : ∃ A, A = (Array.range (m.toNat * q2.size)).map (z.cells[· % z.cells.size]!) := ⟨_, rfl⟩
          rw [← hA] at hrr
          have hσ := I.N s.next (Nat.le_refl _) (by simp [St.new])
          have wn := wrap_small n h0 (by omega)
          have wm := wrap_small m (by omega) hm
          have hmul : (i.bytes : Int) * m ≤ 1000000000 := by
            have : (i.bytes : Int) ≤ 100000 := by omega
            calc (i.bytes : Int) * m ≤ 100000 * m := Int.mul_le_mul_of_nonneg_right this (by omega)
              _ ≤ _ := by omega
          refine ⟨.slice (some ⟨w.heap.size, 0, none⟩) n.toNat m.toNat, w.alloc (.cells A e), .inl ?_, ?_⟩
          · have c1 : ((decide (m < 0) || decide ((i.bytes : Int) * m > 2 ^ 48)) || decide (n < 0) || decide (n > m)) = false := by
              simp only [Bool.or_eq_false_iff, decide_eq_false_iff_not]
              refine ⟨⟨⟨by omega, by omega⟩, by omega⟩, by omega⟩
            have c2 : (m.toNat * i.bytes > roomBytes) = False := by
              simp only [eq_iff_iff, iff_false, gt_iff_lt, Nat.not_lt, roomBytes]
              have : m.toNat * i.bytes ≤ 10000 * 100000 := Nat.mul_le_mul (by omega) (by omega)
              omega
            simp only [execOp, hop, hx, hy, Instr.makeSlice, Sem.run_bind, hu, Result.andThen, asInt, asIntOf, Sem.run_pure, pure_bind, hi1, wn, wm, c1, Bool.false_eq_true, if_false, askRoom, c2, hs]
            by_cases h0 : m.toNat * q2.size = 0
            · have e0 : A = (Array.range 0).map ((#[] : Array Value)[· % (#[] : Array Value).size]!) := by rw [hA, h0]; apply Array.ext'; simp
              simp [h0, newRow, e0]
            · simp [h0, hz, newRow, hA]
          · have hlen := hrr.length
            rw [rep_length, hzl] at hlen
            have := post_new (s0 := s) (rest := []) (t := e) (e := q2.size) (K := []) (n := s.next) (c := .slc (some (s.next, 0)) n.toNat m.toNat) (v := .slice (some ⟨w.heap.size, 0, none⟩) n.toNat m.toNat) I.H hrr rfl hσ (fun b hb => by cases hb) (by
              have := VR.slc (ρ := ρ) (σ := fun b => if b = s.next then some ⟨w.heap.size, 0, (A.toList ++ []).length, q2.size⟩ else σ b) (b := s.next) (o := 0) (n := n.toNat) (c := m.toNat) (c' := m.toNat) (l := ⟨w.heap.size, 0, (A.toList ++ []).length, q2.size⟩) (if_pos rfl) (Nat.le_refl _) (by simp at hlen ⊢; omega)
              exact this)
            simpa using this
      · cases h
    · cases h
  · rename_i q k1 n k2 m hq h1 h2
    have hx := (I.T.ev mx h1).int_inv
    have hy := (I.T.ev my h2).int_inv
    simp only [IE.den] at hx hy
    have hu := (I.ok.ty _ _ hq).under w
    split at h
    · rename_i e hd
      rw [hd] at hu
      split at h
      · rename_i q2 hq2
        split at h
        · rename_i s1 hm1
          obtain ⟨p1, p2, p3, p4⟩ := must_parts (ρ := ρ) hm1
          unfold zrows at h
          split at h
          · rename_i hfl
            cases hf : (Nat.ble 1 q2.size && Nat.ble q2.bytes 100000 && Nat.beq q2.zero.length q2.size) with
            | false => rw [hf, cond_false] at h; cases h
            | true =>
              rw [hf, cond_true] at h
              simp only [Bool.and_eq_true] at hf
              split at h
              · rename_i s2 hm2
                obtain ⟨r1, r2, ⟨lr, r3⟩, r4⟩ := musts_parts (ρ := ρ) hm2
                cases h
                have hpc : ∀ p ∈ s2.pc, p.holds ρ := I.pc
                have r4 := r4 hpc
                have h0 : 0 ≤ n := of_decide_eq_true (r4 _ (by simp))
                have hm : n ≤ 10000 := of_decide_eq_true (r4 _ (by simp))
                have hnm : n = m := of_decide_eq_true (p4 (fun p hp => hpc p (by rw [r3]; simp [hp])))
                subst hnm
                have hsz1 := Nat.le_of_ble_eq_true hf.1.1
                have hby := Nat.le_of_ble_eq_true hf.1.2
                have hzz := Nat.eq_of_beq_eq_true hf.2
                obtain ⟨i, hi1, hi2, hi3⟩ := (I.ok.ty _ _ hq2).info w
                have hs := (I.ok.ty _ _ hq2).sizeOf' w
                obtain ⟨z, hz, hz2⟩ := (I.ok.ty _ _ hq2).zeroV w
                have hzl : q2.zero.length = q2.size := (I.ok.ty _ _ hq2).2.2.1
                have hrr := rep_rel (VRl.ofVals (ρ := ρ) (σ := σ) hz2) n.toNat (by omega)
                rw [hzl] at hrr
                obtain ⟨A, hA⟩ : ∃ A, A = (Array.range (n.toNat * q2.size)).map (z.cells[· % z.cells.size]!) := ⟨_, rfl⟩
                rw [← hA] at hrr
                have hnx : s2.next = s.next := r1.trans p1
                have hσ := I.N s.next (Nat.le_refl _) (by simp [St.newB, hnx])
                have wn := wrap_small n h0 hm
                have hmul : (i.bytes : Int) * n ≤ 1000000000 := by
                  have : (i.bytes : Int) ≤ 100000 := by omega
                  calc (i.bytes : Int) * n ≤ 100000 * n := Int.mul_le_mul_of_nonneg_right this (by omega)
                    _ ≤ _ := by omega
                refine ⟨.slice (some ⟨w.heap.size, 0, none⟩) n.toNat n.toNat, w.alloc (.cells A e), .inl ?_, ?_⟩
                · have c1 : ((decide (n < 0) || decide ((i.bytes : Int) * n > 2 ^ 48)) || decide (n < 0) || decide (n > n)) = false := by
                    simp only [Bool.or_eq_false_iff, decide_eq_false_iff_not]
                    refine ⟨⟨⟨by omega, by omega⟩, by omega⟩, by omega⟩
                  have c2 : (n.toNat * i.bytes > roomBytes) = False := by
                    simp only [eq_iff_iff, iff_false, gt_iff_lt, Nat.not_lt, roomBytes]
                    have : n.toNat * i.bytes ≤ 10000 * 100000 := Nat.mul_le_mul (by omega) (by omega)
                    omega
                  simp only [execOp, hop, hx, hy, Instr.makeSlice, Sem.run_bind, hu, Result.andThen, asInt, asIntOf, Sem.run_pure, pure_bind, hi1, wn, c1, Bool.false_eq_true, if_false, askRoom, c2, hs]
                  by_cases h0 : n.toNat * q2.size = 0
                  · have e0 : A = (Array.range 0).map ((#[] : Array Value)[· % (#[] : Array Value).size]!) := by rw [hA, h0]; apply Array.ext'; simp
                    simp [h0, newRow, e0]
                  · simp [h0, hz, newRow, hA]
                · have hlen := hrr.length
                  rw [rep_length, hzl] at hlen
                  have hfr : flatR (fun _ => q2.zero) n.toNat = rep n.toNat q2.zero := flatR_rep _ _
                  have := post_newB (B := .rows n.toNat q2.zero.length (fun _ => q2.zero) (fun _ => ⟨rfl, hfl⟩)) (s := s2) (s0 := s) (rest := []) (t := e) (e := q2.size) (K := []) (n := s.next) (c := .slx s.next q2.zero.length 0 n.toNat n.toNat) (v := .slice (some ⟨w.heap.size, 0, none⟩) n.toNat n.toNat) I.H (by
                    show VRl ρ σ (flatR _ _) _
                    rw [hfr]; exact hrr) hnx hσ (fun b hb => by cases hb) (by
                    have := VR.slc (ρ := ρ) (σ := fun b => if b = s.next then some ⟨w.heap.size, 0, (A.toList ++ []).length, q2.size⟩ else σ b) (b := s.next) (o := 0 * q2.zero.length) (n := n.toNat) (c := n.toNat) (c' := n.toNat) (l := ⟨w.heap.size, 0, (A.toList ++ []).length, q2.size⟩) (if_pos rfl) (Nat.le_refl _) (by simp at hlen ⊢; omega)
                    simp only [Nat.zero_mul, Nat.add_zero] at this
                    refine .slx ?_
                    simpa using this)
                  rw [hnx]
                  simpa using this
              · cases h
          · cases h
        · cases h
      · cases h
    · cases h
  · cases h

/-- A bound of a slice expression. -/
noncomputable def boundE (pc : List PC) (T : Tr CV) (x : Option Operand) (d : Nat) : Option Nat := match x with
  | none => some d
  | some x => match ev T x with
    | some (.int _ (.c m)) => bif decide (0 ≤ m) then some m.toNat else none
    | some (.int _ e) => match PC.findN e pc with | some m => bif decide (0 ≤ m) then some m.toNat else none | none => none
    | _ => none

theorem bound_inv {x : Operand} {l : Nat} {d : Nat} {pc : List PC} (hp : ∀ p ∈ pc, p.holds ρ) (hT : Reads ρ σ T a [x]) (h : boundE pc T (some x) d = some l) : ∃ k, a.eval x = .int k (l : Int) := by
  unfold boundE at h
  simp only at h
  split at h
  · rename_i k m hm
    cases hb : decide (0 ≤ m) with
    | false => rw [hb, cond_false] at h; cases h
    | true =>
      rw [hb, cond_true] at h
      cases h
      have := (hT.ev (by simp) hm).int_inv
      simp only [IE.den] at this
      refine ⟨k, ?_⟩
      rw [this, Int.toNat_of_nonneg (by simpa using hb)]
  · rename_i k e _ hm
    split at h
    · rename_i m hf
      cases hb : decide (0 ≤ m) with
      | false => rw [hb, cond_false] at h; cases h
      | true =>
        rw [hb, cond_true] at h
        cases h
        have := (hT.ev (by simp) hm).int_inv
        refine ⟨k, ?_⟩
        rw [this, PC.findN_holds hf hp, Int.toNat_of_nonneg (by simpa using hb)]
    · cases h
  · cases h

theorem opSlice_parts {t : TypeId} {x : Operand} {lo hi : Option Operand} (h : opSlice C T s t x lo hi = some r) : r.s = s ∧ r.W = [] ∧ ∀ b ∈ r.R, b < s.next := by
  simp only [opSlice, Bool.cond_eq_ite] at h
  repeat' (first | (cases h; done) | (cases h; exact ⟨rfl, rfl, fun b hb => absurd hb List.not_mem_nil⟩) | split at h)
  all_goals
    rename_i hb
    simp only [Bool.and_eq_true] at hb
    cases h
    refine ⟨rfl, rfl, fun x hx => ?_⟩
    obtain rfl := List.mem_singleton.1 hx
    exact Nat.lt_of_succ_le (Nat.le_of_ble_eq_true hb.2)

theorem concOp_parts {s1 : St} {x : Option Operand} (h : concOp T s x = some s1) : s1.next = s.next ∧ s1.heap = s.heap ∧ ∃ l, s1.pc = l ++ s.pc := by
  unfold concOp at h
  split at h
  · cases h; exact ⟨rfl, rfl, [], rfl⟩
  · split at h
    · split at h
      · rename_i hc
        cases h
        obtain ⟨h1, h2, h3, _⟩ := conc_parts (ρ := ⟨fun _ => 0, fun _ => false⟩) hc
        exact ⟨h1, h2, h3⟩
      · cases h
    · cases h; exact ⟨rfl, rfl, [], rfl⟩


theorem sound_sliceS {t : TypeId} {x : Operand} {lo hi : Option Operand} (hop : o.op = .slice t x lo hi none) (h : opSlice C T s t x lo hi = some r) (I : Inp P C ρ σ cur s T a w o r) : Gives P o a w (Post ρ σ cur s.next w r.val r.s r.W) := by
  have mx : x ∈ o.op.operands.toList := by rw [hop]; simp [Op.operands]
  have mlo : ∀ y, lo = some y → y ∈ o.op.operands.toList := by rintro y rfl; rw [hop]; simp [Op.operands]
  have mhi : ∀ y, hi = some y → y ∈ o.op.operands.toList := by rintro y rfl; rw [hop]; simp [Op.operands]
  have h' : (match C.ty t, ev T x with
    | some r, some (.slc a n c) =>
      match r.desc with
      | .slice e => match C.ty e with
        | some q =>
          match boundE s.pc T lo 0, boundE s.pc T hi n with
          | some l, some h =>
            bif Nat.ble l h && Nat.ble h c then
              match a with
              | some (b, o) =>
                bif Nat.beq l 0 then some (⟨.slc (some (b, o)) h c, s, [], []⟩ : OR) else
                bif Nat.blt l c then
                  match s.heap.get b with
                  | some k => bif k.live && Nat.beq k.esz q.size && Nat.blt b s.next then some ⟨.slc (some (b, o + l * q.size)) (h - l) (c - l), s, [b], []⟩ else none
                  | none => none
                else some ⟨.emp, s, [], []⟩
              | none => some ⟨.slc none 0 0, s, [], []⟩
            else none
          | _, _ => none
        | none => none
      | _ => none
    | _, _ => none) = some r := by
    exact h
  have hpc : ∀ p ∈ s.pc, p.holds ρ := by rw [← (opSlice_parts h).1]; exact I.pc
  clear h
  split at h'
  · rename_i q p n c hq h1
    have hv := I.T.ev mx h1
    have hu := (I.ok.ty _ _ hq).under w
    split at h'
    · rename_i e hd
      rw [hd] at hu
      split at h'
      · rename_i q2 hq2
        have hs := (I.ok.ty _ _ hq2).sizeOf' w
        split at h'
        · rename_i l hh hlo hhi
          cases hf : (Nat.ble l hh && Nat.ble hh c) with
          | false => rw [hf, cond_false] at h'; cases h'
          | true =>
            rw [hf, cond_true] at h'
            simp only [Bool.and_eq_true] at hf
            have hlh := Nat.le_of_ble_eq_true hf.1
            have hhc := Nat.le_of_ble_eq_true hf.2
            -- the bounds, with a real capacity that is no smaller
            have key : ∀ c' : Nat, c ≤ c' → (Instr.sliceBounds true n c' (lo.map a.eval) (hi.map a.eval) none).run P w = .ok (l, hh, c') w := by
              intro c' hc'
              have e1 : (match lo.map a.eval with | some v => Instr.sliceBound v hh .sliceB | none => pure 0 : Sem Nat).run P w = .ok l w := by
                cases lo with
                | none => simp only [boundE] at hlo; cases hlo; rfl
                | some y =>
                  obtain ⟨k, hk⟩ := bound_inv (ρ := ρ) (σ := σ) (a := a) hpc (fun t ht => I.T t (by simp at ht; subst ht; exact mlo _ rfl)) hlo
                  have hr : 0 ≤ (l : Int) ∧ (l : Int) ≤ (hh : Int) := by omega
                  simp only [Option.map_some, hk, Instr.sliceBound, asIntOf, Sem.run_bind, Sem.run_pure, Result.andThen, pure_bind]
                  rw [if_pos hr]; simp
              have e2 : (match hi.map a.eval with | some v => Instr.sliceBound v c' .sliceAcap | none => pure n : Sem Nat).run P w = .ok hh w := by
                cases hi with
                | none => simp only [boundE] at hhi; cases hhi; rfl
                | some y =>
                  obtain ⟨k, hk⟩ := bound_inv (ρ := ρ) (σ := σ) (a := a) hpc (fun t ht => I.T t (by simp at ht; subst ht; exact mhi _ rfl)) hhi
                  have hr : 0 ≤ (hh : Int) ∧ (hh : Int) ≤ (c' : Int) := by omega
                  simp only [Option.map_some, hk, Instr.sliceBound, asIntOf, Sem.run_bind, Sem.run_pure, Result.andThen, pure_bind]
                  rw [if_pos hr]; simp
              cases hi with
              | none =>
                simp only [boundE] at hhi; cases hhi
                cases lo with
                | none => simp only [boundE] at hlo; cases hlo; rfl
                | some y => simp only [Option.map_some] at e1; simp [Instr.sliceBounds, e1]
              | some z =>
                simp only [Option.map_some] at e2
                cases lo with
                | none => simp only [boundE] at hlo; cases hlo; simp [Instr.sliceBounds, e2]
                | some y => simp only [Option.map_some] at e1; simp [Instr.sliceBounds, e1, e2]
            split at h'
            · rename_i b off
              generalize hxv : a.eval x = vx at hv
              cases hv with
              | slc hl hc hsz =>
                rename_i c' lc
                have kr := key c' hc
                have run : (execOp a.eval o).run P w = .ok (.value (.slice (some (if c' = l then ⟨lc.blk, lc.base + off, none⟩ else ⟨lc.blk, lc.base + off + l * q2.size, none⟩)) (hh - l) (c' - l))) w := by
                  simp only [execOp, hop, hxv, Option.map_none, Instr.sliceAt, Instr.slice, Sem.run_bind, hu, Result.andThen, kr, hs, Sem.run_pure]
                  by_cases e : c' = l <;> simp [e, add_none]
                cases hb0 : Nat.beq l 0 with
                | true =>
                  rw [hb0, cond_true] at h'
                  cases h'
                  have hl0 := Nat.eq_of_beq_eq_true hb0
                  subst hl0
                  refine gives_pure (R := []) rfl I.H run ?_
                  have hif : (if c' = 0 then (⟨lc.blk, lc.base + off, none⟩ : Addr) else ⟨lc.blk, lc.base + off + 0 * q2.size, none⟩) = ⟨lc.blk, lc.base + off, none⟩ := by split <;> simp
                  rw [hif]
                  exact .slc hl hc hsz
                | false =>
                  rw [hb0, cond_false] at h'
                  cases hb : Nat.blt l c with
                  | true =>
                    rw [hb, cond_true] at h'
                    have hlc : l < c := Nat.lt_of_succ_le (Nat.le_of_ble_eq_true hb)
                    split at h'
                    · rename_i k hk
                      cases hf2 : (k.live && Nat.beq k.esz q2.size && Nat.blt b s.next) with
                      | false => rw [hf2, cond_false] at h'; cases h'
                      | true =>
                        rw [hf2, cond_true] at h'
                        cases h'
                        simp only [Bool.and_eq_true] at hf2
                        have hesz := Nat.eq_of_beq_eq_true hf2.1.2
                        obtain ⟨_, _, _, _, _, _, he, _⟩ := I.H.cell b k lc ((I.A b (.inl (by simp))).trans hk) hf2.1.1 hl
                        rw [hesz] at he
                        refine gives_pure (R := [b]) rfl I.H run ?_
                        rw [if_neg (by omega), Nat.add_assoc]
                        refine .slc hl (by omega) ?_
                        rw [← he] at hsz ⊢
                        have : l * q2.size + (c' - l) * q2.size = c' * q2.size := by rw [← Nat.add_mul]; congr 1; omega
                        omega
                    · cases h'
                  | false =>
                    rw [hb, cond_false] at h'
                    cases h'
                    refine gives_pure (R := []) rfl I.H run ?_
                    have h1 : ¬ l < c := fun h => by
                      have : Nat.blt l c = true := Nat.ble_eq_true_of_le h
                      simp [this] at hb
                    have h2 : hh - l = 0 := by omega
                    rw [h2]
                    exact .emp _ _
            · cases h'
              generalize hxv : a.eval x = vx at hv
              cases hv with
              | slc0 =>
                have kr := key 0 (Nat.le_refl _)
                have hl0 : l = 0 := by omega
                have hh0 : hh = 0 := by omega
                subst hl0 hh0
                refine gives_pure (R := []) rfl I.H (v := .slice none 0 0) ?_ .slc0
                simp only [execOp, hop, hxv, Option.map_none, Instr.sliceAt, Instr.slice, Sem.run_bind, hu, Result.andThen, kr, hs, Sem.run_pure]
                simp
        · cases h'
      · cases h'
    · cases h'
  · cases h'

theorem boundX_inv {x : Operand} {l : Int} {d : Nat} (hT : Reads ρ σ T a [x]) (h : boundX T (some x) d = some l) : ∃ k, a.eval x = .int k l := by
  unfold boundX at h
  simp only at h
  split at h
  · rename_i k e hm
    have := (hT.ev (by simp) hm).int_inv
    rw [IE.num_den (ρ := ρ) h] at this
    exact ⟨k, this⟩
  · cases h

theorem sound_sliceX {t : TypeId} {x : Operand} {lo hi : Option Operand} (hop : o.op = .slice t x lo hi none) (h' : opSliceX C T s t x lo hi = some r) (I : Inp P C ρ σ cur s T a w o r) : Gives P o a w (Post ρ σ cur s.next w r.val r.s r.W) := by
  have mx : x ∈ o.op.operands.toList := by rw [hop]; simp [Op.operands]
  have mlo : ∀ y, lo = some y → y ∈ o.op.operands.toList := by rintro y rfl; rw [hop]; simp [Op.operands]
  have mhi : ∀ y, hi = some y → y ∈ o.op.operands.toList := by rintro y rfl; rw [hop]; simp [Op.operands]
  have key : ∀ (li hi' : Int) (n c' : Nat), boundX T lo 0 = some li → boundX T hi n = some hi' → 0 ≤ li → li ≤ hi' → hi' ≤ (c' : Int) → (Instr.sliceBounds true n c' (lo.map a.eval) (hi.map a.eval) none).run P w = .ok (li.toNat, hi'.toNat, c') w := by
    intro li hi' n c' hlo hhi b1 b2 hc'
    have e1 : (match lo.map a.eval with | some v => Instr.sliceBound v hi'.toNat .sliceB | none => pure 0 : Sem Nat).run P w = .ok li.toNat w := by
      cases lo with
      | none => simp only [boundX] at hlo; cases hlo; rfl
      | some y =>
        obtain ⟨k, hk⟩ := boundX_inv (ρ := ρ) (σ := σ) (a := a) (fun t ht => I.T t (by simp at ht; subst ht; exact mlo _ rfl)) hlo
        have hr : 0 ≤ li ∧ li ≤ (hi'.toNat : Int) := by omega
        simp only [Option.map_some, hk, Instr.sliceBound, asIntOf, Sem.run_bind, Sem.run_pure, Result.andThen, pure_bind]
        rw [if_pos hr]; simp
    have e2 : (match hi.map a.eval with | some v => Instr.sliceBound v c' .sliceAcap | none => pure n : Sem Nat).run P w = .ok hi'.toNat w := by
      cases hi with
      | none => simp only [boundX] at hhi; cases hhi; simp
      | some y =>
        obtain ⟨k, hk⟩ := boundX_inv (ρ := ρ) (σ := σ) (a := a) (fun t ht => I.T t (by simp at ht; subst ht; exact mhi _ rfl)) hhi
        have hr : 0 ≤ hi' ∧ hi' ≤ (c' : Int) := by omega
        simp only [Option.map_some, hk, Instr.sliceBound, asIntOf, Sem.run_bind, Sem.run_pure, Result.andThen, pure_bind]
        rw [if_pos hr]; simp
    cases hi with
    | none =>
      simp only [boundX] at hhi; cases hhi
      cases lo with
      | none => simp only [boundX] at hlo; cases hlo; simp [Instr.sliceBounds]
      | some y => simp only [Option.map_some, Int.toNat_natCast] at e1 ⊢; simp [Instr.sliceBounds, e1]
    | some z =>
      simp only [Option.map_some] at e2
      cases lo with
      | none => simp only [boundX] at hlo; cases hlo; simp [Instr.sliceBounds, e2]
      | some y => simp only [Option.map_some] at e1; simp [Instr.sliceBounds, e1, e2]
  simp only [opSliceX] at h'
  split at h'
  · rename_i q b z o' n c hq h1
    have hv := (I.T.ev mx h1).slx_inv
    have hu := (I.ok.ty _ _ hq).under w
    split at h'
    · rename_i e hd
      rw [hd] at hu
      split at h'
      · rename_i q2 li hi' hq2 hlo hhi
        have hs := (I.ok.ty _ _ hq2).sizeOf' w
        cases hf : Nat.beq z q2.size with
        | false => rw [hf, cond_false] at h'; cases h'
        | true =>
          rw [hf, cond_true] at h'
          have hzq := Nat.eq_of_beq_eq_true hf
          split at h'
          · rename_i s1 hm
            cases h'
            obtain ⟨a1, a2, ⟨la, a3⟩, a4⟩ := musts_parts (ρ := ρ) hm
            have a4 := a4 I.pc
            have b1 : 0 ≤ li := of_decide_eq_true (a4 _ (by simp))
            have b2 : li ≤ hi' := of_decide_eq_true (a4 _ (by simp))
            have b3 : hi' ≤ (c : Int) := of_decide_eq_true (a4 _ (by simp))
            generalize hxv : a.eval x = vx at hv
            cases hv with
            | slc hl hc hsz =>
              rename_i c' lc
              have kr := key li hi' n c' hlo hhi b1 b2 (by omega)
              have run : (execOp a.eval o).run P w = .ok (.value (.slice (some (if c' = li.toNat then ⟨lc.blk, lc.base + o' * z, none⟩ else ⟨lc.blk, lc.base + o' * z + li.toNat * q2.size, none⟩)) (hi'.toNat - li.toNat) (c' - li.toNat))) w := by
                simp only [execOp, hop, hxv, Option.map_none, Instr.sliceAt, Instr.slice, Sem.run_bind, hu, Result.andThen, kr, hs, Sem.run_pure]
                by_cases e : c' = li.toNat <;> simp [e, add_none]
              refine gives_pure (R := []) a1 I.H run ?_
              cases hn : lo.isNone with
              | true =>
                rw [cond_true]
                have l0 : li = 0 := by
                  cases lo with
                  | none => simp only [boundX] at hlo; cases hlo; rfl
                  | some y => cases hn
                subst l0
                have hif : (if c' = (0 : Int).toNat then (⟨lc.blk, lc.base + o' * z, none⟩ : Addr) else ⟨lc.blk, lc.base + o' * z + (0 : Int).toNat * q2.size, none⟩) = ⟨lc.blk, lc.base + o' * z, none⟩ := by split <;> simp
                rw [hif]
                exact .slx (.slc hl hc hsz)
              | false =>
                rw [cond_false]
                by_cases e : c' = li.toNat
                · have e0 : hi'.toNat - li.toNat = 0 := by omega
                  rw [e0]; exact .sla0 _ _
                · rw [if_neg e, Nat.add_assoc, ← hzq, ← Nat.add_mul]
                  exact .sla hl (by omega)
          · cases h'
      · cases h'
    · cases h'
  · rename_i q b z o' n hq h1
    have hv := I.T.ev mx h1
    have hu := (I.ok.ty _ _ hq).under w
    split at h'
    · rename_i e hd
      rw [hd] at hu
      split at h'
      · rename_i q2 li hi' hq2 hlo hhi
        have hs := (I.ok.ty _ _ hq2).sizeOf' w
        cases hf : Nat.beq z q2.size with
        | false => rw [hf, cond_false] at h'; cases h'
        | true =>
          rw [hf, cond_true] at h'
          have hzq := Nat.eq_of_beq_eq_true hf
          split at h'
          · rename_i s1 hm
            cases h'
            obtain ⟨a1, a2, ⟨la, a3⟩, a4⟩ := musts_parts (ρ := ρ) hm
            have a4 := a4 I.pc
            have b1 : 0 ≤ li := of_decide_eq_true (a4 _ (by simp))
            have b2 : li ≤ hi' := of_decide_eq_true (a4 _ (by simp))
            have b3 : hi' ≤ (n : Int) := of_decide_eq_true (a4 _ (by simp))
            generalize hxv : a.eval x = vx at hv
            cases hv with
            | sla hl hc =>
              rename_i c' lc
              have kr := key li hi' n c' hlo hhi b1 b2 (by omega)
              have run : (execOp a.eval o).run P w = .ok (.value (.slice (some (if c' = li.toNat then ⟨lc.blk, lc.base + o' * z, none⟩ else ⟨lc.blk, lc.base + o' * z + li.toNat * q2.size, none⟩)) (hi'.toNat - li.toNat) (c' - li.toNat))) w := by
                simp only [execOp, hop, hxv, Option.map_none, Instr.sliceAt, Instr.slice, Sem.run_bind, hu, Result.andThen, kr, hs, Sem.run_pure]
                by_cases e : c' = li.toNat <;> simp [e, add_none]
              refine gives_pure (R := []) a1 I.H run ?_
              by_cases e : c' = li.toNat
              · have e0 : hi'.toNat - li.toNat = 0 := by omega
                rw [e0]; exact .sla0 _ _
              · rw [if_neg e, Nat.add_assoc, ← hzq, ← Nat.add_mul]
                exact .sla hl (by omega)
            | sla0 ad c' =>
              have hl0 : li = 0 := by omega
              have hh0 : hi' = 0 := by omega
              subst hl0 hh0
              have kr := key 0 0 0 c' hlo hhi (by omega) (by omega) (by omega)
              cases ad with
              | none =>
                refine gives_pure (R := []) (v := .slice none 0 (c' - 0)) a1 I.H ?_ (.sla0 _ _)
                simp only [execOp, hop, hxv, Option.map_none, Instr.sliceAt, Instr.slice, Sem.run_bind, hu, Result.andThen, kr, hs, Sem.run_pure]
                simp
              | some ad =>
                refine gives_pure (R := []) (v := .slice (some (if c' = 0 then ad else ad.add (0 * q2.size))) 0 (c' - 0)) a1 I.H ?_ (.sla0 _ _)
                simp only [execOp, hop, hxv, Option.map_none, Instr.sliceAt, Instr.slice, Sem.run_bind, hu, Result.andThen, kr, hs, Sem.run_pure]
                by_cases e : c' = 0 <;> simp [e]
          · cases h'
      · cases h'
    · cases h'
  · cases h'

theorem sound_sliceArr {t : TypeId} {x : Operand} (hop : o.op = .slice t x none none none) (h : opSliceArr C T s t x = some r) (I : Inp P C ρ σ cur s T a w o r) : Gives P o a w (Post ρ σ cur s.next w r.val r.s r.W) := by
  have mx : x ∈ o.op.operands.toList := by rw [hop]; simp [Op.operands]
  simp only [opSliceArr] at h
  split at h
  · rename_i q b off hq h1
    obtain ⟨l, hl, hv⟩ := (I.T.ev mx h1).ptr_inv
    have hu := (I.ok.ty _ _ hq).under w
    split at h
    · rename_i n e hd
      rw [hd] at hu
      split at h
      · rename_i q2 k hq2 hk
        have hs := (I.ok.ty _ _ hq2).sizeOf' w
        cases hf : (k.live && Nat.beq k.esz 0 && Nat.ble off k.cells.length && Nat.blt b s.next) with
        | false => rw [hf, cond_false] at h; cases h
        | true =>
          rw [hf, cond_true] at h
          cases h
          simp only [Bool.and_eq_true] at hf
          have he0 := Nat.eq_of_beq_eq_true hf.1.1.2
          have hle := Nat.le_of_ble_eq_true hf.1.2
          obtain ⟨_, _, _, _, _, _, he, hfit, _⟩ := I.H.cell b k l ((I.A b (.inl (by simp))).trans hk) hf.1.1.1 hl
          rw [he0] at he
          refine gives_pure (R := [b]) rfl I.H (v := .slice (some ⟨l.blk, l.base + off, none⟩) n n) ?_ (.slc hl (Nat.le_refl _) (by rw [← he]; omega))
          simp only [execOp, hop, hv, Option.map_none, Instr.sliceAt, Sem.run_bind, hu, Result.andThen, Instr.sureAddr, Instr.sliceBounds, Sem.run_pure, pure_bind, hs]
          by_cases e0 : n = 0 <;> simp [e0, add_none]
      · cases h
    · cases h
  · cases h

theorem sound_slice {t : TypeId} {x : Operand} {lo hi : Option Operand} (hop : o.op = .slice t x lo hi none) (h : opE C T s o = some r) (I : Inp P C ρ σ cur s T a w o r) : Gives P o a w (Post ρ σ cur s.next w r.val r.s r.W) := by
  have h' : opSlices C T s t x lo hi = some r := by
    unfold opE at h; rw [hop] at h; exact h
  unfold opSlices at h'
  split at h'
  · rename_i hr
    cases h'
    exact sound_sliceArr hop hr I
  · split at h'
    · exact sound_sliceX hop h' I
    · exact sound_sliceX hop h' I
    · split at h'
      · rename_i s1 h1
        split at h'
        · rename_i s2 h2
          obtain ⟨a1, a2, _⟩ := concOp_parts h1
          obtain ⟨b1, b2, _⟩ := concOp_parts h2
          have key := sound_sliceS (s := s2) hop h' ⟨I.ok, I.pc, I.T, I.H, fun b hb => by rw [b2, a2]; exact I.A b hb, fun b c1 c2 => I.N b (by rw [b1, a1] at c1; exact c1) c2⟩
          rw [b1, a1] at key
          exact key
        · cases h'
      · cases h'

end
end Go.Proofs.Ytknphpihipkdpaa.Cx
