/- One operation that calls no Go function: maps. -/
import Derived.Test.YtknphpihipkdpaaCxH
import Derived.MapKept
set_option linter.unusedSimpArgs false
set_option linter.unusedVariables false
namespace Go.Proofs.Ytknphpihipkdpaa.Cx
open Go Go.RowKit

section
variable {P : Program} {C : Ctx} {ρ : Env} {σ : Mp} {cur : Cur} {s : St} {T : Tr CV} {a : Act} {w : World} {o : Oper} {r : OR}

/-- Keys of this kind are compared by asking. -/
def wideD : TypeDesc → Bool
  | .struct _ | .array _ _ => true
  | _ => false

theorem bits_eq : ∀ {ks : List (Option IntKind)} {x y : List Value}, ShapeV ks x → ShapeV ks y → eqVals x y = true → x.length = y.length ∧ ∀ n, ((y.zip x).all fun (p, q) => Instr.sameBits n p q) = true
  | [], [], [], _, _, _ => ⟨rfl, fun n => rfl⟩
  | none :: ks, .bool p :: x, .bool q :: y, hx, hy, h => by
    simp only [eqVals, Bool.and_eq_true] at h
    obtain ⟨h1, h2⟩ := bits_eq (ks := ks) (by simpa [ShapeV] using hx) (by simpa [ShapeV] using hy) h.2
    refine ⟨by simp [h1], fun n => ?_⟩
    simp only [List.zip_cons_cons, List.all_cons, h2 n, Bool.and_true]
    have : p = q := by simpa using h.1
    subst this
    cases n <;> simp [Instr.sameBits]
  | some k :: ks, .int k1 p :: x, .int k2 q :: y, hx, hy, h => by
    simp only [eqVals, Bool.and_eq_true] at h
    simp only [ShapeV] at hx hy
    obtain ⟨rfl, hx⟩ := hx
    obtain ⟨rfl, hy⟩ := hy
    obtain ⟨h1, h2⟩ := bits_eq (ks := ks) hx hy h.2
    refine ⟨by simp [h1], fun n => ?_⟩
    simp only [List.zip_cons_cons, List.all_cons, h2 n, Bool.and_true]
    have : p = q := by simpa using h.1
    subst this
    cases n <;> simp [Instr.sameBits]
  | [], _ :: _, _, hx, _, _ => by simp [ShapeV] at hx
  | [], [], _ :: _, _, hy, _ => by simp [ShapeV] at hy
  | none :: ks, [], _, hx, _, _ => by simp [ShapeV] at hx
  | some k :: ks, [], _, hx, _, _ => by simp [ShapeV] at hx
  | none :: ks, v :: x, [], _, hy, _ => by simp [ShapeV] at hy
  | some k :: ks, v :: x, [], _, hy, _ => by simp [ShapeV] at hy
  | none :: ks, .bool p :: x, .int _ _ :: y, _, hy, _ => by simp [ShapeV] at hy
  | some k :: ks, .int _ _ :: x, .bool _ :: y, _, hy, _ => by simp [ShapeV] at hy

/-- What is known of two keys that were compared. -/
structure KeyEq (P : Program) (w : World) (kt : TypeId) (d : TypeDesc) (x y : Value) (b : Bool) : Prop where
  now : wideD d = false → Instr.sameNow d x y = some b
  wide : wideD d = true → Instr.sameNow d x y = none ∧ (Op.equal kt x y).run P w = .ok b w
  bits : b = true → Instr.sameBits 10000 y x = true

theorem keyE_frm {kt : TypeId} {s s1 : St} {k k' : CV} {b : Bool} (h : keyE C kt s k k' = some (b, s1)) : s1.next = s.next ∧ s1.heap = s.heap ∧ ∃ l, s1.pc = l ++ s.pc := by
  have eqc : ∀ {l m : List CV} {s s1 : St} {v : Bool}, eqCells s l m = some (v, s1) → s1.next = s.next ∧ s1.heap = s.heap ∧ ∃ L, s1.pc = L ++ s.pc := by
    intro l
    induction l with
    | nil => intro m s s1 v h; simp only [eqCells] at h; cases h; exact ⟨rfl, rfl, [], rfl⟩
    | cons c l ih =>
      intro m s s1 v h
      have dec : ∀ {e : BE} {x : Bool} {s s1 : St}, s.decide e = some (x, s1) → s1.next = s.next ∧ s1.heap = s.heap ∧ ∃ L, s1.pc = L ++ s.pc := fun h => by
        obtain ⟨h1, h2, h3, _⟩ := decide_parts (ρ := ⟨fun _ => 0, fun _ => false⟩) h
        exact ⟨h1, h2, h3⟩
      have tr : ∀ {s s1 s2 : St}, (s1.next = s.next ∧ s1.heap = s.heap ∧ ∃ L, s1.pc = L ++ s.pc) → (s2.next = s1.next ∧ s2.heap = s1.heap ∧ ∃ L, s2.pc = L ++ s1.pc) → (s2.next = s.next ∧ s2.heap = s.heap ∧ ∃ L, s2.pc = L ++ s.pc) := by
        rintro s s1 s2 ⟨a1, a2, L1, a3⟩ ⟨b1, b2, L2, b3⟩
        exact ⟨b1.trans a1, b2.trans a2, L2 ++ L1, by rw [b3, a3, List.append_assoc]⟩
      cases m with
      | nil => cases c <;> simp only [eqCells] at h <;> (cases h; exact ⟨rfl, rfl, [], rfl⟩)
      | cons d m =>
        cases c <;> cases d <;> simp only [eqCells] at h <;> try (cases h; exact ⟨rfl, rfl, [], rfl⟩)
        · split at h
          · rename_i x sa hd
            split at h
            · rename_i y sb hd2
              cases hxy : (x == y) with
              | true => rw [hxy, cond_true] at h; exact tr (dec hd) (tr (dec hd2) (ih h))
              | false => rw [hxy, cond_false] at h; cases h; exact tr (dec hd) (dec hd2)
            · cases h
          · cases h
        · split at h
          · rename_i sa hd; exact tr (dec hd) (ih h)
          · rename_i sa hd; cases h; exact dec hd
          · cases h
  unfold keyE at h
  split at h
  · rename_i j x j' y
    cases hj : decide (j = j') with
    | false => rw [hj, cond_false] at h; cases h
    | true =>
      rw [hj, cond_true] at h
      obtain ⟨h1, h2, h3, _⟩ := decide_parts (ρ := ⟨fun _ => 0, fun _ => false⟩) h
      exact ⟨h1, h2, h3⟩
  · exact eqc h
  · cases h; exact ⟨rfl, rfl, [], rfl⟩
  · rename_i x y
    split at h
    · rename_i ks hks
      cases hs : (shapeC ks x && shapeC ks y) with
      | false => rw [hs, cond_false] at h; cases h
      | true => rw [hs, cond_true] at h; exact eqc h
    · cases h
  · cases h

theorem keyE_run (hC : CtxOk P C) {kt : TypeId} {q : TyR} {s1 : St} {k k' : CV} {b : Bool} {v v' : Value} (hq : C.ty kt = some q) (hok : keyOkE C kt k = true) (h : keyE C kt s k k' = some (b, s1)) (hv : VR ρ σ k v) (hv' : VR ρ σ k' v') (hp : ∀ p ∈ s1.pc, p.holds ρ) (w : World) :
    KeyEq P w kt q.desc v v' b := by
  unfold keyOkE at hok
  rw [hq] at hok
  simp only at hok
  unfold keyE at h
  split at h
  · rename_i j x j' y
    cases hj : decide (j = j') with
    | false => rw [hj, cond_false] at h; cases h
    | true =>
      rw [hj, cond_true] at h
      obtain rfl := of_decide_eq_true hj
      have hd := (decide_parts (ρ := ρ) h).2.2.2 hp
      rw [BE.den_mk] at hd
      obtain rfl := hv.int_inv
      obtain rfl := hv'.int_inv
      cases hdd : q.desc <;> rw [hdd] at hok <;> first | (simp at hok; done) | skip
      refine ⟨fun _ => ?_, fun h => by simp [wideD] at h, fun hb => ?_⟩
      · simp [Instr.sameNow, ← hd, Cm.run]
      · rw [hb] at hd
        have : x.den ρ = y.den ρ := by simpa [Cm.run] using hd
        simp [Instr.sameBits, this]
  · rename_i x y
    obtain ⟨_, _, _, he⟩ := eqCells_run (ρ := ρ) (σ := σ) (ks := [none]) rfl rfl h (.cons hv .nil) (.cons hv' .nil)
    have he := he hp
    obtain rfl := hv.bool_inv
    obtain rfl := hv'.bool_inv
    simp only [eqVals, Bool.and_true] at he
    cases hdd : q.desc <;> rw [hdd] at hok <;> first | (simp at hok; done) | skip
    refine ⟨fun _ => ?_, fun h => by simp [wideD] at h, fun hb => ?_⟩
    · simp [Instr.sameNow, he]
    · rw [hb] at he
      have : x.den ρ = y.den ρ := by simpa using he
      simp [Instr.sameBits, this]
  · rename_i x y
    cases h
    obtain rfl := hv.raw_inv
    obtain rfl := hv'.raw_inv
    cases hdd : q.desc <;> rw [hdd] at hok <;> first | (simp at hok; done) | skip
    refine ⟨fun _ => by simp [Instr.sameNow], fun h => by simp [wideD] at h, fun hb => ?_⟩
    have : x = y := (MapKept.bytes_beq x y).1 hb
    subst this
    simpa [Instr.sameBits] using hb
  · rename_i x y
    split at h
    · rename_i ks hks
      cases hs : (shapeC ks x && shapeC ks y) with
      | false => rw [hs, cond_false] at h; cases h
      | true =>
        rw [hs, cond_true] at h
        simp only [Bool.and_eq_true] at hs
        obtain ⟨cs, rfl, hx⟩ := hv.agg_inv
        obtain ⟨cs', rfl, hy⟩ := hv'.agg_inv
        obtain ⟨_, _, _, he⟩ := eqCells_run (ρ := ρ) (σ := σ) hs.1 hs.2 h hx hy
        have he := he hp
        have sx := shapeC_run hs.1 hx
        have sy := shapeC_run hs.2 hy
        have hE := (hC.eq _ _ hks cs cs' w sx sy).2
        rw [he] at hE
        have hw : wideD q.desc = true := by
          cases hdd : q.desc <;> rw [hdd] at hok <;> first | rfl | (simp at hok; done)
        refine { now := fun h => absurd h (by rw [hw]; simp), wide := fun _ => ⟨?_, hE⟩, bits := fun hb => ?_ }
        · cases hdd : q.desc <;> rw [hdd] at hw <;> first | rfl | cases hw
        · rw [hb] at he
          obtain ⟨b1, b2⟩ := bits_eq sx sy he
          show Instr.sameBits (9999 + 1) (.agg cs') (.agg cs) = true
          simp only [Instr.sameBits, b2 9999, Bool.and_true]
          simp only [Array.length_toList] at b1
          simp [b1]
    · cases h
  · cases h

theorem findE_frm {kt : TypeId} {key : CV} : ∀ {es : List (CV × CV)} {i : Nat} {s s1 : St} {res : Option (Nat × CV)}, findE C kt key es i s = some (res, s1) → s1.next = s.next ∧ s1.heap = s.heap ∧ ∃ l, s1.pc = l ++ s.pc
  | [], i, s, s1, res, h => by simp only [findE] at h; cases h; exact ⟨rfl, rfl, [], rfl⟩
  | (k, v) :: es, i, s, s1, res, h => by
    simp only [findE] at h
    split at h
    · rename_i s2 h2; cases h; exact keyE_frm h2
    · rename_i s2 h2
      obtain ⟨a1, a2, l1, a3⟩ := keyE_frm h2
      obtain ⟨b1, b2, l2, b3⟩ := findE_frm h
      exact ⟨b1.trans a1, b2.trans a2, l2 ++ l1, by rw [b3, a3, List.append_assoc]⟩
    · cases h

/-- What was found, in both memories. -/
def Found (ρ : Env) (σ : Mp) (kv : Value) (i : Nat) (ents : List MapEntry) : Option (Nat × CV) → Option (Nat × Value) → Prop
  | none, r => r = none
  | some (n, c), r => ∃ e, i ≤ n ∧ ents[n - i]? = some e ∧ r = some (n, e.val) ∧ VR ρ σ c e.val ∧ Instr.sameBits 10000 e.key kv = true

theorem Found.shift {kv : Value} {i : Nat} {e : MapEntry} {ents : List MapEntry} {res : Option (Nat × CV)} {r : Option (Nat × Value)} (h : Found ρ σ kv (i + 1) ents res r) : Found ρ σ kv i (e :: ents) res r := by
  cases res with
  | none => exact h
  | some x =>
    obtain ⟨n, c⟩ := x
    obtain ⟨e', h1, h2, h3⟩ := h
    refine ⟨e', by omega, ?_, h3⟩
    rw [show n - i = (n - (i + 1)) + 1 by omega, List.getElem?_cons_succ]
    exact h2

theorem findE_run (hC : CtxOk P C) {kt : TypeId} {q : TyR} {key : CV} {kv : Value} (hq : C.ty kt = some q) (hok : keyOkE C kt key = true) (hv : VR ρ σ key kv) (w : World) : ∀ {es : List (CV × CV)} {ents : List MapEntry} {i : Nat} {s s1 : St} {res : Option (Nat × CV)}, findE C kt key es i s = some (res, s1) → MRl ρ σ es ents → (∀ p ∈ s1.pc, p.holds ρ) →
    ∃ r, ((wideD q.desc = false → Instr.findNow q.desc kv ents i = some r) ∧ (wideD q.desc = true → (Instr.findAsking kt kv ents i).run P w = .ok r w ∧ (ents = [] ∨ Instr.findNow q.desc kv ents i = none))) ∧ Found ρ σ kv i ents res r
  | [], ents, i, s, s1, res, h, hm, _ => by
    simp only [findE] at h
    cases h
    cases hm
    exact ⟨none, ⟨fun _ => rfl, fun _ => ⟨by simp [Instr.findAsking], .inl rfl⟩⟩, rfl⟩
  | (k, c) :: es, ents, i, s, s1, res, h, hm, hp => by
    cases hm with | cons hk hc ht =>
    rename_i e m
    simp only [findE] at h
    split at h
    · rename_i s2 h2
      cases h
      have K := keyE_run hC hq hok h2 hv hk hp w
      refine ⟨some (i, e.val), ⟨fun hw => by simp [Instr.findNow, K.now hw], fun hw => ?_⟩, e, Nat.le_refl _, by simp, rfl, hc, K.bits rfl⟩
      obtain ⟨k1, k2⟩ := K.wide hw
      exact ⟨by simp [Instr.findAsking, k2, Result.andThen], .inr (by simp [Instr.findNow, k1])⟩
    · rename_i s2 h2
      obtain ⟨_, _, l, hl⟩ := findE_frm h
      have K := keyE_run hC hq hok h2 hv hk (fun p hp' => hp p (by rw [hl]; simp [hp'])) w
      obtain ⟨r, ⟨r1, r2⟩, r3⟩ := findE_run hC hq hok hv w h ht hp
      refine ⟨r, ⟨fun hw => by simp [Instr.findNow, K.now hw, r1 hw], fun hw => ?_⟩, r3.shift⟩
      obtain ⟨k1, k2⟩ := K.wide hw
      exact ⟨by simp [Instr.findAsking, k2, Result.andThen, (r2 hw).1], .inr (by simp [Instr.findNow, k1])⟩
    · cases h

theorem find_run (hC : CtxOk P C) {kt : TypeId} {q : TyR} {key : CV} {kv : Value} (hq : C.ty kt = some q) (hok : keyOkE C kt key = true) (hv : VR ρ σ key kv) (w : World) {es : List (CV × CV)} {ents : List MapEntry} {s s1 : St} {res : Option (Nat × CV)} (h : findE C kt key es 0 s = some (res, s1)) (hm : MRl ρ σ es ents) (hp : ∀ p ∈ s1.pc, p.holds ρ) :
    ∃ r, (Instr.findKey kt kv ents).run P w = .ok r w ∧ Found ρ σ kv 0 ents res r := by
  obtain ⟨r, ⟨r1, r2⟩, r3⟩ := findE_run hC hq hok hv w h hm hp
  refine ⟨r, ?_, r3⟩
  have hu := (hC.ty _ _ hq).under w
  simp only [Instr.findKey, Sem.run_bind, hu, Result.andThen]
  cases hw : wideD q.desc with
  | false => rw [r1 hw]; rfl
  | true =>
    obtain ⟨a1, a2⟩ := r2 hw
    rcases a2 with rfl | a2
    · have : r = none := by
        simp only [Instr.findAsking, Sem.run_pure] at a1
        injection a1 with a1 _
        exact a1.symm
      rw [this]; rfl
    · rw [a2]; exact a1

theorem checkKey_run (hC : CtxOk P C) {kt : TypeId} {q : TyR} {key : CV} {kv : Value} (hq : C.ty kt = some q) (hok : keyOkE C kt key = true) (hv : VR ρ σ key kv) (em : Bool) (w : World) : (Instr.checkKey em 10000 kt kv).run P w = .ok () w := by
  have hu := (hC.ty _ _ hq).1
  unfold keyOkE at hok
  rw [hq] at hok
  simp only at hok
  split at hok
  · rename_i hd
    obtain rfl := hv.int_inv
    have hkk := of_decide_eq_true hok
    exact MapKept.run_checkKey hu (by rw [hd]; simp [MapKept.IsKey, hkk]) em 9999
  · rename_i hd
    obtain rfl := hv.bool_inv
    exact MapKept.run_checkKey hu (by rw [hd]; simp [MapKept.IsKey]) em 9999
  · rename_i hd
    obtain rfl := hv.raw_inv
    exact MapKept.run_checkKey hu (by rw [hd]; simp [MapKept.IsKey]) em 9999
  · rename_i hd
    split at hok
    · rename_i ks hks
      obtain ⟨cs, rfl, hx⟩ := hv.agg_inv
      exact hC.key _ _ hks cs em w (shapeC_run hok hx)
    · cases hok
  · rename_i hd
    split at hok
    · rename_i ks hks
      obtain ⟨cs, rfl, hx⟩ := hv.agg_inv
      exact hC.key _ _ hks cs em w (shapeC_run hok hx)
    · cases hok
  · cases hok

theorem keyOk_ty {kt : TypeId} {key : CV} (h : keyOkE C kt key = true) : ∃ q, C.ty kt = some q := by
  unfold keyOkE at h
  split at h
  · exact ⟨_, ‹_›⟩
  · cases h

theorem MRl.set {l : List (CV × CV)} {m : List MapEntry} (h : MRl ρ σ l m) {n : Nat} {k v : CV} {e : MapEntry} (hk : VR ρ σ k e.key) (hv : VR ρ σ v e.val) : MRl ρ σ (l.set n (k, v)) (m.set n e) := by
  induction h generalizing n with
  | nil => cases n <;> exact .nil
  | cons h1 h2 t ih =>
    cases n with
    | zero => exact .cons hk hv t
    | succ n => exact .cons h1 h2 ih

theorem MRl.append {l l' : List (CV × CV)} {m m' : List MapEntry} (h : MRl ρ σ l m) (h' : MRl ρ σ l' m') : MRl ρ σ (l ++ l') (m ++ m') := by
  induction h with
  | nil => exact h'
  | cons h1 h2 _ ih => exact .cons h1 h2 ih

theorem MRl.get {l : List (CV × CV)} {m : List MapEntry} (h : MRl ρ σ l m) {n : Nat} {k v : CV} (hn : l[n]? = some (k, v)) : ∃ e, m[n]? = some e ∧ VR ρ σ k e.key ∧ VR ρ σ v e.val := by
  induction h generalizing n with
  | nil => simp at hn
  | cons h1 h2 t ih =>
    cases n with
    | zero => simp at hn; obtain ⟨rfl, rfl⟩ := hn; exact ⟨_, by simp, h1, h2⟩
    | succ n => obtain ⟨e, q⟩ := ih (n := n) (by simpa using hn); exact ⟨e, by simpa using q⟩

theorem modify_list (a : Array MapEntry) (n : Nat) (f : MapEntry → MapEntry) (e : MapEntry) (h : a[n]? = some e) : (a.modify n f).toList = a.toList.set n (f e) := by
  apply List.ext_getElem?
  intro i
  rw [Array.getElem?_toList, Array.getElem?_modify, List.getElem?_set]
  by_cases hi : n = i
  · subst hi
    obtain ⟨hlt, he⟩ := Array.getElem?_eq_some_iff.1 h
    simp [h, hlt, he]
  · simp [hi]

theorem setMap_run {w : World} {g : Nat} {es : Array MapEntry} {clock : Nat} (o : Obj) (h : w.heap[g]? = some (.map es clock)) : (setObj g o).run P w = .ok () (w.putObj g o) := by
  simp [setObj, Sem.run, h, World.putObj]

theorem XR.map_inv {g : Nat} {l : List (CV × CV)} (h : XR ρ σ w g (.map l)) : ∃ ents : Array MapEntry, w.heap[g]? = some (.map ents ents.size) ∧ (∀ (i : Nat) (e : MapEntry), ents[i]? = some e → e.born = i) ∧ MRl ρ σ l ents.toList := by
  cases h with
  | map ents h hb hm => exact ⟨ents, h, hb, hm⟩

theorem stays_run {old new : Value} (h : Instr.sameBits 10000 old new = true) (w : World) : (Instr.keyThatStays old new).run P w = .ok new w := by
  simp [Instr.keyThatStays, h]

theorem sound_makeMap {t : TypeId} {x : Option Operand} (hop : o.op = .makeMap t x) (h : opE C T s o = some r) (I : Inp P C ρ σ cur s T a w o r) : Gives P o a w (Post ρ σ cur s.next w r.val r.s r.W) := by
  unfold opE at h
  rw [hop] at h
  simp only [opMakeMap] at h
  split at h
  · cases h
    have hσ := I.N s.next (Nat.le_refl _) (by simp [St.newX])
    obtain ⟨h1, h2, h3, h4⟩ := newX_run (x := .map []) (o := .map #[] 0) I.H hσ (.map #[] (alloc_new _ _) (fun i e h => by simp at h) .nil)
    exact ⟨.map (some w.heap.size), w.alloc (.map #[] 0), .inl (by simp [execOp, hop, Instr.makeMap, Result.andThen, run_newObj_alloc]), _, h2, VR.map (l := ⟨w.heap.size, 0, 0, 0⟩) (if_pos rfl), h1, h3, h4⟩
  · cases h

theorem sound_lookup {t : TypeId} {x i : Operand} {ok : Bool} (hop : o.op = .lookup t x i ok) (h : opE C T s o = some r) (I : Inp P C ρ σ cur s T a w o r) : Gives P o a w (Post ρ σ cur s.next w r.val r.s r.W) := by
  have mx : x ∈ o.op.operands.toList := by rw [hop]; simp [Op.operands]
  have mi : i ∈ o.op.operands.toList := by rw [hop]; simp [Op.operands]
  unfold opE at h
  rw [hop] at h
  simp only [opLookup] at h
  split at h
  · rename_i q y key hq h1 h2
    have hu := (I.ok.ty _ _ hq).under w
    split at h
    · rename_i kt e hd
      rw [hd] at hu
      cases hok : keyOkE C kt key with
      | false => rw [hok, cond_false] at h; cases h
      | true =>
        rw [hok, cond_true] at h
        obtain ⟨qk, hqk⟩ := keyOk_ty hok
        have hkv := I.T.ev mi h2
        split at h
        · rename_i z hz
          obtain ⟨zv, hzr, hzv⟩ := I.ok.zv _ _ hz
          split at h
          · rename_i b
            obtain ⟨l, hl, hxv⟩ := (I.T.ev mx h1).map_inv
            split at h
            · rename_i es hes
              obtain ⟨k, hk, hkx, hlt⟩ := getX_parts hes
              have fin : ∀ (res : Option (Nat × CV)) (s' : St), findE C kt key es 0 s = some (res, s') → (∀ p ∈ s'.pc, p.holds ρ) → cur b = s.heap.get b →
                  ∃ rr : Option (Nat × Value), (Instr.lookup t (.map (some l.blk)) (a.eval i) ok).run P w = .ok (match rr with | some (_, v) => if ok then .tuple #[v, .bool true] else v | none => if ok then .tuple #[zv, .bool false] else zv) w ∧ ∃ ents, Found ρ σ (a.eval i) 0 ents res rr := by
                intro res s' hf hp hb
                obtain ⟨ents, e1, e2, e3⟩ := (I.H.spec b k _ l (hb.trans hk) hkx hl).map_inv
                obtain ⟨rr, f1, f2⟩ := find_run I.ok hqk hok hkv w hf e3 hp
                refine ⟨rr, ?_, _, f2⟩
                have hg := MapKept.run_getObj_map (P := P) e1
                have hck := checkKey_run I.ok hqk hok hkv ents.isEmpty w
                simp only [Instr.lookup, Sem.run_bind, hu, Result.andThen, hg, Sem.run_pure, hck, f1]
                cases rr with
                | none => simp [hzr w, Result.andThen]
                | some p => simp [Result.andThen]
              split at h
              · rename_i n v s' hf
                cases h
                obtain ⟨hn, _, _⟩ := findE_frm hf
                obtain ⟨rr, hr, ents, e, _, _, rfl, hv, _⟩ := fin _ _ hf I.pc (I.A b (.inl (by simp)))
                cases ok with
                | true => exact gives_pure (R := [b]) hn I.H (v := .tuple #[e.val, .bool true]) (by simp [execOp, hop, hxv, hr]) (.tup (.cons hv (.cons (.bool (.c true)) .nil)))
                | false => exact gives_pure (R := [b]) hn I.H (v := e.val) (by simp [execOp, hop, hxv, hr]) hv
              · rename_i s' hf
                cases h
                obtain ⟨hn, _, _⟩ := findE_frm hf
                obtain ⟨rr, hr, ents, rfl⟩ := fin _ _ hf I.pc (I.A b (.inl (by simp)))
                cases ok with
                | true => exact gives_pure (R := [b]) hn I.H (v := .tuple #[zv, .bool false]) (by simp [execOp, hop, hxv, hr]) (.tup (.cons (hzv _ _) (.cons (.bool (.c false)) .nil)))
                | false => exact gives_pure (R := [b]) hn I.H (v := zv) (by simp [execOp, hop, hxv, hr]) (hzv _ _)
              · cases h
            · cases h
          · cases h
        · cases h
    · cases h
  · cases h

/-- A map's entries become others. -/
theorem map_put {b : Nat} {l : Loc} {es es' : List (CV × CV)} {ents ents' : Array MapEntry} {c : CV} {v : Value} {s' : St} (hH : HR ρ σ cur w) (hes : s.getX b = some (.map es)) (hb : cur b = s.heap.get b) (hl : σ b = some l) (hn : s'.next = s.next) (hh : s'.heap = s.heap)
    (he : w.heap[l.blk]? = some (.map ents ents.size)) (hs : ∀ (i : Nat) (e : MapEntry), ents'[i]? = some e → e.born = i) (hm : MRl ρ σ es' ents'.toList) (hv : VR ρ σ c v) :
    Post ρ σ cur s.next w c (s'.setX b (.map es')) [b] v (w.putObj l.blk (.map ents' ents'.size)) := by
  have hlt := (Array.getElem?_eq_some_iff.1 he).1
  obtain ⟨h1, h2⟩ := setX_run (s := s') (y := .map es') (o := .map ents' ents'.size) hH hes hb hl (.map ents' (World.putObj_heap_same hlt) hs hm) (fun r hr => by rw [he] at hr; cases hr)
  have hnx : (s'.setX b (.map es')).next = s.next := hn
  refine ⟨σ, Ext.refl _ _ _, hv, ?_, ?_, ?_⟩
  · rw [hnx, ← hn]; exact h1
  · rw [← hn]; exact h2
  · rw [hnx]; exact Fresh.none _ _ _ _ _ _

theorem found_entry {key : CV} {kv : Value} {n : Nat} {v : CV} {es : List (CV × CV)} {ents : Array MapEntry} {rr : Option (Nat × Value)} (hs : ∀ (i : Nat) (e : MapEntry), ents[i]? = some e → e.born = i) (hm : MRl ρ σ es ents.toList) (hkv : VR ρ σ key kv) (hf : Found ρ σ kv 0 ents.toList (some (n, v)) rr) :
    ∃ e : MapEntry, ents[n]? = some e ∧ rr = some (n, e.val) ∧ VR ρ σ v e.val ∧ Instr.sameBits 10000 e.key kv = true ∧ e.born = n ∧ ∀ (f : MapEntry → MapEntry) (c : CV), f e = { key := kv, val := (f e).val, born := n } → VR ρ σ c (f e).val →
      (∀ (i : Nat) (e' : MapEntry), (ents.modify n f)[i]? = some e' → e'.born = i) ∧ MRl ρ σ (es.set n (key, c)) (ents.modify n f).toList ∧ (ents.modify n f).size = ents.size := by
  obtain ⟨e, _, h1, h2, h3, h4⟩ := hf
  rw [Nat.sub_zero, Array.getElem?_toList] at h1
  refine ⟨e, h1, h2, h3, h4, hs n e h1, fun f c hfe hc => ⟨fun i e' hi => ?_, ?_, by simp⟩⟩
  · rw [Array.getElem?_modify] at hi
    by_cases hni : n = i
    · subst hni
      rw [if_pos rfl, h1] at hi
      simp only [Option.map_some, Option.some.injEq] at hi
      rw [← hi, hfe]
    · rw [if_neg hni] at hi; exact hs i e' hi
  · rw [modify_list ents n f e h1]
    refine hm.set ?_ hc
    rw [hfe]; exact hkv

theorem push_entry {key c : CV} {kv cv : Value} {es : List (CV × CV)} {ents : Array MapEntry} (hs : ∀ (i : Nat) (e : MapEntry), ents[i]? = some e → e.born = i) (hm : MRl ρ σ es ents.toList) (hkv : VR ρ σ key kv) (hc : VR ρ σ c cv) :
    (∀ (i : Nat) (e : MapEntry), (ents.push { key := kv, val := cv, born := ents.size })[i]? = some e → e.born = i) ∧ MRl ρ σ (es ++ [(key, c)]) (ents.push { key := kv, val := cv, born := ents.size }).toList := by
  refine ⟨fun i e h => ?_, ?_⟩
  · rw [Array.getElem?_push] at h
    split at h
    · rename_i hi
      cases h
      exact hi.symm
    · exact hs i e h
  · rw [Array.toList_push]
    exact hm.append (.cons hkv hc .nil)

theorem sound_mapUpdate {t : TypeId} {x i y : Operand} (hop : o.op = .mapUpdate t x i y ∨ o.op = .insert t x i y) (h : opE C T s o = some r) (I : Inp P C ρ σ cur s T a w o r) : Gives P o a w (Post ρ σ cur s.next w r.val r.s r.W) := by
  have mx : x ∈ o.op.operands.toList := by rcases hop with e | e <;> rw [e] <;> simp [Op.operands]
  have mi : i ∈ o.op.operands.toList := by rcases hop with e | e <;> rw [e] <;> simp [Op.operands]
  have my : y ∈ o.op.operands.toList := by rcases hop with e | e <;> rw [e] <;> simp [Op.operands]
  have h' : opMapUpdate C T s t x i y = some r := by rcases hop with e | e <;> (unfold opE at h; rw [e] at h; exact h)
  have hex : ∀ w', (Instr.mapUpdate t (a.eval x) (a.eval i) (a.eval y)).run P w = .ok () w' → (execOp a.eval o).run P w = .ok .skip w' := fun w' hr => by
    rcases hop with e | e <;> simp [execOp, e, hr]
  clear h
  simp only [opMapUpdate] at h'
  split at h'
  · rename_i q b key c hq h1 h2 h3
    have hu := (I.ok.ty _ _ hq).under w
    split at h'
    · rename_i kt e hd
      rw [hd] at hu
      cases hok : keyOkE C kt key with
      | false => rw [hok, cond_false] at h'; cases h'
      | true =>
        rw [hok, cond_true] at h'
        obtain ⟨qk, hqk⟩ := keyOk_ty hok
        have hkv := I.T.ev mi h2
        have hcv := I.T.ev my h3
        obtain ⟨l, hl, hxv⟩ := (I.T.ev mx h1).map_inv
        split at h'
        · rename_i es hes
          obtain ⟨k, hk, hkx, hlt⟩ := getX_parts hes
          split at h'
          · rename_i n v s' hf
            cases h'
            obtain ⟨hn, hh, _⟩ := findE_frm hf
            have hb := I.A b (.inl (by simp))
            obtain ⟨ents, e1, e2, e3⟩ := (I.H.spec b k _ l (hb.trans hk) hkx hl).map_inv
            obtain ⟨rr, f1, f2⟩ := find_run I.ok hqk hok hkv w hf e3 I.pc
            obtain ⟨e0, g1, rfl, g3, g4, g5, g6⟩ := found_entry e2 e3 hkv f2
            obtain ⟨m1, m2, m3⟩ := g6 (fun e => { e with key := a.eval i, val := a.eval y }) c (by simp [g5]) hcv
            refine ⟨Go.undef, _, .inr ⟨hex _ ?_, rfl⟩, map_put (ents' := ents.modify n fun e => { e with key := a.eval i, val := a.eval y }) I.H hes hb hl hn hh e1 m1 m2 (VR.undef _ _)⟩
            have hg := MapKept.run_getObj_map (P := P) e1
            have hck := checkKey_run I.ok hqk hok hkv false w
            have hst := stays_run (P := P) g4 w
            rw [hxv]
            simp only [Instr.mapUpdate, Sem.run_bind, hu, Result.andThen, hg, hck, f1, g1, Option.map_some, Option.getD_some, hst, setMap_run _ e1, m3]
          · rename_i s' hf
            cases h'
            obtain ⟨hn, hh, _⟩ := findE_frm hf
            have hb := I.A b (.inl (by simp))
            obtain ⟨ents, e1, e2, e3⟩ := (I.H.spec b k _ l (hb.trans hk) hkx hl).map_inv
            obtain ⟨rr, f1, rfl⟩ := find_run I.ok hqk hok hkv w hf e3 I.pc
            obtain ⟨m1, m2⟩ := push_entry e2 e3 hkv hcv
            refine ⟨Go.undef, _, .inr ⟨hex _ ?_, rfl⟩, map_put (ents' := ents.push { key := a.eval i, val := a.eval y, born := ents.size }) I.H hes hb hl hn hh e1 m1 m2 (VR.undef _ _)⟩
            have hg := MapKept.run_getObj_map (P := P) e1
            have hck := checkKey_run I.ok hqk hok hkv false w
            rw [hxv]
            simp only [Instr.mapUpdate, Sem.run_bind, hu, Result.andThen, hg, hck, f1, setMap_run _ e1, Array.size_push]
          · cases h'
        · cases h'
    · cases h'
  · cases h'

theorem sound_mapEntry {t : TypeId} {x i : Operand} (hop : o.op = .mapEntry t x i) (h : opE C T s o = some r) (I : Inp P C ρ σ cur s T a w o r) : Gives P o a w (Post ρ σ cur s.next w r.val r.s r.W) := by
  have mx : x ∈ o.op.operands.toList := by rw [hop]; simp [Op.operands]
  have mi : i ∈ o.op.operands.toList := by rw [hop]; simp [Op.operands]
  unfold opE at h
  rw [hop] at h
  simp only [opMapEntry] at h
  split at h
  · rename_i q b key hq h1 h2
    have hu := (I.ok.ty _ _ hq).under w
    split at h
    · rename_i kt e hd
      rw [hd] at hu
      cases hok : keyOkE C kt key with
      | false => rw [hok, cond_false] at h; cases h
      | true =>
        rw [hok, cond_true] at h
        obtain ⟨qk, hqk⟩ := keyOk_ty hok
        have hkv := I.T.ev mi h2
        obtain ⟨l, hl, hxv⟩ := (I.T.ev mx h1).map_inv
        split at h
        · rename_i z es hz hes
          obtain ⟨zv, hzr, hzv⟩ := I.ok.zv _ _ hz
          obtain ⟨k, hk, hkx, hlt⟩ := getX_parts hes
          split at h
          · rename_i n v s' hf
            cases h
            obtain ⟨hn, hh, _⟩ := findE_frm hf
            have hb := I.A b (.inl (by simp))
            obtain ⟨ents, e1, e2, e3⟩ := (I.H.spec b k _ l (hb.trans hk) hkx hl).map_inv
            obtain ⟨rr, f1, f2⟩ := find_run I.ok hqk hok hkv w hf e3 I.pc
            obtain ⟨e0, g1, rfl, g3, g4, g5, g6⟩ := found_entry e2 e3 hkv f2
            obtain ⟨m1, m2, m3⟩ := g6 (fun e => { e with key := a.eval i }) v (by simp [g5]) g3
            refine ⟨.tuple #[e0.val, .int .i64 (n : Int)], _, .inl ?_, map_put (ents' := ents.modify n fun e => { e with key := a.eval i }) I.H hes hb hl hn hh e1 m1 m2 (.tup (.cons g3 (.cons (.int .i64 (.c n)) .nil)))⟩
            have hg := MapKept.run_getObj_map (P := P) e1
            have hck := checkKey_run I.ok hqk hok hkv false w
            have hst := stays_run (P := P) g4 w
            simp only [execOp, hop, hxv, Instr.mapEntry, Sem.run_bind, hu, Result.andThen, hg, hck, f1, g1, Option.map_some, Option.getD_some, hst, setMap_run _ e1, m3, Sem.run_pure, goInt, g5]
          · rename_i s' hf
            cases h
            obtain ⟨hn, hh, _⟩ := findE_frm hf
            have hb := I.A b (.inl (by simp))
            obtain ⟨ents, e1, e2, e3⟩ := (I.H.spec b k _ l (hb.trans hk) hkx hl).map_inv
            obtain ⟨rr, f1, rfl⟩ := find_run I.ok hqk hok hkv w hf e3 I.pc
            obtain ⟨m1, m2⟩ := push_entry e2 e3 hkv (hzv ρ σ)
            have hlen : es.length = ents.size := by have := e3.length; simp at this; omega
            refine ⟨.tuple #[zv, .int .i64 (es.length : Int)], _, .inl ?_, map_put (ents' := ents.push { key := a.eval i, val := zv, born := ents.size }) I.H hes hb hl hn hh e1 m1 m2 (.tup (.cons (hzv _ _) (.cons (.int .i64 (.c es.length)) .nil)))⟩
            have hg := MapKept.run_getObj_map (P := P) e1
            have hck := checkKey_run I.ok hqk hok hkv false w
            simp only [execOp, hop, hxv, Instr.mapEntry, Sem.run_bind, hu, Result.andThen, hg, hck, f1, hzr w, setMap_run _ e1, Array.size_push, Sem.run_pure, goInt, hlen]
          · cases h
        · cases h
    · cases h
  · cases h

theorem sound_entryStore {t : TypeId} {x i y : Operand} (hop : o.op = .entryStore t x i y) (h : opE C T s o = some r) (I : Inp P C ρ σ cur s T a w o r) : Gives P o a w (Post ρ σ cur s.next w r.val r.s r.W) := by
  have mx : x ∈ o.op.operands.toList := by rw [hop]; simp [Op.operands]
  have mi : i ∈ o.op.operands.toList := by rw [hop]; simp [Op.operands]
  have my : y ∈ o.op.operands.toList := by rw [hop]; simp [Op.operands]
  unfold opE at h
  rw [hop] at h
  simp only [opEntryStore] at h
  split at h
  · rename_i b kk n c h1 h2 h3
    have hcv := I.T.ev my h3
    have hiv := (I.T.ev mi h2).int_inv
    simp only [IE.den] at hiv
    obtain ⟨l, hl, hxv⟩ := (I.T.ev mx h1).map_inv
    split at h
    · rename_i es hes
      obtain ⟨k, hk, hkx, hlt⟩ := getX_parts hes
      cases hn0 : decide (0 ≤ n) with
      | false => rw [hn0, cond_false] at h; cases h
      | true =>
        rw [hn0, cond_true] at h
        have hn0 := of_decide_eq_true hn0
        split at h
        · rename_i kc vc hget
          cases h
          have hb := I.A b (.inl (by simp))
          obtain ⟨ents, e1, e2, e3⟩ := (I.H.spec b k _ l (hb.trans hk) hkx hl).map_inv
          obtain ⟨e0, g1, g2, g3⟩ := e3.get hget
          rw [Array.getElem?_toList] at g1
          have hlt2 := (Array.getElem?_eq_some_iff.1 g1).1
          have hidx : ents.findIdx? (fun e => (e.born : Int) == n) = some n.toNat := by
            rw [Array.findIdx?_eq_some_iff_getElem]
            refine ⟨hlt2, ?_, fun j hj => ?_⟩
            · have := e2 n.toNat _ (Array.getElem?_eq_getElem hlt2)
              rw [this]; simp; omega
            · have := e2 j _ (Array.getElem?_eq_getElem (by omega))
              rw [this]; simp; omega
          have m1 : ∀ (i : Nat) (e : MapEntry), (ents.modify n.toNat fun e => { e with val := a.eval y })[i]? = some e → e.born = i := by
            intro j e' hj
            rw [Array.getElem?_modify] at hj
            by_cases hni : n.toNat = j
            · subst hni
              rw [if_pos rfl, g1] at hj
              simp only [Option.map_some, Option.some.injEq] at hj
              rw [← hj]; exact e2 n.toNat e0 g1
            · rw [if_neg hni] at hj; exact e2 j e' hj
          have m2 : MRl ρ σ (es.set n.toNat (kc, c)) (ents.modify n.toNat fun e => { e with val := a.eval y }).toList := by
            rw [modify_list ents _ _ e0 g1]
            exact e3.set g2 hcv
          refine ⟨Go.undef, _, .inr ⟨?_, rfl⟩, map_put (ents' := ents.modify n.toNat fun e => { e with val := a.eval y }) I.H hes hb hl rfl rfl e1 m1 m2 (VR.undef _ _)⟩
          have hg := MapKept.run_getObj_map (P := P) e1
          simp only [execOp, hop, hxv, hiv, Instr.entryStore, Sem.run_bind, Result.andThen, hg, asInt, asIntOf, Sem.run_pure, pure_bind, hidx, setMap_run _ e1, Array.size_modify]
        · cases h
    · cases h
  · cases h

end
end Go.Proofs.Ytknphpihipkdpaa.Cx
