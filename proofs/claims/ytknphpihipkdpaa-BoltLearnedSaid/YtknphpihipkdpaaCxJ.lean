/- What an operation does to canonical memory: nothing but to the blocks that it names. -/
import Derived.Test.YtknphpihipkdpaaCxI
set_option linter.unusedSimpArgs false
set_option linter.unusedVariables false
namespace Go.Proofs.Ytknphpihipkdpaa.Cx
open Go Go.RowKit

/-- Canonical memory behind a step: as before but at W and at the new numbers; the facts of the way are more. -/
structure Frm (s s' : St) (W : List Nat) : Prop where
  next : s.next ≤ s'.next
  get : ∀ b, b ∉ W → ¬ (s.next ≤ b ∧ b < s'.next) → s'.heap.get b = s.heap.get b
  pc : ∃ l, s'.pc = l ++ s.pc

theorem Frm.refl (s : St) (W : List Nat) : Frm s s W := ⟨Nat.le_refl _, fun _ _ _ => rfl, [], rfl⟩

theorem Frm.same {s s' : St} (W : List Nat) (h1 : s'.next = s.next) (h2 : s'.heap = s.heap) (h3 : ∃ l, s'.pc = l ++ s.pc) : Frm s s' W := ⟨by omega, fun _ _ _ => by rw [h2], h3⟩

theorem Frm.new (s : St) (l : List CV) (e : Nat) (W : List Nat) : Frm s (s.new l e) W :=
  ⟨by simp [St.new], fun b _ hb => by rw [new_get, if_neg (fun h => hb (by simp [St.new]; omega))], [], rfl⟩

theorem Frm.trans {s s1 s2 : St} {W1 W2 W : List Nat} (h1 : Frm s s1 W1) (h2 : Frm s1 s2 W2) (hW1 : ∀ b ∈ W1, b ∈ W ∨ (s.next ≤ b ∧ b < s2.next)) (hW2 : ∀ b ∈ W2, b ∈ W ∨ (s.next ≤ b ∧ b < s2.next)) : Frm s s2 W := by
  obtain ⟨l1, p1⟩ := h1.pc
  obtain ⟨l2, p2⟩ := h2.pc
  have n1 := h1.next
  have n2 := h2.next
  refine ⟨Nat.le_trans n1 n2, fun b hb hn => ?_, l2 ++ l1, by rw [p2, p1, List.append_assoc]⟩
  rw [h2.get b (fun h => by rcases hW2 b h with h | h; · exact hb h
                            · exact hn h) (by omega), h1.get b (fun h => by rcases hW1 b h with h | h; · exact hb h
                                                                            · exact hn h) (by omega)]

theorem Frm.decide {s s1 : St} {e : BE} {b : Bool} (h : s.decide e = some (b, s1)) (W : List Nat) : Frm s s1 W := by
  obtain ⟨h1, h2, h3, _⟩ := decide_parts (ρ := ⟨fun _ => 0, fun _ => false⟩) h
  exact .same W h1 h2 h3

theorem Frm.conc {s s1 : St} {e : IE} {n : Int} (h : s.conc e = some (n, s1)) (W : List Nat) : Frm s s1 W := by
  obtain ⟨h1, h2, h3, _⟩ := conc_parts (ρ := ⟨fun _ => 0, fun _ => false⟩) h
  exact .same W h1 h2 h3

theorem Frm.st {s s' : St} {b o : Nat} {l : List CV} (h : s.st b o l = some s') : Frm s s' [b] := by
  obtain ⟨k, hk, _, _, _, _, _, rfl⟩ := st_parts h
  exact ⟨Nat.le_refl _, fun x hx _ => by show (s.heap.set b _).get x = _; rw [Tr.get_set, if_neg (by simpa using hx)], [], rfl⟩

theorem Frm.kill {s : St} {b : Nat} {k : Blk} (h : s.heap.get b = some k) (l : List CV) (e : Nat) : Frm s ((s.kill b).new l e) [b] :=
  ⟨by simp [St.new, kill_next], fun x hx hn => by rw [new_get, kill_next, if_neg (fun h => hn (by simp [St.new, kill_next]; omega)), kill_get h, if_neg (by simpa using hx)], [], by simp [St.new, kill_pc]⟩

theorem Frm.eqCells : ∀ {l m : List CV} {s s1 : St} {v : Bool} (W : List Nat), eqCells s l m = some (v, s1) → Frm s s1 W := by
  have two : ∀ {a b c : St} {W : List Nat}, Frm a b [] → Frm b c W → Frm a c W := fun h1 h2 => h1.trans h2 (fun b hb => by cases hb) (fun b hb => .inl hb)
  intro l
  induction l with
  | nil => intro m s s1 v W h; simp only [Cx.eqCells] at h; cases h; exact .refl _ _
  | cons c l ih =>
    intro m s s1 v W h
    cases m with
    | nil => cases c <;> simp only [Cx.eqCells] at h <;> (cases h; exact .refl _ _)
    | cons d m =>
      cases c <;> cases d <;> simp only [Cx.eqCells] at h <;> try (cases h; exact .refl _ _)
      · split at h
        · rename_i x sa hd
          split at h
          · rename_i y sb hd2
            cases hxy : (x == y) with
            | true => rw [hxy, cond_true] at h; exact two (.decide hd _) (two (.decide hd2 _) (ih W h))
            | false => rw [hxy, cond_false] at h; cases h; exact two (.decide hd _) (.decide hd2 _)
          · cases h
        · cases h
      · split at h
        · rename_i sa hd; exact two (.decide hd _) (ih W h)
        · rename_i sa hd; cases h; exact .decide hd _
        · cases h

theorem appE_frame {q : TyR} {s : St} {x : CV} {l : List CV} {n : Nat} {R : List Nat} {r : OR} (h : appE q s x l n R = some r) : Frm s r.s r.W := by
  unfold appE at h
  simp only [Bool.cond_eq_ite] at h
  split at h
  · split at h
    · cases h; exact .refl _ _
    · cases h; exact .new _ _ _ _
  · split at h
    · cases h; exact .refl _ _
    · cases h
  · split at h
    · split at h
      · cases h; exact .refl _ _
      · cases h
    · split at h
      · rename_i hk
        split at h
        · cases h; exact .kill hk _ _
        · cases h
      · cases h
  · cases h

theorem Frm.find {C : Ctx} {kt : TypeId} {key : CV} {es : List (CV × CV)} {i : Nat} {s s1 : St} {res : Option (Nat × CV)} (h : findE C kt key es i s = some (res, s1)) (W : List Nat) : Frm s s1 W := by
  obtain ⟨h1, h2, h3⟩ := findE_frm h
  exact .same W h1 h2 h3
theorem Frm.setX (s : St) (b : Nat) (x : BX) : Frm s (s.setX b x) [b] :=
  ⟨Nat.le_refl _, fun c hc _ => by rw [setX_get, if_neg (by simpa using hc)], [], rfl⟩
theorem Frm.findX {C : Ctx} {kt : TypeId} {key : CV} {es : List (CV × CV)} {i : Nat} {s s1 : St} {res : Option (Nat × CV)} (h : findE C kt key es i s = some (res, s1)) (b : Nat) (x : BX) : Frm s (s1.setX b x) [b] :=
  (Frm.find h []).trans (.setX s1 b x) (by simp) (fun c hc => .inl hc)
theorem sliceArr_parts {C : Ctx} {T : Tr CV} {s : St} {t : TypeId} {x : Operand} {r : OR} (h : opSliceArr C T s t x = some r) : r.s = s ∧ r.W = [] ∧ ∀ b ∈ r.R, b < s.next := by
  simp only [opSliceArr, Bool.cond_eq_ite] at h
  repeat' (first | (cases h; done) | split at h)
  rename_i hb
  simp only [Bool.and_eq_true] at hb
  cases h
  refine ⟨rfl, rfl, fun x hx => ?_⟩
  obtain rfl := List.mem_singleton.1 hx
  exact Nat.lt_of_succ_le (Nat.le_of_ble_eq_true hb.2)
theorem Frm.sliceArr {C : Ctx} {T : Tr CV} {s : St} {t : TypeId} {x : Operand} {r : OR} (h : opSliceArr C T s t x = some r) : Frm s r.s r.W := by
  obtain ⟨h1, h2, _⟩ := sliceArr_parts h
  rw [h1, h2]; exact .refl _ _
theorem Frm.newX (s : St) (x : BX) (W : List Nat) : Frm s (s.newX x) W :=
  ⟨by simp [St.newX], fun b _ hb => by rw [newX_get, if_neg (fun h => hb (by simp [St.newX]; omega))], [], rfl⟩

theorem Frm.must {s s1 : St} {e : BE} (h : s.must e = some s1) (W : List Nat) : Frm s s1 W := by
  obtain ⟨h1, h2, h3, _⟩ := mustE_parts (ρ := ⟨fun _ => 0, fun _ => false⟩) h
  exact .same W h1 h2 h3
theorem Frm.place {s s1 : St} {x e : IE} {N n : Nat} (h : s.place x e N = some (n, s1)) (W : List Nat) : Frm s s1 W := by
  obtain ⟨h1, h2, h3, _⟩ := place_parts (ρ := ⟨fun _ => 0, fun _ => false⟩) h
  exact .same W h1 h2 h3
theorem Frm.musts {s s1 : St} {l : List Bool} (h : s.musts l = some s1) (W : List Nat) : Frm s s1 W := by
  obtain ⟨h1, h2, h3, _⟩ := musts_parts (ρ := ⟨fun _ => 0, fun _ => false⟩) h
  exact .same W h1 h2 h3
theorem Frm.tell {s s1 : St} {e b : BE} (h : s.tell e = some (b, s1)) (W : List Nat) : Frm s s1 W := by
  obtain ⟨h1, h2, h3, _⟩ := tell_parts (ρ := ⟨fun _ => 0, fun _ => false⟩) h
  exact .same W h1 h2 h3
theorem Frm.ldx {s s1 : St} {b z j f n : Nat} {l : List CV} (h : s.ldx b z j f n = some (l, s1)) (W : List Nat) : Frm s s1 W := by
  obtain ⟨h1, h2, h3, _⟩ := ldx_parts (ρ := ⟨fun _ => 0, fun _ => false⟩) h
  exact .same W h1 h2 h3
theorem Frm.stx {s s1 : St} {b z j f : Nat} {l : List CV} (h : s.stx b z j f l = some s1) : Frm s s1 [b] := by
  obtain ⟨m, row, hr, e, x, hk, _, _, _, h1, h2, _, h3⟩ := stx_parts (ρ := ⟨fun _ => 0, fun _ => false⟩) h
  exact ⟨by omega, fun c hc _ => by rw [h3, Tr.get_set, if_neg (by simpa using hc)], h2⟩
theorem Frm.two {s s1 s2 : St} {W : List Nat} (h1 : Frm s s1 []) (h2 : Frm s1 s2 W) : Frm s s2 W := h1.trans h2 (by simp) (fun c hc => .inl hc)
theorem Frm.newB (s : St) (l : BC) (e : Nat) (W : List Nat) : Frm s (s.newB l e) W :=
  ⟨by simp [St.newB], fun b _ hb => by rw [newB_get, if_neg (fun h => hb (by simp [St.newB]; omega))], [], rfl⟩
theorem Frm.killB {s : St} {b : Nat} {k : Blk} (h : s.heap.get b = some k) (l : BC) (e : Nat) : Frm s ((s.kill b).newB l e) [b] :=
  ⟨by simp [St.newB, kill_next], fun x hx hn => by rw [newB_get, kill_next, if_neg (fun h => hn (by simp [St.newB, kill_next]; omega)), kill_get h, if_neg (by simpa using hx)], [], by simp [St.newB, kill_pc]⟩
theorem cmpE_frame {s : St} {b : BE} {r : OR} (h : cmpE s b = some r) : Frm s r.s r.W := by
  unfold cmpE at h
  split at h
  · rename_i ht; cases h; exact .tell ht _
  · cases h
theorem cmpE_lt {s : St} {b : BE} {r : OR} (h : cmpE s b = some r) : r.R = [] ∧ r.W = [] := by
  unfold cmpE at h
  split at h
  · cases h; exact ⟨rfl, rfl⟩
  · cases h
theorem zrows_frame {q : TyR} {s s1 : St} {e : BE} {n : Int} {r : OR} (hm : s.must e = some s1) (h : zrows q s1 n = some r) : Frm s r.s r.W := by
  unfold zrows at h
  simp only [Bool.cond_eq_ite] at h
  repeat' (first | (cases h; done) | split at h)
  rename_i h2
  cases h
  exact (Frm.must hm []).two ((Frm.musts h2 []).two (.newB _ _ _ _))
theorem zrows_lt {q : TyR} {s : St} {n : Int} {r : OR} (h : zrows q s n = some r) : r.R = [] ∧ r.W = [] := by
  unfold zrows at h
  simp only [Bool.cond_eq_ite] at h
  repeat' (first | (cases h; done) | (cases h; exact ⟨rfl, rfl⟩) | split at h)
theorem sliceX_frame {C : Ctx} {T : Tr CV} {s : St} {t : TypeId} {x : Operand} {lo hi : Option Operand} {r : OR} (h : opSliceX C T s t x lo hi = some r) : Frm s r.s r.W := by
  simp only [opSliceX] at h
  split at h
  all_goals (repeat' (first | (cases h; done) | (cases h; exact .musts ‹_› _) | split at h | (simp only [Bool.cond_eq_ite] at h; split at h)))
theorem srcX_frame {q : TyR} {s s1 : St} {d : TypeDesc} {y : CV} {rs : RS} (h : srcX q s d y = some (rs, s1)) : Frm s s1 [] := by
  unfold srcX at h
  simp only [Bool.cond_eq_ite] at h
  repeat' (first | (cases h; done) | (cases h; exact .refl _ _) | (cases h; exact .musts ‹_› _) | split at h)
theorem appX_frame {q : TyR} {s s1 : St} {d : TypeDesc} {x y : CV} {rs : RS} {r : OR} (hs : srcX q s d y = some (rs, s1)) (h : appX q s1 x rs = some r) : Frm s r.s r.W := by
  have h0 := srcX_frame hs
  unfold appX at h
  simp only [Bool.cond_eq_ite] at h
  repeat' (first | (cases h; done) | split at h)
  · rename_i hk _ _ _ hm
    cases h
    exact h0.two ((Frm.musts hm []).two (.killB (by rw [(musts_parts (ρ := ⟨fun _ => 0, fun _ => false⟩) hm).2.1]; exact hk) _ _))
  · rename_i hm
    cases h
    exact h0.two ((Frm.musts hm []).two (.newB _ _ _ _))
  · rename_i hk _ _ _ hm
    cases h
    exact h0.two ((Frm.musts hm []).two (.killB (by rw [(musts_parts (ρ := ⟨fun _ => 0, fun _ => false⟩) hm).2.1]; exact hk) _ _))

theorem Frm.sliceS {C : Ctx} {T : Tr CV} {s s1 s2 : St} {t : TypeId} {x : Operand} {lo hi : Option Operand} {r : OR} (h : opSlice C T s2 t x lo hi = some r) (h2 : concOp T s1 hi = some s2) (h1 : concOp T s lo = some s1) : Frm s r.s r.W := by
  obtain ⟨e1, e2, _⟩ := opSlice_parts h
  rw [e1, e2]
  obtain ⟨a1, a2, a3⟩ := concOp_parts h1
  obtain ⟨b1, b2, b3⟩ := concOp_parts h2
  exact (Frm.same [] a1 a2 a3).two (.same [] b1 b2 b3)
set_option maxHeartbeats 4000000 in
theorem opE_frame {C : Ctx} {T : Tr CV} {s : St} {o : Oper} {r : OR} (h : opE C T s o = some r) : Frm s r.s r.W := by
  unfold opE at h
  split at h
  all_goals (try simp only [opMove, opPick, opAlloc, opBox, opBuild, opBuildSlice, opLoad, opStore, opNil, opBin, opBinInt, opBinBool, opBinAgg, opBinNil, opUn, opConv, opFunc, opMakeSlice, opSlices, opMakeMap, opLookup, opMapUpdate, opMapEntry, opEntryStore, opFieldAddr, opField, opIndexAddr, opIndex, opExtract, opBuiltin, Bool.cond_eq_ite] at h)
  all_goals (repeat' (first | (cases h; done) | exact .sliceS h (by assumption) (by assumption) | (cases h; exact .refl _ _) | (cases h; exact .new _ _ _ _) | (cases h; exact .decide ‹_› _) | (cases h; exact .conc ‹_› _) | (cases h; exact .place ‹_› _) | (cases h; exact .st ‹_›) | (cases h; exact .newX _ _ _) | (cases h; exact .find ‹_› _) | (cases h; exact .findX ‹_› _ _) | (cases h; exact .setX _ _ _) | (cases h; exact .sliceArr ‹_›) | exact appE_frame h | (cases h; exact .eqCells _ ‹_›) | (cases h; exact .must ‹_› _) | (cases h; exact .musts ‹_› _) | (cases h; exact .ldx ‹_› _) | (cases h; exact .stx ‹_›) | exact cmpE_frame h | exact zrows_frame ‹_› h | exact sliceX_frame h | exact appX_frame ‹_› h | split at h))
  all_goals (rename_i h1 _ _ _ h2; cases h; exact .trans (.decide h1 []) (.decide h2 []) (by simp) (by simp))

/-- The blocks that are named were there. -/
def Lts (s : St) (R W : List Nat) : Prop := (∀ b ∈ R, b < s.next) ∧ ∀ b ∈ W, b < s.next

theorem Lts.nil (s : St) : Lts s [] [] := ⟨fun b hb => (by cases hb), fun b hb => (by cases hb)⟩
theorem Lts.ld {s : St} {b o n : Nat} {l : List CV} (h : s.ld b o n = some l) : Lts s [b] [] := by
  obtain ⟨_, _, _, _, _, h⟩ := ld_parts h
  exact ⟨fun x hx => by obtain rfl : x = b := by simpa using hx
                        exact h, fun b hb => (by cases hb)⟩
theorem Lts.st {s s' : St} {b o : Nat} {l : List CV} (h : s.st b o l = some s') : Lts s [] [b] := by
  obtain ⟨_, _, _, _, _, h, _, _⟩ := st_parts h
  exact ⟨fun b hb => (by cases hb), fun x hx => by obtain rfl : x = b := by simpa using hx
                                                   exact h⟩
theorem Lts.blt {s : St} {b : Nat} (h : Nat.blt b s.next = true) : Lts s [b] [] := by
  have h := Nat.lt_of_succ_le (Nat.le_of_ble_eq_true h)
  exact ⟨fun x hx => by obtain rfl : x = b := by simpa using hx
                        exact h, fun b hb => (by cases hb)⟩

theorem Lts.ldx {s s1 : St} {b z j f n : Nat} {l : List CV} (h : s.ldx b z j f n = some (l, s1)) : Lts s [b] [] := by
  obtain ⟨_, _, _, h, _⟩ := ldx_parts (ρ := ⟨fun _ => 0, fun _ => false⟩) h
  exact ⟨fun x hx => by obtain rfl : x = b := by simpa using hx
                        exact h, fun b hb => (by cases hb)⟩
theorem Lts.stx {s s1 : St} {b z j f : Nat} {l : List CV} (h : s.stx b z j f l = some s1) : Lts s [] [b] := by
  obtain ⟨m, row, hr, e, x, hk, _, _, h, _⟩ := stx_parts (ρ := ⟨fun _ => 0, fun _ => false⟩) h
  exact ⟨fun b hb => (by cases hb), fun x hx => by obtain rfl : x = b := by simpa using hx
                                                   exact h⟩
theorem Lts.none {s : St} {r : OR} (h : r.R = [] ∧ r.W = []) : Lts s r.R r.W := by rw [h.1, h.2]; exact ⟨fun b hb => (by cases hb), fun b hb => (by cases hb)⟩
theorem sliceX_lt {C : Ctx} {T : Tr CV} {s : St} {t : TypeId} {x : Operand} {lo hi : Option Operand} {r : OR} (h : opSliceX C T s t x lo hi = some r) : r.R = [] ∧ r.W = [] := by
  simp only [opSliceX] at h
  split at h
  all_goals (repeat' (first | (cases h; done) | (cases h; exact ⟨rfl, rfl⟩) | split at h | (simp only [Bool.cond_eq_ite] at h; split at h)))
theorem srcX_lt {q : TyR} {s s1 : St} {d : TypeDesc} {y : CV} {rs : RS} (h : srcX q s d y = some (rs, s1)) : ∀ b ∈ rs.R, b < s.next := by
  unfold srcX at h
  simp only [Bool.cond_eq_ite] at h
  repeat' (first | (cases h; done) | split at h)
  · rename_i hb _ _ _
    simp only [Bool.and_eq_true] at hb
    cases h
    intro x hx
    obtain rfl := List.mem_singleton.1 hx
    exact Nat.lt_of_succ_le (Nat.le_of_ble_eq_true hb.2)
  · rename_i hb _ _ _
    simp only [Bool.and_eq_true] at hb
    cases h
    intro x hx
    obtain rfl := List.mem_singleton.1 hx
    exact Nat.lt_of_succ_le (Nat.le_of_ble_eq_true hb.2)
  · rename_i hb _ _ _
    simp only [Bool.and_eq_true] at hb
    cases h
    intro x hx
    obtain rfl := List.mem_singleton.1 hx
    exact Nat.lt_of_succ_le (Nat.le_of_ble_eq_true hb.2)
  · rename_i hb _ _ _
    simp only [Bool.and_eq_true] at hb
    cases h
    intro x hx
    obtain rfl := List.mem_singleton.1 hx
    exact Nat.lt_of_succ_le (Nat.le_of_ble_eq_true hb.2)
  · rename_i hl _ _
    cases h
    exact (Lts.ld hl).1
theorem appX_lt {q : TyR} {s s1 : St} {d : TypeDesc} {x y : CV} {rs : RS} {r : OR} (hs : srcX q s d y = some (rs, s1)) (h : appX q s1 x rs = some r) : Lts s r.R r.W := by
  have h0 := srcX_lt hs
  have hn : s1.next = s.next := by
    unfold srcX at hs
    simp only [Bool.cond_eq_ite] at hs
    repeat' (first | (cases hs; done) | (cases hs; rfl) | (cases hs; exact (musts_parts (ρ := ⟨fun _ => 0, fun _ => false⟩) ‹_›).1) | split at hs)
  have two : ∀ {b : Nat}, Nat.blt b s1.next = true → Lts s (b :: rs.R) [b] := fun {b} hb => by
    have hb : b < s.next := by rw [← hn]; exact Nat.lt_of_succ_le (Nat.le_of_ble_eq_true hb)
    exact ⟨fun x hx => by rcases List.mem_cons.1 hx with rfl | hx; · exact hb
                          exact h0 x hx, fun x hx => by obtain rfl := List.mem_singleton.1 hx
                                                        exact hb⟩
  unfold appX at h
  simp only [Bool.cond_eq_ite] at h
  repeat' (first | (cases h; done) | split at h)
  · rename_i hb _ _ _
    simp only [Bool.and_eq_true] at hb
    cases h
    exact two hb.2
  · cases h
    exact ⟨h0, fun b hb => by cases hb⟩
  · rename_i hb _ _ _
    simp only [Bool.and_eq_true] at hb
    cases h
    exact two hb.2

theorem Lts.getX {s : St} {b : Nat} {x : BX} (h : s.getX b = some x) : Lts s [b] [] := by
  obtain ⟨_, _, _, h⟩ := getX_parts h
  exact ⟨fun x hx => by obtain rfl : x = b := by simpa using hx
                        exact h, fun b hb => (by cases hb)⟩
theorem Lts.sliceArr {C : Ctx} {T : Tr CV} {s : St} {t : TypeId} {x : Operand} {r : OR} (h : opSliceArr C T s t x = some r) : Lts s r.R r.W := by
  obtain ⟨_, h2, h3⟩ := sliceArr_parts h
  rw [h2]; exact ⟨h3, fun b hb => by cases hb⟩
theorem Lts.getX2 {s : St} {b : Nat} {x : BX} (h : s.getX b = some x) : Lts s [b] [b] := ⟨(Lts.getX h).1, (Lts.getX h).1⟩
theorem srcE_lt {q : TyR} {s : St} {d : TypeDesc} {y : CV} {l : List CV} {n : Nat} {R : List Nat} (h : srcE q s d y = some (l, n, R)) : ∀ b ∈ R, b < s.next := by
  unfold srcE at h
  simp only [Bool.cond_eq_ite] at h
  split at h
  · split at h
    · cases h; intro b hb; cases hb
    · cases h
  · cases h; intro b hb; cases hb
  · cases h; intro b hb; cases hb
  · split at h
    · rename_i hl
      split at h
      · cases h; exact (Lts.ld hl).1
      · cases h
    · cases h
  · split at h
    · rename_i hl
      split at h
      · cases h; exact (Lts.ld hl).1
      · cases h
    · cases h
  · cases h

theorem appE_lt {q : TyR} {s : St} {x : CV} {l : List CV} {n : Nat} {R : List Nat} {r : OR} (h : appE q s x l n R = some r) (hR : ∀ b ∈ R, b < s.next) : Lts s r.R r.W := by
  have none' : ∀ b ∈ ([] : List Nat), b < s.next := fun b hb => (by cases hb)
  unfold appE at h
  simp only [Bool.cond_eq_ite] at h
  split at h
  · split at h
    · cases h; exact ⟨hR, none'⟩
    · cases h; exact ⟨hR, none'⟩
  · split at h
    · cases h; exact ⟨hR, none'⟩
    · cases h
  · rename_i b o m c
    split at h
    · split at h
      · cases h; exact ⟨hR, none'⟩
      · cases h
    · split at h
      · rename_i hl hk
        split at h
        · cases h
          have hb := (Lts.ld hl).1 b (by simp)
          exact ⟨fun x hx => by rcases List.mem_cons.1 hx with rfl | hx; · exact hb
                                exact hR x hx, fun x hx => by obtain rfl : x = b := by simpa using hx
                                                              exact hb⟩
        · cases h
      · cases h
  · cases h

theorem Lts.sliceS {C : Ctx} {T : Tr CV} {s s1 s2 : St} {t : TypeId} {x : Operand} {lo hi : Option Operand} {r : OR} (h : opSlice C T s2 t x lo hi = some r) (h2 : concOp T s1 hi = some s2) (h1 : concOp T s lo = some s1) : Lts s r.R r.W := by
  obtain ⟨e1, e2, e3⟩ := opSlice_parts h
  obtain ⟨a1, _⟩ := concOp_parts h1
  obtain ⟨b1, _⟩ := concOp_parts h2
  rw [e2]
  exact ⟨fun b hb => by have := e3 b hb; rw [b1, a1] at this; exact this, fun b hb => by cases hb⟩

set_option maxHeartbeats 4000000 in
theorem opE_lt {C : Ctx} {T : Tr CV} {s : St} {o : Oper} {r : OR} (h : opE C T s o = some r) : Lts s r.R r.W := by
  unfold opE at h
  split at h
  all_goals (try simp only [opMove, opPick, opAlloc, opBox, opBuild, opBuildSlice, opLoad, opStore, opNil, opBin, opBinInt, opBinBool, opBinAgg, opBinNil, opUn, opConv, opFunc, opMakeSlice, opSlices, opMakeMap, opLookup, opMapUpdate, opMapEntry, opEntryStore, opFieldAddr, opField, opIndexAddr, opIndex, opExtract, opBuiltin, Bool.cond_eq_ite] at h)
  all_goals (repeat' (first | (cases h; done) | exact .sliceS h (by assumption) (by assumption) | (cases h; exact .nil _) | (cases h; exact .ld ‹_›) | (cases h; exact .st ‹_›) | (cases h; exact .getX ‹_›) | (cases h; exact .getX2 ‹_›) | (cases h; exact .sliceArr ‹_›) | exact appE_lt h (srcE_lt ‹_›) | (cases h; exact .ldx ‹_›) | (cases h; exact .stx ‹_›) | exact .none (cmpE_lt h) | exact .none (zrows_lt h) | exact .none (sliceX_lt h) | exact appX_lt ‹_› h | split at h))
  all_goals (rename_i hb; simp only [Bool.and_eq_true] at hb; cases h; exact .blt hb.2)

end Go.Proofs.Ytknphpihipkdpaa.Cx
