/- An executable reading of the model's code over an abstract heap (part 23): the machine's slices, appends, made slices and maps. Conditions: none. -/
import Derived.Test.YtmalpmlcgkiahaaXv
namespace Go.Xe
open Go

section
variable {cp : Code → FCode} {P : Program} [Gl P]

theorem opLenS_ok {ty e : TypeId} {u : Array TypeId} (x : Operand) (h1 : P.underlying ty = some (.slice e)) (hu : u.toList = [ty]) : OpF cp P (opLen 0 (compA P x)) (.call { callee := .builtin .len, args := #[x], argTypes := u }) := by
  intro t tm H Hs c ht hr h
  simp only [opLen, evA_comp ht] at h ⊢
  rcases asLen_good h with ⟨a, n, cc, e1, e2⟩ | ⟨_, _, e2⟩ | ⟨_, e2⟩ | ⟨_, _, e2⟩
  · rw [e2] at h ⊢
    refine ⟨_, H, Hs, rfl, ?_, hr⟩
    simp only [xop, hu, List.map_toArray, List.map_cons, List.map_nil, xbuiltin, e1, xlen, h1, Option.map_some]; rfl
  · rw [e2] at h; exact not_good h
  · rw [e2] at h; exact not_good h
  · rw [e2] at h; exact not_good h
theorem opLenB_ok {ty : TypeId} {u : Array TypeId} (x : Operand) (h1 : P.underlying ty = some .string) (hu : u.toList = [ty]) : OpF cp P (opLen 1 (compA P x)) (.call { callee := .builtin .len, args := #[x], argTypes := u }) := by
  intro t tm H Hs c ht hr h
  simp only [opLen, evA_comp ht] at h ⊢
  rcases asLen_good h with ⟨a, n, cc, e1, e2⟩ | ⟨_, e1, e2⟩ | ⟨_, e2⟩ | ⟨_, _, e2⟩
  · rw [e2] at h; exact not_good h
  · rw [e2] at h ⊢
    refine ⟨_, H, Hs, rfl, ?_, hr⟩
    simp only [xop, hu, List.map_toArray, List.map_cons, List.map_nil, xbuiltin, e1, xlen, h1, Option.map_some]; rfl
  · rw [e2] at h; exact not_good h
  · rw [e2] at h; exact not_good h
theorem opLenM_ok {ty kt et : TypeId} {u : Array TypeId} (x : Operand) (h1 : P.underlying ty = some (.map kt et)) (hu : u.toList = [ty]) : OpF cp P (opLen 2 (compA P x)) (.call { callee := .builtin .len, args := #[x], argTypes := u }) := by
  intro t tm H Hs c ht hr h
  simp only [opLen, evA_comp ht] at h ⊢
  rcases asLen_good h with ⟨a, n, cc, e1, e2⟩ | ⟨_, e1, e2⟩ | ⟨e1, e2⟩ | ⟨i, e1, e2⟩
  · rw [e2] at h; exact not_good h
  · rw [e2] at h; exact not_good h
  · rw [e2] at h ⊢
    refine ⟨_, H, Hs, rfl, ?_, hr⟩
    simp only [xop, hu, List.map_toArray, List.map_cons, List.map_nil, xbuiltin, e1, xlen, h1, Option.map_some]; rfl
  · rw [e2] at h ⊢
    have h' : Good (onMap (objF H i) fun _ es _ => outN es.length fun v => c v H) := h
    obtain ⟨kt', es, ck, e3, e4⟩ := mapF_good hr h'
    refine ⟨_, H, Hs, e4.trans (outN_eq _ _), ?_, hr⟩
    simp only [xop, hu, List.map_toArray, List.map_cons, List.map_nil, xbuiltin, e1, xlen, h1, e3, Option.map_some]; rfl
theorem opLenA_ok {ty e : TypeId} {n : Nat} {u : Array TypeId} (x : Operand) (h1 : P.underlying ty = some (.array n e)) (hu : u.toList = [ty]) : OpF cp P (opMove (.con (.int .i64 (.ofNat n)))) (.call { callee := .builtin .len, args := #[x], argTypes := u }) := by
  intro t tm H Hs c ht hr h
  refine ⟨.int .i64 (.ofNat n), H, Hs, ?_, ?_, hr⟩
  · simp only [opMove, hV_eq]; rfl
  · simp only [xop, hu, List.map_toArray, List.map_cons, List.map_nil, xbuiltin, xlen, h1, Option.map_some]; rfl

theorem boundF_good {t : TT} {tm : Array Value} (ht : TR t tm) {x : Option Operand} {d y : Nat} {k : Nat → RF} (h : Good (boundF t (x.map (compA P)) d y k)) : ∃ n, xbound (x.map (ev P tm)) d y = some n ∧ boundF t (x.map (compA P)) d y k = k n := by
  cases x with
  | none => exact ⟨d, rfl, gN_eq _ _⟩
  | some x =>
    have e : boundF t ((some x).map (compA P)) d y k = asNat (evA t (compA P x)) fun m => ifB (Nat.ble m y) (gN m k) (.fail 33) := rfl
    rw [e] at h ⊢
    rw [evA_comp ht] at h ⊢
    obtain ⟨kd, n, e1, e2⟩ := asNat_good h
    rw [e2] at h ⊢
    obtain ⟨e3, e4⟩ := ifB_good h
    refine ⟨n, ?_, e4.trans (gN_eq _ _)⟩
    have e5 : n ≤ y := Nat.le_of_ble_eq_true e3
    have e6 : (0 : Int) ≤ Int.ofNat n ∧ Int.ofNat n ≤ (y : Int) := by have : Int.ofNat n = (n : Int) := rfl; omega
    simp only [Option.map_some, xbound, e1, if_pos e6]; rfl

theorem strideF_good {P : Program} {H : FH} {Hs : Heap} (hr : HR cp H Hs) {ty e i o n c : Nat} (h1 : P.underlying ty = some (.slice e)) {k : RF} (h : Good (strideF P e i H k)) :
    strideOk P Hs ty (.slice (some ⟨i, o, none⟩) n c) = true ∧ strideF P e i H k = k := by
  unfold strideF at h ⊢
  obtain ⟨cs, el, rw', e1, e2⟩ := cellsF_good hr h
  rw [e2] at h ⊢
  cases rw' with
  | false => exact ⟨by simp only [strideOk, e1], rfl⟩
  | true =>
    rw [ifB_t] at h ⊢
    cases hb : Nat.beq el e with
    | true =>
      rw [hb] at h
      have : el = e := Nat.eq_of_beq_eq_true hb
      exact ⟨by simp only [strideOk, e1, h1, this, beq_self_eq_true], rfl⟩
    | false =>
      rw [hb, ifB_f] at h
      obtain ⟨e3, e4⟩ := ifB_good h
      have : P.cellsOf el = P.cellsOf e := Nat.eq_of_beq_eq_true e3
      exact ⟨by simp only [strideOk, e1, h1, this, beq_self_eq_true], by rw [ifB_f]; exact e4⟩

theorem opIdxSlow_ok {ty : TypeId} (x i : Operand) : OpF cp P (opIdxSlow ty (compA P x) (compA P i)) (.index ty x i) := by
  intro t tm H Hs c ht hr h
  simp only [opIdxSlow, evA_comp ht] at h ⊢
  cases e : xindex P ty (ev P tm x) (ev P tm i) with
  | none => rw [e] at h; exact not_good h
  | some v =>
    exact ⟨v, H, Hs, forceV_eq _ _, by simp only [xop, e, Option.map_some], hr⟩
theorem opSliceSlow_ok {ty : TypeId} (x : Operand) (lo hi : Option Operand) (h1 : (∃ n e, P.underlying ty = some (.array n e)) ∨ P.underlying ty = some .string) :
    OpF cp P (opSliceSlow ty (compA P x) (lo.map (compA P)) (hi.map (compA P))) (.slice ty x lo hi none) := by
  intro t tm H Hs c ht hr h
  have hm : ∀ y : Option Operand, (y.map (compA P)).map (evA t) = y.map (ev P tm) := by
    intro y
    cases y with
    | none => rfl
    | some y => simp only [Option.map_some, evA_comp ht]
  simp only [opSliceSlow, evA_comp ht, hm] at h ⊢
  cases e : xslice P ty (ev P tm x) (lo.map (ev P tm)) (hi.map (ev P tm)) none with
  | none => rw [e] at h; exact not_good h
  | some v =>
    have hs : strideOk P Hs ty (ev P tm x) = true := by
      unfold strideOk
      split
      · rename_i hx
        rw [hx] at e
        rcases h1 with ⟨n, el, h1⟩ | h1 <;> simp [xslice, h1] at e
      · rfl
    exact ⟨v, H, Hs, forceV_eq _ _, by simp only [xop, hs, if_true, Option.map_none, e, Option.map_some], hr⟩

theorem opSlice_ok {ty e : TypeId} {ie : TypeInfo} (x : Operand) (lo hi : Option Operand) (h1 : P.underlying ty = some (.slice e)) (h2 : P.info? e = some ie) :
    OpF cp P (opSlice e ie.size (compA P x) (lo.map (compA P)) (hi.map (compA P))) (.slice ty x lo hi none) := by
  intro t tm H Hs c ht hr h
  simp only [opSlice, evA_comp ht] at h ⊢
  rcases asSlice_good h with ⟨i, o, len, cap, e1, e2⟩ | ⟨i, o, s, len, cap, e1, e2⟩ | ⟨len, cap, e1, e2⟩
  · rw [e2] at h ⊢
    obtain ⟨e3, e4⟩ := strideF_good (P := P) (o := o) (n := len) (c := cap) hr h1 h
    rw [e4] at h ⊢
    obtain ⟨hh, e5, e6⟩ := boundF_good ht h
    rw [e6] at h ⊢
    obtain ⟨l, e7, e8⟩ := boundF_good ht h
    rw [e8] at h ⊢
    simp only [slice1, gN_eq] at h ⊢
    have hb : ∀ (a b : Value × Heap), True := fun _ _ => trivial
    cases hc : Nat.beq cap l with
    | true =>
      have : cap = l := Nat.eq_of_beq_eq_true hc
      refine ⟨_, H, Hs, rfl, ?_, hr⟩
      simp only [xop, e1, e3, if_true, xslice, h1, h2, e5, e7, Option.map_none]
      rw [if_pos this]; rfl
    | false =>
      have : cap ≠ l := Nat.ne_of_beq_eq_false hc
      refine ⟨_, H, Hs, rfl, ?_, hr⟩
      simp only [xop, e1, e3, if_true, xslice, h1, h2, e5, e7, Option.map_none]
      rw [if_neg this]; rfl
  · rw [e2] at h ⊢
    obtain ⟨hh, e5, e6⟩ := boundF_good ht h
    rw [e6] at h ⊢
    obtain ⟨l, e7, e8⟩ := boundF_good ht h
    rw [e8] at h ⊢
    refine ⟨_, H, Hs, rfl, ?_, hr⟩
    have e3 : strideOk P Hs ty (.slice (some ⟨i, o, some s⟩) len cap) = true := rfl
    simp only [xop, e1, e3, if_true, xslice, h1, h2, e5, e7, Option.map_none, Option.map_some]
  · rw [e2] at h ⊢
    cases cap with
    | succ cap => exact not_good h
    | zero =>
      cases len with
      | succ len => exact not_good h
      | zero =>
        have h' : Good (boundF t (hi.map (compA P)) 0 0 fun h => boundF t (lo.map (compA P)) 0 h fun _ => c (.slice none 0 0) H) := h
        obtain ⟨hh, e5, e6⟩ := boundF_good ht h'
        rw [e6] at h'
        obtain ⟨l, e7, e8⟩ := boundF_good ht h'
        refine ⟨.slice none 0 0, H, Hs, e6.trans e8, ?_, hr⟩
        have e3 : strideOk P Hs ty (.slice none 0 0) = true := rfl
        have hb : ∀ {x : Option Value} {d y n : Nat}, xbound x d y = some n → d ≤ y → n ≤ y := by
          intro x d y n hx hd
          unfold xbound at hx
          split at hx
          · cases hx; exact hd
          · split at hx
            · rename_i hn; cases hx; omega
            · cases hx
          · cases hx
        have h0 := hb e5 (Nat.le_refl _)
        have h00 := hb e7 (Nat.zero_le _)
        have hz : True ∧ l = 0 ∧ hh = 0 ∧ True := ⟨trivial, by omega, by omega, trivial⟩
        simp only [xop, e1, e3, if_true, xslice, h1, h2, e5, e7, Option.map_none]
        rw [if_pos hz]; rfl

/-! append -/
theorem append0_good {s : Value} {H : FH} {c : Value → FH → RF} (h : Good (append0 s H c)) : (∃ a n cp, s = .slice (some a) n cp ∨ (s = .slice none n cp ∧ n = 0)) ∧ append0 s H c = c s H := by
  unfold append0 at h ⊢
  simp only [hV_eq] at h ⊢
  rcases asSlice_good h with ⟨i, o, n, cp, e1, e2⟩ | ⟨i, o, q, n, cp, e1, e2⟩ | ⟨n, cp, e1, e2⟩
  · exact ⟨⟨_, _, _, .inl e1⟩, e2⟩
  · exact ⟨⟨_, _, _, .inl e1⟩, e2⟩
  · rw [e2] at h ⊢
    cases n with
    | zero => exact ⟨⟨⟨0, 0, none⟩, 0, cp, .inr ⟨e1, rfl⟩⟩, rfl⟩
    | succ n => exact not_good h
end

theorem updE_good {k v : Value} : ∀ {es : List MapEntry} {n : Nat} {c : List MapEntry → Nat → RF} (i : Nat),
    updE k v es n c = (match xfind k es i with
      | some j => c (es.modify (j - i) fun e => { e with key := k, val := v }) n
      | none => c (es ++ [{ key := k, val := v, born := n }]) (n + 1))
  | [], n, c, i => gN_eq (n + 1) fun n' => c [⟨k, v, n⟩] n'
  | ⟨k', v', b⟩ :: es, n, c, i => by
    have e : updE k v (⟨k', v', b⟩ :: es) n c = Bool.rec (motive := fun _ => RF) (updE k v es n fun r n' => c (⟨k', v', b⟩ :: r) n') (c (⟨k, v, b⟩ :: es) n) (valEq k k') := rfl
    rw [e]
    simp only [xfind]
    cases hb : valEq k k' with
    | true => simp
    | false =>
      simp only [Bool.false_eq_true, if_false]
      have ih := updE_good (k := k) (v := v) (es := es) (n := n) (c := fun r n' => c (⟨k', v', b⟩ :: r) n') (i + 1)
      show updE k v es n (fun r n' => c (⟨k', v', b⟩ :: r) n') = _
      rw [ih]
      cases hx : xfind k es (i + 1) with
      | none => rfl
      | some j =>
        have hj := (xfind_some hx).1
        have : j - i = (j - (i + 1)) + 1 := by omega
        simp only [this, List.modify_succ_cons]
theorem findE_good {k : Value} {z : RF} {c : Value → RF} : ∀ {es : List MapEntry} (i : Nat), findE z k es c = (match xfind k es i with
      | some j => (match es[j - i]? with
        | some e => c e.val
        | none => z)
      | none => z)
  | [], i => rfl
  | ⟨k', v', b⟩ :: es, i => by
    have e : findE z k (⟨k', v', b⟩ :: es) c = Bool.rec (motive := fun _ => RF) (findE z k es c) (c v') (valEq k k') := rfl
    rw [e]
    simp only [xfind]
    cases hb : valEq k k' with
    | true => simp
    | false =>
      simp only [Bool.false_eq_true, if_false]
      show findE z k es c = _
      rw [findE_good (es := es) (i + 1)]
      cases hx : xfind k es (i + 1) with
      | none => rfl
      | some j =>
        have hj := (xfind_some hx).1
        have : j - i = (j - (i + 1)) + 1 := by omega
        simp only [this, List.getElem?_cons_succ]
section
variable {cp : Code → FCode} {P : Program} [Gl P]
theorem opAppend_ok {ty uy e e' : TypeId} {ie : TypeInfo} {z : Value} {u : Array TypeId} (s x : Operand) (hu : u.toList = [ty, uy]) (h1 : P.underlying ty = some (.slice e)) (h1' : P.underlying uy = some (.slice e')) (h2 : P.info? e = some ie) (h3 : ie.zero = some z)
    (h4 : z.cells.size = ie.size) (h5 : ie.size ≠ 0) (h6 : ie.bytes ≠ 0) : OpF cp P (opAppend e ie.size ie.bytes (compA P s) (compA P x)) (.call { callee := .builtin .append, args := #[s, x], argTypes := u }) := by
  intro t tm H Hs c ht hr h
  simp only [opAppend, evA_comp ht] at h ⊢
  have hx : ∀ r, xappend P Hs ty uy (ev P tm s) (ev P tm x) = r → xop P Hs (ev P tm) (.call { callee := .builtin .append, args := #[s, x], argTypes := u }) = r := by
    intro r hr
    simp only [xop, hu, List.map_toArray, List.map_cons, List.map_nil, xbuiltin, h1']
    exact hr
  have zero : ∀ b cc, ev P tm x = .slice b 0 cc → Good (append0 (ev P tm s) H c) → ∃ v H' Hs', append0 (ev P tm s) H c = c v H' ∧ xop P Hs (ev P tm) (.call { callee := .builtin .append, args := #[s, x], argTypes := u }) = some (v, Hs') ∧ HR cp H' Hs' := by
    intro b cc hb hg
    obtain ⟨⟨a, n, cp', e1⟩, e2⟩ := append0_good hg
    refine ⟨_, H, Hs, e2, hx _ ?_, hr⟩
    rcases e1 with e1 | ⟨e1, rfl⟩
    · simp only [xappend, h1, h1', e1, hb, h2, if_true]
    · simp only [xappend, h1, h1', e1, hb, h2, if_true]
  rcases asSlice_good h with ⟨bk, uo, m, cc, e1, e2⟩ | ⟨bk, uo, q, m, cc, e1, e2⟩ | ⟨m, cc, e1, e2⟩
  · rw [e2] at h ⊢
    cases m with
    | zero => exact zero _ _ e1 h
    | succ m =>
      have h' : Good (append1 e ie.size ie.bytes (m + 1) bk uo (ev P tm s) H c) := h
      show ∃ v H' Hs', append1 e ie.size ie.bytes (m + 1) bk uo (ev P tm s) H c = c v H' ∧ _
      clear h e2
      generalize hm : m + 1 = m' at h' e1 ⊢
      have hm0 : m' ≠ 0 := by omega
      unfold append1 at h' ⊢
      obtain ⟨cx, el, rw', e3, e4⟩ := cellsF_good hr h'
      rw [e4] at h' ⊢
      obtain ⟨e5, e6⟩ := subL_good h'
      rw [e6] at h' ⊢
      obtain ⟨e7, e8⟩ := allL_good h'
      rw [e8] at h' ⊢
      have e5' : uo + m' * ie.size ≤ (⟨cx⟩ : Array Value).size := by simpa using e5
      have hmz : m' * ie.size ≠ 0 := Nat.mul_ne_zero hm0 h5
      have hsrc : xsource Hs ie.size m' (some ⟨bk, uo, none⟩) = some ((⟨cx⟩ : Array Value).extract uo (uo + m' * ie.size)) := by
        simp only [xsource, e3]
        rw [if_pos ⟨e5', hmz⟩]
      have hb48 : ∀ n, Nat.ble (Nat.mul (Nat.add (Nat.mul 2 (Nat.add n m')) 256) ie.bytes) 281474976710656 = true → (2 * (n + m') + 256) * ie.bytes ≤ 2 ^ 48 ∧ n + m' ≤ 2 ^ 48 := by
        intro n hb
        have e9 : (2 * (n + m') + 256) * ie.bytes ≤ 281474976710656 := Nat.le_of_ble_eq_true hb
        have e10 : (2 * (n + m') + 256) * 1 ≤ (2 * (n + m') + 256) * ie.bytes := Nat.mul_le_mul_left _ (by omega)
        exact ⟨by omega, by omega⟩
      generalize hnew : (⟨cx⟩ : Array Value).extract uo (uo + m' * ie.size) = new at *
      rcases asSlice_good h' with ⟨i, o, n, cp', f1, f2⟩ | ⟨i, o, q, n, cp', f1, f2⟩ | ⟨n, cp', f1, f2⟩
      · rw [f2] at h' ⊢
        obtain ⟨f3, f4⟩ := ifB_good h'
        rw [f4] at h' ⊢
        unfold append2 at h' ⊢
        obtain ⟨cd, el2, rw2, f5, f6⟩ := cellsF_good hr h'
        rw [f6] at h' ⊢
        obtain ⟨f7, f8⟩ := ifB_good h'
        rw [f8] at h' ⊢
        obtain ⟨f9, f10⟩ := ifB_good h'
        rw [f10] at h' ⊢
        obtain ⟨f11c, f12c⟩ := subL_good h'
        rw [f12c] at h' ⊢
        obtain ⟨f11, f12⟩ := subL_good h'
        rw [f12, catL_eq] at h' ⊢
        obtain ⟨H1, f13, f14⟩ := setF_good hr (x := .dead) (o := .dead) trivial h'
        rw [f14] at h' ⊢
        obtain ⟨H2, f15, f16⟩ := allocF_good f13 (x := .cells (((⟨cd⟩ : Array Value).extract o (o + n * ie.size)).toList ++ new.toList) e true) (o := .cells ((⟨cd⟩ : Array Value).extract o (o + n * ie.size) ++ new) e true) (by simp only [FOR]; congr 2; apply Array.toList_inj.1; simp) h'
        refine ⟨_, H2, _, f16.trans (gN_eq _ _), hx _ ?_, f15⟩
        have g1 : el2 = e := Nat.eq_of_beq_eq_true f7
        have g2 : o + n * ie.size ≤ (⟨cd⟩ : Array Value).size := by simpa using f11
        obtain ⟨g3, g4⟩ := hb48 n f3
        subst f9
        simp only [xappend, h1, h1', f1, e1, h2, if_neg hm0, h3, hsrc]
        rw [if_pos ⟨e7, h4, g3, g4⟩]
        simp only [f5]
        have g5 : o + cp' * ie.size ≤ (⟨cd⟩ : Array Value).size := by simpa using f11c
        rw [if_pos ⟨g1, g2, g5, fun hle => Nat.mul_ne_zero (by omega) h5⟩]
        rfl
      · rw [f2] at h'; exact not_good h'
      · rw [f2] at h' ⊢
        cases n with
        | succ n => exact not_good h'
        | zero =>
          cases cp' with
          | succ cp' => exact not_good h'
          | zero =>
            have h'' : Good (ifB (Nat.ble (Nat.mul (Nat.add (Nat.mul 2 m') 256) ie.bytes) 281474976710656) (allocF H (.cells new.toList e true) fun i H' => c (.slice (some ⟨i, 0, none⟩) m' m') H') (.fail 54)) := h'
            obtain ⟨f3, f4⟩ := ifB_good h''
            rw [f4] at h''
            obtain ⟨H2, f15, f16⟩ := allocF_good hr (x := .cells new.toList e true) (o := .cells new e true) rfl h''
            refine ⟨_, H2, _, f4.trans f16, hx _ ?_, f15⟩
            obtain ⟨g3, g4⟩ := hb48 0 (by rw [show Nat.add 0 m' = m' from Nat.zero_add m']; exact f3)
            simp only [xappend, h1, h1', f1, e1, h2, if_neg hm0, h3, hsrc]
            rw [if_pos ⟨e7, h4, g3, g4⟩]
            rfl
  · rw [e2] at h ⊢
    cases m with
    | zero => exact zero _ _ e1 h
    | succ m => exact not_good h
  · rw [e2] at h ⊢
    cases m with
    | zero => exact zero _ _ e1 h
    | succ m => exact not_good h

theorem opLookup_ok {ty kt et : TypeId} {ie : TypeInfo} {z : Value} (x k : Operand) (ok : Bool) (h1 : P.underlying ty = some (.map kt et)) (h2 : P.info? et = some ie) (h3 : ie.zero = some z) (h4 : plainV z = true) :
    OpF cp P (opLookup kt z (compA P x) (compA P k) ok) (.lookup ty x k ok) := by
  intro t tm H Hs c ht hr h
  simp only [opLookup, evA_comp ht, hV_eq] at h ⊢
  rcases asMap_good h with ⟨i, e1, e2⟩ | ⟨_, e2⟩
  · rw [e2] at h ⊢
    obtain ⟨kt', es, ck, e3, e4⟩ := mapF_good hr h
    rw [e4] at h ⊢
    obtain ⟨e5, e6⟩ := ifB_good h
    rw [e6] at h ⊢
    obtain ⟨e7, e8⟩ := ifB_good h
    rw [e8, findE_good 0] at h ⊢
    have e9 : kt' = kt := Nat.eq_of_beq_eq_true e5
    simp only [keyGood, Bool.and_eq_true] at e7
    obtain ⟨k1, k2, k3⟩ := e7
    have hc : kt' = kt ∧ keyedB P kt = true ∧ keyishV (ev P tm k) = true ∧ (keyOf P kt (ev P tm k)).isSome = true ∧ plainV z = true := ⟨e9, k1, k2, k3, h4⟩
    have hx : xop P Hs (ev P tm) (.lookup ty x k ok) = ((match xfind (ev P tm k) es 0 with
          | some j => match (⟨es⟩ : Array MapEntry)[j]? with
            | some e => some (if ok then .tuple #[e.val, .bool true] else e.val)
            | none => none
          | none => some (if ok then .tuple #[z, .bool false] else z)) : Option Value).map (·, Hs) := by
      simp only [xop, xlookup, h1, e1, e3, h2, h3]
      rw [if_pos hc]
      try rfl
    rw [hx]
    cases hf : xfind (ev P tm k) es 0 with
    | none =>
      cases ok
      · exact ⟨_, H, Hs, rfl, rfl, hr⟩
      · exact ⟨_, H, Hs, rfl, rfl, hr⟩
    | some j =>
      obtain ⟨_, en, e10, _⟩ := xfind_some hf
      simp only [Nat.sub_zero] at e10
      have e11 : (⟨es⟩ : Array MapEntry)[j]? = some en := by simpa using e10
      simp only [Nat.sub_zero, e10, e11]
      cases ok
      · exact ⟨_, H, Hs, rfl, rfl, hr⟩
      · exact ⟨_, H, Hs, rfl, rfl, hr⟩
  · rw [e2] at h; exact not_good h
theorem opMapUpdate_ok {ty kt et : TypeId} (x k v : Operand) (h1 : P.underlying ty = some (.map kt et)) : OpF cp P (opMapUpdate kt (compA P x) (compA P k) (compA P v)) (.mapUpdate ty x k v) := by
  intro t tm H Hs c ht hr h
  simp only [opMapUpdate, evA_comp ht, hV_eq] at h ⊢
  rcases asMap_good h with ⟨i, e1, e2⟩ | ⟨_, e2⟩
  · rw [e2] at h ⊢
    obtain ⟨kt', es, ck, e3, e4⟩ := mapF_good hr h
    rw [e4] at h ⊢
    obtain ⟨e5, e6⟩ := ifB_good h
    rw [e6] at h ⊢
    obtain ⟨e7, e8⟩ := ifB_good h
    rw [e8, updE_good 0] at h ⊢
    have e9 : kt' = kt := Nat.eq_of_beq_eq_true e5
    simp only [keyGood, Bool.and_eq_true] at e7
    obtain ⟨k1, k2, k3⟩ := e7
    have hc : kt' = kt ∧ keyedB P kt = true ∧ keyishV (ev P tm k) = true ∧ (keyOf P kt (ev P tm k)).isSome = true := ⟨e9, k1, k2, k3⟩
    have hx : xop P Hs (ev P tm) (.mapUpdate ty x k v) = ((match xfind (ev P tm k) es 0 with
        | some j => some (Hs.set i (.map kt ((⟨es⟩ : Array MapEntry).modify j fun e => { e with key := ev P tm k, val := ev P tm v }) ck))
        | none => some (Hs.set i (.map kt ((⟨es⟩ : Array MapEntry).push { key := ev P tm k, val := ev P tm v, born := ck }) (ck + 1)))) : Option Heap).map (undef, ·) := by
      simp only [xop, xmapUpdate, h1, e1, e3]
      rw [if_pos hc]
      try rfl
    rw [hx]
    cases hf : xfind (ev P tm k) es 0 with
    | none =>
      simp only [hf] at h ⊢
      obtain ⟨H', f1, f2⟩ := setF_good hr (o := .map kt ((⟨es⟩ : Array MapEntry).push { key := ev P tm k, val := ev P tm v, born := ck }) (ck + 1)) (by simp only [FOR]; congr 2; apply Array.toList_inj.1; simp) h
      exact ⟨undef, H', _, f2, rfl, f1⟩
    | some j =>
      simp only [hf, Nat.sub_zero] at h ⊢
      obtain ⟨H', f1, f2⟩ := setF_good hr (o := .map kt ((⟨es⟩ : Array MapEntry).modify j fun e => { e with key := ev P tm k, val := ev P tm v }) ck) (by simp only [FOR]; congr 2; apply Array.toList_inj.1; simp) h
      exact ⟨undef, H', _, f2, rfl, f1⟩
  · rw [e2] at h; exact not_good h
end
end Go.Xe
/- An executable reading of the model's code over an abstract heap (part 24): each operation's form for the machine, and that the machine's answer is the reading's. Conditions: none. -/
namespace Go.Xe
open Go

def repList (z : List Value) : Nat → List Value
  | 0 => []
  | n + 1 => z ++ repList z n
theorem repL_eq {z : List Value} : ∀ {n : Nat} {k : List Value → RF}, repL z n k = k (repList z n)
  | 0, k => rfl
  | n + 1, k => by
    have e : repL z (n + 1) k = repL z n fun r => catL r z k := rfl
    rw [e, repL_eq (n := n), catL_eq]; rfl
theorem repList_length (z : List Value) : ∀ n, (repList z n).length = n * z.length
  | 0 => by simp [repList]
  | n + 1 => by simp only [repList, List.length_append, repList_length z n]; rw [Nat.succ_mul]; omega
theorem repList_get (z : List Value) (hz : z.length ≠ 0) : ∀ (n i : Nat), i < n * z.length → (repList z n)[i]? = z[i % z.length]?
  | 0, i, h => by simp at h
  | n + 1, i, h => by
    simp only [repList]
    by_cases hi : i < z.length
    · rw [List.getElem?_append_left hi, Nat.mod_eq_of_lt hi]
    · rw [Nat.succ_mul] at h
      rw [List.getElem?_append_right (by omega), repList_get z hz n (i - z.length) (by omega)]
      have : i = (i - z.length) + z.length := by omega
      conv => rhs; rw [this, Nat.add_mod_right]
theorem zeros_rep (z : Array Value) (hz : z.size ≠ 0) (m : Nat) : zeros z (m * z.size) = ⟨repList z.toList m⟩ := by
  apply Array.ext'
  apply List.ext_getElem?
  intro i
  have hl : z.toList.length = z.size := Array.length_toList
  by_cases hi : i < m * z.size
  · rw [repList_get _ (by omega) _ _ (by omega), hl]
    simp only [zeros, Array.toList_map, Array.toList_range, List.getElem?_map]
    rw [List.getElem?_range (by omega)]
    have hlt : i % z.size < z.size := Nat.mod_lt _ (by omega)
    simp [hlt]
  · rw [List.getElem?_eq_none (by simp [zeros]; omega), List.getElem?_eq_none (by rw [repList_length, hl]; omega)]

section
variable {cp : Code → FCode} {P : Program} [Gl P]
theorem opMakeSlice_ok {ty e : TypeId} {ie : TypeInfo} {z : Value} (l q : Operand) (h1 : P.underlying ty = some (.slice e)) (h2 : P.info? e = some ie) (h3 : ie.zero = some z) (h4 : z.cells.size = ie.size) (h5 : ie.size ≠ 0) (h6 : z.cells.toList.all atomV = true) :
    OpF cp P (opMakeSlice e ie.size ie.bytes z.cells.toList (compA P l) (compA P q)) (.makeSlice ty l q) := by
  intro t tm H Hs c ht hr h
  simp only [opMakeSlice, evA_comp ht, repL_eq] at h ⊢
  obtain ⟨k1, n, e1, e2⟩ := asNat_good h
  rw [e2] at h ⊢
  obtain ⟨k2, m, e3, e4⟩ := asNat_good h
  rw [e4] at h ⊢
  obtain ⟨e5, e6⟩ := ifB_good h
  rw [e6] at h ⊢
  obtain ⟨e7, e8⟩ := ifB_good h
  rw [e8] at h ⊢
  obtain ⟨e9, e10⟩ := ifB_good h
  rw [e10] at h ⊢
  have hz : z.cells.size ≠ 0 := by omega
  obtain ⟨H', e11, e12⟩ := allocF_good hr (x := .cells (repList z.cells.toList m) e true) (o := .cells (zeros z.cells (m * ie.size)) e true) (by simp only [FOR]; rw [← h4, zeros_rep _ hz]) h
  refine ⟨_, H', _, e12, ?_, e11⟩
  have g1 : n ≤ m := Nat.le_of_ble_eq_true e5
  have g2 : m * ie.bytes ≤ 281474976710656 := Nat.le_of_ble_eq_true e7
  have g3 : m ≤ 281474976710656 := Nat.le_of_ble_eq_true e9
  have hn : Int.ofNat n = (n : Int) := rfl
  have hm : Int.ofNat m = (m : Int) := rfl
  have g4 : ((m : Int) * (ie.bytes : Int)) = ((m * ie.bytes : Nat) : Int) := by push_cast; rfl
  simp only [xop, xmakeSlice, e1, e3, h1, h2, h3]
  have hc : 0 ≤ Int.ofNat n ∧ Int.ofNat n ≤ Int.ofNat m ∧ Int.ofNat m * ie.bytes ≤ 2 ^ 48 ∧ Int.ofNat m ≤ 2 ^ 48 ∧ z.cells.toList.all atomV = true ∧ z.cells.size ≠ 0 ∧ ie.size ≠ 0 :=
    ⟨by omega, by omega, by rw [hm, g4]; omega, by omega, h6, hz, h5⟩
  refine (if_pos hc).trans ?_
  rfl
theorem opAppendMk_ok {ty uy e : TypeId} {k : IntKind} {ie : TypeInfo} {z : Value} {u : Array TypeId} (s x : Operand) (hu : u.toList = [ty, uy]) (h1 : P.underlying ty = some (.slice e)) (h1' : P.underlying uy = some (.int k)) (h2 : P.info? e = some ie) (h3 : ie.zero = some z)
    (h4 : z.cells.size = ie.size) (h5 : ie.size ≠ 0) (h6 : z.cells.toList.all atomV = true) (h7 : ie.bytes ≤ 1048576) : OpF cp P (opAppendMk e ie.size ie.bytes z.cells.toList (compA P s) (compA P x)) (.call { callee := .builtin .append, args := #[s, x], argTypes := u }) := by
  intro t tm H Hs c ht hr h
  have hx : ∀ r, xappendMake P Hs ty (ev P tm s) (ev P tm x) = r → xop P Hs (ev P tm) (.call { callee := .builtin .append, args := #[s, x], argTypes := u }) = r := by
    intro r hr
    simp only [xop, hu, List.map_toArray, List.map_cons, List.map_nil, xbuiltin, h1']
    exact hr
  unfold opAppendMk at h ⊢
  rw [evA_comp ht] at h ⊢
  rcases asSlice_good h with ⟨bk, uo, m, cc, e1, e2⟩ | ⟨bk, uo, q, m, cc, e1, e2⟩ | ⟨m, cc, e1, e2⟩
  · rw [e2] at h; exact not_good h
  · rw [e2] at h; exact not_good h
  · rw [e2] at h ⊢
    obtain ⟨e3, e4⟩ := ifB_good h
    rw [e4] at h ⊢
    obtain ⟨e5, e6⟩ := ifB_good h
    rw [e6] at h ⊢
    rw [evA_comp ht] at h ⊢
    obtain ⟨k1, n, e7, e8⟩ := asNat_good h
    rw [e8] at h ⊢
    obtain ⟨e9, e10⟩ := ifB_good h
    rw [e10] at h ⊢
    obtain ⟨e11, e12⟩ := ifB_good h
    rw [e12] at h ⊢
    obtain ⟨v, H', Hs', g1, g2, g3⟩ := opMakeSlice_ok (cp := cp) x x h1 h2 h3 h4 h5 h6 t tm H Hs c ht hr h
    refine ⟨v, H', Hs', g1, hx _ ?_, g3⟩
    have hm : m = 0 := Nat.eq_of_beq_eq_true e3
    have hcc : cc = 0 := Nat.eq_of_beq_eq_true e5
    subst hm hcc
    have hs : smallEl P ty = true := by simp only [smallEl, h1, h2, h3, Bool.and_eq_true, decide_eq_true_eq]; exact ⟨h7, h4⟩
    have n1 : 1 ≤ n := Nat.le_of_ble_eq_true e9
    have n2 : n ≤ 1048576 := Nat.le_of_ble_eq_true e11
    have hn : Int.ofNat n = (n : Int) := rfl
    have g2' : xmakeSlice P Hs ty (ev P tm x) (ev P tm x) = some (v, Hs') := g2
    rw [e7] at g2'
    simp only [xappendMake, e1, e7, hs]
    rw [if_pos ⟨by omega, by omega, trivial⟩]
    exact g2'
theorem opCap_ok {ty e : TypeId} {u : Array TypeId} (x : Operand) (h1 : P.underlying ty = some (.slice e)) (hu : u.toList = [ty]) : OpF cp P (opCap (compA P x)) (.call { callee := .builtin .cap, args := #[x], argTypes := u }) := by
  intro t tm H Hs c ht hr h
  unfold opCap at h ⊢
  rw [evA_comp ht] at h ⊢
  rcases asSlice_good h with ⟨bk, uo, m, cc, e1, e2⟩ | ⟨bk, uo, q, m, cc, e1, e2⟩ | ⟨m, cc, e1, e2⟩
  · rw [e2] at h; exact not_good h
  · rw [e2] at h; exact not_good h
  · rw [e2]
    refine ⟨_, H, Hs, rfl, ?_, hr⟩
    simp only [xop, hu, List.map_toArray, List.map_cons, List.map_nil, xbuiltin, xcap, h1, e1]
    rfl
end

def compCap (P : Program) [Gl P] (x : Operand) (ts : List TypeId) : FOp := match ts with
  | [t] => match P.underlying t with
    | some (.slice _) => .cap (compA P x)
    | _ => badOp
  | _ => badOp
def compLen (P : Program) [Gl P] (x : Operand) (ts : List TypeId) : FOp := match ts with
  | [t] => match P.underlying t with
    | some (.slice _) => .len 0 (compA P x)
    | some .string => .len 1 (compA P x)
    | some (.map _ _) => .len 2 (compA P x)
    | some (.array n _) => .move (.con (.int .i64 (.ofNat n)))
    | _ => badOp
  | _ => badOp
def compAppend (P : Program) [Gl P] (s x : Operand) (ts : List TypeId) : FOp := match ts with
  | [t, u] => match P.underlying t, P.underlying u with
    | some (.slice e), some (.slice _) => match P.info? e with
      | some ie => match ie.zero with
        | some z => if z.cells.size = ie.size ∧ ie.size ≠ 0 ∧ ie.bytes ≠ 0 then .append e ie.size ie.bytes (compA P s) (compA P x) else badOp
        | none => badOp
      | none => badOp
    | some (.slice e), some (.int _) => match P.info? e with
      | some ie => match ie.zero with
        | some z => if z.cells.size = ie.size ∧ ie.size ≠ 0 ∧ z.cells.toList.all atomV = true ∧ ie.bytes ≤ 1048576 then .appendMk e ie.size ie.bytes z.cells.toList (compA P s) (compA P x) else badOp
        | none => badOp
      | none => badOp
    | _, _ => badOp
  | _ => badOp
def compParted (P : Program) [Gl P] (pl : Nat → Option (Nat × Nat)) (z : Value) (parts : Array (Nat × Operand)) : FOp :=
  if plainV z then match compParts P pl parts.toList with
    | some ps => .build z.cells.toList ps
    | none => badOp
  else badOp
def compOp (P : Program) [Gl P] (op : Op) : FOp :=
  match op with
  | .move x => .move (compA P x)
  | .assign x => .move (compA P x)
  | .pick q a b => .pick (compA P q) (compA P a) (compA P b)
  | .alloc e => match P.info? e with
    | some i => match i.zero with
      | some z => if plainV z then .alloc e z.cells.toList else badOp
      | none => badOp
    | none => badOp
  | .box e x => .box e (compA P x)
  | .build t parts => match P.info? t, P.underlying t with
    | some it, some (.array _ e) => match it.zero, P.info? e with
      | some z, some ie => compParted P (fun i => some (i * ie.size, ie.size)) z parts
      | _, _ => badOp
    | some it, some (.struct fs) => match it.zero, fs.toList.mapM (fun f => (P.info? f.type).map fun i => (f.offset, i.size)) with
      | some z, some places => compParted P (places.toArray[·]?) z parts
      | _, _ => badOp
    | _, _ => badOp
  | .buildSlice t len parts => match P.underlying t with
    | some (.slice e) => match P.info? e with
      | some ie => match len, parts.toList with
        | 0, [] => .buildSlice e 0 [] []
        | _, l => match ie.zero, compParts P (fun i => some (i * ie.size, ie.size)) l with
          | some z, some ps => if z.cells.toList.all atomV = true ∧ z.cells.size ≠ 0 ∧ ¬ (len * ie.size > 2 ^ 24) ∧ len * ie.size ≠ 0 then .buildSlice e len (zeros z.cells (len * ie.size)).toList ps else badOp
          | _, _ => badOp
      | none => badOp
    | _ => badOp
  | .load t a => match P.underlying t, P.info? t with
    | some (.struct _), some i | some (.array _ _), some i => if i.size = 0 then badOp else .loadN i.size (compA P a)
    | some _, some _ => .load1 (compA P a)
    | _, _ => badOp
  | .store t a x => match P.info? t with
    | some i => if i.size = 0 then badOp else .store i.size (compA P a) (compA P x)
    | none => badOp
  | .nilCheck x => .nilCheck (compA P x)
  | .binOp op t x y _ => .bin op t (compA P x) (compA P y)
  | .unOp op _ x => .un op (compA P x)
  | .convert src dst x => match P.underlying src, P.underlying dst with
    | some _, some (.int k) => .conv k (compA P x)
    | _, _ => badOp
  | .makeFunc (.func f) a b => .makeFunc f (a.toList.map (compA P)) (b.toList.map (compA P))
  | .makeMap t none => match P.underlying t with
    | some (.map kt _) => .makeMap kt
    | _ => badOp
  | .makeMap t (some (.const (.int _ _))) => match P.underlying t with
    | some (.map kt _) => .makeMap kt
    | _ => badOp
  | .makeSlice t l c => match P.underlying t with
    | some (.slice e) => match P.info? e with
      | some ie => match ie.zero with
        | some z => if z.cells.size = ie.size ∧ ie.size ≠ 0 ∧ z.cells.toList.all atomV = true then .makeSlice e ie.size ie.bytes z.cells.toList (compA P l) (compA P c) else badOp
        | none => badOp
      | none => badOp
    | _ => badOp
  | .slice t x lo hi none => match P.underlying t with
    | some (.slice e) => match P.info? e with
      | some ie => .slice e ie.size (compA P x) (lo.map (compA P)) (hi.map (compA P))
      | none => badOp
    | some (.array _ _) => .sliceSlow t (compA P x) (lo.map (compA P)) (hi.map (compA P))
    | some .string => .sliceSlow t (compA P x) (lo.map (compA P)) (hi.map (compA P))
    | _ => badOp
  | .fieldAddr s x f => match P.underlying s with
    | some (.struct fs) => match fs[f]? with
      | some fd => match P.info? fd.type with
        | some inf => if inf.size = 0 then badOp else .fieldAddr fd.offset (compA P x)
        | none => badOp
      | none => badOp
    | _ => badOp
  | .field t x f => match P.underlying t with
    | some (.struct fs) => match fs[f]? with
      | some fd => match P.underlying fd.type, P.info? fd.type with
        | some (.struct _), some i | some (.array _ _), some i => .fieldN fd.offset i.size (compA P x)
        | some _, some _ => .field1 fd.offset (compA P x)
        | _, _ => badOp
      | none => badOp
    | _ => badOp
  | .indexAddr t x i => match P.underlying t with
    | some (.slice e) => match P.info? e with
      | some ie => .indexAddr none ie.size (compA P x) (compA P i)
      | none => badOp
    | some (.array n e) => match P.info? e with
      | some ie => .indexAddr (some n) ie.size (compA P x) (compA P i)
      | none => badOp
    | _ => badOp
  | .index t x i => match P.underlying t with
    | some (.array n e) => match P.underlying e, P.info? e with
      | some (.struct _), some ie | some (.array _ _), some ie => .index n ie.size false (compA P x) (compA P i)
      | some _, some ie => if ie.size = 1 then .index n ie.size true (compA P x) (compA P i) else badOp
      | _, _ => badOp
    | some .string => .idxSlow t (compA P x) (compA P i)
    | _ => badOp
  | .lookup t x k ok => match P.underlying t with
    | some (.map kt et) => match P.info? et with
      | some ie => match ie.zero with
        | some z => if plainV z then .lookup kt z (compA P x) (compA P k) ok else badOp
        | none => badOp
      | none => badOp
    | _ => badOp
  | .mapUpdate t m k x => match P.underlying t with
    | some (.map kt _) => .mapUpdate kt (compA P m) (compA P k) (compA P x)
    | _ => badOp
  | .extract x i => .extract (compA P x) i
  | .call { callee := .builtin .len, args, argTypes } => match args with
    | ⟨[x]⟩ => compLen P x argTypes.toList
    | _ => badOp
  | .call { callee := .builtin .min, args, .. } => .mm false (args.toList.map (compA P))
  | .call { callee := .builtin .max, args, .. } => .mm true (args.toList.map (compA P))
  | .call { callee := .builtin .cap, args, argTypes } => match args with
    | ⟨[x]⟩ => compCap P x argTypes.toList
    | _ => badOp
  | .call { callee := .builtin .append, args, argTypes } => match args with
    | ⟨[s, x]⟩ => compAppend P s x argTypes.toList
    | _ => badOp
  | .call { callee := .value f, args, .. } => .call (compA P f) (args.toList.map (compA P))
  | _ => badOp

theorem badOp_not {P : Program} {F : Nat → FFunc} {x : FX} {t : TT} {H : FH} {c : Value → FH → RF} {p : Prop} (h : Good (opF badOp P F x t H c)) : p := not_good (n := 14) h

/-- What opF owes: the machine's answer is the reading's. -/
def OpFx (cp : Code → FCode) (P : Program) [Gl P] (F : Nat → FFunc) (x : FX) (f : FOp) (op : Op) : Prop := ∀ (t : TT) (tm : Array Value) (H : FH) (Hs : Heap) (c : Value → FH → RF), TR t tm → HR cp H Hs → Good (opF f P F x t H c) →
  ∃ v H' Hs', opF f P F x t H c = c v H' ∧ xop P Hs (ev P tm) op = some (v, Hs') ∧ HR cp H' Hs'
theorem OpFx.bad {cp : Code → FCode} {P : Program} [Gl P] {F : Nat → FFunc} {x : FX} {op : Op} : OpFx cp P F x badOp op := by
  intro t tm H Hs c ht hr h
  exact badOp_not h

end Go.Xe
/- An executable reading of the model's code over an abstract heap (part 25): every operation but a call of a function value: the machine's answer is the reading's. Conditions: none. -/
namespace Go.Xe
open Go

section
variable {cp : Code → FCode} {P : Program} [Gl P] {F : Nat → FFunc} {x : FX}

theorem compLen_ok (y : Operand) (ts : Array TypeId) : OpFx cp P F x (compLen P y ts.toList) (.call { callee := .builtin .len, args := #[y], argTypes := ts }) := by
  unfold compLen
  split
  · rename_i t hts
    split
    · rename_i h; exact opLenS_ok y h hts
    · rename_i h; exact opLenB_ok y h hts
    · rename_i h; exact opLenM_ok y h hts
    · rename_i h; exact opLenA_ok y h hts
    · exact .bad
  · exact .bad
theorem compAppend_ok (s y : Operand) (ts : Array TypeId) : OpFx cp P F x (compAppend P s y ts.toList) (.call { callee := .builtin .append, args := #[s, y], argTypes := ts }) := by
  unfold compAppend
  split
  · rename_i t u hts
    split
    · rename_i e e' h1 h2
      split
      · rename_i ie h3
        split
        · rename_i z h4
          split
          · rename_i hc; exact opAppend_ok s y hts h1 h2 h3 h4 hc.1 hc.2.1 hc.2.2
          · exact .bad
        · exact .bad
      · exact .bad
    · rename_i e k h1 h2
      split
      · rename_i ie h3
        split
        · rename_i z h4
          split
          · rename_i hc; exact opAppendMk_ok s y hts h1 h2 h3 h4 hc.1 hc.2.1 hc.2.2.1 hc.2.2.2
          · exact .bad
        · exact .bad
      · exact .bad
    · exact .bad
  · exact .bad
theorem compCap_ok (y : Operand) (ts : Array TypeId) : OpFx cp P F x (compCap P y ts.toList) (.call { callee := .builtin .cap, args := #[y], argTypes := ts }) := by
  unfold compCap
  split
  · rename_i t hts
    split
    · rename_i h; exact opCap_ok y h hts
    · exact .bad
  · exact .bad
theorem compParted_bad {pl : Nat → Option (Nat × Nat)} {z : Value} {parts : Array (Nat × Operand)} {op : Op} (h : ∀ ps, plainV z = true → compParts P pl parts.toList = some ps → OpFx cp P F x (.build z.cells.toList ps) op) : OpFx cp P F x (compParted P pl z parts) op := by
  unfold compParted
  split
  · rename_i h5
    split
    · rename_i ps h6; exact h ps h5 h6
    · exact .bad
  · exact .bad

def isCall : Op → Bool
  | .call { callee := .value _, .. } => true
  | _ => false

theorem compOp_ok (op : Op) (hc : isCall op = false) : OpFx cp P F x (compOp P op) op := by
  unfold compOp
  split
  · exact opMove_ok _
  · exact opAssign_ok _
  · exact opPick_ok _ _ _
  · split
    · rename_i i h1
      split
      · rename_i z h2
        split
        · rename_i h3; exact opAlloc_ok h1 h2 h3
        · exact .bad
      · exact .bad
    · exact .bad
  · exact opBox_ok _ _
  · split
    · rename_i it n e h1 h2
      split
      · rename_i z ie h3 h4
        exact compParted_bad fun ps h5 h6 => opBuildA_ok h1 h2 h3 h4 h5 h6
      · exact .bad
    · rename_i it fs h1 h2
      split
      · rename_i z places h3 h4
        exact compParted_bad fun ps h5 h6 => opBuildS_ok h1 h2 h3 h4 h5 h6
      · exact .bad
    · exact .bad
  · split
    · rename_i e h1
      split
      · rename_i ie h2
        split
        · rename_i h3; exact opBuildSlice0_ok h1 h2 h3
        · split
          · rename_i z ps h3 h4
            split
            · rename_i hh; exact opBuildSlice_ok h1 h2 h3 hh.1 hh.2.1 hh.2.2.1 hh.2.2.2 h4
            · exact .bad
          · exact .bad
      · exact .bad
    · exact .bad
  · split
    · rename_i fs i h1 h2
      split
      · exact .bad
      · rename_i hz; exact opLoadN_ok _ h1 h2 (.inl ⟨_, rfl⟩) hz
    · rename_i n e i h1 h2
      split
      · exact .bad
      · rename_i hz; exact opLoadN_ok _ h1 h2 (.inr ⟨_, _, rfl⟩) hz
    · rename_i d i hs ha h1 h2
      exact opLoad1_ok _ h1 h2 (fun f hd => hs f (by rw [hd])) (fun n e hd => ha n e (by rw [hd]))
    · exact .bad
  · split
    · rename_i i h1
      split
      · exact .bad
      · rename_i hz; exact opStore_ok _ _ h1 hz
    · exact .bad
  · exact opNil_ok _
  · exact opBin_ok _ _ _ _ _
  · exact opUn_ok _ _ _
  · split
    · rename_i d k h1 h2; exact opConv_ok _ h1 h2
    · exact .bad
  · exact opMakeFunc_ok _ _ _
  · split
    · rename_i kt et h1; exact opMakeMap_ok h1
    · exact .bad
  · split
    · rename_i kt et h1; exact opMakeMapC_ok h1
    · exact .bad
  · split
    · rename_i e h1
      split
      · rename_i ie h2
        split
        · rename_i z h3
          split
          · rename_i hh; exact opMakeSlice_ok _ _ h1 h2 h3 hh.1 hh.2.1 hh.2.2
          · exact .bad
        · exact .bad
      · exact .bad
    · exact .bad
  · split
    · rename_i e h1
      split
      · rename_i ie h2; exact opSlice_ok _ _ _ h1 h2
      · exact .bad
    · rename_i n e h1; exact opSliceSlow_ok _ _ _ (.inl ⟨_, _, h1⟩)
    · rename_i h1; exact opSliceSlow_ok _ _ _ (.inr h1)
    · exact .bad
  · split
    · rename_i fs h1
      split
      · rename_i fd h2
        split
        · rename_i inf h3
          split
          · exact .bad
          · rename_i hz; exact opFieldAddr_ok _ h1 h2 h3 hz
        · exact .bad
      · exact .bad
    · exact .bad
  · split
    · rename_i fs h1
      split
      · rename_i fd h2
        split
        · rename_i f' i h3 h4; exact opFieldN_ok _ h1 h2 h3 h4 (.inl ⟨_, rfl⟩)
        · rename_i n e i h3 h4; exact opFieldN_ok _ h1 h2 h3 h4 (.inr ⟨_, _, rfl⟩)
        · rename_i d i hs ha h3 h4
          exact opField1_ok _ h1 h2 h3 h4 (fun f hd => hs f (by rw [hd])) (fun n e hd => ha n e (by rw [hd]))
        · exact .bad
      · exact .bad
    · exact .bad
  · split
    · rename_i e h1
      split
      · rename_i ie h2; exact opIndexAddrS_ok _ _ h1 h2
      · exact .bad
    · rename_i n e h1
      split
      · rename_i ie h2; exact opIndexAddrA_ok _ _ h1 h2
      · exact .bad
    · exact .bad
  · split
    · rename_i n e h1
      split
      · rename_i f' ie h3 h2; exact opIndexN_ok _ _ h1 h2 h3 (.inl ⟨_, rfl⟩)
      · rename_i n' e' ie h3 h2; exact opIndexN_ok _ _ h1 h2 h3 (.inr ⟨_, _, rfl⟩)
      · rename_i d ie hs ha h3 h2
        split
        · rename_i hz; exact opIndex1_ok _ _ h1 h2 h3 (fun f hd => hs f (by rw [hd])) (fun n e hd => ha n e (by rw [hd])) hz
        · exact .bad
      · exact .bad
    · exact opIdxSlow_ok _ _
    · exact .bad
  · split
    · rename_i kt et h1
      split
      · rename_i ie h2
        split
        · rename_i z h3
          split
          · rename_i h4; exact opLookup_ok _ _ _ h1 h2 h3 h4
          · exact .bad
        · exact .bad
      · exact .bad
    · exact .bad
  · split
    · rename_i kt et h1; exact opMapUpdate_ok _ _ _ h1
    · exact .bad
  · exact opExtract_ok _ _
  · split
    · exact compLen_ok _ _
    · exact .bad
  · exact opMm_ok false _
  · exact opMm_ok true _
  · split
    · exact compCap_ok _ _
    · exact .bad
  · split
    · exact compAppend_ok _ _ _
    · exact .bad
  · simp [isCall] at hc
  · exact .bad
end
end Go.Xe
