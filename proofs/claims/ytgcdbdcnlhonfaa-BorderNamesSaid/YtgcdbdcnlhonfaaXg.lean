/- An executable reading of the model's code over an abstract heap (part 7): one operation that calls no function. Conditions: none. -/
import Derived.Test.YtgcdbdcnlhonfaaXf
namespace Go.Xe
open Go
def xeqAgg (P : Program) (neg : Bool) (t : TypeId) (x y : Value) : Option Value :=
  match P.underlying t, x, y with
  | some (.struct _), .agg _, .agg _ | some (.array _ _), .agg _, .agg _ =>
    if keyedB P t = true ∧ keyishV x = true ∧ keyishV y = true ∧ (keyOf P t x).isSome = true ∧ (keyOf P t y).isSome = true ∧ P.eqGuardType P.depth t = false then
      some (.bool (if neg then !valEq x y else valEq x y))
    else none
  | _, _, _ => none
theorem xeqAgg_ok {P : Program} {θ : Th} {neg : Bool} {t : TypeId} {x x' y y' v : Value} {ox oy : Operand} (h : xeqAgg P neg t x y = some v) (hx : VR θ x x') (hy : VR θ y y') (w : World) :
    ∃ v', (do eqGuard (if neg then .neq else .eql) t ox oy x' y'; binOp (if neg then .neq else .eql) t x' y' : Sem Value).run P w = .ok v' w ∧ VR θ v v' := by
  have main : ∀ (xs ys : Array Value), x = .agg xs → y = .agg ys → (match P.underlying t with | some (.array _ _) | some (.struct _) => true | _ => false) = true →
      keyedB P t = true ∧ keyishV x = true ∧ keyishV y = true ∧ (keyOf P t x).isSome = true ∧ (keyOf P t y).isSome = true ∧ P.eqGuardType P.depth t = false → v = .bool (if neg then !valEq x y else valEq x y) →
      ∃ v', (do eqGuard (if neg then .neq else .eql) t ox oy x' y'; binOp (if neg then .neq else .eql) t x' y' : Sem Value).run P w = .ok v' w ∧ VR θ v v' := by
    rintro xs ys rfl rfl hwide ⟨h1, h2, h3, h4, h5, h6⟩ rfl
    obtain rfl := hx.keyish h2
    obtain rfl := hy.keyish h3
    have K := keyed_of h1
    obtain ⟨lx, hlx⟩ := Option.isSome_iff_exists.1 h4
    obtain ⟨ly, hly⟩ := Option.isSome_iff_exists.1 h5
    have hkt : P.keyTypeAt 8 t = true := by
      unfold keyedB at h1
      split at h1 <;> simp_all
    obtain ⟨r, hr, hri⟩ := run_equal_deep (P := P) w (m := 8) (by omega) hkt hwide hlx hly
    have hg : ∀ op, (eqGuard op t ox oy (.agg xs) (.agg ys)).run P w = .ok () w := by
      intro op
      unfold eqGuard
      cases op <;> first | rfl | simp [h6]
    have hrv : r = valEq (.agg xs) (.agg ys) := by
      rw [Bool.eq_iff_iff, hri]
      constructor
      · rintro rfl
        rw [K.inj hlx hly]; exact valEq_refl h3
      · intro hv
        rw [valEq_eq hv, hly] at hlx
        exact (Option.some.inj hlx).symm
    cases neg
    · refine ⟨.bool (valEq (.agg xs) (.agg ys)), ?_, .bool _⟩
      have hb : (binOp .eql t (.agg xs) (.agg ys)).run P w = .ok (.bool (valEq (.agg xs) (.agg ys))) w := by
        show (do pure (.bool (← Op.equal t (.agg xs) (.agg ys))) : Sem Value).run P w = _
        simp only [Sem.run_bind, hr, Result.andThen_ok, Sem.run_pure, hrv]
      simp only [Bool.false_eq_true, if_false, Sem.run_bind, hg, Result.andThen_ok, hb]
    · refine ⟨.bool (!valEq (.agg xs) (.agg ys)), ?_, .bool _⟩
      have hb : (binOp .neq t (.agg xs) (.agg ys)).run P w = .ok (.bool (!valEq (.agg xs) (.agg ys))) w := by
        show (do pure (.bool (!(← Op.equal t (.agg xs) (.agg ys)))) : Sem Value).run P w = _
        simp only [Sem.run_bind, hr, Result.andThen_ok, Sem.run_pure, hrv]
      simp only [if_true, Sem.run_bind, hg, Result.andThen_ok, hb]
  unfold xeqAgg at h
  split at h
  · rename_i hu
    split at h
    · rename_i hc
      exact main _ _ rfl rfl (by rw [hu]) hc (Option.some.inj h).symm
    · cases h
  · rename_i hu
    split at h
    · rename_i hc
      exact main _ _ rfl rfl (by rw [hu]) hc (Option.some.inj h).symm
    · cases h
  · cases h
def xeqNil (P : Program) (neg : Bool) (t : TypeId) (x y : Value) : Option Value :=
  match P.underlying t, x, y with
  | some (.slice _), .slice a _ _, .slice none _ _ => some (.bool (if neg then !a.isNone else a.isNone))
  | some (.pointer _), .pointer a, .pointer none => some (.bool (if neg then !a.isNone else a.isNone))
  | _, _, _ => none
theorem xeqNil_ok {P : Program} {θ : Th} {neg : Bool} {t : TypeId} {x x' y y' v : Value} {ox oy : Operand} (h : xeqNil P neg t x y = some v) (hx : VR θ x x') (hy : VR θ y y') (w : World) :
    ∃ v', (do eqGuard (if neg then .neq else .eql) t ox oy x' y'; binOp (if neg then .neq else .eql) t x' y' : Sem Value).run P w = .ok v' w ∧ VR θ v v' := by
  unfold xeqNil at h
  have hg1 : ∀ op a n c b m d, (eqGuard op t ox oy (.slice a n c) (.slice b m d)).run P w = .ok () w := by
    intro op a n c b m d
    unfold eqGuard; cases op <;> rfl
  have hg2 : ∀ op a b, (eqGuard op t ox oy (.pointer a) (.pointer b)).run P w = .ok () w := by
    intro op a b
    unfold eqGuard; cases op <;> rfl
  split at h
  · rename_i e a n c m d hu
    cases h
    have hs' : ∀ q a' n' c', (Op.equalIn (q + 1) t (.slice a' n' c') (.slice none m d)).run P w = .ok a'.isNone w := by
      intro q a' n' c'
      cases a' <;> simp [Op.equalIn, run_underlying hu]
    have hs : ∀ a' n' c', (Op.equal t (.slice a' n' c') (.slice none m d)).run P w = .ok a'.isNone w := fun a' n' c' => hs' 9999 a' n' c'
    have hb : ∀ a' n' c', (do eqGuard (if neg then .neq else .eql) t ox oy (.slice a' n' c') (.slice none m d); binOp (if neg then .neq else .eql) t (.slice a' n' c') (.slice none m d) : Sem Value).run P w = .ok (.bool (if neg then !a'.isNone else a'.isNone)) w := by
      intro a' n' c'
      cases neg
      · simp only [Bool.false_eq_true, if_false, Sem.run_bind, hg1, Result.andThen_ok]
        show (do pure (.bool (← Op.equal t (.slice a' n' c') (.slice none m d))) : Sem Value).run P w = _
        simp only [Sem.run_bind, hs, Result.andThen_ok, Sem.run_pure]
      · simp only [if_true, Sem.run_bind, hg1, Result.andThen_ok]
        show (do pure (.bool (!(← Op.equal t (.slice a' n' c') (.slice none m d)))) : Sem Value).run P w = _
        simp only [Sem.run_bind, hs, Result.andThen_ok, Sem.run_pure]
    cases hy with
    | snil =>
      cases hx with
      | snil => exact ⟨_, hb _ _ _, .bool _⟩
      | slice => exact ⟨_, hb _ _ _, .bool _⟩
      | sempty => exact ⟨_, hb _ _ _, .bool _⟩
  · rename_i e a hu
    cases h
    have hs' : ∀ q a', (Op.equalIn (q + 1) t (.pointer a') (.pointer none)).run P w = .ok a'.isNone w := by
      intro q a'
      cases a' <;> simp [Op.equalIn, run_underlying hu]
    have hs : ∀ a', (Op.equal t (.pointer a') (.pointer none)).run P w = .ok a'.isNone w := fun a' => hs' 9999 a'
    have hb : ∀ a', (do eqGuard (if neg then .neq else .eql) t ox oy (.pointer a') (.pointer none); binOp (if neg then .neq else .eql) t (.pointer a') (.pointer none) : Sem Value).run P w = .ok (.bool (if neg then !a'.isNone else a'.isNone)) w := by
      intro a'
      cases neg
      · simp only [Bool.false_eq_true, if_false, Sem.run_bind, hg2, Result.andThen_ok]
        show (do pure (.bool (← Op.equal t (.pointer a') (.pointer none))) : Sem Value).run P w = _
        simp only [Sem.run_bind, hs, Result.andThen_ok, Sem.run_pure]
      · simp only [if_true, Sem.run_bind, hg2, Result.andThen_ok]
        show (do pure (.bool (!(← Op.equal t (.pointer a') (.pointer none)))) : Sem Value).run P w = _
        simp only [Sem.run_bind, hs, Result.andThen_ok, Sem.run_pure]
    cases hy with
    | pnil =>
      cases hx with
      | pnil => exact ⟨_, hb _, .bool _⟩
      | ptr => exact ⟨_, hb _, .bool _⟩
  · cases h
def beqL : List UInt8 → List UInt8 → Bool
  | [], [] => true
  | a :: x, b :: y => match Nat.beq a.toNat b.toNat with
    | true => beqL x y
    | false => false
  | _, _ => false
theorem beqL_eq : ∀ a b : List UInt8, beqL a b = (a == b)
  | [], [] => rfl
  | [], _ :: _ => rfl
  | _ :: _, [] => rfl
  | a :: x, b :: y => by
    have h : Nat.beq a.toNat b.toNat = (a == b) := by
      rw [Bool.eq_iff_iff, Nat.beq_eq, beq_iff_eq]
      exact ⟨fun h => UInt8.toNat_inj.1 h, fun h => by rw [h]⟩
    simp only [beqL, h, beqL_eq x y, List.cons_beq_cons]
    cases a == b <;> rfl
def xbinStr (op : BinOp) (x y : Value) : Option Value :=
  match x, y with
  | .string a, .string b => match op with
    | .add => if a.data.toList.length + b.data.toList.length ≤ 2 ^ 40 then some (.string ⟨⟨a.data.toList ++ b.data.toList⟩⟩) else none
    | .eql => some (.bool (beqL a.data.toList b.data.toList))
    | .neq => some (.bool (!beqL a.data.toList b.data.toList))
    | .lss => some (.bool (Op.bytesLess a.data.toList b.data.toList))
    | .leq => some (.bool (Op.bytesLess a.data.toList b.data.toList || beqL a.data.toList b.data.toList))
    | .gtr => some (.bool (!(Op.bytesLess a.data.toList b.data.toList || beqL a.data.toList b.data.toList)))
    | .geq => some (.bool (!Op.bytesLess a.data.toList b.data.toList))
    | _ => none
  | _, _ => none
theorem xbinStr_ok {P : Program} {θ : Th} {op : BinOp} {t : TypeId} {x y : Value} {x' y' : Value} {ox oy : Operand} {v : Value} (h : xbinStr op x y = some v)
    (hx : VR θ x x') (hy : VR θ y y') (w : World) : ∃ v', (do eqGuard op t ox oy x' y'; binOp op t x' y' : Sem Value).run P w = .ok v' w ∧ VR θ v v' := by
  cases hx with
  | string a =>
    cases hy with
    | string b =>
      have hg : (eqGuard op t ox oy (.string a) (.string b)).run P w = .ok () w := by
        unfold eqGuard; cases op <;> rfl
      have ha : a.toList = a.data.toList := ByteArray.toList_eq a
      have hb : b.toList = b.data.toList := ByteArray.toList_eq b
      simp only [Sem.run_bind, hg, Result.andThen_ok]
      cases op with
      | add =>
        simp only [xbinStr] at h
        split at h
        · rename_i hs
          cases h
          refine ⟨_, ?_, .string _⟩
          have e : a ++ b = ⟨⟨a.data.toList ++ b.data.toList⟩⟩ := by
            apply ByteArray.ext
            rw [ByteArray.data_append]
            apply Array.toList_inj.1
            simp
          have hs' : ¬ (((a.size + b.size : Nat) : Int) > IntKind.i64.max) := by
            have h1 : a.size = a.data.toList.length := (Array.length_toList).symm
            have h2 : b.size = b.data.toList.length := (Array.length_toList).symm
            have h3 : IntKind.i64.max = 9223372036854775807 := by decide
            rw [h1, h2, h3]; omega
          simp only [binOp, Op.stringOp, if_neg hs', Sem.run_pure, e]
        · cases h
      | eql => simp only [xbinStr, beqL_eq] at h; cases h; exact ⟨_, by simp only [binOp, Op.stringOp, Sem.run_pure, ha, hb], .bool _⟩
      | neq => simp only [xbinStr, beqL_eq] at h; cases h; exact ⟨_, by simp only [binOp, Op.stringOp, Sem.run_pure, ha, hb], .bool _⟩
      | lss => simp only [xbinStr] at h; cases h; exact ⟨_, by simp only [binOp, Op.stringOp, Sem.run_pure, ha, hb], .bool _⟩
      | leq => simp only [xbinStr, beqL_eq] at h; cases h; exact ⟨_, by simp only [binOp, Op.stringOp, Sem.run_pure, ha, hb], .bool _⟩
      | gtr => simp only [xbinStr, beqL_eq] at h; cases h; exact ⟨_, by simp only [binOp, Op.stringOp, Sem.run_pure, ha, hb], .bool _⟩
      | geq => simp only [xbinStr] at h; cases h; exact ⟨_, by simp only [binOp, Op.stringOp, Sem.run_pure, ha, hb], .bool _⟩
      | _ => simp [xbinStr] at h
    | _ => simp [xbinStr] at h
  | _ => simp [xbinStr] at h
def xbinOp (P : Program) (op : BinOp) (t : TypeId) (x y : Value) : Option Value :=
  match xbin P op t x y with
  | some v => some v
  | none => match xbinStr op x y with
   | some v => some v
   | none => match op with
    | .eql => match xeqNil P false t x y with
      | some v => some v
      | none => xeqAgg P false t x y
    | .neq => match xeqNil P true t x y with
      | some v => some v
      | none => xeqAgg P true t x y
    | _ => none
theorem xbinOp_ok {P : Program} {θ : Th} {op : BinOp} {t : TypeId} {x y : Value} {x' y' : Value} {ox oy : Operand} {v : Value} (h : xbinOp P op t x y = some v)
    (hx : VR θ x x') (hy : VR θ y y') (w : World) : ∃ v', (do eqGuard op t ox oy x' y'; binOp op t x' y' : Sem Value).run P w = .ok v' w ∧ VR θ v v' := by
  unfold xbinOp at h
  split at h
  · rename_i hb; cases h; exact xbin_ok hb hx hy w
  split at h
  · rename_i hb; cases h; exact xbinStr_ok hb hx hy w
  · split at h
    · split at h
      · rename_i hq; cases h; exact xeqNil_ok (neg := false) hq hx hy w
      · exact xeqAgg_ok (neg := false) h hx hy w
    · split at h
      · rename_i hq; cases h; exact xeqNil_ok (neg := true) hq hx hy w
      · exact xeqAgg_ok (neg := true) h hx hy w
    · cases h
def xnil (x : Value) : Option Value :=
  match x with
  | .pointer (some a) => some (.pointer (some a))
  | .func (.func f) a b => some (.func (.func f) a b)
  | _ => none
def xmkFunc (fn : Fn) (a b : Array Value) : Option Value :=
  match fn with
  | .func f => some (.func (.func f) a b)
  | _ => none
def strideOk (P : Program) (H : Heap) (t : TypeId) (x : Value) : Bool :=
  match x with
  | .slice (some ⟨i, _, none⟩) _ _ => match H.cellsAt i, P.underlying t with
    | some (_, el, true), some (.slice e) => P.cellsOf el == P.cellsOf e
    | some (_, _, false), _ => true
    | _, _ => false
  | _ => true
def xbuiltin (P : Program) (H : Heap) (b : Builtin) (ts : List TypeId) (args : List Value) : Option (Value × Heap) :=
  match b, ts, args with
  | .len, t :: _, [x] => (xlen P H t x).map (·, H)
  | .min, _, xs => (xmm false xs).map (·, H)
  | .max, _, xs => (xmm true xs).map (·, H)
  | .cap, t :: _, [x] => (xcap P t x).map (·, H)
  | .append, [t, u], [s, x] => match P.underlying u with
    | some (.int _) => xappendMake P H t s x
    | _ => xappend P H t u s x
  | .clear, [t], [x] => xclear P H t x
  | .copy, [t, _], [d, s] => xcopy P H t d s
  | _, _, _ => none
def xop (P : Program) (H : Heap) (ρ : Operand → Value) (op : Op) : Option (Value × Heap) :=
  match op with
  | .move x | .assign x => some (ρ x, H)
  | .pick c a b => match ρ c with
    | .bool t => some (if t then ρ a else ρ b, H)
    | _ => none
  | .alloc e => xalloc P H e
  | .box e x => xbox H e (ρ x)
  | .build t parts => (xbuild P t (xparts ρ parts)).map (·, H)
  | .buildSlice t len parts => xbuildSlice P H t len (xparts ρ parts)
  | .load t a => (xload P H t (ρ a)).map (·, H)
  | .store t a x => (xstore P H t (ρ a) (ρ x)).map (undef, ·)
  | .nilCheck x => (xnil (ρ x)).map (·, H)
  | .binOp op t x y _ => (xbinOp P op t (ρ x) (ρ y)).map (·, H)
  | .unOp op _ x => (xun op (ρ x)).map (·, H)
  | .convert src dst x => (xconv P src dst (ρ x)).map (·, H)
  | .makeFunc fn a b => (xmkFunc fn (a.map ρ) (b.map ρ)).map (·, H)
  | .makeMap t r => xmakeMap P H t (r.map ρ)
  | .makeSlice t l c => xmakeSlice P H t (ρ l) (ρ c)
  | .slice t x lo hi mx => if strideOk P H t (ρ x) then (xslice P t (ρ x) (lo.map ρ) (hi.map ρ) (mx.map ρ)).map (·, H) else none
  | .fieldAddr s x f => (xfieldAddr P s (ρ x) f).map (·, H)
  | .field t x f => (xfield P t (ρ x) f).map (·, H)
  | .indexAddr t x i => (xindexAddr P t (ρ x) (ρ i)).map (·, H)
  | .index t x i => (xindex P t (ρ x) (ρ i)).map (·, H)
  | .lookup t x k ok => (xlookup P H t (ρ x) (ρ k) ok).map (·, H)
  | .mapUpdate t m k x | .insert t m k x => (xmapUpdate P H t (ρ m) (ρ k) (ρ x)).map (undef, ·)
  | .extract x i => (xextract (ρ x) i).map (·, H)
  | .call { callee := .builtin b, args, argTypes } => xbuiltin P H b argTypes.toList (args.map ρ).toList
  | _ => none
def OpOk (P : Program) (θ : Th) (w : World) (s : Sem Next) (v : Value) (H' : Heap) : Prop :=
  ∃ n w' θ', s.run P w = .ok n w' ∧ Stp θ w θ' w' ∧ Rel P θ' H' w' ∧ ((∃ v', n = .value v' ∧ VR θ' v v') ∨ (n = .skip ∧ v = undef))
theorem OpOk.of_value {P : Program} {θ : Th} {H : Heap} {w : World} (hr : Rel P θ H w) {s : Sem Value} {v : Value} (h : ∃ v', s.run P w = .ok v' w ∧ VR θ v v') :
    OpOk P θ w (do pure (.value (← s))) v H := by
  obtain ⟨v', h1, h2⟩ := h
  exact ⟨_, w, θ, by simp only [Sem.run_bind, h1, Result.andThen_ok, Sem.run_pure], Stp.refl _ _, hr, .inl ⟨v', rfl, h2⟩⟩
theorem OpOk.of_new {P : Program} {θ : Th} {H' : Heap} {w : World} {s : Sem Value} {v : Value} (h : NewOk P θ w s v H') : OpOk P θ w (do pure (.value (← s))) v H' := by
  obtain ⟨v', w', θ', h1, h2, h3, h4⟩ := h
  exact ⟨_, w', θ', by simp only [Sem.run_bind, h1, Result.andThen_ok, Sem.run_pure], h2, h3, .inl ⟨v', rfl, h4⟩⟩
theorem OpOk.of_unit {P : Program} {θ : Th} {H' : Heap} {w : World} {s : Sem Unit} (h : ∃ w', s.run P w = .ok () w' ∧ Rel P θ H' w' ∧ Stp θ w θ w') : OpOk P θ w (do s; pure .skip) undef H' := by
  obtain ⟨w', h1, h2, h3⟩ := h
  exact ⟨_, w', θ, by simp only [Sem.run_bind, h1, Result.andThen_ok, Sem.run_pure], h3, h2, .inr ⟨rfl, rfl⟩⟩
theorem map_fst {v : Value} {H H' : Heap} {x : Option Value} (h : x.map (·, H) = some (v, H')) : x = some v ∧ H' = H := by
  cases x with
  | none => cases h
  | some y => simp at h; exact ⟨by rw [h.1], h.2.symm⟩
theorem map_snd {v : Value} {H' : Heap} {x : Option Heap} (h : x.map (undef, ·) = some (v, H')) : x = some H' ∧ v = undef := by
  cases x with
  | none => cases h
  | some y => simp at h; exact ⟨by rw [h.2], h.1.symm⟩
theorem xop_ok {P : Program} {θ : Th} {H H' : Heap} {w : World} (hr : Rel P θ H w) {ρ ρ' : Operand → Value} (hρ : ∀ x, VR θ (ρ x) (ρ' x)) {o : Oper} {v : Value} (h : xop P H ρ o.op = some (v, H')) :
    OpOk P θ w (execOp ρ' o) v H' := by
  obtain ⟨dst, op, type, pos, after, guard⟩ := o
  simp only at h
  cases op with
  | move x =>
    simp only [xop] at h; cases h
    exact ⟨_, w, θ, rfl, Stp.refl _ _, hr, .inl ⟨_, rfl, hρ x⟩⟩
  | assign x =>
    simp only [xop] at h; cases h
    exact ⟨_, w, θ, rfl, Stp.refl _ _, hr, .inl ⟨_, rfl, hρ x⟩⟩
  | pick c a b =>
    simp only [xop] at h
    have hc := hρ c
    split at h
    · rename_i t ht
      cases h
      rw [ht] at hc
      generalize hc' : ρ' c = c' at hc
      cases hc
      refine ⟨.value (if t then ρ' a else ρ' b), w, θ, by simp [execOp, hc', asBool], Stp.refl _ _, hr, .inl ⟨_, rfl, ?_⟩⟩
      cases t
      · exact hρ b
      · exact hρ a
    · cases h
  | alloc e => exact OpOk.of_new (xalloc_ok hr h)
  | box e x => exact OpOk.of_new (xbox_ok hr h (hρ x))
  | build t parts => obtain ⟨h1, rfl⟩ := map_fst h; exact OpOk.of_value hr (xbuild_ok h1 hρ w)
  | buildSlice t len parts => exact OpOk.of_new (xbuildSlice_ok hr h hρ)
  | load t a => obtain ⟨h1, rfl⟩ := map_fst h; exact OpOk.of_value hr (xload_ok hr h1 (hρ a))
  | store t a x => obtain ⟨h1, rfl⟩ := map_snd h; exact OpOk.of_unit (xstore_ok hr h1 (hρ a) (hρ x))
  | nilCheck x =>
    obtain ⟨h1, rfl⟩ := map_fst h
    have hx := hρ x
    unfold xnil at h1
    split at h1
    · rename_i a ha
      cases h1
      rw [ha] at hx
      generalize hc' : ρ' x = c' at hx
      refine ⟨.value c', w, θ, ?_, Stp.refl _ _, hr, .inl ⟨_, rfl, hx⟩⟩
      cases hx
      simp [execOp, hc']
    · rename_i f a b ha
      cases h1
      rw [ha] at hx
      generalize hc' : ρ' x = c' at hx
      refine ⟨.value c', w, θ, ?_, Stp.refl _ _, hr, .inl ⟨_, rfl, hx⟩⟩
      cases hx with
      | func hf => cases hf; simp [execOp, hc']
    · cases h1
  | binOp op t x y yt => obtain ⟨h1, rfl⟩ := map_fst h; exact OpOk.of_value hr (xbinOp_ok h1 (hρ x) (hρ y) w)
  | unOp op t x => obtain ⟨h1, rfl⟩ := map_fst h; exact OpOk.of_value hr (xun_ok h1 (hρ x) w)
  | convert src dst x => obtain ⟨h1, rfl⟩ := map_fst h; exact OpOk.of_value hr (xconv_ok h1 (hρ x) w)
  | makeFunc fn a b =>
    obtain ⟨h1, rfl⟩ := map_fst h
    unfold xmkFunc at h1
    split at h1
    · cases h1
      refine OpOk.of_value hr ⟨_, rfl, ?_⟩
      have ha := AR.map ρ ρ' a hρ
      have hb := AR.map ρ ρ' b hρ
      exact .func (.same _ (fun l => by simp)) ha.1 ha.2 hb.1 hb.2
    · cases h1
  | makeMap t r => exact OpOk.of_new (xmakeMap_ok hr h (OV.map hρ r))
  | makeSlice t l c => exact OpOk.of_new (xmakeSlice_ok hr h (hρ l) (hρ c))
  | slice t x lo hi mx =>
    simp only [xop] at h
    split at h
    · rename_i hs
      obtain ⟨h1, rfl⟩ := map_fst h
      refine OpOk.of_value hr (xslice_ok h1 (hρ x) (OV.map hρ lo) (OV.map hρ hi) (OV.map hρ mx) ?_ w)
      intro i o n c p e inf hx hp hrw hu hi
      rw [hx] at hs
      simp only [strideOk, hu] at hs
      split at hs
      · rename_i el e' hc he'
        cases he'
        obtain ⟨_, q, hq, c', el', fz, _, _, hfz, _⟩ := hr.cells hc
        rw [hp] at hq; cases hq
        rw [(hfz rfl).2.2.2, beq_iff_eq.1 hs]
        simp [Program.cellsOf, hi]
      · rename_i hc
        obtain ⟨_, q, hq, c', el', fz, _, hqrw, _⟩ := hr.cells hc
        rw [hp] at hq; cases hq
        rw [hrw] at hqrw; cases hqrw
      · cases hs
    · cases h
  | fieldAddr s x f => obtain ⟨h1, rfl⟩ := map_fst h; exact OpOk.of_value hr (xfieldAddr_ok h1 (hρ x) w)
  | field t x f => obtain ⟨h1, rfl⟩ := map_fst h; exact OpOk.of_value hr (xfield_ok h1 (hρ x) w)
  | indexAddr t x i => obtain ⟨h1, rfl⟩ := map_fst h; exact OpOk.of_value hr (xindexAddr_ok h1 (hρ x) (hρ i) w)
  | index t x i => obtain ⟨h1, rfl⟩ := map_fst h; exact OpOk.of_value hr (xindex_ok h1 (hρ x) (hρ i) w)
  | lookup t x k ok => obtain ⟨h1, rfl⟩ := map_fst h; exact OpOk.of_value hr (xlookup_ok hr h1 (hρ x) (hρ k))
  | mapUpdate t m k x => obtain ⟨h1, rfl⟩ := map_snd h; exact OpOk.of_unit (xmapUpdate_ok hr h1 (hρ m) (hρ k) (hρ x))
  | insert t m k x => obtain ⟨h1, rfl⟩ := map_snd h; exact OpOk.of_unit (xmapUpdate_ok hr h1 (hρ m) (hρ k) (hρ x))
  | extract x i => obtain ⟨h1, rfl⟩ := map_fst h; exact OpOk.of_value hr (xextract_ok h1 (hρ x) w)
  | call c =>
    obtain ⟨callee, args, argTypes⟩ := c
    cases callee with
    | builtin b =>
      simp only [xop] at h
      have har := AR.map ρ ρ' args hρ
      have hrun : ∀ (s : Sem Value), OpOk P θ w (do pure (.value (← s))) v H' →
          (∀ consts, builtin b argTypes type consts (args.map ρ') = (do pure (.value (← s)))) → OpOk P θ w (execOp ρ' ⟨dst, .call ⟨.builtin b, args, argTypes⟩, type, pos, after, guard⟩) v H' := by
        intro s hs he
        obtain ⟨n, w', θ', h1, h2⟩ := hs
        refine ⟨n, w', θ', ?_, h2⟩
        simp only [execOp, resolve, Sem.run_bind, Sem.run_pure, Result.andThen_ok, invoke, he]
        simpa only [Sem.run_bind, Sem.run_pure] using h1
      unfold xbuiltin at h
      split at h
      · rename_i t ts x hts hargs
        obtain ⟨h1, rfl⟩ := map_fst h
        have h0 : argTypes[0]? = some t := by rw [← Array.getElem?_toList, hts]; rfl
        have hx0 : (args.map ρ)[0]? = some x := by rw [← Array.getElem?_toList, hargs]; rfl
        obtain ⟨x', hx', hxr⟩ := har.get hx0
        exact hrun _ (OpOk.of_value hr (xlen_ok hr h1 hxr h0 hx')) (fun _ => rfl)
      · obtain ⟨h1, rfl⟩ := map_fst h
        exact hrun _ (OpOk.of_value hr (xmin_ok h1 har w)) (fun _ => rfl)
      · obtain ⟨h1, rfl⟩ := map_fst h
        exact hrun _ (OpOk.of_value hr (xmax_ok h1 har w)) (fun _ => rfl)
      · rename_i t ts x hts hargs
        obtain ⟨h1, rfl⟩ := map_fst h
        have h0 : argTypes[0]? = some t := by rw [← Array.getElem?_toList, hts]; rfl
        have hx0 : (args.map ρ)[0]? = some x := by rw [← Array.getElem?_toList, hargs]; rfl
        obtain ⟨x', hx', hxr⟩ := har.get hx0
        exact hrun _ (OpOk.of_value hr (xcap_ok h1 hxr h0 hx')) (fun _ => rfl)
      · rename_i t u s x hts hargs
        have e1 : argTypes = #[t, u] := Array.toList_inj.1 (by rw [hts])
        obtain ⟨s', x', hl, hs, hx⟩ := har.two hargs
        have e2 : args.map ρ' = #[s', x'] := Array.toList_inj.1 (by rw [hl])
        split at h
        · rename_i kd hu2
          have := xappendMake_ok (ty := type) hr hu2 h hs hx
          refine hrun _ (OpOk.of_new this) (fun consts => ?_)
          rw [e1, e2]; rfl
        · have := xappend_ok (ty := type) hr h hs hx
          refine hrun _ (OpOk.of_new this) (fun consts => ?_)
          rw [e1, e2]; rfl
      · rename_i t x hts hargs
        have e1 : argTypes = #[t] := Array.toList_inj.1 (by rw [hts])
        have hx0 : (args.map ρ)[0]? = some x := by rw [← Array.getElem?_toList, hargs]; rfl
        obtain ⟨x', hx', hxr⟩ := har.get hx0
        have hsz : (args.map ρ').size = 1 := by rw [← har.1, ← Array.length_toList, hargs]; rfl
        have e2 : args.map ρ' = #[x'] := by
          apply Array.ext'
          apply List.ext_getElem?
          intro i
          cases i with
          | zero => simpa using hx'
          | succ i => rw [List.getElem?_eq_none (by rw [Array.length_toList, hsz]; omega)]; simp
        refine hrun _ (OpOk.of_new (xclear_ok (ty := type) hr h hxr)) (fun consts => ?_)
        rw [e1, e2]; rfl
      · rename_i t u d s hts hargs
        have e1 : argTypes = #[t, u] := Array.toList_inj.1 (by rw [hts])
        obtain ⟨d', s', hl, hd, hs⟩ := har.two hargs
        have e2 : args.map ρ' = #[d', s'] := Array.toList_inj.1 (by rw [hl])
        refine hrun _ (OpOk.of_new (xcopy_ok (u := u) (ty := type) hr h hd hs)) (fun consts => ?_)
        rw [e1, e2]; rfl
      · cases h
    | _ => simp [xop] at h
  | _ => simp [xop] at h
end Go.Xe
