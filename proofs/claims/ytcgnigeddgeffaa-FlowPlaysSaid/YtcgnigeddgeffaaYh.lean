/- Tables and truths that come in: what lies where. Conditions: none. -/
import Derived.Test.YtcgnigeddgeffaaTGJ
import Derived.Test.YtcgnigeddgeffaaZm
import Derived.WideShapes
import Derived.ChangeSame
import Derived.Below
namespace Go.Xe.TFX
open Go Go.Xe Go.Proofs
open Go.Xe.Flw
abbrev shR : Sh := .pair (.int .i64) (.pair (.int .i64) .unit)
abbrev shRs : Sh := .slice 2 shR
abbrev shT : Sh := .pair (.slice 1 shRs) (.pair shRs (.pair shRs (.pair shRs .unit)))
abbrev shIs : Sh := .slice 1 (.int .i64)
abbrev shX' : Sh := .pair shIs (.pair shIs (.pair (.slice 1 shIs) (.pair (.slice 1 shIs) .unit)))
theorem rs_of {A : Heap} {cs : List Value} {y : Ty shRs} (h : Sem A shRs cs y) : ∃ v L, cs = [v] ∧ RS A v L := by
  obtain ⟨v, rows, rfl, h1, h2, _, h3⟩ := h
  refine ⟨v, y.map fun x => (x.1, x.2.1), rfl, ?_⟩
  have e : rows = (y.map fun x => (x.1, x.2.1)).map r2 := by
    apply List.ext_getElem
    · simp [h2]
    · intro k k1 k2
      have hk : k < y.length := by omega
      obtain ⟨c1, c2, e1, ⟨rfl, _⟩, d1, d2, e2, ⟨rfl, _⟩, e3⟩ := h3 k rows[k] y[k] (by simp) (by simp [hk])
      rw [e1, e2, e3]
      simp [r2]
  have := h1.sw
  rw [e] at this
  exact this
theorem ri_of {A : Heap} {cs : List Value} {y : Ty shIs} (h : Sem A shIs cs y) : ∃ v L, cs = [v] ∧ RI A v L := by
  obtain ⟨v, rows, rfl, h1, h2, _, h3⟩ := h
  refine ⟨v, y, rfl, ?_⟩
  have e : rows = ((y : List Int).map I).map fun x => [x] := by
    apply List.ext_getElem
    · simp [h2]
    · intro k k1 k2
      have hk : k < (y : List Int).length := by omega
      obtain ⟨e1, _⟩ := h3 k rows[k] ((y : List Int)[k]) (by simp) (by simp [hk])
      rw [e1]
      simp
  rw [e] at h1
  exact h1.one
theorem nest_of {α : Type} {s : Sh} {R : Heap → Value → α → Prop} {A : Heap} (hR : ∀ cs y, Sem A s cs y → ∃ v L, cs = [v] ∧ R A v L) {cs : List Value} {y : Ty (.slice 1 s)} (h : Sem A (.slice 1 s) cs y) : ∃ v L, cs = [v] ∧ Nest R A v L := by
  obtain ⟨v, rows, rfl, h1, h2, _, h3⟩ := h
  obtain ⟨Z, hz1, hz2⟩ := list_of (α := Value × α) (p := fun i x => rows[i]? = some [x.1] ∧ R A x.1 x.2) rows.length (fun i hi => by
    have hk : i < (y : List (Ty s)).length := by omega
    obtain ⟨v, L, e, hr⟩ := hR _ _ (h3 i rows[i] ((y : List (Ty s))[i]) (by simp) (by simp [hk]))
    exact ⟨(v, L), by simp [hi, e], hr⟩)
  refine ⟨v, Z.map (·.2), rfl, Z.map (·.1), ?_, by simp, ?_⟩
  · have e : rows = (Z.map (·.1)).map fun x => [x] := by
      apply List.ext_getElem
      · simp [hz1]
      · intro k k1 k2
        have := (hz2 k Z[k] (by simp [hz1, k1])).1
        rw [List.getElem?_eq_getElem k1, Option.some.injEq] at this
        rw [this]
        simp
    rw [e] at h1
    exact h1.one
  · intro k x r hx hr
    rw [List.getElem?_map] at hx hr
    cases hq : Z[k]? with
    | none => rw [hq] at hx; cases hx
    | some q =>
      rw [hq] at hx hr
      cases hx; cases hr
      exact (hz2 k q hq).2
theorem tv_of {A : Heap} {l : List Value} {y : Ty shT} (h : Sem A shT l y) : ∃ c b r n T, l = [c, b, r, n] ∧ TV A c b r n T := by
  obtain ⟨c1, c2, rfl, h1, d1, d2, rfl, h2, e1, e2, rfl, h3, f1, f2, rfl, h4, h5⟩ := h
  obtain ⟨c, C, rfl, hc⟩ := nest_of (R := RS) (fun cs y h => rs_of h) h1
  obtain ⟨b, B, rfl, hb⟩ := rs_of h2
  obtain ⟨r, Rt, rfl, hr⟩ := rs_of h3
  obtain ⟨n, N, rfl, hn⟩ := rs_of h4
  have h5' : f2 = [] := h5
  subst h5'
  exact ⟨c, b, r, n, ⟨C, B, Rt, N⟩, rfl, hc, hb, hr, hn⟩
theorem xv_of {A : Heap} {l : List Value} {y : Ty shX'} (h : Sem A shX' l y) : ∃ f e d o X, l = [f, e, d, o] ∧ XV A f e d o X := by
  obtain ⟨c1, c2, rfl, h1, d1, d2, rfl, h2, e1, e2, rfl, h3, f1, f2, rfl, h4, h5⟩ := h
  obtain ⟨f, F, rfl, hf⟩ := ri_of h1
  obtain ⟨b, B, rfl, hb⟩ := ri_of h2
  obtain ⟨d, D, rfl, hd⟩ := nest_of (R := RI) (fun cs y h => ri_of h) h3
  obtain ⟨o, M, rfl, ho⟩ := nest_of (R := RI) (fun cs y h => ri_of h) h4
  have h5' : f2 = [] := h5
  subst h5'
  exact ⟨f, b, d, o, ⟨F, B, D, M⟩, rfl, hf, hb, hd, ho⟩
end Go.Xe.TFX
/- Rules of reasoning over the executable reading of the model's code (part Z16): arguments, by what their types allow. Conditions: none; for every program. -/
namespace Go.Xe
open Go Go.RowKit Go.ChangeShapes Go.WideShapes
theorem okWide_agg {P : Program} {w : World} {r : Reach} {base : Nat} {t : TypeId} {v : Value} {fs : Array Field} (ht : P.underlying t = some (.struct fs)) (h : Value.okWide P w r base t v) : ∃ cs, v = .agg cs := by
  unfold Value.okWide at h
  rw [ht] at h
  obtain ⟨cs, h, _⟩ := h
  exact ⟨cs, h⟩
end Go.Xe
/- The end of a call that has changed nothing of what was there: what a statement asks of the memory behind it. Conditions: as post_of_same's, but that new memory may be frozen. -/
namespace Go.Xe
open Go Go.RowKit Go.ChangeShapes Go.WideShapes
variable {H : Type} {enc : TypeId × Value → H} {P : Program}
theorem post_of_old {f : Func} {s : ChangeSpec} {apart fresh handsOn again : Bool} {W W' : World} {args : Array Value} {v : Value} {ds gs : List (DataW H)} {before pa pv : List MemPlace}
    (hW : DataW.Whole enc P f.params.toList s.vars apart W args.toList ds gs before)
    (hres : ∀ (b : Nat) (sp : Nat → Bool) (hd : Bool), DataW.TrodAll enc P W' b sp hd f.resultTypes.toList (v.resultList f.resultTypes.size) (s.fn H (ds ++ gs)).results [])
    (hargs : ∀ sp : Nat → Bool, (∀ p ∈ before, sp p.block = true) → DataW.TrodAll enc P W' 0 sp true f.params.toList args.toList (s.fn H (ds ++ gs)).args pa)
    (hvars : ∀ sp : Nat → Bool, (∀ p ∈ before, sp p.block = true) → DataW.TrodVars enc P W' sp s.vars (s.fn H (ds ++ gs)).vars pv)
    (hps : before = pa ++ pv) (hk : W.keptBut W' (· ∈ before)) (hfz : ∀ a : Addr, a.block < W.heap.size → W'.frozen? a = W.frozen? a)
    (hok : ∀ (j : Nat) (t : TypeId) (r : Value), f.resultTypes[j]? = some t → (v.resultList f.resultTypes.size)[j]? = some r → Value.okWide P W' .any 0 t r) :
    s.post enc P f apart fresh handsOn again W args v W' := by
  have old : ∀ p ∈ before, p.block < W.heap.size := fun p hp => hW.lt p hp
  have hold : ∀ p ∈ before, (fun b => decide (b < W.heap.size)) p.block = true := fun p hp => by simpa using old p hp
  subst hps
  refine ⟨ds, gs, _, [], pa, pv, hW, hres _ _ _, hargs _ hold, hvars _ hold, World.keptBut_mono (fun p hp => ⟨hp, .inr (List.mem_append.1 hp)⟩) hk, fun _ => ?_⟩
  obtain ⟨_, _, _, _, _, hz, hn⟩ := hW
  refine ⟨hok, _, _, ([] ++ pa) ++ pv, ⟨[] ++ pa, pv, trodAll_append (hargs _ (fun _ _ => rfl)) (hres _ _ _), hvars _ (fun _ _ => rfl), rfl, ?_, ?_⟩, ?_⟩
  · intro b off hp
    have hp' : MemPlace.cell b off ∈ pa ++ pv := by simpa using hp
    rw [hfz _ (old _ hp')]
    exact hz b off hp'
  · intro ha
    simpa using hn ha
  · intro p hp _
    simpa using hp
end Go.Xe
