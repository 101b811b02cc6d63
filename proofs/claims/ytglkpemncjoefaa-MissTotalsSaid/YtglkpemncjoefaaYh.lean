/- Rules of reasoning over the executable reading of the model's code (part Z23): a slice of any shape that came in. Conditions: none; for every program. -/
import Derived.Test.YtglkpemncjoefaaZv
import Derived.Test.YtglkpemncjoefaaTPB
import Derived.Test.YtglkpemncjoefaaZm
import Derived.WideShapes
import Derived.ChangeSame
import Derived.Below
namespace Go.Xe
open Go Go.RowKit Go.ChangeShapes Go.WideShapes
theorem arg_sl {H : Type} {enc : TypeId × Value → H} {P : Program} {w : World} {A : Heap} (hA : Abs w A) {t : TypeId} {s : Sh} (m : Nat) (hs : shOf P m t = some s) {p : Option Addr} {n c : Nat} {d : DataW H} {ps : List MemPlace} (h : DataW.Trod enc P w 0 (fun _ => true) true t (.slice p n c) d ps) :
    ∃ y, Sem A s [absV w.heap.size (.slice p n c)] y := by
  obtain ⟨fuel, hf⟩ := h
  obtain ⟨y, hy⟩ := arg_any hA m t s hs fuel _ _ hf
  exact ⟨y, by simpa [Value.cells, absV] using hy⟩
end Go.Xe
/- Areas that come in: what lies where. Conditions: none. -/
namespace Go.Xe.TMX
open Go Go.Xe Go.Proofs Go.Xe.Mth
abbrev shA : Sh := .pair (.int .i64) (.pair (.int .i64) (.pair (.int .i64) (.pair (.int .i64) .unit)))
theorem sw4_of {A : Heap} {v : Value} {y : Ty (.slice 4 shA)} (h : Sem A (.slice 4 shA) [v] y) : ∃ L : List Q4, Sw 4 A v (L.map q4) := by
  obtain ⟨v', rows, e0, h1, h2, _, h3⟩ := h
  simp only [List.cons.injEq, and_true] at e0
  subst e0
  refine ⟨(y : List (Ty shA)).map fun x => (x.1, x.2.1, x.2.2.1, x.2.2.2.1), ?_⟩
  have e : rows = ((y : List (Ty shA)).map fun x => (x.1, x.2.1, x.2.2.1, x.2.2.2.1)).map q4 := by
    apply List.ext_getElem
    · simp [h2]
    · intro k k1 k2
      have hk : k < (y : List (Ty shA)).length := by omega
      obtain ⟨c1, c2, e1, ⟨rfl, _⟩, d1, d2, e2, ⟨rfl, _⟩, f1, f2, e3, ⟨rfl, _⟩, g1, g2, e4, ⟨rfl, _⟩, e5⟩ := h3 k rows[k] ((y : List (Ty shA))[k]) (by simp) (by simp [hk])
      rw [e1, e2, e3, e4, e5]
      simp [q4]
  have := h1.sw
  rw [e] at this
  exact this
end Go.Xe.TMX
/- Rules of reasoning over the executable reading of the model's code (part Z16): arguments, by what their types allow. Conditions: none; for every program. -/
namespace Go.Xe
open Go Go.RowKit Go.ChangeShapes Go.WideShapes
theorem okWide_agg {P : Program} {w : World} {r : Reach} {base : Nat} {t : TypeId} {v : Value} {fs : Array Field} (ht : P.underlying t = some (.struct fs)) (h : Value.okWide P w r base t v) : ∃ cs, v = .agg cs := by
  unfold Value.okWide at h
  rw [ht] at h
  obtain ⟨cs, h, _⟩ := h
  exact ⟨cs, h⟩
end Go.Xe
/- The end of a call that has changed nothing of what was there: what a statement asks of the memory behind it. Conditions: as post_of_same's, but that new memory may be frozen. -/
namespace Go.Xe
open Go Go.RowKit Go.ChangeShapes Go.WideShapes
variable {H : Type} {enc : TypeId × Value → H} {P : Program}
theorem post_of_old {f : Func} {s : ChangeSpec} {apart fresh handsOn again : Bool} {W W' : World} {args : Array Value} {v : Value} {ds gs : List (DataW H)} {before pa pv : List MemPlace}
    (hW : DataW.Whole enc P f.params.toList s.vars apart W args.toList ds gs before)
    (hres : ∀ (b : Nat) (sp : Nat → Bool) (hd : Bool), DataW.TrodAll enc P W' b sp hd f.resultTypes.toList (v.resultList f.resultTypes.size) (s.fn H (ds ++ gs)).results [])
    (hargs : ∀ sp : Nat → Bool, (∀ p ∈ before, sp p.block = true) → DataW.TrodAll enc P W' 0 sp true f.params.toList args.toList (s.fn H (ds ++ gs)).args pa)
    (hvars : ∀ sp : Nat → Bool, (∀ p ∈ before, sp p.block = true) → DataW.TrodVars enc P W' sp s.vars (s.fn H (ds ++ gs)).vars pv)
    (hps : before = pa ++ pv) (hk : W.keptBut W' (· ∈ before)) (hfz : ∀ a : Addr, a.block < W.heap.size → W'.frozen? a = W.frozen? a)
    (hok : ∀ (j : Nat) (t : TypeId) (r : Value), f.resultTypes[j]? = some t → (v.resultList f.resultTypes.size)[j]? = some r → Value.okWide P W' .any 0 t r) :
    s.post enc P f apart fresh handsOn again W args v W' := by
  have old : ∀ p ∈ before, p.block < W.heap.size := fun p hp => hW.lt p hp
  have hold : ∀ p ∈ before, (fun b => decide (b < W.heap.size)) p.block = true := fun p hp => by simpa using old p hp
  subst hps
  refine ⟨ds, gs, _, [], pa, pv, hW, hres _ _ _, hargs _ hold, hvars _ hold, World.keptBut_mono (fun p hp => ⟨hp, .inr (List.mem_append.1 hp)⟩) hk, fun _ => ?_⟩
  obtain ⟨_, _, _, _, _, hz, hn⟩ := hW
  refine ⟨hok, _, _, ([] ++ pa) ++ pv, ⟨[] ++ pa, pv, trodAll_append (hargs _ (fun _ _ => rfl)) (hres _ _ _), hvars _ (fun _ _ => rfl), rfl, ?_, ?_⟩, ?_⟩
  · intro b off hp
    have hp' : MemPlace.cell b off ∈ pa ++ pv := by simpa using hp
    rw [hfz _ (old _ hp')]
    exact hz b off hp'
  · intro ha
    simpa using hn ha
  · intro p hp _
    simpa using hp
end Go.Xe
