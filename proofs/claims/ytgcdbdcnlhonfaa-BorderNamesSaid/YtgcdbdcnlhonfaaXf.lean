/- An executable reading of the model's code over an abstract heap (part 6): maps. Conditions: none. -/
import Derived.Test.YtgcdbdcnlhonfaaXe
import Derived.Maps.Keyed
import Derived.DeepKeys3
namespace Go.Xe
open Go
def cellEq : Value → Value → Bool
  | .int k a, .int k' b => decide (k = k') && decide (a = b)
  | .bool a, .bool b => a == b
  | .string a, .string b => decide (a = b)
  | _, _ => false
def keyish : Value → Bool
  | .int _ _ | .bool _ | .string _ => true
  | _ => false
def cellsEq : List Value → List Value → Bool
  | [], [] => true
  | a :: as, b :: bs => cellEq a b && cellsEq as bs
  | _, _ => false
def valEq : Value → Value → Bool
  | .agg a, .agg b => cellsEq a.toList b.toList
  | a, b => cellEq a b
def keyishV : Value → Bool
  | .agg a => a.toList.all keyish
  | v => keyish v
theorem cellEq_eq {a b : Value} (h : cellEq a b = true) : a = b := by
  cases a <;> cases b <;> simp [cellEq] at h
  · subst h; rfl
  · obtain ⟨rfl, rfl⟩ := h; rfl
  · subst h; rfl
theorem cellsEq_eq : ∀ {a b : List Value}, cellsEq a b = true → a = b
  | [], [], _ => rfl
  | a :: as, b :: bs, h => by
    simp only [cellsEq, Bool.and_eq_true] at h
    rw [cellEq_eq h.1, cellsEq_eq h.2]
  | [], _ :: _, h => by simp [cellsEq] at h
  | _ :: _, [], h => by simp [cellsEq] at h
theorem valEq_eq {a b : Value} (h : valEq a b = true) : a = b := by
  unfold valEq at h
  split at h
  · rename_i x y
    obtain ⟨x⟩ := x; obtain ⟨y⟩ := y
    have := cellsEq_eq h
    simp only at this
    rw [this]
  · exact cellEq_eq h
theorem cellEq_refl {a : Value} (h : keyish a = true) : cellEq a a = true := by cases a <;> simp_all [cellEq, keyish]
theorem cellsEq_refl : ∀ {a : List Value}, a.all keyish = true → cellsEq a a = true
  | [], _ => rfl
  | a :: as, h => by
    simp only [List.all_cons, Bool.and_eq_true] at h
    simp only [cellsEq, cellEq_refl h.1, cellsEq_refl h.2, Bool.and_self]
theorem valEq_refl {a : Value} (h : keyishV a = true) : valEq a a = true := by
  cases a with
  | agg cs => exact cellsEq_refl h
  | int k n => exact cellEq_refl (a := .int k n) rfl
  | bool b => exact cellEq_refl (a := .bool b) rfl
  | string s => exact cellEq_refl (a := .string s) rfl
  | _ => simp [keyishV, Xe.keyish] at h
theorem VR.keyish {θ : Th} {v w : Value} (h : VR θ v w) (hk : keyishV v = true) : v = w := by
  cases h with
  | agg h1 h2 =>
    rename_i a a'
    congr 1
    apply Array.ext h1
    intro i hi hi'
    have h3 := h2 i _ _ (Array.getElem?_eq_getElem hi) (Array.getElem?_eq_getElem hi')
    have h4 := List.all_eq_true.1 hk a[i] (Array.mem_toList_iff.2 (Array.getElem_mem hi))
    generalize a[i] = x at *
    generalize a'[i] = y at *
    cases h3 <;> first | rfl | (simp [Xe.keyish] at h4)
  | _ => first | rfl | (simp [keyishV, Xe.keyish] at hk)
def xfind (k : Value) : List MapEntry → Nat → Option Nat
  | [], _ => none
  | e :: es, i => if valEq k e.key then some i else xfind k es (i + 1)
theorem xfind_none {k : Value} (hk : keyishV k = true) : ∀ {es : List MapEntry} {i : Nat}, xfind k es i = none → ∀ e ∈ es, e.key ≠ k
  | [], _, _ => fun e he => by cases he
  | e :: es, i, h => by
    simp only [xfind] at h
    split at h
    · cases h
    · rename_i hne
      intro e' he'
      cases he' with
      | head => intro heq; rw [heq] at hne; exact hne (valEq_refl hk)
      | tail _ h' => exact xfind_none hk h e' h'
theorem xfind_some {k : Value} : ∀ {es : List MapEntry} {i j : Nat}, xfind k es i = some j → i ≤ j ∧ ∃ e, es[j - i]? = some e ∧ e.key = k
  | [], _, _, h => by simp [xfind] at h
  | e :: es, i, j, h => by
    simp only [xfind] at h
    split at h
    · cases h
      rename_i heq
      exact ⟨Nat.le_refl _, e, by simp, (valEq_eq heq).symm⟩
    · obtain ⟨h1, e', h2, h3⟩ := xfind_some h
      refine ⟨by omega, e', ?_, h3⟩
      rw [show j - i = (j - (i + 1)) + 1 by omega, List.getElem?_cons_succ]
      exact h2
def keyedB (P : Program) (kt : TypeId) : Bool :=
  match P.underlying kt with
  | some (.int _) | some .bool | some .string => true
  | some (.array _ _) | some (.struct _) => P.keyTypeAt 8 kt && P.tiled 8 kt
  | _ => false
theorem keyed_of {P : Program} {kt : TypeId} (h : keyedB P kt = true) : Maps.Keyed P kt := by
  unfold keyedB at h
  split at h
  · rename_i hu; exact Maps.int_keyed hu
  · rename_i hu; exact Maps.bool_keyed hu
  · rename_i hu; exact Maps.string_keyed hu
  · rename_i hu
    simp only [Bool.and_eq_true] at h
    exact Maps.Keyed.of_law (Go.deep_law (by omega) h.1 h.2 (by rw [hu]))
  · rename_i hu
    simp only [Bool.and_eq_true] at h
    exact Maps.Keyed.of_law (Go.deep_law (by omega) h.1 h.2 (by rw [hu]))
  · cases h
theorem run_find {P : Program} {w : World} {kt : TypeId} (K : Maps.Keyed P kt) {k : Value} (hk : keyishV k = true) (hko : (keyOf P kt k).isSome = true) {es es' : Array MapEntry} (hs : es.size = es'.size)
    (hd : es'.toList.Pairwise (fun a b => a.key ≠ b.key)) (he : ∀ (i : Nat) (e e' : MapEntry), es[i]? = some e → es'[i]? = some e' → e.key = e'.key ∧ (keyOf P kt e.key).isSome = true) :
    (match xfind k es.toList 0 with
     | none => (Instr.findKey kt k es'.toList).run P w = .ok none w ∧ ∀ e ∈ es'.toList, e.key ≠ k
     | some j => ∃ e', es'[j]? = some e' ∧ e'.key = k ∧ (Instr.findKey kt k es'.toList).run P w = .ok (some (j, e'.val)) w) := by
  obtain ⟨lx, hlx⟩ := Option.isSome_iff_exists.1 hko
  have hall : ∀ e ∈ es'.toList, ∃ l, keyOf P kt e.key = some l := by
    intro e' he'
    obtain ⟨i, hi⟩ := Array.getElem?_of_mem (Array.mem_toList_iff.1 he')
    have hlt := (Array.getElem?_eq_some_iff.1 hi).1
    obtain ⟨h1, h2⟩ := he i es[i] e' (Array.getElem?_eq_getElem (by omega)) hi
    rw [h1] at h2
    exact Option.isSome_iff_exists.1 h2
  have hfind := K.find w hlx es'.toList hall
  cases hx : xfind k es.toList 0 with
  | none =>
    have hn := xfind_none hk hx
    have hn' : ∀ e ∈ es'.toList, e.key ≠ k := by
      intro e' he'
      obtain ⟨i, hi⟩ := Array.getElem?_of_mem (Array.mem_toList_iff.1 he')
      have hlt := (Array.getElem?_eq_some_iff.1 hi).1
      have hlt2 : i < es.size := by omega
      obtain ⟨h1, _⟩ := he i es[i] e' (Array.getElem?_eq_getElem hlt2) hi
      rw [← h1]
      exact hn _ (Array.mem_toList_iff.2 (Array.getElem_mem hlt2))
    rcases hfind with h | ⟨j, e, _, hj, hjk⟩
    · exact ⟨h.1, hn'⟩
    · exact absurd hjk (hn' e (List.mem_of_getElem? hj))
  | some j =>
    obtain ⟨_, e, hej, hek⟩ := xfind_some hx
    simp only [Nat.sub_zero, Array.getElem?_toList] at hej
    have hlt := (Array.getElem?_eq_some_iff.1 hej).1
    have hlt' : j < es'.size := by omega
    obtain ⟨h1, _⟩ := he j e es'[j] hej (Array.getElem?_eq_getElem hlt')
    refine ⟨es'[j], Array.getElem?_eq_getElem hlt', by rw [← h1]; exact hek, ?_⟩
    rcases hfind with h | ⟨j2, e2, hrun, hj2, hj2k⟩
    · exact absurd (by rw [← h1]; exact hek) (h.2 es'[j] (Array.mem_toList_iff.2 (Array.getElem_mem hlt')))
    · have hjj : j2 = j := by
        simp only [Array.getElem?_toList] at hj2
        have hlt2 := (Array.getElem?_eq_some_iff.1 hj2).1
        have hp := List.pairwise_iff_getElem.1 hd
        rcases Nat.lt_trichotomy j2 j with hlt3 | heq | hgt
        · have := hp j2 j (by simpa using hlt2) (by simpa using hlt') hlt3
          simp only [Array.getElem_toList] at this
          rw [(Array.getElem?_eq_some_iff.1 hj2).2, hj2k, ← h1, hek] at this
          exact absurd rfl this
        · exact heq
        · have := hp j j2 (by simpa using hlt') (by simpa using hlt2) hgt
          simp only [Array.getElem_toList] at this
          rw [(Array.getElem?_eq_some_iff.1 hj2).2, hj2k, ← h1, hek] at this
          exact absurd rfl this
      subst hjj
      simp only [Array.getElem?_toList] at hj2
      have : e2 = es'[j2] := by rw [(Array.getElem?_eq_some_iff.1 hj2).2]
      rw [hrun, this]
def xlookup (P : Program) (H : Heap) (t : TypeId) (x k : Value) (ok : Bool) : Option Value :=
  match P.underlying t, x with
  | some (.map kt et), .map (some i) => match H.mapAt i, P.info? et with
    | some (kt', es, _), some ie => match ie.zero with
      | some z =>
        if kt' = kt ∧ keyedB P kt = true ∧ keyishV k = true ∧ (keyOf P kt k).isSome = true ∧ plainV z = true then
          match xfind k es.toList 0 with
          | some j => match es[j]? with
            | some e => some (if ok then .tuple #[e.val, .bool true] else e.val)
            | none => none
          | none => some (if ok then .tuple #[z, .bool false] else z)
        else none
      | none => none
    | _, _ => none
  | _, _ => none
theorem VR.pair {θ : Th} {a a' : Value} (h : VR θ a a') (b ok : Bool) : VR θ (if ok then .tuple #[a, .bool b] else a) (if ok then .tuple #[a', .bool b] else a') := by
  cases ok
  · exact h
  · have := (AR.one h).push (.bool b)
    exact .tuple this.1 this.2
theorem xlookup_ok {P : Program} {θ : Th} {H : Heap} {w : World} (hr : Rel P θ H w) {t : TypeId} {x x' k k' v : Value} {ok : Bool} (h : xlookup P H t x k ok = some v) (hx : VR θ x x') (hk : VR θ k k') :
    ∃ v', (Instr.lookup t x' k' ok).run P w = .ok v' w ∧ VR θ v v' := by
  unfold xlookup at h
  split at h
  · rename_i kt et i hu
    cases hx with
    | map hp =>
      rename_i p
      split at h
      · rename_i kt' es clock ie hm hie
        split at h
        · rename_i z hz
          split at h
          · rename_i hc
            obtain ⟨rfl, h1, h2, h3, h4⟩ := hc
            obtain rfl := hk.keyish h2
            obtain ⟨_, q, hq, es', hw, _, hsz, hd, hes⟩ := hr.mapAt hm
            rw [hp] at hq; cases hq
            have K := keyed_of h1
            obtain ⟨lx, hlx⟩ := Option.isSome_iff_exists.1 h3
            have hg : (getObj p.blk).run P w = .ok (.map es' clock) w := by simp [getObj, Sem.run, hw]
            have hck := K.check w es'.isEmpty hlx
            have hf := run_find (w := w) K h2 h3 hsz hd (fun i e e' a b => ⟨(hes i e e' a b).1, (hes i e e' a b).2.1⟩)
            split at h
            · rename_i j hj
              rw [hj] at hf
              obtain ⟨e', he', _, hrun⟩ := hf
              split at h
              · rename_i e hej
                cases h
                refine ⟨_, ?_, VR.pair (hes j e e' hej he').2.2 true ok⟩
                simp [Instr.lookup, run_underlying hu, hg, hck, hrun]
              · cases h
            · rename_i hj
              rw [hj] at hf
              cases h
              refine ⟨_, ?_, VR.pair (VR.plain h4) false ok⟩
              simp [Instr.lookup, run_underlying hu, hg, hck, hf.1, run_zeroValue' hie hz]
          · cases h
        · cases h
      · cases h
  · cases h
def okHint : Option Value → Bool
  | none => true
  | some (.int _ _) => true
  | _ => false
def xmakeMap (P : Program) (H : Heap) (t : TypeId) (r : Option Value) : Option (Value × Heap) :=
  match P.underlying t with
  | some (.map kt _) =>
    if okHint r = true then some (.map (some H.next), H.alloc (.map kt #[] 0)) else none
  | _ => none
theorem xmakeMap_ok {P : Program} {θ : Th} {H H' : Heap} {w : World} (hr : Rel P θ H w) {t : TypeId} {r r' : Option Value} {v : Value} (h : xmakeMap P H t r = some (v, H')) (hrr : OV θ r r') :
    NewOk P θ w (Instr.makeMap t r') v H' := by
  unfold xmakeMap at h
  split at h
  · rename_i kt et hu
    split at h
    · rename_i hc
      cases h
      obtain ⟨q1, q2⟩ := hr.alloc (.map kt #[] 0) (.map #[] 0) { blk := w.heap.size, base := 0, sz := 0, st := 0, rw := true } rfl rfl
        ⟨#[], alloc_at _ _, rfl, rfl, by simp, fun k e e' he => by simp at he⟩
      refine ⟨.map (some w.heap.size), _, _, ?_, q2, q1, VR.map (p := { blk := w.heap.size, base := 0, sz := 0, st := 0, rw := true }) (Th.put_same _ _ _)⟩
      cases hrr with
      | none => simp [Instr.makeMap]
      | some hv => cases hv <;> simp [okHint] at hc <;> simp [Instr.makeMap, run_underlying hu, asInt, asIntOf]
    · cases h
  · cases h
def xmapUpdate (P : Program) (H : Heap) (t : TypeId) (x k v : Value) : Option Heap :=
  match P.underlying t, x with
  | some (.map kt _), .map (some i) => match H.mapAt i with
    | some (kt', es, clock) =>
      if kt' = kt ∧ keyedB P kt = true ∧ keyishV k = true ∧ (keyOf P kt k).isSome = true then
        match xfind k es.toList 0 with
        | some j => some (H.set i (.map kt (es.modify j fun e => { e with key := k, val := v }) clock))
        | none => some (H.set i (.map kt (es.push { key := k, val := v, born := clock }) (clock + 1)))
      else none
    | none => none
  | _, _ => none
theorem xmapUpdate_ok {P : Program} {θ : Th} {H H' : Heap} {w : World} (hr : Rel P θ H w) {t : TypeId} {x x' k k' v v' : Value} (h : xmapUpdate P H t x k v = some H') (hx : VR θ x x') (hk : VR θ k k') (hv : VR θ v v') :
    ∃ w', (Instr.mapUpdate t x' k' v').run P w = .ok () w' ∧ Rel P θ H' w' ∧ Stp θ w θ w' := by
  unfold xmapUpdate at h
  split at h
  · rename_i kt et i hu
    cases hx with
    | map hp =>
      rename_i p
      split at h
      · rename_i kt' es clock hm
        split at h
        · rename_i hc
          obtain ⟨rfl, h1, h2, h3⟩ := hc
          obtain rfl := hk.keyish h2
          obtain ⟨hgi, q, hq, es', hw, hrw, hsz, hd, hes⟩ := hr.mapAt hm
          rw [hp] at hq; cases hq
          have K := keyed_of h1
          obtain ⟨lx, hlx⟩ := Option.isSome_iff_exists.1 h3
          have hg : (getObj p.blk).run P w = .ok (.map es' clock) w := by simp [getObj, Sem.run, hw]
          have hck := K.check w false hlx
          have hf := run_find (w := w) K h2 h3 hsz hd (fun i e e' a b => ⟨(hes i e e' a b).1, (hes i e e' a b).2.1⟩)
          have hput : ∀ o : Obj, (setObj p.blk o).run P w = .ok () (w.putObj p.blk o) := by intro o; simp [setObj, Sem.run, hw, World.putObj]
          have hlt : p.blk < w.heap.size := (Array.getElem?_eq_some_iff.1 hw).1
          have hwr : ∀ (kt : TypeId) (es : Array MapEntry) (ck : Nat) (ob : Obj), OR P θ (w.putObj p.blk ob) p (.map kt es ck) → Rel P θ (H.set i (.map kt es ck)) (w.putObj p.blk ob) ∧ Stp θ w θ (w.putObj p.blk ob) := fun kt es ck ob ho =>
            hr.write (o' := .map kt es ck) hgi rfl hp hrw (by simp) (fun b hb => World.putObj_heap_other hb) rfl rfl rfl ho
          split at h
          · rename_i j hj
            rw [hj] at hf
            obtain ⟨e', he', hek, hrun⟩ := hf
            cases h
            have hst := K.stays w hlx
            have hkey : ((es'[j]?).map (·.key)).getD k = k := by rw [he']; simpa using hek
            refine ⟨w.putObj p.blk (.map (es'.modify j fun e => { e with key := k, val := v' }) clock), ?_, ?_⟩
            · simp only [Instr.mapUpdate, Sem.run_bind, run_underlying hu, Result.andThen_ok, hg, hck, hrun, hkey, hst, hput]
            · refine hwr _ _ _ _ ⟨_, World.putObj_heap_same hlt, hrw, by simp [hsz], ?_, ?_⟩
              · rw [List.pairwise_iff_getElem] at hd ⊢
                intro a b ha hb hab
                simp only [Array.length_toList, Array.size_modify] at ha hb
                have := hd a b (by simpa using ha) (by simpa using hb) hab
                simp only [Array.getElem_toList, Array.getElem_modify] at this ⊢
                have hj' := (Array.getElem?_eq_some_iff.1 he').2
                split <;> split <;> simp_all
              · intro m e1 e2 hm1 hm2
                rw [Array.getElem?_modify] at hm1 hm2
                by_cases hjm : j = m
                · subst hjm
                  rw [if_pos rfl] at hm1 hm2
                  simp only [Option.map_eq_some_iff] at hm1 hm2
                  obtain ⟨_, _, rfl⟩ := hm1
                  obtain ⟨_, _, rfl⟩ := hm2
                  exact ⟨rfl, h3, hv⟩
                · rw [if_neg hjm] at hm1 hm2
                  exact hes m e1 e2 hm1 hm2
          · rename_i hj
            rw [hj] at hf
            cases h
            refine ⟨w.putObj p.blk (.map (es'.push { key := k, val := v', born := clock }) (clock + 1)), ?_, ?_⟩
            · simp only [Instr.mapUpdate, Sem.run_bind, run_underlying hu, Result.andThen_ok, hg, hck, hf.1, hput]
            · refine hwr _ _ _ _ ⟨_, World.putObj_heap_same hlt, hrw, by simp [hsz], ?_, ?_⟩
              · simp only [Array.toList_push, List.pairwise_append]
                exact ⟨hd, by simp, fun a ha b hb => by simp at hb; subst hb; exact hf.2 a ha⟩
              · intro m e1 e2 hm1 hm2
                rw [Array.getElem?_push] at hm1 hm2
                rw [← hsz] at hm2
                split at hm1
                · rename_i hme
                  rw [if_pos hme] at hm2
                  cases hm1; cases hm2
                  exact ⟨rfl, h3, hv⟩
                · rename_i hme
                  rw [if_neg hme] at hm2
                  exact hes m e1 e2 hm1 hm2
        · cases h
      · cases h
  · cases h
end Go.Xe
