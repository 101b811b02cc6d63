/- Rules of reasoning over the executable reading of the model's code (part Z18): guarded operations without cases. Conditions: none; for every program. -/
import Derived.Test.YtglkpemncjoefaaZq
import Derived.Test.YtglkpemncjoefaaZb
namespace Go.Xe
open Go
section
variable {P : Program} {is : List FI} {d : Pth} {t : TT} {H : Heap} {w b : Bool} {v u : Value} {o : Option (Value × Heap)} {c p : Prop} [Decidable c] [Decidable p] {pre : List Heap} {k : IntKind} {x y : Int}
theorem gs_bt : gsV (.bool b) true o H = if b = true then o else some (undef, H) := rfl
theorem gs_bf : gsV (.bool b) false o H = if b = false then o else some (undef, H) := rfl
theorem disK_ite : disK P is d t (if c then some (v, H) else some (u, H)) = din P is (st (if c then v else u) d t) H := by
  split <;> rfl
theorem disAK_ite : disAK P is d t pre (if c then some (v, H) else some (u, H)) = dinA P is (st (if c then v else u) d t) H pre := by
  split <;> rfl
theorem ite_vb {q r : Bool} : (if c then Value.bool q else Value.bool r) = .bool (if c then q else r) := by split <;> rfl
theorem ite_vi : (if c then Value.int k x else Value.int k y) = .int k (if c then x else y) := by split <;> rfl
theorem ite_dn : (if c then decide p else false) = decide (c ∧ p) := by by_cases h : c <;> simp [h]
theorem ite_nd : (if c then false else decide p) = decide (¬ c ∧ p) := by by_cases h : c <;> simp [h]
theorem ite_td : (if c then true else decide p) = decide (c ∨ p) := by by_cases h : c <;> simp [h]
theorem ite_dt : (if c then decide p else true) = decide (¬ c ∨ p) := by by_cases h : c <;> simp [h]
theorem ite_tf : (if c then true else false) = decide c := by by_cases h : c <;> simp [h]
theorem ite_ft : (if c then false else true) = decide (¬ c) := by by_cases h : c <;> simp [h]
theorem not_dec : (!decide p) = decide (¬ p) := by by_cases h : p <;> simp [h]
theorem dec_t : (decide p = true) = p := by simp
theorem dec_f : (decide p = false) = ¬ p := by simp
end
section
variable {P : Program} [Gl P] [Orc P] {rnd : Option Nat} {Q : FQ} {K : List FFr} {t : TT} {m : List Nat} {H : Heap}
variable {is : List FI} {d p : Pth} {fa : FA} {args : List FA} {v : Value} {g : FuncId} {a b l : List Value} {c : Prop} [Decidable c] {pre : List Heap} {R : TT → List Heap → Prop}
theorem VI.callGt (hp : gt p t = .bool (decide c)) (hf : c → dA t fa = .func (.func g) ⟨a⟩ ⟨b⟩) (hs : c → Gives P g l H v) (hl : c → a ++ args.map (dA t) ++ b = l) (k : ∀ H', Grow H H' → VI P rnd Q K m is (st (if c then v else undef) d t) H') :
    VI P rnd Q K m (.gd p true (.call fa args) d :: is) t H := by
  by_cases h : c
  · refine .callAT (by rw [hp, decide_eq_true h]) (hf h) (hs h) (hl h) (fun H' g => ?_)
    have := k H' g
    rwa [if_pos h] at this
  · refine .gdF (by rw [hp, decide_eq_false h]; rfl) ?_
    have := k H (Grow.refl H)
    rwa [if_neg h] at this
theorem VI.callGf (hp : gt p t = .bool (decide c)) (hf : ¬ c → dA t fa = .func (.func g) ⟨a⟩ ⟨b⟩) (hs : ¬ c → Gives P g l H v) (hl : ¬ c → a ++ args.map (dA t) ++ b = l) (k : ∀ H', Grow H H' → VI P rnd Q K m is (st (if c then undef else v) d t) H') :
    VI P rnd Q K m (.gd p false (.call fa args) d :: is) t H := by
  by_cases h : c
  · refine .gdF (by rw [hp, decide_eq_true h]; rfl) ?_
    have := k H (Grow.refl H)
    rwa [if_pos h] at this
  · refine .callAT (by rw [hp, decide_eq_false h]) (hf h) (hs h) (hl h) (fun H' g => ?_)
    have := k H' g
    rwa [if_neg h] at this
theorem VD.callGt (hp : gt p t = .bool (decide c)) (hf : c → dA t fa = .func (.func g) ⟨a⟩ ⟨b⟩) (hs : c → Gives P g l H v) (hl : c → a ++ args.map (dA t) ++ b = l) (k : ∀ H', Grow H H' → VD P is (st (if c then v else undef) d t) H' (pre ++ [H]) R) :
    VD P (.gd p true (.call fa args) d :: is) t H pre R := by
  by_cases h : c
  · refine .callAT (by rw [hp, decide_eq_true h]) (hf h) (hs h) (hl h) (fun H' g => ?_)
    have := k H' g
    rwa [if_pos h] at this
  · refine .gdF (by rw [hp, decide_eq_false h]; rfl) ?_
    have := k H (Grow.refl H)
    rwa [if_neg h] at this
theorem VD.callGf (hp : gt p t = .bool (decide c)) (hf : ¬ c → dA t fa = .func (.func g) ⟨a⟩ ⟨b⟩) (hs : ¬ c → Gives P g l H v) (hl : ¬ c → a ++ args.map (dA t) ++ b = l) (k : ∀ H', Grow H H' → VD P is (st (if c then undef else v) d t) H' (pre ++ [H]) R) :
    VD P (.gd p false (.call fa args) d :: is) t H pre R := by
  by_cases h : c
  · refine .gdF (by rw [hp, decide_eq_true h]; rfl) ?_
    have := k H (Grow.refl H)
    rwa [if_pos h] at this
  · refine .callAT (by rw [hp, decide_eq_false h]) (hf h) (hs h) (hl h) (fun H' g => ?_)
    have := k H' g
    rwa [if_neg h] at this
end
section
variable {H : Heap} {el : TypeId} {k : IntKind} {n : Int} {b : Bool} {p : Option Addr} {m l : Nat} {q : Option Nat} {f : Fn} {x y : Array Value}
theorem xbox_int : xbox H el (.int k n) = some (.pointer (some ⟨H.next, 0, none⟩), H.alloc (.cells ⟨[.int k n]⟩ el true)) := rfl
theorem xbox_bool : xbox H el (.bool b) = some (.pointer (some ⟨H.next, 0, none⟩), H.alloc (.cells ⟨[.bool b]⟩ el true)) := rfl
theorem xbox_ptr : xbox H el (.pointer p) = some (.pointer (some ⟨H.next, 0, none⟩), H.alloc (.cells ⟨[.pointer p]⟩ el true)) := rfl
theorem xbox_slice : xbox H el (.slice p m l) = some (.pointer (some ⟨H.next, 0, none⟩), H.alloc (.cells ⟨[.slice p m l]⟩ el true)) := rfl
theorem xbox_map : xbox H el (.map q) = some (.pointer (some ⟨H.next, 0, none⟩), H.alloc (.cells ⟨[.map q]⟩ el true)) := rfl
theorem xbox_func : xbox H el (.func f x y) = some (.pointer (some ⟨H.next, 0, none⟩), H.alloc (.cells ⟨[.func f x y]⟩ el true)) := rfl
end
theorem ok1_nilFunc : ok1 .nilFunc = true := rfl
theorem xnil_ptr {a : Addr} : xnil (.pointer (some a)) = some (.pointer (some a)) := rfl
theorem Lv.retM {t : TT} {H : Heap} {rs : List FRes} {S : Value → Heap → Prop} {w : Value} {d : Nat} (hd : H.get d = some (.deferred true)) (h : yres t (H.set d .dead) rs = some w) (k : S w (H.set d .dead)) : Lv rs S .ret t [d] H :=
  ⟨fun id => by simp, H.set d .dead, w, by simp only [xunmark, hd], h, k⟩
theorem D3 : type_of% (And.intro D2 <| And.intro @gs_bt <| And.intro @gs_bf <| And.intro @disK_ite <| And.intro @disAK_ite <| And.intro @ite_vb <| And.intro @ite_vi <| And.intro @ite_dn <| And.intro @ite_nd <| And.intro @ite_td <| And.intro @ite_dt <| And.intro @ite_tf <| And.intro @ite_ft <| And.intro @not_dec <| And.intro ok1_nilFunc <| And.intro @xnil_ptr <| And.intro @xbox_int <| And.intro @xbox_bool <| And.intro @xbox_ptr <| And.intro @xbox_slice <| And.intro @xbox_map <| And.intro @xbox_func <| And.intro @dec_t @dec_f) :=
  And.intro D2 <| And.intro @gs_bt <| And.intro @gs_bf <| And.intro @disK_ite <| And.intro @disAK_ite <| And.intro @ite_vb <| And.intro @ite_vi <| And.intro @ite_dn <| And.intro @ite_nd <| And.intro @ite_td <| And.intro @ite_dt <| And.intro @ite_tf <| And.intro @ite_ft <| And.intro @not_dec <| And.intro ok1_nilFunc <| And.intro @xnil_ptr <| And.intro @xbox_int <| And.intro @xbox_bool <| And.intro @xbox_ptr <| And.intro @xbox_slice <| And.intro @xbox_map <| And.intro @xbox_func <| And.intro @dec_t @dec_f
theorem nx : type_of% (And.intro @Heap.next_alloc @Heap.next_set) := And.intro @Heap.next_alloc @Heap.next_set
theorem D5 : type_of% (And.intro @gt_st <| And.intro @full_st <| And.intro @decide_true <| And.intro @decide_false Bool.false_eq_true) := And.intro @gt_st <| And.intro @full_st <| And.intro @decide_true <| And.intro @decide_false Bool.false_eq_true
theorem ds {α : Type} : (∀ (n : Nat) (a : α) (l : List α), (a :: l).drop (n + 1) = l.drop n) ∧ (∀ l : List α, l.drop 0 = l) := ⟨fun _ _ _ => rfl, fun _ => rfl⟩
theorem D4 : type_of% (And.intro D3 <| And.intro @mm_max <| And.intro @mm_min <| And.intro @cells_alloc_at <| And.intro @cells_alloc_ne <| And.intro @cells_set_at <| And.intro @cells_set_ne <| And.intro @dop.eq_1 <| And.intro @dop.eq_2 <| And.intro @dop.eq_3 <| And.intro @dop.eq_4 <| And.intro @dop.eq_5 <| And.intro @dop.eq_6 <| And.intro @dop.eq_7 <| And.intro @dop.eq_8 <| And.intro @dop.eq_9 <| And.intro @dop.eq_10 <| And.intro @dop.eq_11 <| And.intro @dop.eq_12 <| And.intro @dop.eq_13 <| And.intro @dop.eq_14 <| And.intro @dop.eq_15 <| And.intro @dop.eq_16 <| And.intro @dop.eq_17 <| And.intro @dop.eq_18 <| And.intro @dop.eq_19 <| And.intro @dop.eq_20 <| And.intro @dop.eq_21 <| And.intro @dop.eq_22 <| And.intro @dop.eq_23 <| And.intro @dop.eq_24 <| And.intro @dop.eq_25 <| And.intro @dop.eq_26 <| And.intro @dop.eq_27 <| And.intro @dop.eq_28 <| And.intro @dop.eq_29 <| And.intro @dop.eq_30 <| And.intro @dop.eq_31 <| And.intro @dop.eq_32 <| And.intro @dop.eq_33 <| And.intro @dop.eq_34 <| And.intro @dop.eq_35 <| And.intro @dop.eq_36 <| And.intro @dop.eq_37 <| And.intro @dA.eq_1 <| And.intro @dA.eq_2 <| And.intro @sets.eq_1 <| And.intro @sets.eq_2 <| And.intro @yfield1.eq_1 <| And.intro @yfield1.eq_2 <| And.intro @yfieldN.eq_1 <| And.intro @yfieldN.eq_2 <| And.intro @yfieldAddr.eq_1 @yfieldAddr.eq_2) := And.intro D3 <| And.intro @mm_max <| And.intro @mm_min <| And.intro @cells_alloc_at <| And.intro @cells_alloc_ne <| And.intro @cells_set_at <| And.intro @cells_set_ne <| And.intro @dop.eq_1 <| And.intro @dop.eq_2 <| And.intro @dop.eq_3 <| And.intro @dop.eq_4 <| And.intro @dop.eq_5 <| And.intro @dop.eq_6 <| And.intro @dop.eq_7 <| And.intro @dop.eq_8 <| And.intro @dop.eq_9 <| And.intro @dop.eq_10 <| And.intro @dop.eq_11 <| And.intro @dop.eq_12 <| And.intro @dop.eq_13 <| And.intro @dop.eq_14 <| And.intro @dop.eq_15 <| And.intro @dop.eq_16 <| And.intro @dop.eq_17 <| And.intro @dop.eq_18 <| And.intro @dop.eq_19 <| And.intro @dop.eq_20 <| And.intro @dop.eq_21 <| And.intro @dop.eq_22 <| And.intro @dop.eq_23 <| And.intro @dop.eq_24 <| And.intro @dop.eq_25 <| And.intro @dop.eq_26 <| And.intro @dop.eq_27 <| And.intro @dop.eq_28 <| And.intro @dop.eq_29 <| And.intro @dop.eq_30 <| And.intro @dop.eq_31 <| And.intro @dop.eq_32 <| And.intro @dop.eq_33 <| And.intro @dop.eq_34 <| And.intro @dop.eq_35 <| And.intro @dop.eq_36 <| And.intro @dop.eq_37 <| And.intro @dA.eq_1 <| And.intro @dA.eq_2 <| And.intro @sets.eq_1 <| And.intro @sets.eq_2 <| And.intro @yfield1.eq_1 <| And.intro @yfield1.eq_2 <| And.intro @yfieldN.eq_1 <| And.intro @yfieldN.eq_2 <| And.intro @yfieldAddr.eq_1 @yfieldAddr.eq_2
theorem D6 : type_of% (And.intro @dA.eq_1 <| And.intro @dA.eq_2 <| And.intro @List.map_cons.{0, 0} <| And.intro @List.map_nil.{0, 0} <| And.intro @List.nil_append.{0} <| And.intro @List.append_nil.{0} @List.cons_append.{0}) := And.intro @dA.eq_1 <| And.intro @dA.eq_2 <| And.intro @List.map_cons.{0, 0} <| And.intro @List.map_nil.{0, 0} <| And.intro @List.nil_append.{0} <| And.intro @List.append_nil.{0} @List.cons_append.{0}
end Go.Xe
/- An executable reading of the model's code over an abstract heap (part 35): a closed call run in pieces: what lies between two of them is written out, and of the memory only what is named. Conditions: as part 33's. -/
namespace Go.Xe
open Go
def pd : Nat → HT
  | 0 => .e
  | d + 1 => .n .dead (pd d) (pd d)
theorem getH_pd : ∀ (d j : Nat), getH (pd d) j = .dead
  | 0, j => rfl
  | d + 1, 0 => rfl
  | d + 1, j + 1 => by
    have e : getH (pd (d + 1)) (j + 1) = Bool.rec (motive := fun _ => FO) (getH (pd d) (Nat.div j 2)) (getH (pd d) (Nat.div j 2)) (Nat.beq (Nat.mod j 2) 0) := rfl
    rw [e, getH_pd d]
    cases Nat.beq (Nat.mod j 2) 0 <;> rfl
noncomputable def startL (ids : List Nat) : HT → HT → (HT → RF) → RF :=
  List.rec (motive := fun _ => HT → HT → (HT → RF) → RF) (fun _ T k => k T) (fun i _ ih E T k => HT.rec (motive := fun _ => RF) (.fail 120) (fun o _ r _ _ => setH o T i fun T' => ih r T' k) E) ids
section
variable {P : Program} [Gl P]
def Objs (cp : Code → FCode) (Hs : Heap) : List Nat → HT → Prop
  | [], _ => True
  | i :: is, .n o _ r => FOR cp o (Hs.get i) ∧ Objs cp Hs is r
  | _ :: _, .e => False
def StOk (cp : Code → FCode) (t : TT) (ids : List Nat) (E : HT) (nx : Nat) (tm : Array Value) (Hs : Heap) : Prop := TR t tm ∧ nx = Hs.next ∧ Objs cp Hs ids E
theorem startL_ok {cp : Code → FCode} {Hs : Heap} : ∀ {ids : List Nat} {E T : HT} {k : HT → RF}, Good (startL ids E T k) → (∀ j, FOR cp (getH T j) (Hs.get j)) → Objs cp Hs ids E →
    ∃ T', startL ids E T k = k T' ∧ ∀ j, FOR cp (getH T' j) (Hs.get j)
  | [], E, T, k, _, hT, _ => ⟨T, rfl, hT⟩
  | i :: is, .e, T, k, h, _, _ => not_good (n := 120) h
  | i :: is, .n o l r, T, k, h, hT, hO => by
    have h' : Good (setH o T i fun T' => startL is r T' k) := h
    obtain ⟨T1, h1, h2⟩ := setH_good h'
    rw [h2] at h'
    obtain ⟨T2, h3, h4⟩ := startL_ok (ids := is) h' (fun j => by
      rw [h1]
      by_cases e : j = i
      · rw [if_pos e, e]; exact hO.1
      · rw [if_neg e]; exact hT j) hO.2
    exact ⟨T2, (show startL (i :: is) (.n o l r) T k = _ from h2.trans h3), h4⟩
variable [Orc P]
theorem last_ok {F : Nat → FFunc} (hF : FnOk P F) {n nx d : Nat} {c : Code} {x : FCode} (hl : comp P c = x) {t : TT} {ids : List Nat} {E : HT} {fn : Func} (hok : ∀ r ∈ fn.results.toList, resOk P r = true) {res : List FRes} (hres : fn.results.toList.map (compR P) = res)
    (h : startL ids E (pd d) (fun T => afterF (execF P F n x none [] t (.mk nx T)) res endT) = .rt .e [] (.mk 0 .e)) {tm : Array Value} {Hs : Heap} (hs : StOk (comp P) t ids E nx tm Hs) :
    ∃ e a H1, exec P n none c ⟨tm, [], Hs⟩ = some (e, a) ∧ (∀ id, e ≠ .exit id) ∧ xunmark a.marks a.heap = some H1 ∧ xresults P H1 fn a.tmps = some (.bool true) := by
  subst hl
  subst hres
  obtain ⟨h1, h2, h3⟩ := hs
  have hg : Good (startL ids E (pd d) (fun T => afterF (execF P F n (comp P c) none [] t (.mk nx T)) (fn.results.toList.map (compR P)) endT)) := by
    intro q hq; rw [h] at hq; cases hq
  obtain ⟨T, e1, e2⟩ := startL_ok hg (cp := comp P) (Hs := Hs) (fun j => by rw [getH_pd]; trivial) h3
  rw [e1] at h hg
  have hg2 : Good (execF P F n (comp P c) none [] t (.mk nx T)) := by
    intro q hq
    rw [hq] at hg
    exact not_good (n := q) hg
  obtain ⟨e, a, f1, f2⟩ := execF_ok hF n c none [] t (.mk nx T) tm Hs h1 (show HR (comp P) (.mk nx T) Hs from ⟨h2, e2⟩) hg2
  have fin : ∀ t' m' H', TR t' a.tmps → HR (comp P) H' a.heap → a.marks = m' → endF (fn.results.toList.map (compR P)) t' m' H' endT = .rt .e [] (.mk 0 .e) →
      ∃ H1, xunmark a.marks a.heap = some H1 ∧ xresults P H1 fn a.tmps = some (.bool true) := by
    intro t' m' H' k1 k2 k3 k4
    have hg3 : Good (endF (fn.results.toList.map (compR P)) t' m' H' endT) := by
      intro q hq; rw [k4] at hq; cases hq
    obtain ⟨v, H1, Hs1, g1, g2, g3, g4⟩ := endF_ok hok k1 (m := m') k2 hg3
    rw [g4] at k4 hg3
    have hv : v = .bool true := by
      unfold endT at k4 hg3
      rcases asBool_good hg3 with ⟨a, b⟩ | ⟨a, b⟩ | ⟨_, _, b⟩
      · exact a
      · rw [b] at k4; cases k4
      · rw [b] at k4; cases k4
    subst hv
    exact ⟨Hs1, by rw [k3]; exact g1, g2⟩
  cases hxr : execF P F n (comp P c) none [] t (.mk nx T) with
  | fail q => exact absurd hxr (hg2 q)
  | ex id t' m' H' => rw [hxr] at hg; exact not_good (n := 71) hg
  | nx t' m' H' =>
    rw [hxr] at h f2
    cases e with
    | ret => exact f2.elim
    | exit id => exact f2.elim
    | normal =>
      obtain ⟨q1, q2, q3⟩ := f2
      obtain ⟨H1, k1, k2⟩ := fin t' m' H' q1 q2 q3 h
      exact ⟨_, a, H1, f1, (by intro id h; cases h), k1, k2⟩
  | rt t' m' H' =>
    rw [hxr] at h f2
    cases e with
    | normal => exact f2.elim
    | exit id => exact f2.elim
    | ret =>
      obtain ⟨q1, q2, q3⟩ := f2
      obtain ⟨H1, k1, k2⟩ := fin t' m' H' q1 q2 q3 h
      exact ⟨_, a, H1, f1, (by intro id h; cases h), k1, k2⟩
end
theorem closed_x {P : Program} [Gl P] (O : Orc P) (hmix : P.follows .mixedOrders = true) {Hs0 Hs' : Heap}
    (hst : ∀ w : World, O.base ≤ w.heap.size → O.I w → ∃ θ, Rel P θ Hs0 w ∧ At P θ w ∧ ∀ i p, θ i = some p → p.rw = false) {N f : Nat} (h : xcall P (exec P N) f #[] Hs0 = some (.bool true, Hs'))
    (hfn : ∃ fn, P.funcs[f]? = some fn ∧ fn.body.isSome = true ∧ (fn.name == "runtime.NumGoroutine") = false) :
    (∀ (w : World) (r : Option Nat) (n : Nat), O.base ≤ w.heap.size → O.I w → CallsIn (FW r) n P f #[] w (Quiet (.bool true) w)) ∧ ∃ fn, P.funcs[f]? = some fn ∧ fn.body.isSome = true ∧ (fn.name == "runtime.NumGoroutine") = false := by
  refine ⟨fun w r n hb hI => ?_, hfn⟩
  obtain ⟨θ, hrel, hat, hno⟩ := hst w hb hI
  refine ((xcall_ok (exec_ok hmix N) h hrel hat (args' := #[]) AR.nil r n).1).mono ?_
  rintro e w' ⟨v', θ', k1, k2, k3, k4⟩
  cases k4
  exact ⟨k1, k2.size, fun b hb => k2.frame b hb (fun i p hp hrw => by rw [hno i p hp] at hrw; cases hrw), k2.os, k2.tape, k2.output⟩
theorem start_x {P : Program} (O : Orc P) (hb : O.base = 0) : ∀ w : World, O.base ≤ w.heap.size → O.I w → ∃ θ, Rel P θ Heap.empty w ∧ @At P (Gl.none P) O θ w ∧ ∀ i p, θ i = some p → p.rw = false := by
  letI := Gl.none P
  exact fun w _ hI => ⟨fun _ => none, ⟨(fun i o hi => by simp [Heap.get, Heap.empty, Tr.get] at hi), (fun i p hp => by cases hp), (fun i j p q oi oj hi => by simp [Heap.get, Heap.empty, Tr.get] at hi)⟩, ⟨by rw [hb]; exact Nat.zero_le _, hI, fun i p hp => (by cases hp), fun g hg => (by cases hg)⟩, fun i p hp => by cases hp⟩
def sdrop : Nat → Code → Code
  | n + 1, .seq _ b => sdrop n b
  | _, c => c
def fsdrop : Nat → FCode → FCode
  | n + 1, .seq _ b => fsdrop n b
  | _, c => c
end Go.Xe
/- An executable reading of the model's code over an abstract heap (part 36): the pieces of a closed call, put together. Conditions: as part 33's. -/
namespace Go.Xe
open Go
section
variable {P : Program} [Gl P]
theorem comp_drop : ∀ (n : Nat) (c : Code), comp P (sdrop n c) = fsdrop n (comp P c)
  | 0, c => by simp [sdrop, fsdrop]
  | n + 1, c => by
    cases c with
    | seq a b => simp only [sdrop, comp, fsdrop]; exact comp_drop n b
    | region i ops d => cases d <;> simp only [sdrop, comp, fsdrop] <;> split <;> simp [fsdrop]
    | _ => simp [sdrop, comp, fsdrop]
theorem of_entry {fn : Func} {c : Code} {k : Nat} {x : FCode} {tp : TT} {as : List Pth} {rs : List FRes} (h2 : fn.body = some c) (h : compF P fn k = .mk x tp as rs) : comp P c = x ∧ fn.results.toList.map (compR P) = rs := by
  unfold compF at h
  rw [h2] at h
  simp only [FFunc.mk.injEq] at h
  exact ⟨h.1, h.2.2.2⟩
theorem stOk_start {n : Nat} : StOk (comp P) (mkTT n) [] .e 0 (Array.replicate n undef) Heap.empty := ⟨mkTT_TR n, rfl, trivial⟩
variable [Orc P]
theorem piece_last {F : Nat → FFunc} (hF : FnOk P F) {c : Code} {x : FCode} (hc : comp P c = x) (o n : Nat) {nx d : Nat} {t : TT} {ids : List Nat} {E : HT} {fn : Func} (hok : okF P fn = true) {res : List FRes} (hres : fn.results.toList.map (compR P) = res)
    (h : startL ids E (pd d) (fun T => afterF (execF P F n (fsdrop o x) none [] t (.mk nx T)) res endT) = .rt .e [] (.mk 0 .e)) {tm : Array Value} {Hs : Heap} (hs : StOk (comp P) t ids E nx tm Hs) :
    ∃ e a H1, exec P n none (sdrop o c) ⟨tm, [], Hs⟩ = some (e, a) ∧ (∀ id, e ≠ .exit id) ∧ xunmark a.marks a.heap = some H1 ∧ xresults P H1 fn a.tmps = some (.bool true) := by
  subst hc
  have hok' : ∀ r ∈ fn.results.toList, resOk P r = true := by
    unfold okF at hok
    simp only [Bool.and_eq_true, List.all_eq_true] at hok
    exact hok.2
  exact last_ok hF (comp_drop o c) hok' hres h hs
theorem xcall_of {f N : Nat} {fn : Func} {c : Code} {Hs H1 : Heap} {e : XE} {a : AS} {v : Value} (h0 : Orc.O P f = none) (h1 : P.funcs[f]? = some fn) (h2 : fn.body = some c) (h3 : okF P fn = true)
    (hx : exec P N none c ⟨Array.replicate fn.ntmps undef, [], Hs⟩ = some (e, a)) (hne : ∀ id, e ≠ .exit id) (hu : xunmark a.marks a.heap = some H1) (hv : xresults P H1 fn a.tmps = some v) :
    xcall P (exec P N) f #[] Hs = some (v, H1) ∧ ∃ fn, P.funcs[f]? = some fn ∧ fn.body.isSome = true ∧ (fn.name == "runtime.NumGoroutine") = false := by
  have hn : (fn.name == "runtime.NumGoroutine") = false := by
    unfold okF at h3
    simp only [Bool.and_eq_true, Bool.not_eq_true'] at h3
    exact h3.1
  refine ⟨?_, fn, h1, by rw [h2]; rfl, hn⟩
  unfold xcall
  simp only [h0, h1, h2, hn, if_true]
  have e5 : (#[] : Array Value) ++ Array.replicate (fn.ntmps - (#[] : Array Value).size) undef = Array.replicate fn.ntmps undef := by simp
  rw [e5, hx]
  cases e with
  | exit id => exact absurd rfl (hne id)
  | normal => simp only [hu, hv]
  | ret => simp only [hu, hv]
end
end Go.Xe
/- An executable reading of the model's code over an abstract heap (part 37): closed calls where one table among the package-level variables is known. Conditions: as part 33's; the table lies where the variable lies. -/
namespace Go.Xe
open Go
def TabAt (g : Nat) (tab : List Value) (w : World) : Prop := ∃ c el fz, w.heap[g]? = some (.cells c el fz) ∧ ∀ (k : Nat) (v : Value), tab[k]? = some v → c[k]? = some v
theorem TabAt.keep {g : Nat} {tab : List Value} {w w' : World} (hb : ∀ b, b < g + 1 → w'.heap[b]? = w.heap[b]?) (h : TabAt g tab w) : TabAt g tab w' := by
  obtain ⟨c, el, fz, h1, h2⟩ := h
  exact ⟨c, el, fz, (hb g (Nat.lt_succ_self g)).trans h1, h2⟩
end Go.Xe
