/- An executable reading of the model's code over an abstract heap (part 28): drawn regions: the machine's run is the reading's. Conditions: each operation's answer is the reading's (hx). -/
import Derived.Test.YtgcdbdcnlhonfaaYa
namespace Go.Xe
open Go
def dynK (P : Program) [Gl P] (ops : Array Oper) (pl : Plan) (t0 T : Array Value) (Gs : List Heap) (k : Nat) (o : Oper) (H H' : Heap) : Bool :=
  match pl.k k with
  | 0 => (pl.chk.getD k []).all fun q => match xwanted ops T o, Gs[q]? with
    | some true, some Hq => checkRead P (evk P ops pl.p t0 T k) T Hq o
    | some true, none => false
    | _, _ => true
  | 1 => match xwanted ops T o with
    | some true =>
      (match o.dst with
       | some d => inBound H'.next 3 (T.getD d undef)
       | none => true) &&
      (!newC o.op || match H'.cellsAt H.next with
       | some (c, _, _) => c.toList.all (inBound H.next 2)
       | none => false)
    | _ => true
  | _ => true
theorem dynOk_eq (P : Program) [Gl P] (ops : Array Oper) (pl : Plan) (t0 T : Array Value) (Gs : List Heap) : dynOk P ops pl t0 T Gs = allB ops.size fun k => match ops[k]?, Gs[pl.p k]?, Gs[pl.p k + 1]? with
    | some o, some H, some H' => decide (H.next ≤ H'.next) && dynK P ops pl t0 T Gs k o H H'
    | _, _, _ => false := rfl
section
variable {cp : Code → FCode} {P : Program} [Gl P] [Orc P] {F : Nat → FFunc} {x : FX} {ex : Ex}
theorem newF_ok {o : Oper} {t : TT} {T : Array Value} (ht : TR t T) {Gf : List FH} {Gs : List Heap} (hG : HRs cp Gf Gs) {p : Nat} {k : RF} (h : Good (newF t Gf (o.dst.map pth) p (newC o.op) k)) :
    (∀ H H', Gs[p]? = some H → Gs[p + 1]? = some H' → ((match o.dst with
       | some d => inBound H'.next 3 (T.getD d undef)
       | none => true) &&
      (!newC o.op || match H'.cellsAt H.next with
       | some (c, _, _) => c.toList.all (inBound H.next 2)
       | none => false)) = true) ∧ newF t Gf (o.dst.map pth) p (newC o.op) k = k := by
  unfold newF at h ⊢
  obtain ⟨H, Hs, e1, e2, e3⟩ := hG.get h
  rw [e3] at h ⊢
  obtain ⟨H', Hs', e4, e5, e6⟩ := hG.get h
  rw [e6] at h ⊢
  cases hd : o.dst with
  | none => rw [hd] at h; exact not_good h
  | some d =>
    rw [hd] at h
    have h' : Good (ifB (inBound (nextF H') 3 (getP (pth d) t)) (ifB (newC o.op) (cellsF H' (nextF H) fun c _ _ => ifB (c.all (inBound (nextF H) 2)) k (.fail 95)) k) (.fail 96)) := h
    show _ ∧ ifB (inBound (nextF H') 3 (getP (pth d) t)) (ifB (newC o.op) (cellsF H' (nextF H) fun c _ _ => ifB (c.all (inBound (nextF H) 2)) k (.fail 95)) k) (.fail 96) = k
    rw [ht.get, e5.next] at h' ⊢
    obtain ⟨f1, f2⟩ := ifB_good h'
    rw [f2] at h' ⊢
    cases hn : newC o.op with
    | false =>
      refine ⟨?_, rfl⟩
      intro A B hA hB
      rw [show Nat.succ p = p + 1 from rfl] at e4
      rw [e4] at hB
      cases hB
      simp only [f1, Bool.not_false, Bool.true_or, Bool.and_self]
    | true =>
      rw [hn, ifB_t] at h'
      rw [ifB_t]
      obtain ⟨cs, el, rw', g1, g2⟩ := cellsF_good e5 h'
      rw [g2] at h' ⊢
      obtain ⟨g3, g4⟩ := ifB_good h'
      refine ⟨?_, g4⟩
      intro A B hA hB
      rw [show Nat.succ p = p + 1 from rfl] at e4
      rw [e4] at hB
      rw [e1] at hA
      cases hB
      cases hA
      rw [e2.next] at g1 g3
      simp only [f1, g1, Bool.not_true, Bool.false_or, Bool.true_and]
      exact g3
theorem chkF_ok {P : Program} [Gl P] {ops : Array Oper} {pl : Plan} {t : TT} {t0 T : Array Value} (ht : TR t T) {Gf : List FH} {Gs : List Heap} (hG : HRs cp Gf Gs) {k0 : RF} : ∀ {ks : List Nat}, Good (chkF P F x t Gf k0 (ks.map (chkOf P ops pl))) →
    (∀ k ∈ ks, ∀ o H H', ops[k]? = some o → Gs[pl.p k]? = some H → Gs[pl.p k + 1]? = some H' → dynK P ops pl t0 T Gs k o H H' = true) ∧ chkF P F x t Gf k0 (ks.map (chkOf P ops pl)) = k0
  | [], h => ⟨by simp, rfl⟩
  | k :: ks, h => by
    have e : chkF P F x t Gf k0 ((k :: ks).map (chkOf P ops pl)) = FC.rec (motive := fun _ => RF) (chkF P F x t Gf k0 (ks.map (chkOf P ops pl))) (fun g o d qs => wantF t g (readsF P F x t Gf o d (chkF P F x t Gf k0 (ks.map (chkOf P ops pl))) qs) (chkF P F x t Gf k0 (ks.map (chkOf P ops pl))))
      (fun g d p new => wantF t g (newF t Gf d p new (chkF P F x t Gf k0 (ks.map (chkOf P ops pl)))) (chkF P F x t Gf k0 (ks.map (chkOf P ops pl)))) (chkOf P ops pl k) := rfl
    rw [e] at h ⊢
    have key : (∀ o H H', ops[k]? = some o → Gs[pl.p k]? = some H → Gs[pl.p k + 1]? = some H' → dynK P ops pl t0 T Gs k o H H' = true) ∧ FC.rec (motive := fun _ => RF) (chkF P F x t Gf k0 (ks.map (chkOf P ops pl))) (fun g o d qs => wantF t g (readsF P F x t Gf o d (chkF P F x t Gf k0 (ks.map (chkOf P ops pl))) qs) (chkF P F x t Gf k0 (ks.map (chkOf P ops pl))))
      (fun g d p new => wantF t g (newF t Gf d p new (chkF P F x t Gf k0 (ks.map (chkOf P ops pl)))) (chkF P F x t Gf k0 (ks.map (chkOf P ops pl)))) (chkOf P ops pl k) = chkF P F x t Gf k0 (ks.map (chkOf P ops pl)) := by
      generalize chkF P F x t Gf k0 (ks.map (chkOf P ops pl)) = R at h ⊢
      have bad : ∀ {p : Prop}, Good (FC.rec (motive := fun _ => RF) R (fun g o d qs => wantF t g (readsF P F x t Gf o d R qs) R) (fun g d p new => wantF t g (newF t Gf d p new R) R) (.rd none badOp none [0])) → p := by
        intro p hb
        have hb' : Good (nthG 0 Gf fun H => opF badOp P F x t H fun v _ => sameF t none v R) := hb
        obtain ⟨H, Hs, _, _, e3⟩ := hG.get hb'
        rw [e3] at hb'
        exact badOp_not hb'
      unfold chkOf at h ⊢
      cases ho : ops[k]? with
      | none => simp only []; exact ⟨(by intro o H H' h; cases h), by first | trivial | rfl⟩
      | some o =>
        rw [ho] at h
        simp only [] at h ⊢
        split at h
        · rename_i hk
          split at h
          · rename_i hq
            refine ⟨?_, by first | rfl | trivial⟩
            intro o' H H' _ _ _
            simp only [dynK, hk, hq, List.all_nil]
          · rename_i q qs hq
            split at h
            · rename_i hc
              obtain ⟨hc1, hc2, hc3⟩ := hc
              have h' : Good (wantF t (compG ops o) (readsF P F x t Gf (compOp P o.op) (o.dst.map pth) R (q :: qs)) R) := h
              have hρ : ∀ y ∈ o.op.operands, evk P ops pl.p t0 T k y = ev P T y := by
                intro y hy
                have := List.all_eq_true.1 hc3 y (by simpa using hy)
                cases y with
                | tmp i =>
                  have hl : late ops pl.p k i = false := by simpa using this
                  simp only [evk, hl, Bool.false_eq_true, if_false]; rfl
                | _ => rfl
              rcases wantF_ok ht hc1 h' with ⟨f1, f2⟩ | ⟨f1, f2⟩
              · rw [f2] at h'
                obtain ⟨f3, f4⟩ := readsF_ok ht hc2 hρ hG h'
                refine ⟨?_, by rw [if_pos (And.intro hc1 (And.intro hc2 hc3))]; exact f2.trans f4⟩
                intro o' H H' ho' _ _
                cases ho'
                simp only [dynK, hk, hq, List.all_eq_true]
                intro q' hq'
                obtain ⟨Hq, g1, g2⟩ := f3 q' hq'
                simp only [f1, g1]
                exact g2
              · refine ⟨?_, by rw [if_pos (And.intro hc1 (And.intro hc2 hc3))]; exact f2⟩
                intro o' H H' ho' _ _
                cases ho'
                simp only [dynK, hk, hq, List.all_eq_true]
                intro q' hq'
                simp only [f1]
            · exact bad h
        · rename_i hk
          split at h
          · rename_i hc1
            have h' : Good (wantF t (compG ops o) (newF t Gf (o.dst.map pth) (pl.p k) (newC o.op) R) R) := h
            rcases wantF_ok ht hc1 h' with ⟨f1, f2⟩ | ⟨f1, f2⟩
            · rw [f2] at h'
              obtain ⟨f3, f4⟩ := newF_ok ht hG h'
              refine ⟨?_, by rw [if_pos hc1]; exact f2.trans f4⟩
              intro o' H H' ho' hH hH'
              cases ho'
              have := f3 H H' hH hH'
              simp only [dynK, hk, f1]
              exact this
            · refine ⟨?_, by rw [if_pos hc1]; exact f2⟩
              intro o' H H' ho' _ _
              cases ho'
              simp only [dynK, hk, f1]
          · exact bad h
        · rename_i hk0 hk1
          refine ⟨?_, by first | rfl | trivial⟩
          intro o' H H' _ _ _
          unfold dynK
          split
          · rename_i hk; exact absurd hk hk0
          · rename_i hk; exact absurd hk hk1
          · rfl
    rw [key.2] at h ⊢
    obtain ⟨r1, r2⟩ := chkF_ok ht hG (ks := ks) h
    refine ⟨?_, r2⟩
    intro k' hk'
    rcases List.mem_cons.1 hk' with rfl | hk'
    · exact key.1
    · exact r1 k' hk'
theorem exDraw_ok (hx : OpvF cp P F x ex) {ops : Array Oper} (hp : planOk ops (mkPlan ops) = true) {rnd : Option Nat} {m : List Nat} {t : TT} {tm : Array Value} {H : FH} {Hs : Heap} (ht : TR t tm) (hr : HR cp H Hs)
    (h : Good (exDraw ops.size ((mkPlan ops).sig.map (compAt P ops)) ((List.range ops.size).map (chkOf P ops (mkPlan ops))) P F x rnd m t H)) :
    ∃ T Hs' t' H', xdraw P ex ops tm Hs = some (T, Hs') ∧ TR t' T ∧ HR cp H' Hs' ∧ exDraw ops.size ((mkPlan ops).sig.map (compAt P ops)) ((List.range ops.size).map (chkOf P ops (mkPlan ops))) P F x rnd m t H = .nx t' m H' := by
  unfold exDraw at h ⊢
  obtain ⟨T, Gs, t', Gf, e1, e2, e3, e4, e5⟩ := runD_ok hx ht hr h
  rw [e5] at h ⊢
  obtain ⟨e6, _, e8⟩ := monoF_ok e3 h
  rw [e6] at h ⊢
  obtain ⟨e9, e10⟩ := chkF_ok (t0 := tm) e2 e3 h
  rw [e10] at h ⊢
  obtain ⟨H', Hs', e11, e12, e13⟩ := e3.get h
  have hp' := hp
  replace hp' := planOk_reach hp'
  simp only [planOkG, Bool.and_eq_true] at hp'
  have hsz : (mkPlan ops).sig.length = ops.size := by simpa using hp'.1.1.1.1.1
  have hpos := hp'.1.1.1.1.2
  have hdyn : dynOk P ops (mkPlan ops) tm T Gs = true := by
    rw [dynOk_eq]
    refine List.all_eq_true.2 ?_
    intro k hk
    have hk' := List.mem_range.1 hk
    have hq := allB_at hpos hk'
    simp only [Bool.and_eq_true, decide_eq_true_eq] at hq
    have l1 : (mkPlan ops).p k < Gs.length := by omega
    have l2 : (mkPlan ops).p k + 1 < Gs.length := by omega
    have g0 : ops[k]? = some ops[k] := by simp [hk']
    have g1 : Gs[(mkPlan ops).p k]? = some Gs[(mkPlan ops).p k] := by simp [l1]
    have g2 : Gs[(mkPlan ops).p k + 1]? = some Gs[(mkPlan ops).p k + 1] := by simp [l2]
    simp only [g0, g1, g2, Bool.and_eq_true, decide_eq_true_eq]
    exact ⟨e8 _ _ _ g1 g2, e9 k hk _ _ _ g0 g1 g2⟩
  refine ⟨T, Hs', t', H', ?_, e2, e12, e13⟩
  simp only [xdraw, hp, if_true, e1, hdyn]
  have : Gs.getD ops.size Hs = Hs' := by rw [List.getD_eq_getElem?_getD, e11]; rfl
  rw [this]
end
end Go.Xe
