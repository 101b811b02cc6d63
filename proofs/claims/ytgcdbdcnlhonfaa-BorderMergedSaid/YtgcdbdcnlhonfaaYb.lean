/- An executable reading of the model's code over an abstract heap (part 27): drawn regions: what the machine checks is what the reading checks. Conditions: each operation's answer is the reading's (hx). -/
import Derived.Test.YtgcdbdcnlhonfaaXz
namespace Go.Xe
open Go
def compG (ops : Array Oper) (o : Oper) : Option (Pth×Bool):=match o.guard with
 | none=>none
 | some (j,w)=>match (ops[j]?).bind (·.dst) with
  | some d=>some (pth d,w)
  | none=>none
def guardOk (ops : Array Oper) (o : Oper) : Bool:=match o.guard with
 | none=>true
 | some (j,_)=>((ops[j]?).bind (·.dst)).isSome
def chkOf (P : Program) [Gl P] (ops : Array Oper) (pl : Plan) (k : Nat) : FC:=match ops[k]? with
 | none=>.ok
 | some o=>match pl.k k with
  | 0=>match pl.chk.getD k [] with
   | []=>.ok
   | q::qs=>if guardOk ops o=true∧isCall o.op=false∧(o.op.operands.toList.all fun y=>match y with | .tmp t=>!late ops pl.p k t|_=>true)=true then .rd (compG ops o) (compOp P o.op) (o.dst.map pth) (q::qs) else .rd none badOp none [0]
  | 1=>if guardOk ops o=true then .nw (compG ops o) (o.dst.map pth) (pl.p k) (newC o.op) else .rd none badOp none [0]
  | _=>.ok
section
variable {cp : Code→FCode} {P : Program} [Gl P] [Orc P] {F : Nat→FFunc} {x : FX} {ex : Ex}
theorem HRs.get {l : List FH} {l' : List Heap} (h : HRs cp l l') : ∀ {n : Nat} {k : FH→RF},Good (nthG n l k)→∃ H Hs,l'[n]?=some Hs∧HR cp H Hs∧nthG n l k=k H:=by
 induction h with
 | nil=>intro n k h;cases n<;>exact not_good h
 | cons h t ih=>
  intro n k hg
  cases n with
  | zero=>exact⟨_,_,by simp,h,rfl⟩
  | succ n=>
   obtain⟨H,Hs,h1,h2,h3⟩:=ih (n:=n) (k:=k) hg
   exact⟨H,Hs,by simpa using h1,h2,h3⟩
theorem HR.next {H : FH} {Hs : Heap} (h : HR cp H Hs) : nextF H=Hs.next:=by
 cases H with
 | mk nx t=>exact h.1
theorem monoF_ok {l : List FH} {l' : List Heap} (h : HRs cp l l') : ∀ {n : Nat} {k : RF},Good (monoF k l n)→monoF k l n=k∧(∀ Hs,l'[0]?=some Hs→n≤Hs.next)∧∀ i Hs Hs',l'[i]?=some Hs→l'[i+1]?=some Hs'→Hs.next≤Hs'.next:=by
 induction h with
 | nil=>intro n k h;exact⟨rfl,by simp,by simp⟩
 | @cons H Hs l l' hr t ih=>
  intro n k h
  have e : monoF k (H::l) n=ifB (Nat.ble n (nextF H)) (monoF k l (nextF H)) (.fail 92):=rfl
  rw[e] at h ⊢
  obtain⟨e1,e2⟩:=ifB_good h
  rw[e2] at h ⊢
  obtain⟨e3,e4,e5⟩:=ih h
  have hn:=hr.next
  refine⟨e3,?_,?_⟩
  ·intro Hs0 h0
   simp at h0
   subst h0
   rw[← hn]
   exact Nat.le_of_ble_eq_true e1
  ·intro i A B hA hB
   cases i with
   | zero=>
    simp at hA hB
    subst hA
    rw[← hn]
    exact e4 B (by simpa using hB)
   | succ i=>exact e5 i A B (by simpa using hA) (by simpa using hB)
theorem wantF_ok {ops : Array Oper} {o : Oper} {t : TT} {T : Array Value} (ht : TR t T) (hg : guardOk ops o=true) {yes no : RF} (h : Good (wantF t (compG ops o) yes no)) :
  (xwanted ops T o=some true∧wantF t (compG ops o) yes no=yes)∨(xwanted ops T o=some false∧wantF t (compG ops o) yes no=no):=by
 unfold compG at h ⊢
 unfold guardOk at hg
 split at hg
 ·rename_i hn
  exact .inl ⟨by simp only[xwanted,hn],by first|rfl|(simp only[hn];rfl)⟩
 ·rename_i j w hj
  cases hd : (ops[j]?).bind (·.dst) with
  | none=>rw[hd] at hg;cases hg
  | some d=>
   simp only[hj,hd] at h ⊢
   have e : wantF t (some (pth d,w)) yes no=asBool (getP (pth d) t) (ifB w yes no) (ifB w no yes) no:=rfl
   rw[e,ht.get] at h ⊢
   rcases asBool_good h with⟨e1,e2⟩|⟨e1,e2⟩|⟨e1,e1',e2⟩
   ·rw[e2]
    have hw:=want_bool hj hd e1
    cases w
    ·exact .inr ⟨hw,rfl⟩
    ·exact .inl ⟨hw,rfl⟩
   ·rw[e2]
    have hw:=want_bool hj hd e1
    cases w
    ·exact .inl ⟨hw,rfl⟩
    ·exact .inr ⟨hw,rfl⟩
   ·rw[e2]
    exact .inr ⟨want_else (o:=o) hj hd e1 e1',rfl⟩
def sameB (T : Array Value) (v : Value) : Option Tmp→Bool
 | some d=>vEq 3 (T.getD d undef) v
 | none=>true
theorem sameF_ok {t : TT} {T : Array Value} (ht : TR t T) {d : Option Tmp} {v : Value} {k : RF} (h : Good (sameF t (d.map pth) v k)) : sameB T v d=true∧sameF t (d.map pth) v k=k:=by
 cases d with
 | none=>exact⟨rfl,rfl⟩
 | some d=>
  have e : sameF t ((some d).map pth) v k=ifB (vEq 3 (getP (pth d) t) v) k (.fail 93):=rfl
  rw[e,ht.get] at h ⊢
  obtain⟨e1,e2⟩:=ifB_good h
  exact⟨e1,e2⟩
theorem readsF_ok {P : Program} [Gl P] {o : Oper} {t : TT} {T : Array Value} (ht : TR t T) (hc : isCall o.op=false) {ρ : Operand→Value} (hρ : ∀ y∈o.op.operands,ρ y=ev P T y) {Gf : List FH} {Gs : List Heap} (hG : HRs cp Gf Gs) : ∀ {qs : List Nat} {k : RF},
  Good (readsF P F x t Gf (compOp P o.op) (o.dst.map pth) k qs)→(∀ q∈qs,∃ Hq,Gs[q]?=some Hq∧checkRead P ρ T Hq o=true)∧readsF P F x t Gf (compOp P o.op) (o.dst.map pth) k qs=k
 | [],k,h=>⟨by simp,rfl⟩
 | q::qs,k,h=>by
  have e : readsF P F x t Gf (compOp P o.op) (o.dst.map pth) k (q::qs)=nthG q Gf fun H=>opF (compOp P o.op) P F x t H fun v _=>sameF t (o.dst.map pth) v (readsF P F x t Gf (compOp P o.op) (o.dst.map pth) k qs):=rfl
  rw[e] at h ⊢
  obtain⟨H,Hs,e1,e2,e3⟩:=hG.get h
  rw[e3] at h ⊢
  obtain⟨v,H',Hs',e4,e5,_⟩:=compOp_ok (cp:=cp) (F:=F) (x:=x) o.op hc t T H Hs _ ht e2 h
  rw[e4] at h ⊢
  obtain⟨e6,e7⟩:=sameF_ok ht h
  rw[e7] at h ⊢
  obtain⟨e8,e9⟩:=readsF_ok ht hc hρ hG h
  refine⟨?_,e9⟩
  intro q' hq'
  rcases List.mem_cons.1 hq' with rfl|hq'
  ·refine⟨Hs,e1,?_⟩
   unfold checkRead
   rw[xop_congr hρ,e5]
   unfold sameB at e6
   simp only[]
   exact e6
  ·exact e8 q' hq'
end
end Go.Xe
/- An executable reading of the model's code over an abstract heap (part 28): drawn regions: the machine's run is the reading's. Conditions: each operation's answer is the reading's (hx). -/
namespace Go.Xe
open Go
def dynK (P : Program) [Gl P] (ops : Array Oper) (pl : Plan) (t0 T : Array Value) (Gs : List Heap) (k : Nat) (o : Oper) (H H' : Heap) : Bool :=
  match pl.k k with
  | 0 => (pl.chk.getD k []).all fun q => match xwanted ops T o, Gs[q]? with
    | some true, some Hq => checkRead P (evk P ops pl.p t0 T k) T Hq o
    | some true, none => false
    | _, _ => true
  | 1 => match xwanted ops T o with
    | some true =>
      (match o.dst with
       | some d => inBound H'.next 3 (T.getD d undef)
       | none => true) &&
      (!newC o.op || match H'.cellsAt H.next with
       | some (c, _, _) => c.toList.all (inBound H.next 2)
       | none => false)
    | _ => true
  | _ => true
theorem dynOk_eq (P : Program) [Gl P] (ops : Array Oper) (pl : Plan) (t0 T : Array Value) (Gs : List Heap) : dynOk P ops pl t0 T Gs = allB ops.size fun k => match ops[k]?, Gs[pl.p k]?, Gs[pl.p k + 1]? with
    | some o, some H, some H' => decide (H.next ≤ H'.next) && dynK P ops pl t0 T Gs k o H H'
    | _, _, _ => false := rfl
section
variable {cp : Code → FCode} {P : Program} [Gl P] [Orc P] {F : Nat → FFunc} {x : FX} {ex : Ex}
theorem newF_ok {o : Oper} {t : TT} {T : Array Value} (ht : TR t T) {Gf : List FH} {Gs : List Heap} (hG : HRs cp Gf Gs) {p : Nat} {k : RF} (h : Good (newF t Gf (o.dst.map pth) p (newC o.op) k)) :
    (∀ H H', Gs[p]? = some H → Gs[p + 1]? = some H' → ((match o.dst with
       | some d => inBound H'.next 3 (T.getD d undef)
       | none => true) &&
      (!newC o.op || match H'.cellsAt H.next with
       | some (c, _, _) => c.toList.all (inBound H.next 2)
       | none => false)) = true) ∧ newF t Gf (o.dst.map pth) p (newC o.op) k = k := by
  unfold newF at h ⊢
  obtain ⟨H, Hs, e1, e2, e3⟩ := hG.get h
  rw [e3] at h ⊢
  obtain ⟨H', Hs', e4, e5, e6⟩ := hG.get h
  rw [e6] at h ⊢
  cases hd : o.dst with
  | none => rw [hd] at h; exact not_good h
  | some d =>
    rw [hd] at h
    have h' : Good (ifB (inBound (nextF H') 3 (getP (pth d) t)) (ifB (newC o.op) (cellsF H' (nextF H) fun c _ _ => ifB (c.all (inBound (nextF H) 2)) k (.fail 95)) k) (.fail 96)) := h
    show _ ∧ ifB (inBound (nextF H') 3 (getP (pth d) t)) (ifB (newC o.op) (cellsF H' (nextF H) fun c _ _ => ifB (c.all (inBound (nextF H) 2)) k (.fail 95)) k) (.fail 96) = k
    rw [ht.get, e5.next] at h' ⊢
    obtain ⟨f1, f2⟩ := ifB_good h'
    rw [f2] at h' ⊢
    cases hn : newC o.op with
    | false =>
      refine ⟨?_, rfl⟩
      intro A B hA hB
      rw [show Nat.succ p = p + 1 from rfl] at e4
      rw [e4] at hB
      cases hB
      simp only [f1, Bool.not_false, Bool.true_or, Bool.and_self]
    | true =>
      rw [hn, ifB_t] at h'
      rw [ifB_t]
      obtain ⟨cs, el, rw', g1, g2⟩ := cellsF_good e5 h'
      rw [g2] at h' ⊢
      obtain ⟨g3, g4⟩ := ifB_good h'
      refine ⟨?_, g4⟩
      intro A B hA hB
      rw [show Nat.succ p = p + 1 from rfl] at e4
      rw [e4] at hB
      rw [e1] at hA
      cases hB
      cases hA
      rw [e2.next] at g1 g3
      simp only [f1, g1, Bool.not_true, Bool.false_or, Bool.true_and]
      exact g3
theorem chkF_ok {P : Program} [Gl P] {ops : Array Oper} {pl : Plan} {t : TT} {t0 T : Array Value} (ht : TR t T) {Gf : List FH} {Gs : List Heap} (hG : HRs cp Gf Gs) {k0 : RF} : ∀ {ks : List Nat}, Good (chkF P F x t Gf k0 (ks.map (chkOf P ops pl))) →
    (∀ k ∈ ks, ∀ o H H', ops[k]? = some o → Gs[pl.p k]? = some H → Gs[pl.p k + 1]? = some H' → dynK P ops pl t0 T Gs k o H H' = true) ∧ chkF P F x t Gf k0 (ks.map (chkOf P ops pl)) = k0
  | [], h => ⟨by simp, rfl⟩
  | k :: ks, h => by
    have e : chkF P F x t Gf k0 ((k :: ks).map (chkOf P ops pl)) = FC.rec (motive := fun _ => RF) (chkF P F x t Gf k0 (ks.map (chkOf P ops pl))) (fun g o d qs => wantF t g (readsF P F x t Gf o d (chkF P F x t Gf k0 (ks.map (chkOf P ops pl))) qs) (chkF P F x t Gf k0 (ks.map (chkOf P ops pl))))
      (fun g d p new => wantF t g (newF t Gf d p new (chkF P F x t Gf k0 (ks.map (chkOf P ops pl)))) (chkF P F x t Gf k0 (ks.map (chkOf P ops pl)))) (chkOf P ops pl k) := rfl
    rw [e] at h ⊢
    have key : (∀ o H H', ops[k]? = some o → Gs[pl.p k]? = some H → Gs[pl.p k + 1]? = some H' → dynK P ops pl t0 T Gs k o H H' = true) ∧ FC.rec (motive := fun _ => RF) (chkF P F x t Gf k0 (ks.map (chkOf P ops pl))) (fun g o d qs => wantF t g (readsF P F x t Gf o d (chkF P F x t Gf k0 (ks.map (chkOf P ops pl))) qs) (chkF P F x t Gf k0 (ks.map (chkOf P ops pl))))
      (fun g d p new => wantF t g (newF t Gf d p new (chkF P F x t Gf k0 (ks.map (chkOf P ops pl)))) (chkF P F x t Gf k0 (ks.map (chkOf P ops pl)))) (chkOf P ops pl k) = chkF P F x t Gf k0 (ks.map (chkOf P ops pl)) := by
      generalize chkF P F x t Gf k0 (ks.map (chkOf P ops pl)) = R at h ⊢
      have bad : ∀ {p : Prop}, Good (FC.rec (motive := fun _ => RF) R (fun g o d qs => wantF t g (readsF P F x t Gf o d R qs) R) (fun g d p new => wantF t g (newF t Gf d p new R) R) (.rd none badOp none [0])) → p := by
        intro p hb
        have hb' : Good (nthG 0 Gf fun H => opF badOp P F x t H fun v _ => sameF t none v R) := hb
        obtain ⟨H, Hs, _, _, e3⟩ := hG.get hb'
        rw [e3] at hb'
        exact badOp_not hb'
      unfold chkOf at h ⊢
      cases ho : ops[k]? with
      | none => simp only []; exact ⟨(by intro o H H' h; cases h), by first | trivial | rfl⟩
      | some o =>
        rw [ho] at h
        simp only [] at h ⊢
        split at h
        · rename_i hk
          split at h
          · rename_i hq
            refine ⟨?_, by first | rfl | trivial⟩
            intro o' H H' _ _ _
            simp only [dynK, hk, hq, List.all_nil]
          · rename_i q qs hq
            split at h
            · rename_i hc
              obtain ⟨hc1, hc2, hc3⟩ := hc
              have h' : Good (wantF t (compG ops o) (readsF P F x t Gf (compOp P o.op) (o.dst.map pth) R (q :: qs)) R) := h
              have hρ : ∀ y ∈ o.op.operands, evk P ops pl.p t0 T k y = ev P T y := by
                intro y hy
                have := List.all_eq_true.1 hc3 y (by simpa using hy)
                cases y with
                | tmp i =>
                  have hl : late ops pl.p k i = false := by simpa using this
                  simp only [evk, hl, Bool.false_eq_true, if_false]; rfl
                | _ => rfl
              rcases wantF_ok ht hc1 h' with ⟨f1, f2⟩ | ⟨f1, f2⟩
              · rw [f2] at h'
                obtain ⟨f3, f4⟩ := readsF_ok ht hc2 hρ hG h'
                refine ⟨?_, by rw [if_pos (And.intro hc1 (And.intro hc2 hc3))]; exact f2.trans f4⟩
                intro o' H H' ho' _ _
                cases ho'
                simp only [dynK, hk, hq, List.all_eq_true]
                intro q' hq'
                obtain ⟨Hq, g1, g2⟩ := f3 q' hq'
                simp only [f1, g1]
                exact g2
              · refine ⟨?_, by rw [if_pos (And.intro hc1 (And.intro hc2 hc3))]; exact f2⟩
                intro o' H H' ho' _ _
                cases ho'
                simp only [dynK, hk, hq, List.all_eq_true]
                intro q' hq'
                simp only [f1]
            · exact bad h
        · rename_i hk
          split at h
          · rename_i hc1
            have h' : Good (wantF t (compG ops o) (newF t Gf (o.dst.map pth) (pl.p k) (newC o.op) R) R) := h
            rcases wantF_ok ht hc1 h' with ⟨f1, f2⟩ | ⟨f1, f2⟩
            · rw [f2] at h'
              obtain ⟨f3, f4⟩ := newF_ok ht hG h'
              refine ⟨?_, by rw [if_pos hc1]; exact f2.trans f4⟩
              intro o' H H' ho' hH hH'
              cases ho'
              have := f3 H H' hH hH'
              simp only [dynK, hk, f1]
              exact this
            · refine ⟨?_, by rw [if_pos hc1]; exact f2⟩
              intro o' H H' ho' _ _
              cases ho'
              simp only [dynK, hk, f1]
          · exact bad h
        · rename_i hk0 hk1
          refine ⟨?_, by first | rfl | trivial⟩
          intro o' H H' _ _ _
          unfold dynK
          split
          · rename_i hk; exact absurd hk hk0
          · rename_i hk; exact absurd hk hk1
          · rfl
    rw [key.2] at h ⊢
    obtain ⟨r1, r2⟩ := chkF_ok ht hG (ks := ks) h
    refine ⟨?_, r2⟩
    intro k' hk'
    rcases List.mem_cons.1 hk' with rfl | hk'
    · exact key.1
    · exact r1 k' hk'
theorem exDraw_ok (hx : OpvF cp P F x ex) {ops : Array Oper} (hp : planOk ops (mkPlan ops) = true) {rnd : Option Nat} {m : List Nat} {t : TT} {tm : Array Value} {H : FH} {Hs : Heap} (ht : TR t tm) (hr : HR cp H Hs)
    (h : Good (exDraw ops.size ((mkPlan ops).sig.map (compAt P ops)) ((List.range ops.size).map (chkOf P ops (mkPlan ops))) P F x rnd m t H)) :
    ∃ T Hs' t' H', xdraw P ex ops tm Hs = some (T, Hs') ∧ TR t' T ∧ HR cp H' Hs' ∧ exDraw ops.size ((mkPlan ops).sig.map (compAt P ops)) ((List.range ops.size).map (chkOf P ops (mkPlan ops))) P F x rnd m t H = .nx t' m H' := by
  unfold exDraw at h ⊢
  obtain ⟨T, Gs, t', Gf, e1, e2, e3, e4, e5⟩ := runD_ok hx ht hr h
  rw [e5] at h ⊢
  obtain ⟨e6, _, e8⟩ := monoF_ok e3 h
  rw [e6] at h ⊢
  obtain ⟨e9, e10⟩ := chkF_ok (t0 := tm) e2 e3 h
  rw [e10] at h ⊢
  obtain ⟨H', Hs', e11, e12, e13⟩ := e3.get h
  have hp' := hp
  replace hp' := planOk_reach hp'
  simp only [planOkG, Bool.and_eq_true] at hp'
  have hsz : (mkPlan ops).sig.length = ops.size := by simpa using hp'.1.1.1.1.1
  have hpos := hp'.1.1.1.1.2
  have hdyn : dynOk P ops (mkPlan ops) tm T Gs = true := by
    rw [dynOk_eq]
    refine List.all_eq_true.2 ?_
    intro k hk
    have hk' := List.mem_range.1 hk
    have hq := allB_at hpos hk'
    simp only [Bool.and_eq_true, decide_eq_true_eq] at hq
    have l1 : (mkPlan ops).p k < Gs.length := by omega
    have l2 : (mkPlan ops).p k + 1 < Gs.length := by omega
    have g0 : ops[k]? = some ops[k] := by simp [hk']
    have g1 : Gs[(mkPlan ops).p k]? = some Gs[(mkPlan ops).p k] := by simp [l1]
    have g2 : Gs[(mkPlan ops).p k + 1]? = some Gs[(mkPlan ops).p k + 1] := by simp [l2]
    simp only [g0, g1, g2, Bool.and_eq_true, decide_eq_true_eq]
    exact ⟨e8 _ _ _ g1 g2, e9 k hk _ _ _ g0 g1 g2⟩
  refine ⟨T, Hs', t', H', ?_, e2, e12, e13⟩
  simp only [xdraw, hp, if_true, e1, hdyn]
  have : Gs.getD ops.size Hs = Hs' := by rw [List.getD_eq_getElem?_getD, e11]; rfl
  rw [this]
end
end Go.Xe
