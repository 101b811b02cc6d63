/- An executable reading of the model's code over an abstract heap (part 26): regions: the machine's run is the reading's, in order and drawn. Conditions: each operation's answer is the reading's (hx). -/
import Derived.Test.YtaboggibeenjmaaXy
namespace Go.Xe
open Go

def compFI (P : Program) [Gl P] (ops : Array Oper) (o : Oper) : FI :=
  match o.guard with
  | none => match o.dst with
    | some d => .go (compOp P o.op) (pth d)
    | none => .un (compOp P o.op)
  | some (j, w) => match (ops[j]?).bind (·.dst) with
    | some g => match o.dst with
      | some d => .gd (pth g) w (compOp P o.op) (pth d)
      | none => .gu (pth g) w (compOp P o.op)
    | none => .un badOp

/-- What an operation of any kind owes. -/
def OpvF (cp : Code → FCode) (P : Program) [Gl P] [Orc P] (F : Nat → FFunc) (x : FX) (ex : Ex) : Prop := ∀ (op : Op) (t : TT) (tm : Array Value) (H : FH) (Hs : Heap) (c : Value → FH → RF), TR t tm → HR cp H Hs → Good (opF (compOp P op) P F x t H c) →
  ∃ v H' Hs', opF (compOp P op) P F x t H c = c v H' ∧ xopv P ex (ev P tm) op Hs = some (v, Hs') ∧ HR cp H' Hs'

section
variable {cp : Code → FCode} {P : Program} [Gl P] [Orc P] {F : Nat → FFunc} {x : FX} {ex : Ex}

/-- What one operation of a region comes to. -/
def StepF (cp : Code → FCode) (P : Program) [Gl P] [Orc P] (ex : Ex) (ops : Array Oper) (o : Oper) (tm : Array Value) (H : FH) (Hs : Heap) (r : RF) (K : TT → FH → RF) : Prop :=
  (xwanted ops tm o = some true ∧ ∃ v H' Hs' t', xopv P ex (ev P tm) o.op Hs = some (v, Hs') ∧ HR cp H' Hs' ∧ TR t' (put tm o.dst v) ∧ r = K t' H') ∨
  (xwanted ops tm o = some false ∧ ∃ t', TR t' (put tm o.dst undef) ∧ r = K t' H)

theorem fiGo_ok (hx : OpvF cp P F x ex) {op : Op} {d : Nat} {t : TT} {tm : Array Value} {H : FH} {Hs : Heap} (ht : TR t tm) (hr : HR cp H Hs) {ih : TT → FH → (TT → FH → RF) → RF} {k : TT → FH → RF} (h : Good (fiGo (compOp P op) (pth d) P F x ih t H k)) :
    ∃ v H' Hs' t', xopv P ex (ev P tm) op Hs = some (v, Hs') ∧ HR cp H' Hs' ∧ TR t' (put tm (some d) v) ∧ fiGo (compOp P op) (pth d) P F x ih t H k = ih t' H' k := by
  unfold fiGo at h ⊢
  obtain ⟨v, H', Hs', e1, e2, e3⟩ := hx op t tm H Hs _ ht hr h
  rw [e1] at h
  obtain ⟨t', e4, _, e5⟩ := ht.set h
  exact ⟨v, H', Hs', t', e2, e3, e4, e1.trans e5⟩
theorem fiUn_ok (hx : OpvF cp P F x ex) {op : Op} {t : TT} {tm : Array Value} {H : FH} {Hs : Heap} (ht : TR t tm) (hr : HR cp H Hs) {ih : TT → FH → (TT → FH → RF) → RF} {k : TT → FH → RF} (h : Good (fiUn (compOp P op) P F x ih t H k)) :
    ∃ v H' Hs' t', xopv P ex (ev P tm) op Hs = some (v, Hs') ∧ HR cp H' Hs' ∧ TR t' (put tm none v) ∧ fiUn (compOp P op) P F x ih t H k = ih t' H' k := by
  unfold fiUn at h ⊢
  obtain ⟨v, H', Hs', e1, e2, e3⟩ := hx op t tm H Hs _ ht hr h
  exact ⟨v, H', Hs', t, e2, e3, ht, e1⟩

theorem want_bool {ops : Array Oper} {tm : Array Value} {o : Oper} {j g : Nat} {w b : Bool} (hg : o.guard = some (j, w)) (hd : (ops[j]?).bind (·.dst) = some g) (hv : tm.getD g undef = .bool b) : xwanted ops tm o = some (b == w) := by
  have : tm[g]? = some (.bool b) := by
    rw [Array.getD_eq_getD_getElem?] at hv
    cases h : tm[g]? with
    | none => rw [h] at hv; cases hv
    | some v => rw [h] at hv; simp at hv; rw [hv]
  simp only [xwanted, hg, hd, Option.bind_some, this]
theorem want_else {ops : Array Oper} {tm : Array Value} {o : Oper} {j g : Nat} {w : Bool} (hg : o.guard = some (j, w)) (hd : (ops[j]?).bind (·.dst) = some g) (hb : ∀ t, tm.getD g undef ≠ .bool t) (hc : tm.getD g undef ≠ .chan none) : xwanted ops tm o = some false := by
  simp only [xwanted, hg, hd, Option.bind_some]
  rw [Array.getD_eq_getD_getElem?] at hb hc
  cases h : tm[g]? with
  | none => rfl
  | some v =>
    rw [h] at hb hc
    simp only [Option.getD_some] at hb hc
    split
    · rename_i b hv; cases hv; exact absurd rfl (hb b)
    · rename_i hv; cases hv; exact absurd rfl hc
    · rfl

theorem runI_ok (hx : OpvF cp P F x ex) {ops : Array Oper} {o : Oper} {t : TT} {tm : Array Value} {H : FH} {Hs : Heap} (ht : TR t tm) (hr : HR cp H Hs) {ih : TT → FH → (TT → FH → RF) → RF} {k : TT → FH → RF}
    (h : Good (runI (compFI P ops o) P F x ih t H k)) : StepF cp P ex ops o tm H Hs (runI (compFI P ops o) P F x ih t H k) (fun t' H' => ih t' H' k) := by
  unfold compFI at h ⊢
  split at h
  · rename_i hg
    have hw : xwanted ops tm o = some true := by simp only [xwanted, hg]
    split at h
    · rename_i d hd
      have h' : Good (fiGo (compOp P o.op) (pth d) P F x ih t H k) := h
      obtain ⟨v, H', Hs', t', e1, e2, e3, e4⟩ := fiGo_ok hx ht hr h'
      exact .inl ⟨hw, v, H', Hs', t', e1, e2, by rw [hd]; exact e3, e4⟩
    · rename_i hd
      have h' : Good (fiUn (compOp P o.op) P F x ih t H k) := h
      obtain ⟨v, H', Hs', t', e1, e2, e3, e4⟩ := fiUn_ok hx ht hr h'
      exact .inl ⟨hw, v, H', Hs', t', e1, e2, by rw [hd]; exact e3, e4⟩
  · rename_i j w hg
    split at h
    · rename_i g hgd
      split at h
      · rename_i d hd
        have h' : Good (fiGd (pth g) w (compOp P o.op) (pth d) P F x ih t H k) := h
        have goal : StepF cp P ex ops o tm H Hs (fiGd (pth g) w (compOp P o.op) (pth d) P F x ih t H k) (fun t' H' => ih t' H' k) := by
          clear h
          unfold fiGd at h' ⊢
          rw [ht.get] at h' ⊢
          rcases asBool_good h' with ⟨e1, e2⟩ | ⟨e1, e2⟩ | ⟨e1, e1', e2⟩
          · rw [e2] at h' ⊢
            have hw := want_bool hg hgd e1
            cases w with
            | true =>
              rw [ifB_t] at h' ⊢
              obtain ⟨v, H', Hs', t', e1, e2, e3, e4⟩ := fiGo_ok hx ht hr h'
              exact .inl ⟨hw, v, H', Hs', t', e1, e2, by rw [hd]; exact e3, e4⟩
            | false =>
              rw [ifB_f] at h' ⊢
              obtain ⟨t', e4, _, e5⟩ := ht.set h'
              exact .inr ⟨hw, t', by rw [hd]; exact e4, e5⟩
          · rw [e2] at h' ⊢
            have hw := want_bool hg hgd e1
            cases w with
            | false =>
              rw [ifB_f] at h' ⊢
              obtain ⟨v, H', Hs', t', e1, e2, e3, e4⟩ := fiGo_ok hx ht hr h'
              exact .inl ⟨hw, v, H', Hs', t', e1, e2, by rw [hd]; exact e3, e4⟩
            | true =>
              rw [ifB_t] at h' ⊢
              obtain ⟨t', e4, _, e5⟩ := ht.set h'
              exact .inr ⟨hw, t', by rw [hd]; exact e4, e5⟩
          · rw [e2] at h' ⊢
            have hw := want_else (o := o) hg hgd e1 e1'
            obtain ⟨t', e4, _, e5⟩ := ht.set h'
            exact .inr ⟨hw, t', by rw [hd]; exact e4, e5⟩
        exact goal
      · rename_i hd
        have h' : Good (fiGu (pth g) w (compOp P o.op) P F x ih t H k) := h
        have goal : StepF cp P ex ops o tm H Hs (fiGu (pth g) w (compOp P o.op) P F x ih t H k) (fun t' H' => ih t' H' k) := by
          clear h
          unfold fiGu at h' ⊢
          rw [ht.get] at h' ⊢
          rcases asBool_good h' with ⟨e1, e2⟩ | ⟨e1, e2⟩ | ⟨e1, e1', e2⟩
          · rw [e2] at h' ⊢
            have hw := want_bool hg hgd e1
            cases w with
            | true =>
              rw [ifB_t] at h' ⊢
              obtain ⟨v, H', Hs', t', e1, e2, e3, e4⟩ := fiUn_ok hx ht hr h'
              exact .inl ⟨hw, v, H', Hs', t', e1, e2, by rw [hd]; exact e3, e4⟩
            | false => exact .inr ⟨hw, t, by rw [hd]; exact ht, rfl⟩
          · rw [e2] at h' ⊢
            have hw := want_bool hg hgd e1
            cases w with
            | false =>
              rw [ifB_f] at h' ⊢
              obtain ⟨v, H', Hs', t', e1, e2, e3, e4⟩ := fiUn_ok hx ht hr h'
              exact .inl ⟨hw, v, H', Hs', t', e1, e2, by rw [hd]; exact e3, e4⟩
            | true => exact .inr ⟨hw, t, by rw [hd]; exact ht, rfl⟩
          · rw [e2] at h' ⊢
            have hw := want_else (o := o) hg hgd e1 e1'
            exact .inr ⟨hw, t, by rw [hd]; exact ht, rfl⟩
        exact goal
    · exact badOp_not (P := P) (F := F) (x := x) (t := t) (H := H) (c := fun _ H' => ih t H' k) h

theorem runF_ok (hx : OpvF cp P F x ex) {ops : Array Oper} : ∀ {l : List Oper} {t : TT} {tm : Array Value} {H : FH} {Hs : Heap} {k : TT → FH → RF}, TR t tm → HR cp H Hs → Good (runF P F x (l.map (compFI P ops)) t H k) →
    ∃ tm' Hs' t' H', xrun P ex ops l tm Hs = some (tm', Hs') ∧ TR t' tm' ∧ HR cp H' Hs' ∧ runF P F x (l.map (compFI P ops)) t H k = k t' H'
  | [], t, tm, H, Hs, k, ht, hr, h => ⟨tm, Hs, t, H, rfl, ht, hr, rfl⟩
  | o :: l, t, tm, H, Hs, k, ht, hr, h => by
    have e : runF P F x ((o :: l).map (compFI P ops)) t H k = runI (compFI P ops o) P F x (runF P F x (l.map (compFI P ops))) t H k := rfl
    rw [e] at h ⊢
    rcases runI_ok hx ht hr h with ⟨e1, v, H', Hs', t', e2, e3, e4, e5⟩ | ⟨e1, t', e4, e5⟩
    · rw [e5] at h ⊢
      obtain ⟨tm2, Hs2, t2, H2, f1, f2, f3, f4⟩ := runF_ok hx (l := l) e4 e3 h
      exact ⟨tm2, Hs2, t2, H2, by simp only [xrun, e1, e2, f1], f2, f3, f4⟩
    · rw [e5] at h ⊢
      obtain ⟨tm2, Hs2, t2, H2, f1, f2, f3, f4⟩ := runF_ok hx (l := l) e4 hr h
      exact ⟨tm2, Hs2, t2, H2, by simp only [xrun, e1, f1], f2, f3, f4⟩

def compAt (P : Program) [Gl P] (ops : Array Oper) (k : Nat) : FI := match ops[k]? with
  | some o => compFI P ops o
  | none => .un badOp
/-- Two lists of heaps, one by one. -/
inductive HRs (cp : Code → FCode) : List FH → List Heap → Prop
  | nil : HRs cp [] []
  | cons {H : FH} {Hs : Heap} {l : List FH} {l' : List Heap} (h : HR cp H Hs) (t : HRs cp l l') : HRs cp (H :: l) (Hs :: l')
theorem runD_ok (hx : OpvF cp P F x ex) {ops : Array Oper} : ∀ {l : List Nat} {t : TT} {tm : Array Value} {H : FH} {Hs : Heap} {k : TT → List FH → RF}, TR t tm → HR cp H Hs → Good (runD P F x (l.map (compAt P ops)) t H k) →
    ∃ T Gs t' Gf, xsteps P ex ops l tm Hs = some (T, Gs) ∧ TR t' T ∧ HRs cp Gf Gs ∧ Gs.length = l.length + 1 ∧ runD P F x (l.map (compAt P ops)) t H k = k t' Gf
  | [], t, tm, H, Hs, k, ht, hr, h => ⟨tm, [Hs], t, [H], rfl, ht, .cons hr .nil, rfl, rfl⟩
  | i :: l, t, tm, H, Hs, k, ht, hr, h => by
    have e : runD P F x ((i :: l).map (compAt P ops)) t H k = runI (compAt P ops i) P F x (fun t' H' _ => runD P F x (l.map (compAt P ops)) t' H' fun T Gs => k T (H :: Gs)) t H fun _ _ => .fail 90 := rfl
    rw [e] at h ⊢
    unfold compAt at h ⊢
    cases ho : ops[i]? with
    | none =>
      rw [ho] at h
      exact badOp_not (P := P) (F := F) (x := x) (t := t) (H := H) (c := fun _ H' => runD P F x (l.map (compAt P ops)) t H' fun T Gs => k T (H :: Gs)) h
    | some o =>
      rw [ho] at h
      simp only [] at h ⊢
      rcases runI_ok hx ht hr h with ⟨e1, v, H', Hs', t', e2, e3, e4, e5⟩ | ⟨e1, t', e4, e5⟩
      · rw [e5] at h ⊢
        obtain ⟨T, Gs, t2, Gf, f1, f2, f3, f4, f5⟩ := runD_ok hx (l := l) e4 e3 h
        exact ⟨T, Hs :: Gs, t2, H :: Gf, by simp only [xsteps, ho, e1, e2, f1], f2, .cons hr f3, by simp [f4], f5⟩
      · rw [e5] at h ⊢
        obtain ⟨T, Gs, t2, Gf, f1, f2, f3, f4, f5⟩ := runD_ok hx (l := l) e4 hr h
        exact ⟨T, Hs :: Gs, t2, H :: Gf, by simp only [xsteps, ho, e1, f1], f2, .cons hr f3, by simp [f4], f5⟩
end
end Go.Xe
