/- An executable reading of the model's code over an abstract heap (part 27): drawn regions: what the machine checks is what the reading checks. Conditions: each operation's answer is the reading's (hx). -/
import Derived.Test.YtgcdbdcnlhonfaaXz
namespace Go.Xe
open Go
def compG (ops : Array Oper) (o : Oper) : Option (Pth×Bool):=match o.guard with
 | none=>none
 | some (j,w)=>match (ops[j]?).bind (·.dst) with
  | some d=>some (pth d,w)
  | none=>none
def guardOk (ops : Array Oper) (o : Oper) : Bool:=match o.guard with
 | none=>true
 | some (j,_)=>((ops[j]?).bind (·.dst)).isSome
def chkOf (P : Program) [Gl P] (ops : Array Oper) (pl : Plan) (k : Nat) : FC:=match ops[k]? with
 | none=>.ok
 | some o=>match pl.k k with
  | 0=>match pl.chk.getD k [] with
   | []=>.ok
   | q::qs=>if guardOk ops o=true∧isCall o.op=false∧(o.op.operands.toList.all fun y=>match y with | .tmp t=>!late ops pl.p k t|_=>true)=true then .rd (compG ops o) (compOp P o.op) (o.dst.map pth) (q::qs) else .rd none badOp none [0]
  | 1=>if guardOk ops o=true then .nw (compG ops o) (o.dst.map pth) (pl.p k) (newC o.op) else .rd none badOp none [0]
  | _=>.ok
section
variable {cp : Code→FCode} {P : Program} [Gl P] [Orc P] {F : Nat→FFunc} {x : FX} {ex : Ex}
theorem HRs.get {l : List FH} {l' : List Heap} (h : HRs cp l l') : ∀ {n : Nat} {k : FH→RF},Good (nthG n l k)→∃ H Hs,l'[n]?=some Hs∧HR cp H Hs∧nthG n l k=k H:=by
 induction h with
 | nil=>intro n k h;cases n<;>exact not_good h
 | cons h t ih=>
  intro n k hg
  cases n with
  | zero=>exact⟨_,_,by simp,h,rfl⟩
  | succ n=>
   obtain⟨H,Hs,h1,h2,h3⟩:=ih (n:=n) (k:=k) hg
   exact⟨H,Hs,by simpa using h1,h2,h3⟩
theorem HR.next {H : FH} {Hs : Heap} (h : HR cp H Hs) : nextF H=Hs.next:=by
 cases H with
 | mk nx t=>exact h.1
theorem monoF_ok {l : List FH} {l' : List Heap} (h : HRs cp l l') : ∀ {n : Nat} {k : RF},Good (monoF k l n)→monoF k l n=k∧(∀ Hs,l'[0]?=some Hs→n≤Hs.next)∧∀ i Hs Hs',l'[i]?=some Hs→l'[i+1]?=some Hs'→Hs.next≤Hs'.next:=by
 induction h with
 | nil=>intro n k h;exact⟨rfl,by simp,by simp⟩
 | @cons H Hs l l' hr t ih=>
  intro n k h
  have e : monoF k (H::l) n=ifB (Nat.ble n (nextF H)) (monoF k l (nextF H)) (.fail 92):=rfl
  rw[e] at h ⊢
  obtain⟨e1,e2⟩:=ifB_good h
  rw[e2] at h ⊢
  obtain⟨e3,e4,e5⟩:=ih h
  have hn:=hr.next
  refine⟨e3,?_,?_⟩
  ·intro Hs0 h0
   simp at h0
   subst h0
   rw[← hn]
   exact Nat.le_of_ble_eq_true e1
  ·intro i A B hA hB
   cases i with
   | zero=>
    simp at hA hB
    subst hA
    rw[← hn]
    exact e4 B (by simpa using hB)
   | succ i=>exact e5 i A B (by simpa using hA) (by simpa using hB)
theorem wantF_ok {ops : Array Oper} {o : Oper} {t : TT} {T : Array Value} (ht : TR t T) (hg : guardOk ops o=true) {yes no : RF} (h : Good (wantF t (compG ops o) yes no)) :
  (xwanted ops T o=some true∧wantF t (compG ops o) yes no=yes)∨(xwanted ops T o=some false∧wantF t (compG ops o) yes no=no):=by
 unfold compG at h ⊢
 unfold guardOk at hg
 split at hg
 ·rename_i hn
  exact .inl ⟨by simp only[xwanted,hn],by first|rfl|(simp only[hn];rfl)⟩
 ·rename_i j w hj
  cases hd : (ops[j]?).bind (·.dst) with
  | none=>rw[hd] at hg;cases hg
  | some d=>
   simp only[hj,hd] at h ⊢
   have e : wantF t (some (pth d,w)) yes no=asBool (getP (pth d) t) (ifB w yes no) (ifB w no yes) no:=rfl
   rw[e,ht.get] at h ⊢
   rcases asBool_good h with⟨e1,e2⟩|⟨e1,e2⟩|⟨e1,e1',e2⟩
   ·rw[e2]
    have hw:=want_bool hj hd e1
    cases w
    ·exact .inr ⟨hw,rfl⟩
    ·exact .inl ⟨hw,rfl⟩
   ·rw[e2]
    have hw:=want_bool hj hd e1
    cases w
    ·exact .inl ⟨hw,rfl⟩
    ·exact .inr ⟨hw,rfl⟩
   ·rw[e2]
    exact .inr ⟨want_else (o:=o) hj hd e1 e1',rfl⟩
def sameB (T : Array Value) (v : Value) : Option Tmp→Bool
 | some d=>vEq 3 (T.getD d undef) v
 | none=>true
theorem sameF_ok {t : TT} {T : Array Value} (ht : TR t T) {d : Option Tmp} {v : Value} {k : RF} (h : Good (sameF t (d.map pth) v k)) : sameB T v d=true∧sameF t (d.map pth) v k=k:=by
 cases d with
 | none=>exact⟨rfl,rfl⟩
 | some d=>
  have e : sameF t ((some d).map pth) v k=ifB (vEq 3 (getP (pth d) t) v) k (.fail 93):=rfl
  rw[e,ht.get] at h ⊢
  obtain⟨e1,e2⟩:=ifB_good h
  exact⟨e1,e2⟩
theorem readsF_ok {P : Program} [Gl P] {o : Oper} {t : TT} {T : Array Value} (ht : TR t T) (hc : isCall o.op=false) {ρ : Operand→Value} (hρ : ∀ y∈o.op.operands,ρ y=ev P T y) {Gf : List FH} {Gs : List Heap} (hG : HRs cp Gf Gs) : ∀ {qs : List Nat} {k : RF},
  Good (readsF P F x t Gf (compOp P o.op) (o.dst.map pth) k qs)→(∀ q∈qs,∃ Hq,Gs[q]?=some Hq∧checkRead P ρ T Hq o=true)∧readsF P F x t Gf (compOp P o.op) (o.dst.map pth) k qs=k
 | [],k,h=>⟨by simp,rfl⟩
 | q::qs,k,h=>by
  have e : readsF P F x t Gf (compOp P o.op) (o.dst.map pth) k (q::qs)=nthG q Gf fun H=>opF (compOp P o.op) P F x t H fun v _=>sameF t (o.dst.map pth) v (readsF P F x t Gf (compOp P o.op) (o.dst.map pth) k qs):=rfl
  rw[e] at h ⊢
  obtain⟨H,Hs,e1,e2,e3⟩:=hG.get h
  rw[e3] at h ⊢
  obtain⟨v,H',Hs',e4,e5,_⟩:=compOp_ok (cp:=cp) (F:=F) (x:=x) o.op hc t T H Hs _ ht e2 h
  rw[e4] at h ⊢
  obtain⟨e6,e7⟩:=sameF_ok ht h
  rw[e7] at h ⊢
  obtain⟨e8,e9⟩:=readsF_ok ht hc hρ hG h
  refine⟨?_,e9⟩
  intro q' hq'
  rcases List.mem_cons.1 hq' with rfl|hq'
  ·refine⟨Hs,e1,?_⟩
   unfold checkRead
   rw[xop_congr hρ,e5]
   unfold sameB at e6
   simp only[]
   exact e6
  ·exact e8 q' hq'
end
end Go.Xe
