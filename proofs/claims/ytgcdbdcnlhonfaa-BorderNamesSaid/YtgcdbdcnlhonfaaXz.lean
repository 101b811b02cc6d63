/- An executable reading of the model's code over an abstract heap (part 26): regions: the machine's run is the reading's, in order and drawn. Conditions: each operation's answer is the reading's (hx). -/
import Derived.Test.YtgcdbdcnlhonfaaXy
namespace Go.Xe
open Go
def compFIG (co : Op→FOp) (ops : Array Oper) (o : Oper) : FI:=
 match o.guard with
 | none=>match o.dst with
  | some d=>.go (co o.op) (pth d)
  | none=>.un (co o.op)
 | some (j,w)=>match (ops[j]?).bind (·.dst) with
  | some g=>match o.dst with
   | some d=>.gd (pth g) w (co o.op) (pth d)
   | none=>.gu (pth g) w (co o.op)
  | none=>.un badOp
def compFI (P : Program) [Gl P] (ops : Array Oper) (o : Oper) : FI:=compFIG (compOp P) ops o
def compOpS (P : Program) [Gl P] (op : Op) : FOp:=match op with
 | .convert src dst x=>match P.underlying src,P.underlying dst with
  | some (.slice e),some .string=>if isU8 P e then .toStr (compA P x) else badOp
  | some .string,some (.slice e)=>if isU8 P e then .toBytes e (compA P x) else badOp
  | _,_=>compOp P op
 | op=>compOp P op
def compFIS (P : Program) [Gl P] (ops : Array Oper) (o : Oper) : FI:=compFIG (compOpS P) ops o
def OpvG (cp : Code→FCode) (P : Program) [Gl P] (F : Nat→FFunc) (x : FX) (co : Op→FOp) (xo : (Operand→Value)→Op→Heap→Option (Value×Heap)) : Prop:=∀ (op : Op) (t : TT) (tm : Array Value) (H : FH) (Hs : Heap) (c : Value→FH→RF),TR t tm→HR cp H Hs→Good (opF (co op) P F x t H c) →
 ∃ v H' Hs',opF (co op) P F x t H c=c v H'∧xo (ev P tm) op Hs=some (v,Hs')∧HR cp H' Hs'
abbrev OpvF (cp : Code→FCode) (P : Program) [Gl P] [Orc P] (F : Nat→FFunc) (x : FX) (ex : Ex) : Prop:=OpvG cp P F x (compOp P) (xopv P ex)
abbrev OpvS (cp : Code→FCode) (P : Program) [Gl P] [Orc P] (F : Nat→FFunc) (x : FX) (ex : Ex) : Prop:=OpvG cp P F x (compOpS P) (xopvS P ex)
section
variable {cp : Code→FCode} {P : Program} [Gl P] {F : Nat→FFunc} {x : FX} {co : Op→FOp} {xo : (Operand→Value)→Op→Heap→Option (Value×Heap)}
def StepG (cp : Code→FCode) (P : Program) [Gl P] (xo : (Operand→Value)→Op→Heap→Option (Value×Heap)) (ops : Array Oper) (o : Oper) (tm : Array Value) (H : FH) (Hs : Heap) (r : RF) (K : TT→FH→RF) : Prop:=
 (xwanted ops tm o=some true∧∃ v H' Hs' t',xo (ev P tm) o.op Hs=some (v,Hs')∧HR cp H' Hs'∧TR t' (put tm o.dst v)∧r=K t' H') ∨
 (xwanted ops tm o=some false∧∃ t',TR t' (put tm o.dst undef)∧r=K t' H)
theorem fiGo_ok (hx : OpvG cp P F x co xo) {op : Op} {d : Nat} {t : TT} {tm : Array Value} {H : FH} {Hs : Heap} (ht : TR t tm) (hr : HR cp H Hs) {ih : TT→FH→(TT→FH→RF)→RF} {k : TT→FH→RF} (h : Good (fiGo (co op) (pth d) P F x ih t H k)) :
  ∃ v H' Hs' t',xo (ev P tm) op Hs=some (v,Hs')∧HR cp H' Hs'∧TR t' (put tm (some d) v)∧fiGo (co op) (pth d) P F x ih t H k=ih t' H' k:=by
 unfold fiGo at h ⊢
 obtain⟨v,H',Hs',e1,e2,e3⟩:=hx op t tm H Hs _ ht hr h
 rw[e1] at h
 obtain⟨t',e4,_,e5⟩:=ht.set h
 exact⟨v,H',Hs',t',e2,e3,e4,e1.trans e5⟩
theorem fiUn_ok (hx : OpvG cp P F x co xo) {op : Op} {t : TT} {tm : Array Value} {H : FH} {Hs : Heap} (ht : TR t tm) (hr : HR cp H Hs) {ih : TT→FH→(TT→FH→RF)→RF} {k : TT→FH→RF} (h : Good (fiUn (co op) P F x ih t H k)) :
  ∃ v H' Hs' t',xo (ev P tm) op Hs=some (v,Hs')∧HR cp H' Hs'∧TR t' (put tm none v)∧fiUn (co op) P F x ih t H k=ih t' H' k:=by
 unfold fiUn at h ⊢
 obtain⟨v,H',Hs',e1,e2,e3⟩:=hx op t tm H Hs _ ht hr h
 exact⟨v,H',Hs',t,e2,e3,ht,e1⟩
theorem want_bool {ops : Array Oper} {tm : Array Value} {o : Oper} {j g : Nat} {w b : Bool} (hg : o.guard=some (j,w)) (hd : (ops[j]?).bind (·.dst)=some g) (hv : tm.getD g undef=.bool b) : xwanted ops tm o=some (b == w):=by
 have : tm[g]?=some (.bool b):=by
  rw[Array.getD_eq_getD_getElem?] at hv
  cases h : tm[g]? with
  | none=>rw[h] at hv;cases hv
  | some v=>rw[h] at hv;simp at hv;rw[hv]
 simp only[xwanted,hg,hd,Option.bind_some,this]
theorem want_else {ops : Array Oper} {tm : Array Value} {o : Oper} {j g : Nat} {w : Bool} (hg : o.guard=some (j,w)) (hd : (ops[j]?).bind (·.dst)=some g) (hb : ∀ t,tm.getD g undef≠.bool t) (hc : tm.getD g undef≠.chan none) : xwanted ops tm o=some false:=by
 simp only[xwanted,hg,hd,Option.bind_some]
 rw[Array.getD_eq_getD_getElem?] at hb hc
 cases h : tm[g]? with
 | none=>rfl
 | some v=>
  rw[h] at hb hc
  simp only[Option.getD_some] at hb hc
  split
  ·rename_i b hv;cases hv;exact absurd rfl (hb b)
  ·rename_i hv;cases hv;exact absurd rfl hc
  ·rfl
theorem runI_ok (hx : OpvG cp P F x co xo) {ops : Array Oper} {o : Oper} {t : TT} {tm : Array Value} {H : FH} {Hs : Heap} (ht : TR t tm) (hr : HR cp H Hs) {ih : TT→FH→(TT→FH→RF)→RF} {k : TT→FH→RF}
  (h : Good (runI (compFIG co ops o) P F x ih t H k)) : StepG cp P xo ops o tm H Hs (runI (compFIG co ops o) P F x ih t H k) (fun t' H'=>ih t' H' k):=by
 unfold compFIG at h ⊢
 split at h
 ·rename_i hg
  have hw : xwanted ops tm o=some true:=by simp only[xwanted,hg]
  split at h
  ·rename_i d hd
   have h' : Good (fiGo (co o.op) (pth d) P F x ih t H k):=h
   obtain⟨v,H',Hs',t',e1,e2,e3,e4⟩:=fiGo_ok hx ht hr h'
   exact .inl ⟨hw,v,H',Hs',t',e1,e2,by rw[hd];exact e3,e4⟩
  ·rename_i hd
   have h' : Good (fiUn (co o.op) P F x ih t H k):=h
   obtain⟨v,H',Hs',t',e1,e2,e3,e4⟩:=fiUn_ok hx ht hr h'
   exact .inl ⟨hw,v,H',Hs',t',e1,e2,by rw[hd];exact e3,e4⟩
 ·rename_i j w hg
  split at h
  ·rename_i g hgd
   split at h
   ·rename_i d hd
    have h' : Good (fiGd (pth g) w (co o.op) (pth d) P F x ih t H k):=h
    have goal : StepG cp P xo ops o tm H Hs (fiGd (pth g) w (co o.op) (pth d) P F x ih t H k) (fun t' H'=>ih t' H' k):=by
     clear h
     unfold fiGd at h' ⊢
     rw[ht.get] at h' ⊢
     rcases asBool_good h' with⟨e1,e2⟩|⟨e1,e2⟩|⟨e1,e1',e2⟩
     ·rw[e2] at h' ⊢
      have hw:=want_bool hg hgd e1
      cases w with
      | true=>
       rw[ifB_t] at h' ⊢
       obtain⟨v,H',Hs',t',e1,e2,e3,e4⟩:=fiGo_ok hx ht hr h'
       exact .inl ⟨hw,v,H',Hs',t',e1,e2,by rw[hd];exact e3,e4⟩
      | false=>
       rw[ifB_f] at h' ⊢
       obtain⟨t',e4,_,e5⟩:=ht.set h'
       exact .inr ⟨hw,t',by rw[hd];exact e4,e5⟩
     ·rw[e2] at h' ⊢
      have hw:=want_bool hg hgd e1
      cases w with
      | false=>
       rw[ifB_f] at h' ⊢
       obtain⟨v,H',Hs',t',e1,e2,e3,e4⟩:=fiGo_ok hx ht hr h'
       exact .inl ⟨hw,v,H',Hs',t',e1,e2,by rw[hd];exact e3,e4⟩
      | true=>
       rw[ifB_t] at h' ⊢
       obtain⟨t',e4,_,e5⟩:=ht.set h'
       exact .inr ⟨hw,t',by rw[hd];exact e4,e5⟩
     ·rw[e2] at h' ⊢
      have hw:=want_else (o:=o) hg hgd e1 e1'
      obtain⟨t',e4,_,e5⟩:=ht.set h'
      exact .inr ⟨hw,t',by rw[hd];exact e4,e5⟩
    exact goal
   ·rename_i hd
    have h' : Good (fiGu (pth g) w (co o.op) P F x ih t H k):=h
    have goal : StepG cp P xo ops o tm H Hs (fiGu (pth g) w (co o.op) P F x ih t H k) (fun t' H'=>ih t' H' k):=by
     clear h
     unfold fiGu at h' ⊢
     rw[ht.get] at h' ⊢
     rcases asBool_good h' with⟨e1,e2⟩|⟨e1,e2⟩|⟨e1,e1',e2⟩
     ·rw[e2] at h' ⊢
      have hw:=want_bool hg hgd e1
      cases w with
      | true=>
       rw[ifB_t] at h' ⊢
       obtain⟨v,H',Hs',t',e1,e2,e3,e4⟩:=fiUn_ok hx ht hr h'
       exact .inl ⟨hw,v,H',Hs',t',e1,e2,by rw[hd];exact e3,e4⟩
      | false=>exact .inr ⟨hw,t,by rw[hd];exact ht,rfl⟩
     ·rw[e2] at h' ⊢
      have hw:=want_bool hg hgd e1
      cases w with
      | false=>
       rw[ifB_f] at h' ⊢
       obtain⟨v,H',Hs',t',e1,e2,e3,e4⟩:=fiUn_ok hx ht hr h'
       exact .inl ⟨hw,v,H',Hs',t',e1,e2,by rw[hd];exact e3,e4⟩
      | true=>exact .inr ⟨hw,t,by rw[hd];exact ht,rfl⟩
     ·rw[e2] at h' ⊢
      have hw:=want_else (o:=o) hg hgd e1 e1'
      exact .inr ⟨hw,t,by rw[hd];exact ht,rfl⟩
    exact goal
  ·exact badOp_not (P:=P) (F:=F) (x:=x) (t:=t) (H:=H) (c:=fun _ H'=>ih t H' k) h
end
section
variable {cp : Code→FCode} {P : Program} [Gl P] [Orc P] {F : Nat→FFunc} {x : FX} {ex : Ex}
theorem xopvS_of {ρ : Operand→Value} {op : Op} {H : Heap} {r : Value×Heap} (h : xopv P ex ρ op H=some r) : xopvS P ex ρ op H=some r:=by simp only[xopvS,h]
theorem xopvS_conv {ρ : Operand→Value} {src dst : TypeId} {y : Operand} {H : Heap} {r : Value×Heap} (hn : ∀ k n,ρ y≠.int k n) (h : xconvS P H src dst (ρ y)=some r) : xopvS P ex ρ (.convert src dst y) H=some r:=by
 have e : xopv P ex ρ (.convert src dst y) H=none:=by
  simp only[xopv,xop]
  cases hv : ρ y with
  | int k n=>exact absurd hv (hn k n)
  | _=>rfl
 simp only[xopvS,e,h]
theorem bytesC_eq : ∀ (l : List UInt8) (k : List Value→RF),bytesC l k=k (l.map byteV)
 | [],k=>rfl
 | b::l,k=>by
  have e : bytesC (b::l) k=gN b.toNat fun n=>bytesC l fun r=>k (.int .u8 (.ofNat n)::r):=rfl
  rw[e,gN_eq,bytesC_eq l]
  rfl
theorem opvS_ok (hx : OpvF cp P F x ex) : OpvS cp P F x ex:=by
 intro op t tm H Hs c ht hr h
 have old : compOpS P op=compOp P op→∃ v H' Hs',opF (compOpS P op) P F x t H c=c v H'∧xopvS P ex (ev P tm) op Hs=some (v,Hs')∧HR cp H' Hs':=by
  intro e
  rw[e] at h ⊢
  obtain⟨v,H',Hs',e1,e2,e3⟩:=hx op t tm H Hs c ht hr h
  exact⟨v,H',Hs',e1,xopvS_of e2,e3⟩
 cases op with
 | convert src dst y=>
  simp only[compOpS] at h old ⊢
  split at h
  ·rename_i e hs hd
   split at h
   ·rename_i hu
    clear old
    rw[if_pos hu]
    have h' : Good (opToStr (compA P y) P t H c):=h
    show ∃ v H' Hs',opToStr (compA P y) P t H c=c v H'∧_
    clear h
    unfold opToStr at h' ⊢
    rw[evA_comp ht] at h' ⊢
    rcases asSlice_good h' with⟨i,o,n,cp',e1,e2⟩|⟨i,o,q,n,cp',e1,e2⟩|⟨n,cp',e1,e2⟩
    ·rw[e2] at h' ⊢
     obtain⟨cs,el,rw',e3,e4⟩:=cellsF_good hr h'
     rw[e4] at h' ⊢
     cases n with
     | zero=>exact⟨_,H,Hs,rfl,xopvS_conv (by rw[e1];intro k n h;cases h) (by simp only[xconvS,e1,hs,hd,hu,if_true,e3]),hr⟩
     | succ n=>
      have h2 : Good (subL (n+1) o cs fun w=>strOf w H c):=h'
      show ∃ v H' Hs',(subL (n+1) o cs fun w=>strOf w H c)=c v H'∧_
      obtain⟨e5,e6⟩:=subL_good h2
      rw[e6] at h2 ⊢
      have e7 : o+(n+1)≤(⟨cs⟩ : Array Value).size:=by simpa using e5
      unfold strOf at h2 ⊢
      cases hb : ofBytes ((⟨cs⟩ : Array Value).extract o (o+(n+1))).toList with
      | none=>rw[hb] at h2;exact not_good h2
      | some l=>
       exact⟨_,H,Hs,rfl,xopvS_conv (by rw[e1];intro k n h;cases h) (by simp only[xconvS,e1,hs,hd,hu,if_true,e3];rw[if_neg (by omega),if_pos e7,hb]),hr⟩
    ·rw[e2] at h';exact not_good h'
    ·rw[e2] at h' ⊢
     exact⟨_,H,Hs,rfl,xopvS_conv (by rw[e1];intro k n h;cases h) (by simp only[xconvS,e1,hs,hd,hu,if_true]),hr⟩
   ·exact badOp_not h
  ·rename_i e hs hd
   split at h
   ·rename_i hu
    clear old
    rw[if_pos hu]
    have h' : Good (opToBytes e (compA P y) P t H c):=h
    show ∃ v H' Hs',opToBytes e (compA P y) P t H c=c v H'∧_
    clear h
    unfold opToBytes at h' ⊢
    rw[evA_comp ht] at h' ⊢
    cases hv : ev P tm y with
    | string s=>
     rw[hv] at h'
     have h2 : Good (bytesC s.data.toList fun cs=>allocF H (.cells cs e true) fun i H'=>gN s.data.toList.length fun n=>c (.slice (some ⟨i,0,none⟩) n n) H'):=h'
     show ∃ v H' Hs',(bytesC s.data.toList fun cs=>allocF H (.cells cs e true) fun i H'=>gN s.data.toList.length fun n=>c (.slice (some ⟨i,0,none⟩) n n) H')=c v H'∧_
     rw[bytesC_eq] at h2 ⊢
     obtain⟨H',h4,h5⟩:=allocF_good hr (x:=.cells (s.data.toList.map byteV) e true) (o:=.cells ⟨bytesV s⟩ e true) rfl h2
     exact⟨_,H',_,h5.trans (gN_eq _ _),xopvS_conv (by rw[hv];intro k n h;cases h) (by simp only[xconvS,hv,hs,hd,hu,if_true]),h4⟩
    | _=>rw[hv] at h';exact not_good (n:=140) h'
   ·exact badOp_not h
  ·obtain⟨v,H',Hs',e1,e2,e3⟩:=hx (.convert src dst y) t tm H Hs c ht hr h
   exact⟨v,H',Hs',e1,xopvS_of e2,e3⟩
 | _=>exact old rfl
theorem runF_ok (hx : OpvS cp P F x ex) {ops : Array Oper} : ∀ {l : List Oper} {t : TT} {tm : Array Value} {H : FH} {Hs : Heap} {k : TT→FH→RF},TR t tm→HR cp H Hs→Good (runF P F x (l.map (compFIS P ops)) t H k) →
  ∃ tm' Hs' t' H',xrun P ex ops l tm Hs=some (tm',Hs')∧TR t' tm'∧HR cp H' Hs'∧runF P F x (l.map (compFIS P ops)) t H k=k t' H'
 | [],t,tm,H,Hs,k,ht,hr,h=>⟨tm,Hs,t,H,rfl,ht,hr,rfl⟩
 | o::l,t,tm,H,Hs,k,ht,hr,h=>by
  have e : runF P F x ((o::l).map (compFIS P ops)) t H k=runI (compFIG (compOpS P) ops o) P F x (runF P F x (l.map (compFIS P ops))) t H k:=rfl
  rw[e] at h ⊢
  rcases runI_ok hx ht hr h with⟨e1,v,H',Hs',t',e2,e3,e4,e5⟩|⟨e1,t',e4,e5⟩
  ·rw[e5] at h ⊢
   obtain⟨tm2,Hs2,t2,H2,f1,f2,f3,f4⟩:=runF_ok hx (l:=l) e4 e3 h
   exact⟨tm2,Hs2,t2,H2,by simp only[xrun,e1,e2,f1],f2,f3,f4⟩
  ·rw[e5] at h ⊢
   obtain⟨tm2,Hs2,t2,H2,f1,f2,f3,f4⟩:=runF_ok hx (l:=l) e4 hr h
   exact⟨tm2,Hs2,t2,H2,by simp only[xrun,e1,f1],f2,f3,f4⟩
def compAt (P : Program) [Gl P] (ops : Array Oper) (k : Nat) : FI:=match ops[k]? with
 | some o=>compFI P ops o
 | none=>.un badOp
inductive HRs (cp : Code→FCode) : List FH→List Heap→Prop
 | nil : HRs cp [] []
 | cons {H : FH} {Hs : Heap} {l : List FH} {l' : List Heap} (h : HR cp H Hs) (t : HRs cp l l') : HRs cp (H::l) (Hs::l')
theorem runI_okF (hx : OpvF cp P F x ex) {ops : Array Oper} {o : Oper} {t : TT} {tm : Array Value} {H : FH} {Hs : Heap} (ht : TR t tm) (hr : HR cp H Hs) {ih : TT→FH→(TT→FH→RF)→RF} {k : TT→FH→RF}
  (h : Good (runI (compFI P ops o) P F x ih t H k)) : StepG cp P (xopv P ex) ops o tm H Hs (runI (compFI P ops o) P F x ih t H k) (fun t' H'=>ih t' H' k):=runI_ok hx ht hr h
theorem runD_ok (hx : OpvF cp P F x ex) {ops : Array Oper} : ∀ {l : List Nat} {t : TT} {tm : Array Value} {H : FH} {Hs : Heap} {k : TT→List FH→RF},TR t tm→HR cp H Hs→Good (runD P F x (l.map (compAt P ops)) t H k) →
  ∃ T Gs t' Gf,xsteps P ex ops l tm Hs=some (T,Gs)∧TR t' T∧HRs cp Gf Gs∧Gs.length=l.length+1∧runD P F x (l.map (compAt P ops)) t H k=k t' Gf
 | [],t,tm,H,Hs,k,ht,hr,h=>⟨tm,[Hs],t,[H],rfl,ht,.cons hr .nil,rfl,rfl⟩
 | i::l,t,tm,H,Hs,k,ht,hr,h=>by
  have e : runD P F x ((i::l).map (compAt P ops)) t H k=runI (compAt P ops i) P F x (fun t' H' _=>runD P F x (l.map (compAt P ops)) t' H' fun T Gs=>k T (H::Gs)) t H fun _ _=>.fail 90:=rfl
  rw[e] at h ⊢
  unfold compAt at h ⊢
  cases ho : ops[i]? with
  | none=>
   rw[ho] at h
   exact badOp_not (P:=P) (F:=F) (x:=x) (t:=t) (H:=H) (c:=fun _ H'=>runD P F x (l.map (compAt P ops)) t H' fun T Gs=>k T (H::Gs)) h
  | some o=>
   rw[ho] at h
   simp only[] at h ⊢
   rcases runI_okF hx ht hr h with⟨e1,v,H',Hs',t',e2,e3,e4,e5⟩|⟨e1,t',e4,e5⟩
   ·rw[e5] at h ⊢
    obtain⟨T,Gs,t2,Gf,f1,f2,f3,f4,f5⟩:=runD_ok hx (l:=l) e4 e3 h
    exact⟨T,Hs::Gs,t2,H::Gf,by simp only[xsteps,ho,e1,e2,f1],f2,.cons hr f3,by simp[f4],f5⟩
   ·rw[e5] at h ⊢
    obtain⟨T,Gs,t2,Gf,f1,f2,f3,f4,f5⟩:=runD_ok hx (l:=l) e4 hr h
    exact⟨T,Hs::Gs,t2,H::Gf,by simp only[xsteps,ho,e1,f1],f2,.cons hr f3,by simp[f4],f5⟩
end
end Go.Xe
