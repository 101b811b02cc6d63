/- An executable reading of the model's code over an abstract heap (part 21): the machine's operations on numbers and on values of several cells. Conditions: none. -/
import Derived.Test.YtgcdbdcnlhonfaaXt
namespace Go.Xe
open Go
theorem wrap_nat {m : Nat} (h : m≤9223372036854775807) : IntKind.i64.wrap (.ofNat m)=.ofNat m:=by
 have h1 : (Int.ofNat m)=(m : Int):=rfl
 rw[h1]
 have h2 : ((m : Int)%2 ^ 64)=m:=by omega
 simp only[IntKind.wrap,IntKind.bits,h2]
 have h3 : ¬ ((IntKind.i64.signed && decide ((m : Int)≥2 ^ (64-1)))=true):=by
  simp only[Bool.and_eq_true,decide_eq_true_eq,not_and]
  intro _
  omega
 rw[if_neg h3]
theorem wrap_neg {m : Nat} (h : m≤9223372036854775807) : IntKind.i64.wrap (.negSucc m)=.negSucc m:=by
 have h1 : (Int.negSucc m)=-((m : Int)+1):=by omega
 rw[h1]
 have h2 : ((-((m : Int)+1))%2 ^ 64)=2 ^ 64-((m : Int)+1):=by omega
 simp only[IntKind.wrap,IntKind.bits,h2]
 have h3 : ((IntKind.i64.signed && decide ((2 ^ 64-((m : Int)+1))≥2 ^ (64-1)))=true):=by
  simp only[Bool.and_eq_true,decide_eq_true_eq]
  exact⟨rfl,by omega⟩
 rw[if_pos h3]
 omega
theorem wrapK_eq (k : IntKind) (z : Int) (c : Value→RF) : wrapK k z c=c (.int k (k.wrap z)):=gI_eq _ _
theorem wrapI_eq (z : Int) (c : Value→RF) : wrapI z c=c (.int .i64 (IntKind.i64.wrap z)):=by
 cases z with
 | ofNat m=>
  have e : wrapI (.ofNat m) c=gN m fun m=>ifB (Nat.ble m maxI) (c (.int .i64 (.ofNat m))) (wrapK .i64 (.ofNat m) c):=rfl
  rw[e,gN_eq]
  cases hb : Nat.ble m maxI with
  | true=>rw[ifB_t,wrap_nat (Nat.le_of_ble_eq_true hb)]
  | false=>rw[ifB_f,wrapK_eq]
 | negSucc m=>
  have e : wrapI (.negSucc m) c=gN m fun m=>ifB (Nat.ble m maxI) (c (.int .i64 (.negSucc m))) (wrapK .i64 (.negSucc m) c):=rfl
  rw[e,gN_eq]
  cases hb : Nat.ble m maxI with
  | true=>rw[ifB_t,wrap_neg (Nat.le_of_ble_eq_true hb)]
  | false=>rw[ifB_f,wrapK_eq]
theorem iLe_eq (a b : Int) : iLe a b=decide (a≤b):=by
 cases a with
 | ofNat m=>cases b with
  | ofNat n=>
   have e : iLe (.ofNat m) (.ofNat n)=Nat.ble m n:=rfl
   rw[e,Bool.eq_iff_iff,Nat.ble_eq,decide_eq_true_eq]
   exact Int.ofNat_le.symm
  | negSucc n=>
   have e : iLe (.ofNat m) (.negSucc n)=false:=rfl
   rw[e];symm;rw[decide_eq_false_iff_not];have : Int.ofNat m=(m : Int):=rfl;omega
 | negSucc m=>cases b with
  | ofNat n=>
   have e : iLe (.negSucc m) (.ofNat n)=true:=rfl
   rw[e];symm;rw[decide_eq_true_eq];have : Int.ofNat n=(n : Int):=rfl;omega
  | negSucc n=>
   have e : iLe (.negSucc m) (.negSucc n)=Nat.ble n m:=rfl
   rw[e,Bool.eq_iff_iff,Nat.ble_eq,decide_eq_true_eq]
   omega
theorem iEq_eq (a b : Int) : iEq a b=(a == b):=by
 rw[Bool.eq_iff_iff,beq_iff_eq]
 cases a with
 | ofNat m=>cases b with
  | ofNat n=>
   have e : iEq (.ofNat m) (.ofNat n)=Nat.beq m n:=rfl
   rw[e,Nat.beq_eq]
   exact⟨fun h=>by rw[h],fun h=>by cases h;rfl⟩
  | negSucc n=>
   have e : iEq (.ofNat m) (.negSucc n)=false:=rfl
   rw[e];constructor<;>(intro h;cases h)
 | negSucc m=>cases b with
  | ofNat n=>
   have e : iEq (.negSucc m) (.ofNat n)=false:=rfl
   rw[e];constructor<;>(intro h;cases h)
  | negSucc n=>
   have e : iEq (.negSucc m) (.negSucc n)=Nat.beq m n:=rfl
   rw[e,Nat.beq_eq]
   exact⟨fun h=>by rw[h],fun h=>by cases h;rfl⟩
theorem outB_eq (b : Bool) (c : Value→RF) : outB b c=c (.bool b):=by cases b<;>rfl
theorem outNB_eq (b : Bool) (c : Value→RF) : outNB b c=c (.bool !b):=by cases b<;>rfl
theorem outN_eq (n : Nat) (c : Value→RF) : outN n c=c (.int .i64 (.ofNat n)):=gN_eq _ _
section
variable {P : Program}
theorem binSlow_good {op : BinOp} {ty : TypeId} {x y : Value} {c : Value→RF} (h : Good (binSlow P op ty x y c)) : ∃ v,binSlow P op ty x y c=c v∧xbinOp P op ty x y=some v:=by
 cases e : xbinOp P op ty x y with
 | none=>unfold binSlow at h;rw[e] at h;exact not_good h
 | some v=>exact⟨v,by unfold binSlow;rw[e];exact forceV_eq _ _,rfl⟩
theorem xbinOp_of {op : BinOp} {ty : TypeId} {x y v : Value} (h : xbin P op ty x y=some v) : xbinOp P op ty x y=some v:=by simp only[xbinOp,h]
theorem xbin_int (op : BinOp) (ty : TypeId) (a b : Int) (v : Value) (h : (match op with
  | .add=>some (Value.int .i64 (IntKind.i64.wrap (a+b)))
  | .sub=>some (.int .i64 (IntKind.i64.wrap (a-b)))
  | .mul=>some (.int .i64 (IntKind.i64.wrap (a*b)))
  | .eql=>some (.bool (a == b))
  | .neq=>some (.bool (a != b))
  | .lss=>some (.bool (decide (a<b)))
  | .leq=>some (.bool (decide (a≤b)))
  | .gtr=>some (.bool (decide (a > b)))
  | .geq=>some (.bool (decide (a≥b)))
  | _=>none)=some v) : xbinOp P op ty (.int .i64 a) (.int .i64 b)=some v:=by
 apply xbinOp_of
 cases op<;>first|(cases h;done)|(rw[← h];simp[xbin])
theorem natBin_cases (f : Nat→Nat→(Value→RF)→RF) (slow : RF) (a b : Int) (c : Value→RF) :
  (∃ m n,a=.ofNat m∧b=.ofNat n∧natBin f slow a b c=f m n c)∨natBin f slow a b c=slow:=by
 cases a with
 | ofNat m=>cases b with
  | ofNat n=>exact .inl ⟨m,n,rfl,rfl,rfl⟩
  | negSucc n=>exact .inr rfl
 | negSucc m=>exact .inr rfl
theorem land_bv {m n : Nat} (hm : m≤maxI) (hn : n≤maxI) : IntKind.i64.wrap ((BitVec.ofInt IntKind.i64.bits (.ofNat m) &&& BitVec.ofInt IntKind.i64.bits (.ofNat n)).toNat : Int)=.ofNat (Nat.land m n):=by
 have e1 : ∀ q : Nat,q≤maxI→(BitVec.ofInt 64 (.ofNat q)).toNat=q:=by
  intro q hq
  have hq' : q≤9223372036854775807:=hq
  rw[BitVec.toNat_ofInt]
  have : (Int.ofNat q)=(q : Int):=rfl
  rw[this];omega
 have e2 : (BitVec.ofInt IntKind.i64.bits (.ofNat m) &&& BitVec.ofInt IntKind.i64.bits (.ofNat n)).toNat=Nat.land m n:=by
  rw[BitVec.toNat_and]
  show (BitVec.ofInt 64 _).toNat &&& (BitVec.ofInt 64 _).toNat=_
  rw[e1 m hm,e1 n hn];rfl
 rw[e2]
 apply wrap_nat
 have : Nat.land m n≤m:=Nat.and_le_left
 have hm' : m≤9223372036854775807:=hm
 omega
theorem lor_bv {m n : Nat} (hm : m≤maxI) (hn : n≤maxI) : IntKind.i64.wrap ((BitVec.ofInt IntKind.i64.bits (.ofNat m) ||| BitVec.ofInt IntKind.i64.bits (.ofNat n)).toNat : Int)=.ofNat (Nat.lor m n):=by
 have e1 : ∀ q : Nat,q≤maxI→(BitVec.ofInt 64 (.ofNat q)).toNat=q:=by
  intro q hq
  have hq' : q≤9223372036854775807:=hq
  rw[BitVec.toNat_ofInt]
  have : (Int.ofNat q)=(q : Int):=rfl
  rw[this];omega
 have e2 : (BitVec.ofInt IntKind.i64.bits (.ofNat m) ||| BitVec.ofInt IntKind.i64.bits (.ofNat n)).toNat=Nat.lor m n:=by
  rw[BitVec.toNat_or]
  show (BitVec.ofInt 64 _).toNat ||| (BitVec.ofInt 64 _).toNat=_
  rw[e1 m hm,e1 n hn];rfl
 rw[e2]
 apply wrap_nat
 have hm' : m<2 ^ 63:=by have : m≤9223372036854775807:=hm;omega
 have hn' : n<2 ^ 63:=by have : n≤9223372036854775807:=hn;omega
 have : Nat.lor m n<2 ^ 63:=Nat.or_lt_two_pow hm' hn'
 omega
theorem b64_good {op : BinOp} {ty : TypeId} {a b : Int} {c : Value→RF} (h : Good (b64 op (binSlow P op ty (.int .i64 a) (.int .i64 b) c) a b c)) :
  ∃ v,b64 op (binSlow P op ty (.int .i64 a) (.int .i64 b) c) a b c=c v∧xbinOp P op ty (.int .i64 a) (.int .i64 b)=some v:=by
 cases op with
 | add=>exact⟨_,wrapI_eq _ _,xbin_int _ _ _ _ _ rfl⟩
 | sub=>exact⟨_,wrapI_eq _ _,xbin_int _ _ _ _ _ rfl⟩
 | mul=>exact⟨_,wrapI_eq _ _,xbin_int _ _ _ _ _ rfl⟩
 | eql=>exact⟨_,outB_eq _ _,xbin_int _ _ _ _ _ (by simp only[iEq_eq])⟩
 | neq=>exact⟨_,outNB_eq _ _,xbin_int _ _ _ _ _ (by simp only[iEq_eq];rfl)⟩
 | lss=>exact⟨_,outNB_eq _ _,xbin_int _ _ _ _ _ (by simp only[iLe_eq];congr 2;rw[Bool.eq_iff_iff];simp)⟩
 | leq=>exact⟨_,outB_eq _ _,xbin_int _ _ _ _ _ (by simp only[iLe_eq])⟩
 | gtr=>exact⟨_,outNB_eq _ _,xbin_int _ _ _ _ _ (by simp only[iLe_eq];congr 2;rw[Bool.eq_iff_iff];simp)⟩
 | geq=>exact⟨_,outB_eq _ _,xbin_int _ _ _ _ _ (by simp only[iLe_eq];try rfl)⟩
 | xor=>exact binSlow_good (show Good (binSlow P .xor ty (.int .i64 a) (.int .i64 b) c) from h)
 | andNot=>exact binSlow_good (show Good (binSlow P .andNot ty (.int .i64 a) (.int .i64 b) c) from h)
 | quo=>
  have e:=natBin_cases (fun m n c=>Nat.rec (motive:=fun _=>RF) (.fail 31) (fun _ _=>ifB (Nat.ble m maxI) (outN (Nat.div m n) c) (.fail 31)) n) (binSlow P .quo ty (.int .i64 a) (.int .i64 b) c) a b c
  rcases e with⟨m,n,rfl,rfl,e⟩|e
  ·have e' : b64 .quo (binSlow P .quo ty (.int .i64 (.ofNat m)) (.int .i64 (.ofNat n)) c) (.ofNat m) (.ofNat n) c=_:=e
   rw[e'] at h ⊢
   cases n with
   | zero=>exact not_good h
   | succ n=>
    obtain⟨h1,h2⟩:=ifB_good h
    refine⟨_,h2.trans (outN_eq _ _),xbinOp_of ?_⟩
    have hm : m≤9223372036854775807:=Nat.le_of_ble_eq_true h1
    have hd : m/(n+1)≤m:=Nat.div_le_self _ _
    have hne : (Int.ofNat (n+1))≠0:=by intro h;cases h
    simp only[xbin,ne_eq,not_true,if_false,hne]
    congr 2
    exact wrap_nat (m:=m/(n+1)) (by omega)
  ·have e' : b64 .quo (binSlow P .quo ty (.int .i64 a) (.int .i64 b) c) a b c=_:=e
   rw[e'] at h ⊢
   exact binSlow_good h
 | rem=>
  have e:=natBin_cases (fun m n c=>Nat.rec (motive:=fun _=>RF) (.fail 31) (fun _ _=>outN (Nat.mod m n) c) n) (binSlow P .rem ty (.int .i64 a) (.int .i64 b) c) a b c
  rcases e with⟨m,n,rfl,rfl,e⟩|e
  ·have e' : b64 .rem (binSlow P .rem ty (.int .i64 (.ofNat m)) (.int .i64 (.ofNat n)) c) (.ofNat m) (.ofNat n) c=_:=e
   rw[e'] at h ⊢
   cases n with
   | zero=>exact not_good h
   | succ n=>
    refine⟨_,outN_eq _ _,xbinOp_of ?_⟩
    have hne : (Int.ofNat (n+1))≠0:=by intro h;cases h
    simp only[xbin,ne_eq,not_true,if_false,hne]
    rfl
  ·have e' : b64 .rem (binSlow P .rem ty (.int .i64 a) (.int .i64 b) c) a b c=_:=e
   rw[e'] at h ⊢
   exact binSlow_good h
 | and=>
  have e:=natBin_cases (fun m n c=>ifB (Nat.ble m maxI) (ifB (Nat.ble n maxI) (outN (Nat.land m n) c) (.fail 31)) (.fail 31)) (binSlow P .and ty (.int .i64 a) (.int .i64 b) c) a b c
  rcases e with⟨m,n,rfl,rfl,e⟩|e
  ·have e' : b64 .and (binSlow P .and ty (.int .i64 (.ofNat m)) (.int .i64 (.ofNat n)) c) (.ofNat m) (.ofNat n) c=_:=e
   rw[e'] at h ⊢
   obtain⟨h1,h2⟩:=ifB_good h
   rw[h2] at h
   obtain⟨h3,h4⟩:=ifB_good h
   refine⟨_,h2.trans (h4.trans (outN_eq _ _)),xbinOp_of ?_⟩
   simp only[xbin,ne_eq,not_true,if_false]
   rw[land_bv (Nat.le_of_ble_eq_true h1) (Nat.le_of_ble_eq_true h3)]
  ·have e' : b64 .and (binSlow P .and ty (.int .i64 a) (.int .i64 b) c) a b c=_:=e
   rw[e'] at h ⊢
   exact binSlow_good h
 | or=>
  have e:=natBin_cases (fun m n c=>ifB (Nat.ble m maxI) (ifB (Nat.ble n maxI) (outN (Nat.lor m n) c) (.fail 31)) (.fail 31)) (binSlow P .or ty (.int .i64 a) (.int .i64 b) c) a b c
  rcases e with⟨m,n,rfl,rfl,e⟩|e
  ·have e' : b64 .or (binSlow P .or ty (.int .i64 (.ofNat m)) (.int .i64 (.ofNat n)) c) (.ofNat m) (.ofNat n) c=_:=e
   rw[e'] at h ⊢
   obtain⟨h1,h2⟩:=ifB_good h
   rw[h2] at h
   obtain⟨h3,h4⟩:=ifB_good h
   refine⟨_,h2.trans (h4.trans (outN_eq _ _)),xbinOp_of ?_⟩
   simp only[xbin,ne_eq,not_true,if_false]
   rw[lor_bv (Nat.le_of_ble_eq_true h1) (Nat.le_of_ble_eq_true h3)]
  ·have e' : b64 .or (binSlow P .or ty (.int .i64 a) (.int .i64 b) c) a b c=_:=e
   rw[e'] at h ⊢
   exact binSlow_good h
 | shl=>
  have e:=natBin_cases (fun m n c=>ifB (Nat.ble n 62) (wrapI (.ofNat (Nat.mul m (Nat.pow 2 n))) c) (.fail 32)) (binSlow P .shl ty (.int .i64 a) (.int .i64 b) c) a b c
  rcases e with⟨m,n,rfl,rfl,e⟩|e
  ·have e' : b64 .shl (binSlow P .shl ty (.int .i64 (.ofNat m)) (.int .i64 (.ofNat n)) c) (.ofNat m) (.ofNat n) c=_:=e
   rw[e'] at h ⊢
   obtain⟨h1,h2⟩:=ifB_good h
   refine⟨_,h2.trans (wrapI_eq _ _),xbinOp_of ?_⟩
   have hn : n≤62:=Nat.le_of_ble_eq_true h1
   have h0 : ¬ (Int.ofNat n<0):=by have : Int.ofNat n=(n : Int):=rfl;omega
   simp only[xbin,if_neg h0]
   have e1 : min (Int.ofNat n).toNat IntKind.i64.bits=n:=by
    show min n 64=n
    omega
   rw[e1]
   congr 3
  ·have e' : b64 .shl (binSlow P .shl ty (.int .i64 a) (.int .i64 b) c) a b c=_:=e
   rw[e'] at h ⊢
   exact binSlow_good h
 | shr=>
  have e:=natBin_cases (fun m n c=>ifB (Nat.ble n 62) (outN (Nat.div m (Nat.pow 2 n)) c) (.fail 31)) (binSlow P .shr ty (.int .i64 a) (.int .i64 b) c) a b c
  rcases e with⟨m,n,rfl,rfl,e⟩|e
  ·have e' : b64 .shr (binSlow P .shr ty (.int .i64 (.ofNat m)) (.int .i64 (.ofNat n)) c) (.ofNat m) (.ofNat n) c=_:=e
   rw[e'] at h ⊢
   obtain⟨h1,h2⟩:=ifB_good h
   refine⟨_,h2.trans (outN_eq _ _),xbinOp_of ?_⟩
   have hn : n≤62:=Nat.le_of_ble_eq_true h1
   have h0 : ¬ (Int.ofNat n<0):=by have : Int.ofNat n=(n : Int):=rfl;omega
   simp only[xbin,if_neg h0]
   have e1 : min (Int.ofNat n).toNat IntKind.i64.bits=n:=by
    show min n 64=n
    omega
   rw[e1]
   congr 2
   show Int.fdiv (m : Int) (2 ^ n)=((m/2 ^ n : Nat) : Int)
   rw[Int.fdiv_eq_ediv_of_nonneg _ (Int.le_of_lt (Int.pow_pos (by decide)))]
   push_cast;try rfl
  ·have e' : b64 .shr (binSlow P .shr ty (.int .i64 a) (.int .i64 b) c) a b c=_:=e
   rw[e'] at h ⊢
   exact binSlow_good h
theorem is64_cases (k : IntKind) (x y : RF) : (k=.i64∧is64 k x y=x)∨is64 k x y=y:=by cases k<;>first|exact .inr rfl|exact .inl ⟨rfl,rfl⟩
theorem binF_good {op : BinOp} {ty : TypeId} {x y : Value} {c : Value→RF} (h : Good (binF P op ty x y c)) : ∃ v,binF P op ty x y c=c v∧xbinOp P op ty x y=some v:=by
 unfold binF at h ⊢
 rcases asInt_good (v:=x) (k:=fun kx a=>asInt y (fun ky b=>is64 kx (is64 ky (b64 op (binSlow P op ty x y c) a b c) (binSlow P op ty x y c)) (binSlow P op ty x y c)) (binSlow P op ty x y c)) (d:=binSlow P op ty x y c) with⟨kx,a,rfl,e1⟩|⟨_,e1⟩
 ·rw[e1] at h ⊢
  rcases asInt_good (v:=y) (k:=fun ky b=>is64 kx (is64 ky (b64 op (binSlow P op ty (.int kx a) y c) a b c) (binSlow P op ty (.int kx a) y c)) (binSlow P op ty (.int kx a) y c)) (d:=binSlow P op ty (.int kx a) y c) with⟨ky,b,rfl,e2⟩|⟨_,e2⟩
  ·rw[e2] at h ⊢
   rcases is64_cases kx (is64 ky (b64 op (binSlow P op ty (.int kx a) (.int ky b) c) a b c) (binSlow P op ty (.int kx a) (.int ky b) c)) (binSlow P op ty (.int kx a) (.int ky b) c) with⟨rfl,e3⟩|e3
   ·rw[e3] at h ⊢
    rcases is64_cases ky (b64 op (binSlow P op ty (.int .i64 a) (.int ky b) c) a b c) (binSlow P op ty (.int .i64 a) (.int ky b) c) with⟨rfl,e4⟩|e4
    ·rw[e4] at h ⊢
     exact b64_good h
    ·rw[e4] at h ⊢
     exact binSlow_good h
   ·rw[e3] at h ⊢
    exact binSlow_good h
  ·rw[e2] at h ⊢
   exact binSlow_good h
 ·rw[e1] at h ⊢
  exact binSlow_good h
variable {cp : Code→FCode}
theorem opBin_ok [Gl P] (op : BinOp) (ty : TypeId) (x y : Operand) (r : TypeId) : OpF cp P (opBin op ty (compA P x) (compA P y)) (.binOp op ty x y r):=by
 intro t tm H Hs c ht hr h
 simp only[opBin,evA_comp ht] at h ⊢
 obtain⟨v,e1,e2⟩:=binF_good h
 exact⟨v,H,Hs,e1,by simp only[xop,e2,Option.map_some],hr⟩
theorem opUn_ok [Gl P] (op : UnOp) (ty : TypeId) (x : Operand) : OpF cp P (opUn op (compA P x)) (.unOp op ty x):=by
 intro t tm H Hs c ht hr h
 simp only[opUn,evA_comp ht] at h ⊢
 cases e : xun op (ev P tm x) with
 | none=>rw[e] at h;exact not_good h
 | some v=>exact⟨v,H,Hs,forceV_eq _ _,by simp only[xop,e,Option.map_some],hr⟩
theorem opConv_ok [Gl P] {src dst : TypeId} {d : TypeDesc} {k : IntKind} (x : Operand) (h1 : P.underlying src=some d) (h2 : P.underlying dst=some (.int k)) : OpF cp P (opConv k (compA P x)) (.convert src dst x):=by
 intro t tm H Hs c ht hr h
 simp only[opConv,evA_comp ht,wrapI_eq,wrapK_eq] at h ⊢
 rcases asInt_good (v:=ev P tm x) (k:=fun _ n=>is64 k (c (.int .i64 (IntKind.i64.wrap n)) H) (c (.int k (k.wrap n)) H)) (d:=.fail 44) with⟨kd,n,e1,e2⟩|⟨_,e2⟩
 ·refine⟨.int k (k.wrap n),H,Hs,?_,?_,hr⟩
  ·rw[e2]
   rcases is64_cases k (c (.int .i64 (IntKind.i64.wrap n)) H) (c (.int k (k.wrap n)) H) with⟨rfl,e3⟩|e3<;>rw[e3]
  ·simp only[xop,xconv,e1,h1,h2,Option.map_some]
 ·rw[e2] at h;exact not_good h
end
end Go.Xe
