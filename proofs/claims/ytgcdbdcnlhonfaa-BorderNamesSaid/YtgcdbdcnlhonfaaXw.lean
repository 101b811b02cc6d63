/- An executable reading of the model's code over an abstract heap (part 23): the machine's slices, appends, made slices and maps. Conditions: none. -/
import Derived.Test.YtgcdbdcnlhonfaaXv
namespace Go.Xe
open Go
section
variable {cp : Code→FCode} {P : Program} [Gl P]
theorem opLenS_ok {ty e : TypeId} {u : Array TypeId} (x : Operand) (h1 : P.underlying ty=some (.slice e)) (hu : u.toList=[ty]) : OpF cp P (opLen 0 (compA P x)) (.call { callee:=.builtin .len,args:=#[x],argTypes:=u }):=by
 intro t tm H Hs c ht hr h
 simp only[opLen,evA_comp ht] at h ⊢
 rcases asLen_good h with⟨a,n,cc,e1,e2⟩|⟨_,_,e2⟩|⟨_,e2⟩|⟨_,_,e2⟩
 ·rw[e2] at h ⊢
  refine⟨_,H,Hs,rfl,?_,hr⟩
  simp only[xop,hu,List.map_toArray,List.map_cons,List.map_nil,xbuiltin,e1,xlen,h1,Option.map_some];rfl
 ·rw[e2] at h;exact not_good h
 ·rw[e2] at h;exact not_good h
 ·rw[e2] at h;exact not_good h
theorem opLenB_ok {ty : TypeId} {u : Array TypeId} (x : Operand) (h1 : P.underlying ty=some .string) (hu : u.toList=[ty]) : OpF cp P (opLen 1 (compA P x)) (.call { callee:=.builtin .len,args:=#[x],argTypes:=u }):=by
 intro t tm H Hs c ht hr h
 simp only[opLen,evA_comp ht] at h ⊢
 rcases asLen_good h with⟨a,n,cc,e1,e2⟩|⟨_,e1,e2⟩|⟨_,e2⟩|⟨_,_,e2⟩
 ·rw[e2] at h;exact not_good h
 ·rw[e2] at h ⊢
  refine⟨_,H,Hs,rfl,?_,hr⟩
  simp only[xop,hu,List.map_toArray,List.map_cons,List.map_nil,xbuiltin,e1,xlen,h1,Option.map_some];rfl
 ·rw[e2] at h;exact not_good h
 ·rw[e2] at h;exact not_good h
theorem opLenM_ok {ty kt et : TypeId} {u : Array TypeId} (x : Operand) (h1 : P.underlying ty=some (.map kt et)) (hu : u.toList=[ty]) : OpF cp P (opLen 2 (compA P x)) (.call { callee:=.builtin .len,args:=#[x],argTypes:=u }):=by
 intro t tm H Hs c ht hr h
 simp only[opLen,evA_comp ht] at h ⊢
 rcases asLen_good h with⟨a,n,cc,e1,e2⟩|⟨_,e1,e2⟩|⟨e1,e2⟩|⟨i,e1,e2⟩
 ·rw[e2] at h;exact not_good h
 ·rw[e2] at h;exact not_good h
 ·rw[e2] at h ⊢
  refine⟨_,H,Hs,rfl,?_,hr⟩
  simp only[xop,hu,List.map_toArray,List.map_cons,List.map_nil,xbuiltin,e1,xlen,h1,Option.map_some];rfl
 ·rw[e2] at h ⊢
  have h' : Good (onMap (objF H i) fun _ es _=>outN es.length fun v=>c v H):=h
  obtain⟨kt',es,ck,e3,e4⟩:=mapF_good hr h'
  refine⟨_,H,Hs,e4.trans (outN_eq _ _),?_,hr⟩
  simp only[xop,hu,List.map_toArray,List.map_cons,List.map_nil,xbuiltin,e1,xlen,h1,e3,Option.map_some];rfl
theorem opLenA_ok {ty e : TypeId} {n : Nat} {u : Array TypeId} (x : Operand) (h1 : P.underlying ty=some (.array n e)) (hu : u.toList=[ty]) : OpF cp P (opMove (.con (.int .i64 (.ofNat n)))) (.call { callee:=.builtin .len,args:=#[x],argTypes:=u }):=by
 intro t tm H Hs c ht hr h
 refine⟨.int .i64 (.ofNat n),H,Hs,?_,?_,hr⟩
 ·simp only[opMove,hV_eq];rfl
 ·simp only[xop,hu,List.map_toArray,List.map_cons,List.map_nil,xbuiltin,xlen,h1,Option.map_some];rfl
theorem boundF_good {t : TT} {tm : Array Value} (ht : TR t tm) {x : Option Operand} {d y : Nat} {k : Nat→RF} (h : Good (boundF t (x.map (compA P)) d y k)) : ∃ n,xbound (x.map (ev P tm)) d y=some n∧boundF t (x.map (compA P)) d y k=k n:=by
 cases x with
 | none=>exact⟨d,rfl,gN_eq _ _⟩
 | some x=>
  have e : boundF t ((some x).map (compA P)) d y k=asNat (evA t (compA P x)) fun m=>ifB (Nat.ble m y) (gN m k) (.fail 33):=rfl
  rw[e] at h ⊢
  rw[evA_comp ht] at h ⊢
  obtain⟨kd,n,e1,e2⟩:=asNat_good h
  rw[e2] at h ⊢
  obtain⟨e3,e4⟩:=ifB_good h
  refine⟨n,?_,e4.trans (gN_eq _ _)⟩
  have e5 : n≤y:=Nat.le_of_ble_eq_true e3
  have e6 : (0 : Int)≤Int.ofNat n∧Int.ofNat n≤(y : Int):=by have : Int.ofNat n=(n : Int):=rfl;omega
  simp only[Option.map_some,xbound,e1,if_pos e6];rfl
theorem strideF_good {P : Program} {H : FH} {Hs : Heap} (hr : HR cp H Hs) {ty e i o n c : Nat} (h1 : P.underlying ty=some (.slice e)) {k : RF} (h : Good (strideF P e i H k)) :
  strideOk P Hs ty (.slice (some ⟨i,o,none⟩) n c)=true∧strideF P e i H k=k:=by
 unfold strideF at h ⊢
 obtain⟨cs,el,rw',e1,e2⟩:=cellsF_good hr h
 rw[e2] at h ⊢
 cases rw' with
 | false=>exact⟨by simp only[strideOk,e1],rfl⟩
 | true=>
  rw[ifB_t] at h ⊢
  cases hb : Nat.beq el e with
  | true=>
   rw[hb] at h
   have : el=e:=Nat.eq_of_beq_eq_true hb
   exact⟨by simp only[strideOk,e1,h1,this,beq_self_eq_true],rfl⟩
  | false=>
   rw[hb,ifB_f] at h
   obtain⟨e3,e4⟩:=ifB_good h
   have : P.cellsOf el=P.cellsOf e:=Nat.eq_of_beq_eq_true e3
   exact⟨by simp only[strideOk,e1,h1,this,beq_self_eq_true],by rw[ifB_f];exact e4⟩
theorem opIdxSlow_ok {ty : TypeId} (x i : Operand) : OpF cp P (opIdxSlow ty (compA P x) (compA P i)) (.index ty x i):=by
 intro t tm H Hs c ht hr h
 simp only[opIdxSlow,evA_comp ht] at h ⊢
 cases e : xindex P ty (ev P tm x) (ev P tm i) with
 | none=>rw[e] at h;exact not_good h
 | some v=>
  exact⟨v,H,Hs,forceV_eq _ _,by simp only[xop,e,Option.map_some],hr⟩
theorem opSliceSlow_ok {ty : TypeId} (x : Operand) (lo hi : Option Operand) (h1 : (∃ n e,P.underlying ty=some (.array n e))∨P.underlying ty=some .string) :
  OpF cp P (opSliceSlow ty (compA P x) (lo.map (compA P)) (hi.map (compA P))) (.slice ty x lo hi none):=by
 intro t tm H Hs c ht hr h
 have hm : ∀ y : Option Operand,(y.map (compA P)).map (evA t)=y.map (ev P tm):=by
  intro y
  cases y with
  | none=>rfl
  | some y=>simp only[Option.map_some,evA_comp ht]
 simp only[opSliceSlow,evA_comp ht,hm] at h ⊢
 cases e : xslice P ty (ev P tm x) (lo.map (ev P tm)) (hi.map (ev P tm)) none with
 | none=>rw[e] at h;exact not_good h
 | some v=>
  have hs : strideOk P Hs ty (ev P tm x)=true:=by
   unfold strideOk
   split
   ·rename_i hx
    rw[hx] at e
    rcases h1 with⟨n,el,h1⟩|h1<;>simp[xslice,h1] at e
   ·rfl
  exact⟨v,H,Hs,forceV_eq _ _,by simp only[xop,hs,if_true,Option.map_none,e,Option.map_some],hr⟩
theorem opSlice_ok {ty e : TypeId} {ie : TypeInfo} (x : Operand) (lo hi : Option Operand) (h1 : P.underlying ty=some (.slice e)) (h2 : P.info? e=some ie) :
  OpF cp P (opSlice e ie.size (compA P x) (lo.map (compA P)) (hi.map (compA P))) (.slice ty x lo hi none):=by
 intro t tm H Hs c ht hr h
 simp only[opSlice,evA_comp ht] at h ⊢
 rcases asSlice_good h with⟨i,o,len,cap,e1,e2⟩|⟨i,o,s,len,cap,e1,e2⟩|⟨len,cap,e1,e2⟩
 ·rw[e2] at h ⊢
  obtain⟨e3,e4⟩:=strideF_good (P:=P) (o:=o) (n:=len) (c:=cap) hr h1 h
  rw[e4] at h ⊢
  obtain⟨hh,e5,e6⟩:=boundF_good ht h
  rw[e6] at h ⊢
  obtain⟨l,e7,e8⟩:=boundF_good ht h
  rw[e8] at h ⊢
  simp only[slice1,gN_eq] at h ⊢
  have hb : ∀ (a b : Value×Heap),True:=fun _ _=>trivial
  cases hc : Nat.beq cap l with
  | true=>
   have : cap=l:=Nat.eq_of_beq_eq_true hc
   refine⟨_,H,Hs,rfl,?_,hr⟩
   simp only[xop,e1,e3,if_true,xslice,h1,h2,e5,e7,Option.map_none]
   rw[if_pos this];rfl
  | false=>
   have : cap≠l:=Nat.ne_of_beq_eq_false hc
   refine⟨_,H,Hs,rfl,?_,hr⟩
   simp only[xop,e1,e3,if_true,xslice,h1,h2,e5,e7,Option.map_none]
   rw[if_neg this];rfl
 ·rw[e2] at h ⊢
  obtain⟨hh,e5,e6⟩:=boundF_good ht h
  rw[e6] at h ⊢
  obtain⟨l,e7,e8⟩:=boundF_good ht h
  rw[e8] at h ⊢
  refine⟨_,H,Hs,rfl,?_,hr⟩
  have e3 : strideOk P Hs ty (.slice (some ⟨i,o,some s⟩) len cap)=true:=rfl
  simp only[xop,e1,e3,if_true,xslice,h1,h2,e5,e7,Option.map_none,Option.map_some]
 ·rw[e2] at h ⊢
  cases cap with
  | succ cap=>exact not_good h
  | zero=>
   cases len with
   | succ len=>exact not_good h
   | zero=>
    have h' : Good (boundF t (hi.map (compA P)) 0 0 fun h=>boundF t (lo.map (compA P)) 0 h fun _=>c (.slice none 0 0) H):=h
    obtain⟨hh,e5,e6⟩:=boundF_good ht h'
    rw[e6] at h'
    obtain⟨l,e7,e8⟩:=boundF_good ht h'
    refine⟨.slice none 0 0,H,Hs,e6.trans e8,?_,hr⟩
    have e3 : strideOk P Hs ty (.slice none 0 0)=true:=rfl
    have hb : ∀ {x : Option Value} {d y n : Nat},xbound x d y=some n→d≤y→n≤y:=by
     intro x d y n hx hd
     unfold xbound at hx
     split at hx
     ·cases hx;exact hd
     ·split at hx
      ·rename_i hn;cases hx;omega
      ·cases hx
     ·cases hx
    have h0:=hb e5 (Nat.le_refl _)
    have h00:=hb e7 (Nat.zero_le _)
    have hz : True∧l=0∧hh=0∧True:=⟨trivial,by omega,by omega,trivial⟩
    simp only[xop,e1,e3,if_true,xslice,h1,h2,e5,e7,Option.map_none]
    rw[if_pos hz];rfl
theorem opSlice3_ok {ty e : TypeId} {ie : TypeInfo} (x : Operand) (lo : Option Operand) (hi m : Operand) (h1 : P.underlying ty=some (.slice e)) (h2 : P.info? e=some ie) :
  OpF cp P (opSlice3 e ie.size (compA P x) (lo.map (compA P)) (compA P hi) (compA P m)) (.slice ty x lo (some hi) (some m)):=by
 intro t tm H Hs c ht hr h
 simp only[opSlice3,evA_comp ht] at h ⊢
 have sm : ∀ y : Operand,some (compA P y)=(some y).map (compA P):=fun _=>rfl
 have se : ∀ y : Operand,(some y).map (ev P tm)=some (ev P tm y):=fun _=>rfl
 simp only[sm] at h ⊢
 rcases asSlice_good h with⟨i,o,len,cap,e1,e2⟩|⟨i,o,s,len,cap,e1,e2⟩|⟨len,cap,e1,e2⟩
 ·rw[e2] at h ⊢
  obtain⟨e3,e4⟩:=strideF_good (P:=P) (o:=o) (n:=len) (c:=cap) hr h1 h
  rw[e4] at h ⊢
  obtain⟨k,f1,f2⟩:=boundF_good ht h
  rw[f2] at h ⊢
  obtain⟨hh,e5,e6⟩:=boundF_good ht h
  rw[e6] at h ⊢
  obtain⟨l,e7,e8⟩:=boundF_good ht h
  rw[e8] at h ⊢
  rw[se] at f1 e5
  simp only[slice1,gN_eq] at h ⊢
  cases hc : Nat.beq k l with
  | true=>
   have : k=l:=Nat.eq_of_beq_eq_true hc
   refine⟨_,H,Hs,rfl,?_,hr⟩
   simp only[xop,e1,e3,if_true,xslice,xslice3,h1,h2,se,f1,e5,e7]
   rw[if_pos this];rfl
  | false=>
   have : k≠l:=Nat.ne_of_beq_eq_false hc
   refine⟨_,H,Hs,rfl,?_,hr⟩
   simp only[xop,e1,e3,if_true,xslice,xslice3,h1,h2,se,f1,e5,e7]
   rw[if_neg this];rfl
 ·rw[e2] at h ⊢
  obtain⟨k,f1,f2⟩:=boundF_good ht h
  rw[f2] at h ⊢
  obtain⟨hh,e5,e6⟩:=boundF_good ht h
  rw[e6] at h ⊢
  obtain⟨l,e7,e8⟩:=boundF_good ht h
  rw[e8] at h ⊢
  rw[se] at f1 e5
  cases k with
  | succ k=>exact not_good h
  | zero=>
   refine⟨_,H,Hs,rfl,?_,hr⟩
   have e3 : strideOk P Hs ty (.slice (some ⟨i,o,some s⟩) len cap)=true:=rfl
   simp only[xop,e1,e3,if_true,xslice,xslice3,h1,h2,se,f1,e5,e7,Option.map_some]
 ·rw[e2] at h ⊢
  cases cap with
  | succ cap=>exact not_good h
  | zero=>
   cases len with
   | succ len=>exact not_good h
   | zero=>
    have h' : Good (boundF t ((some m).map (compA P)) 0 0 fun k=>boundF t ((some hi).map (compA P)) 0 k fun h=>boundF t (lo.map (compA P)) 0 h fun _=>c (.slice none 0 0) H):=h
    obtain⟨k,f1,f2⟩:=boundF_good ht h'
    rw[f2] at h'
    obtain⟨hh,e5,e6⟩:=boundF_good ht h'
    rw[e6] at h'
    obtain⟨l,e7,e8⟩:=boundF_good ht h'
    refine⟨.slice none 0 0,H,Hs,f2.trans (e6.trans e8),?_,hr⟩
    rw[se] at f1 e5
    have e3 : strideOk P Hs ty (.slice none 0 0)=true:=rfl
    have b1:=xbound_le f1 (Nat.zero_le _)
    have b2:=xbound_le e5 (Nat.zero_le _)
    have b3:=xbound_le e7 (Nat.zero_le _)
    have hz : True∧l=0∧hh=0∧k=0:=⟨trivial,by omega,by omega,by omega⟩
    simp only[xop,e1,e3,if_true,xslice,xslice3,h1,h2,se,f1,e5,e7]
    rw[if_pos hz];rfl
theorem append0_good {s : Value} {H : FH} {c : Value→FH→RF} (h : Good (append0 s H c)) : (∃ a n cp,s=.slice (some a) n cp∨(s=.slice none n cp∧n=0))∧append0 s H c=c s H:=by
 unfold append0 at h ⊢
 simp only[hV_eq] at h ⊢
 rcases asSlice_good h with⟨i,o,n,cp,e1,e2⟩|⟨i,o,q,n,cp,e1,e2⟩|⟨n,cp,e1,e2⟩
 ·exact⟨⟨_,_,_,.inl e1⟩,e2⟩
 ·exact⟨⟨_,_,_,.inl e1⟩,e2⟩
 ·rw[e2] at h ⊢
  cases n with
  | zero=>exact⟨⟨⟨0,0,none⟩,0,cp,.inr ⟨e1,rfl⟩⟩,rfl⟩
  | succ n=>exact not_good h
end
theorem updE_good {k v : Value} : ∀ {es : List MapEntry} {n : Nat} {c : List MapEntry→Nat→RF} (i : Nat),
  updE k v es n c=(match xfind k es i with
   | some j=>c (es.modify (j-i) fun e=>{ e with key:=k,val:=v }) n
   | none=>c (es++[{ key:=k,val:=v,born:=n }]) (n+1))
 | [],n,c,i=>gN_eq (n+1) fun n'=>c [⟨k,v,n⟩] n'
 | ⟨k',v',b⟩::es,n,c,i=>by
  have e : updE k v (⟨k',v',b⟩::es) n c=Bool.rec (motive:=fun _=>RF) (updE k v es n fun r n'=>c (⟨k',v',b⟩::r) n') (c (⟨k,v,b⟩::es) n) (valEq k k'):=rfl
  rw[e]
  simp only[xfind]
  cases hb : valEq k k' with
  | true=>simp
  | false=>
   simp only[Bool.false_eq_true,if_false]
   have ih:=updE_good (k:=k) (v:=v) (es:=es) (n:=n) (c:=fun r n'=>c (⟨k',v',b⟩::r) n') (i+1)
   show updE k v es n (fun r n'=>c (⟨k',v',b⟩::r) n')=_
   rw[ih]
   cases hx : xfind k es (i+1) with
   | none=>rfl
   | some j=>
    have hj:=(xfind_some hx).1
    have : j-i=(j-(i+1))+1:=by omega
    simp only[this,List.modify_succ_cons]
theorem findE_good {k : Value} {z : RF} {c : Value→RF} : ∀ {es : List MapEntry} (i : Nat),findE z k es c=(match xfind k es i with
   | some j=>(match es[j-i]? with
    | some e=>c e.val
    | none=>z)
   | none=>z)
 | [],i=>rfl
 | ⟨k',v',b⟩::es,i=>by
  have e : findE z k (⟨k',v',b⟩::es) c=Bool.rec (motive:=fun _=>RF) (findE z k es c) (c v') (valEq k k'):=rfl
  rw[e]
  simp only[xfind]
  cases hb : valEq k k' with
  | true=>simp
  | false=>
   simp only[Bool.false_eq_true,if_false]
   show findE z k es c=_
   rw[findE_good (es:=es) (i+1)]
   cases hx : xfind k es (i+1) with
   | none=>rfl
   | some j=>
    have hj:=(xfind_some hx).1
    have : j-i=(j-(i+1))+1:=by omega
    simp only[this,List.getElem?_cons_succ]
section
variable {cp : Code→FCode} {P : Program} [Gl P]
theorem lentF_good {o n e nx : Nat} {cd : Array Value} {old : List Value} (hold : old=(cd.extract o (o+n)).toList) (k : FO→RF) : ∃ x,lentF o n old e nx k=k x∧FOR cp x (some (lentO o n cd e nx)):=by
 subst hold
 cases o with
 | zero=>
  cases hb : Nat.ble n 16 with
  | true=>
   refine⟨.lent (cd.extract 0 (0+n)).toList e nx,?_,?_⟩
   ·show ifB (Nat.ble n 16) _ _=_
    rw[hb];rfl
   ·unfold lentO
    rw[if_pos ⟨rfl,Nat.le_of_ble_eq_true hb⟩]
    simp only[FOR,Nat.zero_add]
  | false=>
   refine⟨.dead,?_,trivial⟩
   show ifB (Nat.ble n 16) _ _=_
   rw[hb];rfl
 | succ o=>exact⟨.dead,rfl,trivial⟩
theorem withNext_eq {H : FH} {Hs : Heap} (hr : HR cp H Hs) (k : Nat→RF) : withNext H k=k Hs.next:=by
 cases H with
 | mk nx t=>have : nx=Hs.next:=hr.1;subst this;rfl
theorem nowF_good {H : FH} {Hs : Heap} (hr : HR cp H Hs) : ∀ {f i : Nat} {k : List Value→TypeId→Nat→RF},Good (nowF H f i k)→∃ c el tp,nowB Hs f i=some (c,el,tp)∧nowF H f i k=k c el tp
 | 0,i,k,h=>not_good h
 | f+1,i,k,h=>by
  have hob:=hr.obj i
  have e0 : nowF H (f+1) i k=FO.rec (motive:=fun _=>RF) (fun cs el rw=>ifB rw (k cs el i) (.fail 150)) (fun _ _ _=>.fail 150) (fun _ _ _ _ _ _ _ _ _=>.fail 150) (.fail 150) (.fail 150)
   (fun c el j=>nowF H f j fun ck ek tp=>ifB (Nat.beq ek el) (ifB (preB c ck) (k c el tp) (.fail 151)) (.fail 151)) (objF H i):=rfl
  rw[e0] at h ⊢
  cases hx : objF H i with
  | cells cs el rw=>
   rw[hx] at h hob
   have h' : Good (ifB rw (k cs el i) (.fail 150)):=h
   obtain⟨h1,h2⟩:=ifB_good h'
   subst h1
   simp only[FOR] at hob
   exact⟨cs,el,i,by simp only[nowB,hob],h2⟩
  | lent c el j=>
   rw[hx] at h hob
   have h' : Good (nowF H f j fun ck ek tp=>ifB (Nat.beq ek el) (ifB (preB c ck) (k c el tp) (.fail 151)) (.fail 151)):=h
   obtain⟨ck,ek,tp,h1,h2⟩:=nowF_good hr h'
   rw[h2] at h'
   obtain⟨h3,h4⟩:=ifB_good h'
   rw[h4] at h'
   obtain⟨h5,h6⟩:=ifB_good h'
   simp only[FOR] at hob
   refine⟨c,el,tp,?_,h2.trans (h4.trans h6)⟩
   simp only[nowB,hob,h1]
   rw[if_pos ⟨Nat.eq_of_beq_eq_true h3,h5⟩]
  | map _ _ _=>rw[hx] at h;exact not_good (n:=150) h
  | loop _ _ _ _ _ _ _ _ _=>rw[hx] at h;exact not_good (n:=150) h
  | deferred=>rw[hx] at h;exact not_good (n:=150) h
  | dead=>rw[hx] at h;exact not_good (n:=150) h
theorem opAppend_ok {ty uy e e' : TypeId} {ie : TypeInfo} {z : Value} {u : Array TypeId} (s x : Operand) (hu : u.toList=[ty,uy]) (h1 : P.underlying ty=some (.slice e)) (h1' : P.underlying uy=some (.slice e')) (h2 : P.info? e=some ie) (h3 : ie.zero=some z)
  (h4 : z.cells.size=ie.size) (h5 : ie.size≠0) (h6 : ie.bytes≠0) : OpF cp P (opAppend e ie.size ie.bytes (compA P s) (compA P x)) (.call { callee:=.builtin .append,args:=#[s,x],argTypes:=u }):=by
 intro t tm H Hs c ht hr h
 simp only[opAppend,evA_comp ht] at h ⊢
 have hx : ∀ r,xappend P Hs ty uy (ev P tm s) (ev P tm x)=r→xop P Hs (ev P tm) (.call { callee:=.builtin .append,args:=#[s,x],argTypes:=u })=r:=by
  intro r hr
  simp only[xop,hu,List.map_toArray,List.map_cons,List.map_nil,xbuiltin,h1']
  exact hr
 have zero : ∀ b cc,ev P tm x=.slice b 0 cc→Good (append0 (ev P tm s) H c)→∃ v H' Hs',append0 (ev P tm s) H c=c v H'∧xop P Hs (ev P tm) (.call { callee:=.builtin .append,args:=#[s,x],argTypes:=u })=some (v,Hs')∧HR cp H' Hs':=by
  intro b cc hb hg
  obtain⟨⟨a,n,cp',e1⟩,e2⟩:=append0_good hg
  refine⟨_,H,Hs,e2,hx _ ?_,hr⟩
  rcases e1 with e1|⟨e1,rfl⟩
  ·simp only[xappend,h1,h1',e1,hb,h2,if_true]
  ·simp only[xappend,h1,h1',e1,hb,h2,if_true]
 rcases asSlice_good h with⟨bk,uo,m,cc,e1,e2⟩|⟨bk,uo,q,m,cc,e1,e2⟩|⟨m,cc,e1,e2⟩
 ·rw[e2] at h ⊢
  cases m with
  | zero=>exact zero _ _ e1 h
  | succ m=>
   have h' : Good (append1 e ie.size ie.bytes (m+1) bk uo (ev P tm s) H c):=h
   show ∃ v H' Hs',append1 e ie.size ie.bytes (m+1) bk uo (ev P tm s) H c=c v H'∧_
   clear h e2
   generalize hm : m+1=m' at h' e1 ⊢
   have hm0 : m'≠0:=by omega
   unfold append1 at h' ⊢
   obtain⟨cx,el,rw',e3,e4⟩:=cellsF_good hr h'
   rw[e4] at h' ⊢
   obtain⟨e5,e6⟩:=subL_good h'
   rw[e6] at h' ⊢
   obtain⟨e7,e8⟩:=allL_good h'
   rw[e8] at h' ⊢
   have e5' : uo+m'*ie.size≤(⟨cx⟩ : Array Value).size:=by simpa using e5
   have hmz : m'*ie.size≠0:=Nat.mul_ne_zero hm0 h5
   have hsrc : xsource Hs ie.size m' (some ⟨bk,uo,none⟩)=some ((⟨cx⟩ : Array Value).extract uo (uo+m'*ie.size)):=by
    simp only[xsource,e3]
    rw[if_pos ⟨e5',hmz⟩]
   have hb48 : ∀ n,Nat.ble (Nat.mul (Nat.add (Nat.mul 2 (Nat.add n m')) 256) ie.bytes) 281474976710656=true→(2*(n+m')+256)*ie.bytes≤2 ^ 48∧n+m'≤2 ^ 48:=by
    intro n hb
    have e9 : (2*(n+m')+256)*ie.bytes≤281474976710656:=Nat.le_of_ble_eq_true hb
    have e10 : (2*(n+m')+256)*1≤(2*(n+m')+256)*ie.bytes:=Nat.mul_le_mul_left _ (by omega)
    exact⟨by omega,by omega⟩
   generalize hnew : (⟨cx⟩ : Array Value).extract uo (uo+m'*ie.size)=new at *
   rcases asSlice_good h' with⟨i,o,n,cp',f1,f2⟩|⟨i,o,q,n,cp',f1,f2⟩|⟨n,cp',f1,f2⟩
   ·rw[f2] at h' ⊢
    obtain⟨f3,f4⟩:=ifB_good h'
    rw[f4] at h' ⊢
    unfold append2 at h' ⊢
    have hob:=hr.obj i
    cases hxo : objF H i with
    | map _ _ _=>rw[hxo] at h';exact not_good (n:=34) h'
    | loop _ _ _ _ _ _ _ _ _=>rw[hxo] at h';exact not_good (n:=34) h'
    | deferred=>rw[hxo] at h';exact not_good (n:=34) h'
    | dead=>rw[hxo] at h';exact not_good (n:=34) h'
    | lent c0 el0 j0=>
     rw[hxo] at h' hob
     simp only[FOR] at hob
     have hcn : Hs.cellsAt i=none:=by simp only[Heap.cellsAt,hob]
     have h'' : Good (append3 e ie.size n m' cp' i o H new.toList c):=h'
     show ∃ v H' Hs',append3 e ie.size n m' cp' i o H new.toList c=c v H'∧_
     clear h'
     unfold append3 at h'' ⊢
     obtain⟨cd,el,tp,k1,k2⟩:=nowF_good hr h''
     rw[k2] at h'' ⊢
     obtain⟨k3,k4⟩:=ifB_good h''
     rw[k4] at h'' ⊢
     obtain⟨k5,k6⟩:=ifB_good h''
     rw[k6] at h'' ⊢
     have k5' : o=0:=Nat.eq_of_beq_eq_true k5
     have k3' : el=e:=Nat.eq_of_beq_eq_true k3
     subst k5' k3'
     cases hin : Nat.ble (Nat.add n m') cp' with
     | true=>rw[hin] at h'';exact not_good (n:=152) h''
     | false=>
      have hin0 : cp'<n+m':=by
       by_cases hle : n+m'≤cp'
       ·have : Nat.ble (n+m') cp'=true:=Nat.ble_eq_true_of_le hle
        have hin' : Nat.ble (n+m') cp'=false:=hin
        rw[this] at hin';cases hin'
       ·omega
      have hb0 : ∀ x y : RF,ifB (Nat.ble (Nat.add n m') cp') x y=y:=by intro x y;rw[hin];rfl
      rw[hb0] at h''
      rw[← hin,hb0]
      obtain⟨f11,f12⟩:=subL_good h''
      rw[f12,catL_eq,withNext_eq hr] at h'' ⊢
      obtain⟨H1,f13,f14⟩:=setF_good hr (x:=.dead) (o:=.dead) trivial h''
      rw[f14] at h'' ⊢
      obtain⟨H2,f15,f16⟩:=setF_good f13 (x:=.lent ((⟨cd⟩ : Array Value).extract 0 (0+Nat.mul n ie.size)).toList el Hs.next) (o:=.lent ((⟨cd⟩ : Array Value).extract 0 (n*ie.size)) el Hs.next) (by simp only[FOR,Nat.zero_add];rfl) h''
      rw[f16] at h'' ⊢
      obtain⟨H3,f17,f18⟩:=allocF_good f15 (x:=.cells (((⟨cd⟩ : Array Value).extract 0 (0+Nat.mul n ie.size)).toList++new.toList) el true) (o:=.cells ((⟨cd⟩ : Array Value).extract 0 (n*ie.size)++new) el true) (by simp only[FOR,Nat.zero_add];congr 2;apply Array.toList_inj.1;simp) h''
      refine⟨_,H3,_,f18.trans (gN_eq _ _),hx _ ?_,f17⟩
      obtain⟨g3,g4⟩:=hb48 n f3
      have g2 : n*ie.size≤cd.length:=by simpa using f11
      simp only[xappend,h1,h1',f1,e1,h2,if_neg hm0,h3,hsrc]
      rw[if_pos ⟨e7,h4,g3,g4⟩]
      simp only[hcn,k1]
      rw[if_pos ⟨trivial,trivial,g2,hin0⟩]
      rfl
    | cells cd el2 rw2=>
    rw[hxo] at h' hob
    simp only[FOR] at hob
    have f5 : Hs.cellsAt i=some (⟨cd⟩,el2,rw2):=by simp only[Heap.cellsAt,hob]
    replace h' : Good (append2c e ie.size n m' cp' i o H new.toList c cd el2 rw2):=h'
    show ∃ v H' Hs',append2c e ie.size n m' cp' i o H new.toList c cd el2 rw2=c v H'∧_
    unfold append2c at h' ⊢
    obtain⟨f7,f8⟩:=ifB_good h'
    rw[f8] at h' ⊢
    obtain⟨f9,f10⟩:=ifB_good h'
    rw[f10] at h' ⊢
    obtain⟨f11c,f12c⟩:=subL_good h'
    rw[f12c] at h' ⊢
    have g1 : el2=e:=Nat.eq_of_beq_eq_true f7
    obtain⟨g3,g4⟩:=hb48 n f3
    have g5 : o+cp'*ie.size≤(⟨cd⟩ : Array Value).size:=by simpa using f11c
    subst f9
    cases hin : Nat.ble (Nat.add n m') cp' with
    | false=>
     have hin0 : ¬ (n+m'≤cp'):=by
      intro hle
      have : Nat.ble (n+m') cp'=true:=Nat.ble_eq_true_of_le hle
      have hin' : Nat.ble (n+m') cp'=false:=hin
      rw[this] at hin';cases hin'
     have hb0 : ∀ x y : RF,Bool.rec (motive:=fun _=>RF) x y (Nat.ble (Nat.add n m') cp')=x:=by intro x y;rw[hin]
     rw[hb0] at h'
     simp only[] at h' ⊢
     obtain⟨f11,f12⟩:=subL_good h'
     rw[f12,catL_eq,withNext_eq hr] at h' ⊢
     obtain⟨xl,fl1,fl2⟩:=lentF_good (cp:=cp) (o:=o) (n:=Nat.mul n ie.size) (e:=e) (nx:=Hs.next) (cd:=⟨cd⟩) rfl (fun x=>setF H i x fun H1=>allocF H1 (.cells (((⟨cd⟩ : Array Value).extract o (o+Nat.mul n ie.size)).toList++new.toList) e true) fun i H'=>gN (Nat.add n m') fun nm=>c (.slice (some ⟨i,0,none⟩) nm nm) H')
     rw[show Nat.mul n ie.size=n*ie.size from rfl] at fl2
     rw[fl1] at h' ⊢
     obtain⟨H1,f13,f14⟩:=setF_good hr (x:=xl) (o:=lentO o (n*ie.size) ⟨cd⟩ e Hs.next) fl2 h'
     rw[f14] at h' ⊢
     obtain⟨H2,f15,f16⟩:=allocF_good f13 (x:=.cells (((⟨cd⟩ : Array Value).extract o (o+Nat.mul n ie.size)).toList++new.toList) e true) (o:=.cells ((⟨cd⟩ : Array Value).extract o (o+n*ie.size)++new) e true) (by simp only[FOR];congr 2;apply Array.toList_inj.1;simp) h'
     refine⟨_,H2,_,f16.trans (gN_eq _ _),hx _ ?_,f15⟩
     have g2 : o+n*ie.size≤(⟨cd⟩ : Array Value).size:=by simpa using f11
     simp only[xappend,h1,h1',f1,e1,h2,if_neg hm0,h3,hsrc]
     rw[if_pos ⟨e7,h4,g3,g4⟩]
     simp only[f5]
     rw[if_pos ⟨g1,g2,g5,fun hle=>Nat.mul_ne_zero (by omega) h5⟩,if_neg hin0]
     rfl
    | true=>
     have hin0 : n+m'≤cp':=Nat.le_of_ble_eq_true hin
     have hb0 : ∀ x y : RF,Bool.rec (motive:=fun _=>RF) x y (Nat.ble (Nat.add n m') cp')=y:=by intro x y;rw[hin]
     rw[hb0] at h'
     simp only[] at h' ⊢
     obtain⟨f11,f12⟩:=subL_good h'
     rw[f12,gN_eq] at h' ⊢
     obtain⟨r,f13,f14,f15⟩:=spliceL_good h'
     rw[f15] at h' ⊢
     obtain⟨H1,f16,f17⟩:=setF_good hr (x:=.cells r e true) (o:=.cells ⟨r⟩ e true) rfl h'
     refine⟨_,H1,_,f17.trans (gN_eq _ _),hx _ ?_,f16⟩
     have g2 : o+n*ie.size≤(⟨cd⟩ : Array Value).size:=by simpa using f11
     simp only[xappend,h1,h1',f1,e1,h2,if_neg hm0,h3,hsrc]
     rw[if_pos ⟨e7,h4,g3,g4⟩]
     simp only[f5]
     have f14' : setCells new.toList (o+n*ie.size) ⟨cd⟩=⟨r⟩:=f14
     rw[if_pos ⟨g1,g2,g5,fun hle=>Nat.mul_ne_zero (by omega) h5⟩,if_pos hin0,f14']
     rfl
   ·rw[f2] at h';exact not_good h'
   ·rw[f2] at h' ⊢
    cases n with
    | succ n=>exact not_good h'
    | zero=>
     cases cp' with
     | succ cp'=>exact not_good h'
     | zero=>
      have h'' : Good (ifB (Nat.ble (Nat.mul (Nat.add (Nat.mul 2 m') 256) ie.bytes) 281474976710656) (allocF H (.cells new.toList e true) fun i H'=>c (.slice (some ⟨i,0,none⟩) m' m') H') (.fail 54)):=h'
      obtain⟨f3,f4⟩:=ifB_good h''
      rw[f4] at h''
      obtain⟨H2,f15,f16⟩:=allocF_good hr (x:=.cells new.toList e true) (o:=.cells new e true) rfl h''
      refine⟨_,H2,_,f4.trans f16,hx _ ?_,f15⟩
      obtain⟨g3,g4⟩:=hb48 0 (by rw[show Nat.add 0 m'=m' from Nat.zero_add m'];exact f3)
      simp only[xappend,h1,h1',f1,e1,h2,if_neg hm0,h3,hsrc]
      rw[if_pos ⟨e7,h4,g3,g4⟩]
      rfl
 ·rw[e2] at h ⊢
  cases m with
  | zero=>exact zero _ _ e1 h
  | succ m=>exact not_good h
 ·rw[e2] at h ⊢
  cases m with
  | zero=>exact zero _ _ e1 h
  | succ m=>exact not_good h
theorem opLookup_ok {ty kt et : TypeId} {ie : TypeInfo} {z : Value} (x k : Operand) (ok : Bool) (h1 : P.underlying ty=some (.map kt et)) (h2 : P.info? et=some ie) (h3 : ie.zero=some z) (h4 : plainV z=true) :
  OpF cp P (opLookup kt z (compA P x) (compA P k) ok) (.lookup ty x k ok):=by
 intro t tm H Hs c ht hr h
 simp only[opLookup,evA_comp ht,hV_eq] at h ⊢
 rcases asMap_good h with⟨i,e1,e2⟩|⟨_,e2⟩
 ·rw[e2] at h ⊢
  obtain⟨kt',es,ck,e3,e4⟩:=mapF_good hr h
  rw[e4] at h ⊢
  obtain⟨e5,e6⟩:=ifB_good h
  rw[e6] at h ⊢
  obtain⟨e7,e8⟩:=ifB_good h
  rw[e8,findE_good 0] at h ⊢
  have e9 : kt'=kt:=Nat.eq_of_beq_eq_true e5
  simp only[keyGood,Bool.and_eq_true] at e7
  obtain⟨k1,k2,k3⟩:=e7
  have hc : kt'=kt∧keyedB P kt=true∧keyishV (ev P tm k)=true∧(keyOf P kt (ev P tm k)).isSome=true∧plainV z=true:=⟨e9,k1,k2,k3,h4⟩
  have hx : xop P Hs (ev P tm) (.lookup ty x k ok)=((match xfind (ev P tm k) es 0 with
     | some j=>match (⟨es⟩ : Array MapEntry)[j]? with
      | some e=>some (if ok then .tuple #[e.val,.bool true] else e.val)
      | none=>none
     | none=>some (if ok then .tuple #[z,.bool false] else z)) : Option Value).map (·,Hs):=by
   simp only[xop,xlookup,h1,e1,e3,h2,h3]
   rw[if_pos hc]
   try rfl
  rw[hx]
  cases hf : xfind (ev P tm k) es 0 with
  | none=>
   cases ok
   ·exact⟨_,H,Hs,rfl,rfl,hr⟩
   ·exact⟨_,H,Hs,rfl,rfl,hr⟩
  | some j=>
   obtain⟨_,en,e10,_⟩:=xfind_some hf
   simp only[Nat.sub_zero] at e10
   have e11 : (⟨es⟩ : Array MapEntry)[j]?=some en:=by simpa using e10
   simp only[Nat.sub_zero,e10,e11]
   cases ok
   ·exact⟨_,H,Hs,rfl,rfl,hr⟩
   ·exact⟨_,H,Hs,rfl,rfl,hr⟩
 ·rw[e2] at h;exact not_good h
theorem opMapUpdate_ok {ty kt et : TypeId} (x k v : Operand) (h1 : P.underlying ty=some (.map kt et)) : OpF cp P (opMapUpdate kt (compA P x) (compA P k) (compA P v)) (.mapUpdate ty x k v):=by
 intro t tm H Hs c ht hr h
 simp only[opMapUpdate,evA_comp ht,hV_eq] at h ⊢
 rcases asMap_good h with⟨i,e1,e2⟩|⟨_,e2⟩
 ·rw[e2] at h ⊢
  obtain⟨kt',es,ck,e3,e4⟩:=mapF_good hr h
  rw[e4] at h ⊢
  obtain⟨e5,e6⟩:=ifB_good h
  rw[e6] at h ⊢
  obtain⟨e7,e8⟩:=ifB_good h
  rw[e8,updE_good 0] at h ⊢
  have e9 : kt'=kt:=Nat.eq_of_beq_eq_true e5
  simp only[keyGood,Bool.and_eq_true] at e7
  obtain⟨k1,k2,k3⟩:=e7
  have hc : kt'=kt∧keyedB P kt=true∧keyishV (ev P tm k)=true∧(keyOf P kt (ev P tm k)).isSome=true:=⟨e9,k1,k2,k3⟩
  have hx : xop P Hs (ev P tm) (.mapUpdate ty x k v)=((match xfind (ev P tm k) es 0 with
    | some j=>some (Hs.set i (.map kt ((⟨es⟩ : Array MapEntry).modify j fun e=>{ e with key:=ev P tm k,val:=ev P tm v }) ck))
    | none=>some (Hs.set i (.map kt ((⟨es⟩ : Array MapEntry).push { key:=ev P tm k,val:=ev P tm v,born:=ck }) (ck+1)))) : Option Heap).map (undef,·):=by
   simp only[xop,xmapUpdate,h1,e1,e3]
   rw[if_pos hc]
   try rfl
  rw[hx]
  cases hf : xfind (ev P tm k) es 0 with
  | none=>
   simp only[hf] at h ⊢
   obtain⟨H',f1,f2⟩:=setF_good hr (o:=.map kt ((⟨es⟩ : Array MapEntry).push { key:=ev P tm k,val:=ev P tm v,born:=ck }) (ck+1)) (by simp only[FOR];congr 2;apply Array.toList_inj.1;simp) h
   exact⟨undef,H',_,f2,rfl,f1⟩
  | some j=>
   simp only[hf,Nat.sub_zero] at h ⊢
   obtain⟨H',f1,f2⟩:=setF_good hr (o:=.map kt ((⟨es⟩ : Array MapEntry).modify j fun e=>{ e with key:=ev P tm k,val:=ev P tm v }) ck) (by simp only[FOR];congr 2;apply Array.toList_inj.1;simp) h
   exact⟨undef,H',_,f2,rfl,f1⟩
 ·rw[e2] at h;exact not_good h
end
end Go.Xe
