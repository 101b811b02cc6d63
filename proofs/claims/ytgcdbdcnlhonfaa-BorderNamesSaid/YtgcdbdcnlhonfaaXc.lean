/- An executable reading of the model's code over an abstract heap (part 3): addresses, slices, and the whole of the operations that change no memory and read none. Conditions: none. -/
import Derived.Test.YtgcdbdcnlhonfaaXb
namespace Go.Xe
open Go
def xfieldAddr (P : Program) (s : TypeId) (x : Value) (f : Nat) : Option Value:=
 match x,P.underlying s with
 | .pointer (some ⟨i,o,none⟩),some (.struct fields)=>
  match fields[f]? with
  | some fd=>match P.info? fd.type with
   | some inf=>if inf.size=0 then none else some (.pointer (some ⟨i,o+fd.offset,none⟩))
   | none=>none
  | none=>none
 | _,_=>none
theorem xfieldAddr_ok {P : Program} {θ : Th} {s : TypeId} {x x' v : Value} {f : Nat} (h : xfieldAddr P s x f=some v) (hx : VR θ x x') (w : World) :
  ∃ v',(Instr.fieldAt s x' f).run P w=.ok v' w∧VR θ v v':=by
 cases hx with
 | ptr hp=>
  rename_i i o p
  cases hu : P.underlying s with
  | none=>simp[xfieldAddr,hu] at h
  | some d=>
   cases d<;>try (simp[xfieldAddr,hu] at h;done)
   rename_i fields
   simp only[xfieldAddr,hu] at h
   split at h
   ·rename_i fd hfd
    split at h
    ·rename_i inf hinf
     split at h
     ·cases h
     ·rename_i hs
      cases h
      refine⟨_,?_,.ptr hp⟩
      simp[Instr.fieldAt,run_underlying hu,hfd,Instr.sureAddr,fieldPlace,run_sizeOf' hinf,hs,addr_add,Nat.add_assoc]
    ·cases h
   ·cases h
 | _=>simp[xfieldAddr] at h
def xindexAddr (P : Program) (t : TypeId) (x ix : Value) : Option Value:=
 match ix with
 | .int _ n=>
  match x,P.underlying t with
  | .slice (some ⟨i,o,none⟩) len _,some (.slice e)=>match P.info? e with
   | some inf=>if 0≤n∧n<(len : Int) then some (.pointer (some ⟨i,o+n.toNat*inf.size,none⟩)) else none
   | none=>none
  | .pointer (some ⟨i,o,none⟩),some (.array len e)=>match P.info? e with
   | some inf=>if 0≤n∧n<(len : Int) then some (.pointer (some ⟨i,o+n.toNat*inf.size,none⟩)) else none
   | none=>none
  | _,_=>none
 | _=>none
theorem xindexAddr_ok {P : Program} {θ : Th} {t : TypeId} {x x' ix ix' v : Value} (h : xindexAddr P t x ix=some v) (hx : VR θ x x') (hi : VR θ ix ix') (w : World) :
  ∃ v',(Instr.indexAt t x' ix').run P w=.ok v' w∧VR θ v v':=by
 cases hi with
 | int k n=>
  cases hu : P.underlying t with
  | none=>cases hx<;>simp[xindexAddr,hu] at h
  | some d=>
   cases hx with
   | slice hp hn hc hs=>
    cases d<;>try (simp[xindexAddr,hu] at h;done)
    rename_i e
    simp only[xindexAddr,hu] at h
    split at h
    ·rename_i inf hinf
     split at h
     ·rename_i hb
      cases h
      refine⟨_,?_,.ptr hp⟩
      simp[Instr.indexAt,asIntOf,run_underlying hu,hb,run_sizeOf' hinf,addr_add,Nat.add_assoc]
     ·cases h
    ·cases h
   | ptr hp=>
    cases d<;>try (simp[xindexAddr,hu] at h;done)
    simp only[xindexAddr,hu] at h
    split at h
    ·rename_i inf hinf
     split at h
     ·rename_i hb
      cases h
      refine⟨_,?_,.ptr hp⟩
      simp[Instr.indexAt,asIntOf,Instr.sureAddr,run_underlying hu,hb,run_sizeOf' hinf,addr_add,Nat.add_assoc]
     ·cases h
    ·cases h
   | _=>simp[xindexAddr] at h
 | _=>simp[xindexAddr] at h
def xfield (P : Program) (t : TypeId) (x : Value) (f : Nat) : Option Value:=
 match x,P.underlying t with
 | .agg cs,some (.struct fields)=>match fields[f]? with
  | some fd=>xpart P fd.type cs fd.offset
  | none=>none
 | _,_=>none
theorem xfield_ok {P : Program} {θ : Th} {t : TypeId} {x x' v : Value} {f : Nat} (h : xfield P t x f=some v) (hx : VR θ x x') (w : World) :
  ∃ v',(Instr.field t x' f).run P w=.ok v' w∧VR θ v v':=by
 cases hx with
 | agg h1 h2=>
  cases hu : P.underlying t with
  | none=>simp[xfield,hu] at h
  | some d=>
   cases d<;>try (simp[xfield,hu] at h;done)
   simp only[xfield,hu] at h
   split at h
   ·rename_i fd hfd
    obtain⟨v',hr,hv⟩:=xpart_ok h ⟨h1,h2⟩ w
    exact⟨v',by simp[Instr.field,run_underlying hu,hfd,asAgg,hr],hv⟩
   ·cases h
 | _=>simp[xfield] at h
def xindex (P : Program) (t : TypeId) (x ix : Value) : Option Value:=
 match ix,x,P.underlying t with
 | .int _ n,.agg cs,some (.array len e)=>match P.info? e with
  | some inf=>if 0≤n∧n<(len : Int) then xpart P e cs (n.toNat*inf.size) else none
  | none=>none
 | .int _ n,.string s,some .string=>if 0≤n then match s.data.toList[n.toNat]? with
  | some b=>some (.int .u8 (b.toNat : Int))
  | none=>none
  else none
 | _,_,_=>none
theorem xindex_ok {P : Program} {θ : Th} {t : TypeId} {x x' ix ix' v : Value} (h : xindex P t x ix=some v) (hx : VR θ x x') (hi : VR θ ix ix') (w : World) :
  ∃ v',(Instr.index t x' ix').run P w=.ok v' w∧VR θ v v':=by
 cases hi with
 | int k n=>
  cases hx with
  | agg h1 h2=>
   cases hu : P.underlying t with
   | none=>simp[xindex,hu] at h
   | some d=>
    cases d<;>try (simp[xindex,hu] at h;done)
    simp only[xindex,hu] at h
    split at h
    ·rename_i inf hinf
     split at h
     ·rename_i hb
      obtain⟨v',hr,hv⟩:=xpart_ok h ⟨h1,h2⟩ w
      exact⟨v',by simp[Instr.index,asIntOf,run_underlying hu,hb,run_sizeOf' hinf,hr],hv⟩
     ·cases h
    ·cases h
  | string s=>
   cases hu : P.underlying t with
   | none=>simp[xindex,hu] at h
   | some d=>
    cases d<;>try (simp[xindex,hu] at h;done)
    simp only[xindex,hu] at h
    split at h
    ·rename_i hn
     split at h
     ·rename_i b hb
      cases h
      have hb' : s[n.toNat]?=some b:=by
       rw[← hb];simp[getElem?_def];rfl
      exact⟨_,by simp[Instr.index,asIntOf,run_underlying hu,hn,hb'],.int _ _⟩
     ·cases h
    ·cases h
  | _=>simp[xindex] at h
 | _=>simp[xindex] at h
def xextract (x : Value) (ix : Nat) : Option Value:=
 match x with
 | .tuple vs=>vs[ix]?
 | _=>none
theorem xextract_ok {P : Program} {θ : Th} {x x' v : Value} {ix : Nat} (h : xextract x ix=some v) (hx : VR θ x x') (w : World) :
  ∃ v',(Instr.extract x' ix).run P w=.ok v' w∧VR θ v v':=by
 cases hx with
 | tuple h1 h2=>
  obtain⟨v',hv',hr⟩:=AR.get ⟨h1,h2⟩ h
  exact⟨v',by simp[Instr.extract,hv'],hr⟩
 | _=>simp[xextract] at h
def xbound (x : Option Value) (d y : Nat) : Option Nat:=
 match x with
 | none=>some d
 | some (.int _ n)=>if 0≤n∧n≤(y : Int) then some n.toNat else none
 | _=>none
def xslice3 (P : Program) (e : TypeId) (a : Option Addr) (len cap : Nat) (lo hi : Option Value) (m : Value) : Option Value:=
 match P.info? e,xbound (some m) 0 cap,hi with
 | some inf,some k,some h0=>match xbound (some h0) 0 k with
  | some h=>match xbound lo 0 h with
   | some l=>match a with
    | some ⟨i,o,none⟩=>if k=l then some (.slice (some ⟨i,o,some 0⟩) 0 0) else some (.slice (some ⟨i,o+l*inf.size,none⟩) (h-l) (k-l))
    | some ⟨i,o,some s⟩=>if k=0 then some (.slice (some ⟨i,o,some s⟩) 0 0) else none
    | none=>if len=0∧l=0∧h=0∧k=0 then some (.slice none 0 0) else none
   | none=>none
  | none=>none
 | _,_,_=>none
def xslice (P : Program) (t : TypeId) (x : Value) (lo hi mx : Option Value) : Option Value:=
 match mx,x,P.underlying t with
 | some m,.slice a len cap,some (.slice e)=>xslice3 P e a len cap lo hi m
 | none,.slice a len cap,some (.slice e)=>match P.info? e,xbound hi len cap with
  | some inf,some h=>match xbound lo 0 h with
   | some l=>match a with
    | some ⟨i,o,none⟩=>if cap=l then some (.slice (some ⟨i,o,some 0⟩) 0 0) else some (.slice (some ⟨i,o+l*inf.size,none⟩) (h-l) (cap-l))
    | some ⟨i,o,some s⟩=>some (.slice (some ⟨i,o,some s⟩) 0 0)
    | none=>if len=0∧l=0∧h=0∧cap=0 then some (.slice none 0 0) else none
   | none=>none
  | _,_=>none
 | none,.string s,some .string=>match xbound hi s.size s.size with
  | some h=>match xbound lo 0 h with
   | some l=>some (.string (s.extract l h))
   | none=>none
  | none=>none
 | none,.pointer (some ⟨i,o,none⟩),some (.array n e)=>match P.info? e,xbound hi n n with
  | some inf,some h=>match xbound lo 0 h with
   | some l=>if n=l then some (.slice (some ⟨i,o,some 0⟩) 0 0) else some (.slice (some ⟨i,o+l*inf.size,none⟩) (h-l) (n-l))
   | none=>none
  | _,_=>none
 | _,_,_=>none
inductive OV (θ : Th) : Option Value→Option Value→Prop
 | none : OV θ none none
 | some {v w : Value} (h : VR θ v w) : OV θ (some v) (some w)
theorem OV.map {θ : Th} {ρ ρ' : Operand→Value} (hρ : ∀ x,VR θ (ρ x) (ρ' x)) (x : Option Operand) : OV θ (x.map ρ) (x.map ρ'):=by
 cases x with
 | none=>exact .none
 | some x=>exact .some (hρ x)
theorem run_bound {P : Program} {θ : Th} {x x' : Option Value} {d y r : Nat} {y' : Nat} {code : BoundsCode} (h : xbound x d y=some r) (hx : OV θ x x') (hy : y≤y') (w : World) :
  (match x' with|some v=>Instr.sliceBound v y' code|none=>pure d : Sem Nat).run P w=.ok r w:=by
 cases hx with
 | none=>simp only[xbound] at h;cases h;rfl
 | some hv=>
  cases hv with
  | int k n=>
   simp only[xbound] at h
   split at h
   ·rename_i hb
    cases h
    have hb' : 0≤n∧n≤(y' : Int):=⟨hb.1,by omega⟩
    simp[Instr.sliceBound,asIntOf,hb']
   ·cases h
  | _=>simp[xbound] at h
theorem xbound_le {x : Option Value} {d y r : Nat} (h : xbound x d y=some r) (hd : d≤y) : r≤y:=by
 unfold xbound at h
 split at h
 ·cases h;exact hd
 ·split at h
  ·cases h;omega
  ·cases h
 ·cases h
theorem run_bounds {P : Program} {θ : Th} {lo hi lo' hi' : Option Value} {len y cap' l h : Nat} {isSlice : Bool} (hh : xbound hi len y=some h) (hl : xbound lo 0 h=some l) (hy : y≤cap')
  (hlo : OV θ lo lo') (hhi : OV θ hi hi') (w : World) : (Instr.sliceBounds isSlice len cap' lo' hi' none).run P w=.ok (l,h,cap') w:=by
 have e1:=fun code=>run_bound (P:=P) (code:=code) hh hhi hy w
 have e2:=fun code=>run_bound (P:=P) (code:=code) hl hlo (Nat.le_refl _) w
 simp only[Instr.sliceBounds,Sem.run_bind,Result.andThen_ok,Sem.run_pure,Option.isSome_none,Bool.false_eq_true,if_false]
 cases hhi with
 | none=>
  have a1:=e1 .index
  simp only[Sem.run_pure,Result.ok.injEq,and_true] at a1
  subst a1
  cases hlo with
  | none=>
   have a2:=e2 .index
   simp only[Sem.run_pure,Result.ok.injEq,and_true] at a2
   subst a2
   simp
  | some hv=>simp[e2]
 | some hv'=>
  cases hlo with
  | none=>
   have a2:=e2 .index
   simp only[Sem.run_pure,Result.ok.injEq,and_true] at a2
   subst a2
   simp[e1]
  | some hv=>simp[e1,e2]
theorem run_bounds3 {P : Program} {θ : Th} {lo lo' : Option Value} {h0 h0' m m' : Value} {len cap cap' l h k : Nat} (hk : xbound (some m) 0 cap=some k) (hh : xbound (some h0) 0 k=some h) (hl : xbound lo 0 h=some l) (hy : cap≤cap')
  (hlo : OV θ lo lo') (hhi : VR θ h0 h0') (hm : VR θ m m') (w : World) : (Instr.sliceBounds true len cap' lo' (some h0') (some m')).run P w=.ok (l,h,k) w:=by
 have e0:=fun code=>run_bound (P:=P) (code:=code) hk (.some hm) hy w
 have e1:=fun code=>run_bound (P:=P) (code:=code) hh (.some hhi) (Nat.le_refl _) w
 have e2:=fun code=>run_bound (P:=P) (code:=code) hl hlo (Nat.le_refl _) w
 simp only at e0 e1
 simp only[Instr.sliceBounds,Sem.run_bind,Result.andThen_ok,Option.isSome_some,if_true,e0,e1]
 cases hlo with
 | none=>
  have a2:=e2 .index
  simp only[Sem.run_pure,Result.ok.injEq,and_true] at a2
  subst a2
  simp
 | some hv=>simp only at e2;simp[e2]
theorem xslice3_ok {P : Program} {θ : Th} {t e : TypeId} {a a' : Option Addr} {n c n' c' : Nat} {v m m' : Value} {lo hi lo' hi' : Option Value} (hu : P.underlying t=some (.slice e)) (h : xslice3 P e a n c lo hi m=some v)
  (hx : VR θ (.slice a n c) (.slice a' n' c')) (hlo : OV θ lo lo') (hhi : OV θ hi hi') (hmx : VR θ m m')
  (w : World) : ∃ v',(Instr.sliceAt t (.slice a' n' c') lo' hi' (some m')).run P w=.ok v' w∧VR θ v v':=by
 unfold xslice3 at h
 split at h
 ·rename_i inf k h0 hinf hk
  cases hhi with
  | some hh0=>
   split at h
   ·rename_i hh hhh
    split at h
    ·rename_i l hl
     have b1:=xbound_le hk (Nat.zero_le _)
     have b2:=xbound_le hhh (Nat.zero_le _)
     have b3:=xbound_le hl (Nat.zero_le _)
     cases hx with
     | snil n c=>
      simp only at h
      split at h
      ·rename_i hz
       obtain⟨rfl,rfl,rfl,rfl⟩:=hz
       cases h
       refine⟨_,?_,.snil _ _⟩
       simp[Instr.sliceAt,run_underlying hu,Instr.slice,run_bounds3 hk hhh hl (Nat.le_refl _) hlo hh0 hmx,run_sizeOf' hinf]
      ·cases h
     | slice hp hn hc hs=>
      rename_i i o p
      simp only at h
      split at h
      ·rename_i hcl
       cases h
       refine⟨_,?_,.sempty _ _ _ ⟨p.blk,p.base+o,none⟩ 0⟩
       have e0 : hh-l=0:=by omega
       have e1 : k-l=0:=by omega
       simp only[Instr.sliceAt,Sem.run_bind,run_underlying hu,Result.andThen_ok,Instr.slice,run_bounds3 hk hhh hl hc hlo hh0 hmx,run_sizeOf' hinf,Sem.run_pure,e0,e1]
       rw[if_pos hcl]
      ·rename_i hcl
       cases h
       refine⟨_,?_,.slice hp (by omega) (Nat.le_refl _) (fun _=>.inl rfl)⟩
       simp[Instr.sliceAt,run_underlying hu,Instr.slice,run_bounds3 hk hhh hl hc hlo hh0 hmx,run_sizeOf' hinf,hcl,addr_add,Nat.add_assoc]
     | sempty i o s a c=>
      simp only at h
      split at h
      ·rename_i hk0
       subst hk0
       cases h
       obtain rfl : hh=0:=by omega
       obtain rfl : l=0:=by omega
       refine⟨_,?_,.sempty i o s a 0⟩
       simp[Instr.sliceAt,run_underlying hu,Instr.slice,run_bounds3 hk hhh hl (Nat.zero_le _) hlo hh0 hmx,run_sizeOf' hinf]
      ·cases h
    ·cases h
   ·cases h
 ·cases h
theorem xslice_ok {P : Program} {θ : Th} {t : TypeId} {x x' v : Value} {lo hi mx lo' hi' mx' : Option Value} (h : xslice P t x lo hi mx=some v)
  (hx : VR θ x x') (hlo : OV θ lo lo') (hhi : OV θ hi hi') (hmx : OV θ mx mx')
  (hst : ∀ i o n c p e inf,x=.slice (some ⟨i,o,none⟩) n c→θ i=some p→p.rw=true→P.underlying t=some (.slice e)→P.info? e=some inf→p.st=inf.size) (w : World) :
  ∃ v',(Instr.sliceAt t x' lo' hi' mx').run P w=.ok v' w∧VR θ v v':=by
 cases hmx with
 | some hm=>
  cases hu : P.underlying t with
  | none=>cases hx<;>simp[xslice,hu] at h
  | some d=>
   cases hx with
   | snil n c=>
    cases d<;>try (simp[xslice,hu] at h;done)
    simp only[xslice,hu] at h
    exact xslice3_ok hu h (.snil n c) hlo hhi hm w
   | slice hp hn hc hs=>
    cases d<;>try (simp[xslice,hu] at h;done)
    simp only[xslice,hu] at h
    exact xslice3_ok hu h (.slice hp hn hc hs) hlo hhi hm w
   | sempty i o s a c=>
    cases d<;>try (simp[xslice,hu] at h;done)
    simp only[xslice,hu] at h
    exact xslice3_ok hu h (.sempty i o s a c) hlo hhi hm w
   | _=>cases d<;>simp[xslice] at h
 | none=>
  cases hu : P.underlying t with
  | none=>cases hx<;>simp[xslice,hu] at h
  | some d=>
   cases hx with
   | string s=>
    cases d<;>try (simp[xslice,hu] at h;done)
    simp only[xslice,hu] at h
    split at h
    ·rename_i hh hhh
     split at h
     ·rename_i l hl
      cases h
      refine⟨_,?_,.string _⟩
      simp[Instr.sliceAt,run_underlying hu,Instr.slice,run_bounds hhh hl (Nat.le_refl _) hlo hhi]
     ·cases h
    ·cases h
   | snil n c=>
    cases d<;>try (simp[xslice,hu] at h;done)
    simp only[xslice,hu] at h
    split at h
    ·rename_i inf hh hinf hhh
     split at h
     ·rename_i l hl
      split at h
      ·rename_i hz
       obtain⟨rfl,rfl,rfl,rfl⟩:=hz
       cases h
       refine⟨_,?_,.snil _ _⟩
       simp[Instr.sliceAt,run_underlying hu,Instr.slice,run_bounds hhh hl (Nat.le_refl _) hlo hhi,run_sizeOf' hinf]
      ·cases h
     ·cases h
    ·cases h
   | slice hp hn hc hs=>
    rename_i i o n c c' p
    cases d<;>try (simp[xslice,hu] at h;done)
    rename_i e
    simp only[xslice,hu] at h
    split at h
    ·rename_i inf hh hinf hhh
     split at h
     ·rename_i l hl
      have h1:=xbound_le hhh hn
      have h2:=xbound_le hl (Nat.zero_le _)
      split at h
      ·rename_i hcl
       cases h
       refine⟨_,?_,.sempty _ _ _ (if c'=l then ⟨p.blk,p.base+o,none⟩ else ⟨p.blk,p.base+o+l*inf.size,none⟩) (c'-l)⟩
       have e0 : hh-l=0:=by omega
       simp only[Instr.sliceAt,Sem.run_bind,run_underlying hu,Result.andThen_ok,Instr.slice,run_bounds hhh hl hc hlo hhi,run_sizeOf' hinf,Sem.run_pure,e0]
       split<;>simp[addr_add]
      ·rename_i hcl
       cases h
       have hcl' : c'≠l:=by omega
       have hst':=hst i o n c p e inf rfl hp
       refine⟨_,?_,.slice hp (by omega) (show c-l≤c'-l by omega) (fun hrw=>?_)⟩
       ·simp[Instr.sliceAt,run_underlying hu,Instr.slice,run_bounds hhh hl hc hlo hhi,run_sizeOf' hinf,hcl',addr_add,Nat.add_assoc]
       ·have h3:=hs hrw
        rw[hst' hrw hu hinf] at h3 ⊢
        have : (c'-l)*inf.size+l*inf.size=c'*inf.size:=by rw[← Nat.add_mul];congr 1;omega
        omega
     ·cases h
    ·cases h
   | sempty i o s a c=>
    cases d<;>try (simp[xslice,hu] at h;done)
    rename_i e
    simp only[xslice,hu] at h
    split at h
    ·rename_i inf hh hinf hhh
     split at h
     ·rename_i l hl
      have h1:=xbound_le hhh (Nat.le_refl _)
      have h2:=xbound_le hl (Nat.zero_le _)
      obtain rfl : hh=0:=by omega
      obtain rfl : l=0:=by omega
      cases h
      refine⟨_,?_,.sempty i o s (if c=0 then a else a.add 0) c⟩
      simp only[Instr.sliceAt,Sem.run_bind,run_underlying hu,Result.andThen_ok,Instr.slice,run_bounds hhh hl (show 0≤c by omega) hlo hhi,run_sizeOf' hinf,Sem.run_pure]
      split<;>simp
     ·cases h
    ·cases h
   | ptr hp=>
    rename_i i o p
    cases d<;>try (simp[xslice,hu] at h;done)
    rename_i n e
    simp only[xslice,hu] at h
    split at h
    ·rename_i inf hh hinf hhh
     split at h
     ·rename_i l hl
      have h1:=xbound_le hhh (Nat.le_refl _)
      have h2:=xbound_le hl (Nat.zero_le _)
      split at h
      ·rename_i hcl
       cases h
       refine⟨_,?_,.sempty _ _ _ ⟨p.blk,p.base+o,none⟩ 0⟩
       have e0 : hh-l=0:=by omega
       subst hcl
       simp[Instr.sliceAt,Instr.sureAddr,run_underlying hu,run_bounds hhh hl (Nat.le_refl _) hlo hhi,run_sizeOf' hinf,e0]
      ·rename_i hcl
       cases h
       refine⟨_,?_,.slice hp (by omega) (Nat.le_refl _) (fun _=>.inl rfl)⟩
       simp[Instr.sliceAt,Instr.sureAddr,run_underlying hu,run_bounds hhh hl (Nat.le_refl _) hlo hhi,run_sizeOf' hinf,hcl,addr_add,Nat.add_assoc]
     ·cases h
    ·cases h
   | _=>cases d<;>simp[xslice] at h
end Go.Xe
