/- Rules of reasoning over the executable reading of the model's code (part Z4): the operations in the direct style are the reading's, all of them. Conditions: none. -/
import Derived.Test.YtlfikodljmdekaaZc
namespace Go.Xe
open Go
section
variable {P : Program} [Gl P]
theorem map_some {α β : Type} {x : Option α} {f : α→β} {y : β} (h : x.map f=some y) : ∃ a,x=some a∧f a=y:=Option.map_eq_some_iff.1 h
theorem dok_len (x : Operand) (ts : Array TypeId) : DOk P (compOp P (.call { callee:=.builtin .len,args:=⟨[x]⟩,argTypes:=ts })) (.call { callee:=.builtin .len,args:=⟨[x]⟩,argTypes:=ts }):=by
 have key : ∀ {ty : TypeId} {t : TT} {tm : Array Value} {H : Heap} {v : Value},ts.toList=[ty]→TR t tm→xlen P H ty (ev P tm x)=some v→xop P H (ev P tm) (.call { callee:=.builtin .len,args:=⟨[x]⟩,argTypes:=ts })=some (v,H):=by
  intro ty t tm H v hts ht h
  have e : (Array.map (ev P tm) (⟨[x]⟩ : Array Operand)).toList=[ev P tm x]:=by simp
  simp only[xop,hts,e,xbuiltin,h,Option.map_some]
 have kd : ∀ {k : Nat} {ty : TypeId} {t : TT} {tm : Array Value} {H H' : Heap} {v : Value},ts.toList=[ty]→TR t tm→(∀ v,ylen k H (ev P tm x)=some v→xlen P H ty (ev P tm x)=some v)→dop P (.len k (compA P x)) t H=some (v,H') →
   xop P H (ev P tm) (.call { callee:=.builtin .len,args:=⟨[x]⟩,argTypes:=ts })=some (v,H'):=by
  intro k ty t tm H H' v hts ht hk h
  simp only[dop,dA_comp ht] at h
  obtain⟨y,hy,hv⟩:=map_some h
  cases hv
  exact key hts ht (hk _ hy)
 simp only[compOp,compLen]
 split
 ·rename_i ty hts
  split
  ·rename_i e h1
   intro t tm H H' v ht h
   refine kd hts ht (fun w hw=>?_) h
   unfold ylen at hw
   split at hw<;>first|(rename_i hx hk;cases hk;done)|skip
   all_goals first|(cases hw;done)|skip
   all_goals (rename_i hx;first|(rename_i hk;cases hk;done)|skip)
   all_goals (simp only[xlen,h1,hx];exact hw)
  ·rename_i h1
   intro t tm H H' v ht h
   refine kd hts ht (fun w hw=>?_) h
   generalize ev P tm x=y at hw
   cases y<;>simp[ylen] at hw
   simp only[xlen,h1,hw]
  ·rename_i k e h1
   intro t tm H H' v ht h
   refine kd hts ht (fun w hw=>?_) h
   generalize ev P tm x=y at hw
   cases y with
   | map m=>cases m<;>simp only[xlen,h1]<;>exact hw
   | _=>simp[ylen] at hw
  ·rename_i n e h1
   intro t tm H H' v ht h
   simp only[dop] at h
   cases h
   refine key hts ht ?_
   simp only[xlen,h1]
   rfl
  ·exact .bad
 ·exact .bad
theorem dok_cap (x : Operand) (ts : Array TypeId) : DOk P (compOp P (.call { callee:=.builtin .cap,args:=⟨[x]⟩,argTypes:=ts })) (.call { callee:=.builtin .cap,args:=⟨[x]⟩,argTypes:=ts }):=by
 simp only[compOp,compCap]
 split
 ·rename_i ty hts
  split
  ·rename_i e h1
   intro t tm H H' v ht h
   simp only[dop,dA_comp ht] at h
   obtain⟨y,hy,hv⟩:=map_some h
   cases hv
   have e : (Array.map (ev P tm) (⟨[x]⟩ : Array Operand)).toList=[ev P tm x]:=by simp
   simp only[xop,hts,e,xbuiltin]
   generalize ev P tm x=z at hy
   unfold ycap at hy
   split at hy
   ·simp only[xcap,h1];cases hy;rfl
   ·cases hy
  ·exact .bad
 ·exact .bad
theorem dok_append (s x : Operand) (ts : Array TypeId) : DOk P (compOp P (.call { callee:=.builtin .append,args:=⟨[s,x]⟩,argTypes:=ts })) (.call { callee:=.builtin .append,args:=⟨[s,x]⟩,argTypes:=ts }):=by
 simp only[compOp,compAppend]
 split
 ·rename_i ty uy hts
  split
  ·rename_i e e' h1 h1'
   split
   ·rename_i ie h2
    split
    ·rename_i z h3
     split
     ·rename_i h4
      obtain⟨a1,a2,a3⟩:=h4
      intro t tm H H' v ht h
      simp only[dop,dA_comp ht] at h
      have e : (Array.map (ev P tm) (⟨[s,x]⟩ : Array Operand)).toList=[ev P tm s,ev P tm x]:=by simp
      simp only[xop,hts,e,xbuiltin,h1']
      unfold yappend at h
      split at h
      ·rename_i a n c b m c' hs hx
       simp only[xappend,h1,h1',hs,hx,h2,h3]
       by_cases hm : m=0
       ·rw[if_pos hm] at h ⊢;exact h
       ·rw[if_neg hm] at h ⊢
        cases hso : xsource H ie.size m b with
        | none=>rw[hso] at h;cases h
        | some new=>
         rw[hso] at h
         simp only[a1,true_and]
         exact h
      ·cases h
     ·exact .bad
    ·exact .bad
   ·exact .bad
  ·split
   ·split
    ·split
     ·intro t tm H H' v ht h
      simp[dop] at h
     ·exact .bad
    ·exact .bad
   ·exact .bad
  ·exact .bad
 ·exact .bad
theorem dok_clear (x : Operand) (ts : Array TypeId) : DOk P (compOp P (.call { callee:=.builtin .clear,args:=⟨[x]⟩,argTypes:=ts })) (.call { callee:=.builtin .clear,args:=⟨[x]⟩,argTypes:=ts }):=by
 simp only[compOp,compClear]
 split
 ·rename_i ty hts
  split
  ·rename_i e h1
   split
   ·rename_i ie h2
    split
    ·rename_i z h3
     split
     ·rename_i h4
      obtain⟨a1,a2,a3⟩:=h4
      intro t tm H H' v ht h
      simp only[dop,dA_comp ht] at h
      obtain⟨H1,h5,h6⟩:=map_some h
      cases h6
      have e : (Array.map (ev P tm) (⟨[x]⟩ : Array Operand)).toList=[ev P tm x]:=by simp
      simp only[xop,hts,e,xbuiltin]
      unfold yclear at h5
      have ez : (⟨z.cells.toList⟩ : Array Value)=z.cells:=rfl
      split at h5
      ·rename_i hx;cases h5;simp only[xclear,h1,hx];rfl
      ·rename_i i o n c hx
       simp only[xclear,h1,hx,h2,h3]
       split at h5
       ·rename_i hn;cases h5;rw[if_pos hn];rfl
       ·rename_i hn
        rw[if_neg hn]
        split at h5
        ·rename_i cd el hc
         simp only[hc]
         split at h5
         ·rename_i hb;cases h5;rw[if_pos ⟨a3,a1,a2,hb⟩];rfl
         ·cases h5
        ·cases h5
      ·rename_i hx;cases h5;simp only[xclear,h1,hx];rfl
      ·cases h5
     ·exact .bad
    ·exact .bad
   ·exact .bad
  ·exact .bad
 ·exact .bad
theorem dok_copy (d s : Operand) (ts : Array TypeId) : DOk P (compOp P (.call { callee:=.builtin .copy,args:=⟨[d,s]⟩,argTypes:=ts })) (.call { callee:=.builtin .copy,args:=⟨[d,s]⟩,argTypes:=ts }):=by
 simp only[compOp,compCopy]
 split
 ·rename_i ty uy hts
  split
  ·rename_i e h1
   split
   ·rename_i ie h2
    split
    ·rename_i h4
     intro t tm H H' v ht h
     simp only[dop,dA_comp ht] at h
     have e : (Array.map (ev P tm) (⟨[d,s]⟩ : Array Operand)).toList=[ev P tm d,ev P tm s]:=by simp
     simp only[xop,hts,e,xbuiltin]
     unfold ycopy at h
     split at h
     ·rename_i db dn dc sb m sc hd hs
      simp only[xcopy,h1,hd,hs,h2]
      split at h
      ·rename_i h0;rw[if_pos h0];exact h
      ·rename_i h0
       rw[if_neg h0]
       split at h
       ·rename_i new i o hso
        simp only[hso]
        split at h
        ·rename_i cd el hc
         simp only[hc]
         split at h
         ·rename_i hb;rw[if_pos ⟨hb.1,h4,hb.2⟩];exact h
         ·cases h
        ·cases h
       ·cases h
     ·cases h
    ·exact .bad
   ·exact .bad
  ·exact .bad
 ·exact .bad
theorem dop_ok (op : Op) : DOk P (compOp P op) op:=by
 cases op with
 | move x=>intro t tm H H' v ht h;simp only[compOp,dop,dA_comp ht] at h;exact h
 | assign x=>intro t tm H H' v ht h;simp only[compOp,dop,dA_comp ht] at h;exact h
 | pick c a b=>
  intro t tm H H' v ht h
  simp only[compOp,dop,dA_comp ht] at h
  unfold ypick at h
  split at h
  ·rename_i b hb
   simp only[xop,hb];exact h
  ·cases h
 | alloc e=>exact dok_alloc e
 | box e x=>intro t tm H H' v ht h;simp only[compOp,dop,dA_comp ht] at h;exact h
 | build ty ps=>exact dok_build ty ps
 | buildSlice ty n ps=>exact dok_buildSlice ty n ps
 | load ty a=>exact dok_load ty a
 | store ty a x=>exact dok_store ty a x
 | nilCheck x=>intro t tm H H' v ht h;simp only[compOp,dop,dA_comp ht] at h;exact h
 | binOp op ty x y r=>intro t tm H H' v ht h;simp only[compOp,dop,dA_comp ht] at h;exact h
 | unOp op ty x=>intro t tm H H' v ht h;simp only[compOp,dop,dA_comp ht] at h;exact h
 | convert s d x=>exact dok_convert s d x
 | makeFunc fn a b=>
  cases fn with
  | func f=>
   intro t tm H H' v ht h
   simp only[compOp,dop,parts_eq ht] at h
   simp only[xop,xmkFunc,Option.map_some]
   rw[← h]
   congr 3<;>(apply Array.toList_inj.1;simp)
  | _=>exact .bad
 | makeMap ty r=>
  have key : ∀ {kt et : TypeId},P.underlying ty=some (.map kt et)→okHint (r.map (ev P #[]))=true→(∀ tm,r.map (ev P tm)=r.map (ev P #[]))→DOk P (.makeMap kt) (.makeMap ty r):=by
   intro kt et h1 hr hc t tm H H' v ht h
   simp only[dop] at h
   simp only[xop,xmakeMap,h1,hc tm,hr,if_true]
   exact h
  cases r with
  | none=>
   simp only[compOp]
   split
   ·rename_i kt et h1;exact key h1 rfl (fun _=>rfl)
   ·exact .bad
  | some c=>
   cases c with
   | const v=>
    cases v with
    | int k n=>
     simp only[compOp]
     split
     ·rename_i kt et h1;exact key h1 rfl (fun _=>rfl)
     ·exact .bad
    | _=>exact .bad
   | _=>exact .bad
 | makeSlice ty l c=>exact dok_makeSlice ty l c
 | slice ty x lo hi mx=>exact dok_slice ty x lo hi mx
 | fieldAddr ty x f=>exact dok_fieldAddr ty x f
 | field ty x f=>exact dok_field ty x f
 | indexAddr ty x i=>exact dok_indexAddr ty x i
 | index ty x i=>exact dok_index ty x i
 | lookup ty x k ok=>exact dok_lookup ty x k ok
 | mapUpdate ty m k x=>exact dok_mapUpdate ty m k x
 | insert ty m k x=>exact dok_mapUpdate ty m k x
 | extract x i=>intro t tm H H' v ht h;simp only[compOp,dop,dA_comp ht] at h;exact h
 | call c=>
  obtain⟨callee,args,ts⟩:=c
  cases callee with
  | builtin b=>
   cases b with
   | len=>
    obtain⟨l⟩:=args
    match l with
    | [x]=>exact dok_len x ts
    | []=>exact .bad
    | _::_::_=>exact .bad
   | cap=>
    obtain⟨l⟩:=args
    match l with
    | [x]=>exact dok_cap x ts
    | []=>exact .bad
    | _::_::_=>exact .bad
   | append=>
    obtain⟨l⟩:=args
    match l with
    | [s,x]=>exact dok_append s x ts
    | []=>exact .bad
    | [_]=>exact .bad
    | _::_::_::_=>exact .bad
   | clear=>
    obtain⟨l⟩:=args
    match l with
    | [x]=>exact dok_clear x ts
    | []=>exact .bad
    | _::_::_=>exact .bad
   | copy=>
    obtain⟨l⟩:=args
    match l with
    | [d,s]=>exact dok_copy d s ts
    | []=>exact .bad
    | [_]=>exact .bad
    | _::_::_::_=>exact .bad
   | min=>
    intro t tm H H' v ht h
    simp only[compOp,dop,parts_eq ht] at h
    simp only[xop,xbuiltin,Array.toList_map];exact h
   | max=>
    intro t tm H H' v ht h
    simp only[compOp,dop,parts_eq ht] at h
    simp only[xop,xbuiltin,Array.toList_map];exact h
   | _=>exact .bad
  | value f=>
   intro t tm H H' v ht h
   simp[compOp,dop] at h
  | _=>exact .bad
 | _=>exact .bad
end
end Go.Xe
