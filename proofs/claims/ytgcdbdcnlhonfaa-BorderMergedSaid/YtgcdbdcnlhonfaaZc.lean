/- Rules of reasoning over the executable reading of the model's code (part Z3): the operations in the direct style are the reading's. Conditions: none. -/
import Derived.Test.YtgcdbdcnlhonfaaZb
namespace Go.Xe
open Go
section
variable {P : Program} [Gl P]
theorem DOk.bad {op : Op} : DOk P badOp op:=by
 intro t tm H H' v ht h
 simp[badOp,dop] at h
theorem parts_eq {t : TT} {tm : Array Value} (ht : TR t tm) (l : List Operand) : (l.map (compA P)).map (dA t)=l.map (ev P tm):=by
 rw[List.map_map]
 exact List.map_congr_left (fun x _=>dA_comp ht x)
theorem opt_eq {t : TT} {tm : Array Value} (ht : TR t tm) (x : Option Operand) : (x.map (compA P)).map (dA t)=x.map (ev P tm):=by
 cases x with
 | none=>rfl
 | some x=>simp[dA_comp ht]
theorem dok_alloc (e : TypeId) : DOk P (compOp P (.alloc e)) (.alloc e):=by
 simp only[compOp]
 split
 ·rename_i i h1
  split
  ·rename_i z h2
   split
   ·rename_i h3
    intro t tm H H' v ht h
    simp only[dop] at h;cases h
    simp only[xop,xalloc,h1,h2,h3,if_true]
   ·exact .bad
  ·exact .bad
 ·exact .bad
theorem dok_build (ty : TypeId) (parts : Array (Nat×Operand)) : DOk P (compOp P (.build ty parts)) (.build ty parts):=by
 simp only[compOp]
 split
 ·rename_i it n e h1 h2
  split
  ·rename_i z ie h3 h4
   unfold compParted
   split
   ·rename_i h5
    split
    ·rename_i ps h6
     intro t tm H H' v ht h
     simp only[dop,Option.map_eq_some_iff] at h
     obtain⟨c,hc,hv⟩:=h
     cases hv
     obtain⟨k1,k2,k3⟩:=yfill_ok ht h6 hc
     simp only[xop,xbuild,xparts,h1,h2,h3,h4,h5,k1,Bool.and_self,if_true,Option.map_eq_some_iff]
     exact⟨_,⟨_,k2,rfl⟩,rfl⟩
    ·exact .bad
   ·exact .bad
  ·exact .bad
 ·rename_i it fs h1 h2
  split
  ·rename_i z places h3 h4
   unfold compParted
   split
   ·rename_i h5
    split
    ·rename_i ps h6
     intro t tm H H' v ht h
     simp only[dop,Option.map_eq_some_iff] at h
     obtain⟨c,hc,hv⟩:=h
     cases hv
     obtain⟨k1,k2,k3⟩:=yfill_ok ht h6 hc
     simp only[xop,xbuild,xparts,h1,h2,h3,h4,h5,k1,Bool.and_self,if_true,Option.map_eq_some_iff]
     exact⟨_,⟨_,k2,rfl⟩,rfl⟩
    ·exact .bad
   ·exact .bad
  ·exact .bad
 ·exact .bad
theorem dok_buildSlice (ty : TypeId) (len : Nat) (parts : Array (Nat×Operand)) : DOk P (compOp P (.buildSlice ty len parts)) (.buildSlice ty len parts):=by
 simp only[compOp]
 split
 ·rename_i e h1
  split
  ·rename_i ie h2
   split
   ·rename_i hp
    intro t tm H H' v ht h
    simp only[dop,yfill,Option.map_some] at h
    cases h
    have hl : (xparts (ev P tm) parts)=[]:=by unfold xparts;rw[hp];rfl
    simp only[xop,xbuildSlice,h1,h2,Nat.zero_mul,hl]
    rfl
   ·split
    ·rename_i z ps h3 h4
     split
     ·rename_i h5
      obtain⟨a1,a2,a3,a4⟩:=h5
      intro t tm H H' v ht h
      simp only[dop,Option.map_eq_some_iff] at h
      obtain⟨c,hc,hv⟩:=h
      cases hv
      obtain⟨k1,k2,k3⟩:=yfill_ok ht h4 hc
      have k4:=k3
      simp only[zeros,List.size_toArray,Array.length_toList,Array.size_map,Array.size_range] at k4
      simp only[xop,xbuildSlice,xparts,h1,h2,h3,if_neg a3,if_neg a4,a1,a2,k1,ne_eq,not_false_eq_true,and_self,if_true]
      change Instr.fill _ (zeros _ _) _=_ at k2
      simp only[k2,k4,if_true]
     ·exact .bad
    ·exact .bad
  ·exact .bad
 ·exact .bad
theorem dok_load (ty : TypeId) (a : Operand) : DOk P (compOp P (.load ty a)) (.load ty a):=by
 have many : ∀ {d : TypeDesc} {i : TypeInfo},P.underlying ty=some d→P.info? ty=some i→((∃ f,d=.struct f)∨∃ n e,d=.array n e)→DOk P (.loadN i.size (compA P a)) (.load ty a):=by
  intro d i h1 h2 hd t tm H H' v ht h
  simp only[dop,Option.map_eq_some_iff,dA_comp ht] at h
  obtain⟨x,hx,hv⟩:=h
  cases hv
  simp only[xop,Option.map_eq_some_iff]
  refine⟨_,?_,rfl⟩
  unfold yloadN at hx
  split at hx
  ·rename_i b o hpx
   rw[hpx]
   simp only[xload]
   split at hx
   ·rename_i c el rw hc
    rw[hc]
    rcases hd with⟨f,rfl⟩|⟨n,e,rfl⟩<;>simp only[h1,h2]<;>exact hx
   ·cases hx
  ·cases hx
 simp only[compOp]
 split
 ·rename_i f i h1 h2
  split
  ·exact .bad
  ·exact many h1 h2 (.inl ⟨_,rfl⟩)
 ·rename_i n e i h1 h2
  split
  ·exact .bad
  ·exact many h1 h2 (.inr ⟨_,_,rfl⟩)
 ·rename_i d i hs ha h1 h2
  intro t tm H H' v ht h
  simp only[dop,Option.map_eq_some_iff,dA_comp ht] at h
  obtain⟨x,hx,hv⟩:=h
  cases hv
  simp only[xop,Option.map_eq_some_iff]
  refine⟨_,?_,rfl⟩
  unfold yload1 at hx
  split at hx
  ·rename_i b o hpx
   rw[hpx]
   simp only[xload]
   split at hx
   ·rename_i c el rw hc
    rw[hc]
    cases d<;>simp only[h1,h2]<;>first|exact hx|exact absurd rfl (hs _)|exact absurd rfl (ha _ _)|skip
   ·cases hx
  ·cases hx
 ·exact .bad
theorem dok_store (ty : TypeId) (a x : Operand) : DOk P (compOp P (.store ty a x)) (.store ty a x):=by
 simp only[compOp]
 split
 ·rename_i i h1
  split
  ·exact .bad
  ·intro t tm H H' v ht h
   simp only[dop,Option.map_eq_some_iff,dA_comp ht] at h
   obtain⟨y,hy,hv⟩:=h
   cases hv
   simp only[xop,Option.map_eq_some_iff]
   refine⟨_,?_,rfl⟩
   unfold ystore at hy
   split at hy
   ·rename_i b o hpx
    rw[hpx]
    simp only[xstore]
    split at hy
    ·rename_i c el hc
     rw[hc,h1]
     simp only
     exact hy
    ·cases hy
   ·cases hy
 ·exact .bad
theorem dok_convert (s d : TypeId) (x : Operand) : DOk P (compOp P (.convert s d x)) (.convert s d x):=by
 simp only[compOp]
 split
 ·rename_i u k h1 h2
  intro t tm H H' v ht h
  simp only[dop,Option.map_eq_some_iff,dA_comp ht] at h
  obtain⟨y,hy,hv⟩:=h
  cases hv
  simp only[xop,Option.map_eq_some_iff]
  refine⟨_,?_,rfl⟩
  unfold yconv at hy
  split at hy
  ·rename_i k' n hx
   rw[hx]
   simp only[xconv,h1,h2]
   exact hy
  ·cases hy
 ·exact .bad
theorem dok_makeSlice (ty : TypeId) (l c : Operand) : DOk P (compOp P (.makeSlice ty l c)) (.makeSlice ty l c):=by
 simp only[compOp]
 split
 ·rename_i e h1
  split
  ·rename_i ie h2
   split
   ·rename_i z h3
    split
    ·rename_i h4
     obtain⟨a1,a2,a3⟩:=h4
     intro t tm H H' v ht h
     simp only[dop,dA_comp ht] at h
     unfold ymakeSlice at h
     split at h
     ·rename_i k n k' m hl hc
      split at h
      ·rename_i hb
       obtain⟨b1,b2,b3,b4⟩:=hb
       cases h
       simp only[xop,xmakeSlice,hl,hc,h1,h2,h3]
       have e : z.cells.toList.length=ie.size:=by rw[← a1];simp
       rw[e,if_pos ⟨b1,b2,b3,b4,a3,by omega,a2⟩]
      ·cases h
     ·cases h
    ·exact .bad
   ·exact .bad
  ·exact .bad
 ·exact .bad
theorem dok_slice (ty : TypeId) (x : Operand) (lo hi mx : Option Operand) : DOk P (compOp P (.slice ty x lo hi mx)) (.slice ty x lo hi mx):=by
 cases mx with
 | some m=>
  cases hi with
  | none=>exact .bad
  | some hi=>
   simp only[compOp]
   split
   ·rename_i e h1
    split
    ·rename_i ie h2
     intro t tm H H' v ht h
     simp only[dop,Option.map_eq_some_iff,dA_comp ht,opt_eq ht] at h
     obtain⟨y,hy,hv⟩:=h
     cases hv
     have se : ∀ y : Operand,(some y).map (ev P tm)=some (ev P tm y):=fun _=>rfl
     unfold yslice3 at hy
     split at hy
     ·rename_i i o len cap hx
      split at hy
      ·rename_i c0 el rw hc
       split at hy
       ·rename_i hst
        have hs : strideOk P H ty (ev P tm x)=true:=by
         rw[hx]
         simp only[strideOk,hc,h1]
         cases rw with
         | false=>rfl
         | true=>
          simp only[beq_iff_eq]
          rcases hst with h|h|h
          ·cases h
          ·rw[h]
          ·exact h
        simp only[xop,hs,if_true,Option.map_eq_some_iff,se]
        refine⟨_,?_,rfl⟩
        split at hy
        ·rename_i k hk
         split at hy
         ·rename_i hh hhi
          split at hy
          ·rename_i l hlo
           simp only[hx,xslice,xslice3,h1,h2,hk,hhi,hlo]
           exact hy
          ·cases hy
         ·cases hy
        ·cases hy
       ·cases hy
      ·cases hy
     ·rename_i len cap hx
      have hs : strideOk P H ty (ev P tm x)=true:=by rw[hx];rfl
      simp only[xop,hs,if_true,Option.map_eq_some_iff,se]
      refine⟨_,?_,rfl⟩
      split at hy
      ·rename_i k hk
       split at hy
       ·rename_i hh hhi
        split at hy
        ·rename_i l hlo
         simp only[hx,xslice,xslice3,h1,h2,hk,hhi,hlo]
         exact hy
        ·cases hy
       ·cases hy
      ·cases hy
     ·cases hy
    ·exact .bad
   ·exact .bad
 | none=>
  have slow : (∃ n e,P.underlying ty=some (.array n e))∨P.underlying ty=some .string→DOk P (.sliceSlow ty (compA P x) (lo.map (compA P)) (hi.map (compA P))) (.slice ty x lo hi none):=by
   intro hu t tm H H' v ht h
   simp only[dop,Option.map_eq_some_iff,dA_comp ht,opt_eq ht] at h
   obtain⟨y,hy,hv⟩:=h
   cases hv
   have hs : strideOk P H ty (ev P tm x)=true:=by
    unfold strideOk
    split
    ·rename_i i o n c hx
     rw[hx] at hy
     exfalso
     unfold xslice at hy
     rcases hu with⟨n,e,hu⟩|hu<;>simp[hu] at hy
    ·rfl
   simp only[xop,hs,if_true,Option.map_eq_some_iff,Option.map_none]
   exact⟨_,hy,rfl⟩
  simp only[compOp]
  split
  ·rename_i e h1
   split
   ·rename_i ie h2
    intro t tm H H' v ht h
    simp only[dop,Option.map_eq_some_iff,dA_comp ht,opt_eq ht] at h
    obtain⟨y,hy,hv⟩:=h
    cases hv
    unfold yslice at hy
    split at hy
    ·rename_i i o len cap hx
     split at hy
     ·rename_i c0 el rw hc
      split at hy
      ·rename_i hst
       have hs : strideOk P H ty (ev P tm x)=true:=by
        rw[hx]
        simp only[strideOk,hc,h1]
        cases rw with
        | false=>rfl
        | true=>
         simp only[beq_iff_eq]
         rcases hst with h|h|h
         ·cases h
         ·rw[h]
         ·exact h
       simp only[xop,hs,if_true,Option.map_eq_some_iff,Option.map_none]
       refine⟨_,?_,rfl⟩
       split at hy
       ·rename_i hh hhi
        split at hy
        ·rename_i l hlo
         simp only[hx,xslice,h1,h2,hhi,hlo]
         exact hy
        ·cases hy
       ·cases hy
      ·cases hy
     ·cases hy
    ·rename_i i o s len cap hx
     have hs : strideOk P H ty (ev P tm x)=true:=by rw[hx];rfl
     simp only[xop,hs,if_true,Option.map_eq_some_iff,Option.map_none]
     refine⟨_,?_,rfl⟩
     split at hy
     ·rename_i hh hhi
      split at hy
      ·rename_i l hlo
       simp only[hx,xslice,h1,h2,hhi,hlo]
       exact hy
      ·cases hy
     ·cases hy
    ·rename_i len cap hx
     have hs : strideOk P H ty (ev P tm x)=true:=by rw[hx];rfl
     simp only[xop,hs,if_true,Option.map_eq_some_iff,Option.map_none]
     refine⟨_,?_,rfl⟩
     split at hy
     ·rename_i hh hhi
      split at hy
      ·rename_i l hlo
       simp only[hx,xslice,h1,h2,hhi,hlo]
       exact hy
      ·cases hy
     ·cases hy
    ·cases hy
   ·exact .bad
  ·rename_i n e h1;exact slow (.inl ⟨_,_,h1⟩)
  ·rename_i h1;exact slow (.inr h1)
  ·exact .bad
theorem dok_fieldAddr (ty : TypeId) (x : Operand) (f : Nat) : DOk P (compOp P (.fieldAddr ty x f)) (.fieldAddr ty x f):=by
 simp only[compOp]
 split
 ·rename_i fs h1
  split
  ·rename_i fd h2
   split
   ·rename_i inf h3
    split
    ·exact .bad
    ·rename_i h4
     intro t tm H H' v ht h
     simp only[dop,Option.map_eq_some_iff,dA_comp ht] at h
     obtain⟨y,hy,hv⟩:=h
     cases hv
     simp only[xop,Option.map_eq_some_iff]
     refine⟨_,?_,rfl⟩
     unfold yfieldAddr at hy
     split at hy
     ·rename_i i o hx
      simp only[hx,xfieldAddr,h1,h2,h3,if_neg h4]
      exact hy
     ·cases hy
   ·exact .bad
  ·exact .bad
 ·exact .bad
theorem dok_field (ty : TypeId) (x : Operand) (f : Nat) : DOk P (compOp P (.field ty x f)) (.field ty x f):=by
 have many : ∀ {fs : Array Field} {fd : Field} {d : TypeDesc} {i : TypeInfo},P.underlying ty=some (.struct fs)→fs[f]?=some fd→P.underlying fd.type=some d→P.info? fd.type=some i→((∃ f,d=.struct f)∨∃ n e,d=.array n e) →
   DOk P (.fieldN fd.offset i.size (compA P x)) (.field ty x f):=by
  intro fs fd d i h1 h2 h3 h4 hd t tm H H' v ht h
  simp only[dop,Option.map_eq_some_iff,dA_comp ht] at h
  obtain⟨y,hy,hv⟩:=h
  cases hv
  simp only[xop,Option.map_eq_some_iff]
  refine⟨_,?_,rfl⟩
  unfold yfieldN at hy
  split at hy
  ·rename_i cs hx
   simp only[hx,xfield,h1,h2,xpart]
   rcases hd with⟨f,rfl⟩|⟨n,e,rfl⟩<;>simp only[h3,h4]<;>exact hy
  ·cases hy
 simp only[compOp]
 split
 ·rename_i fs h1
  split
  ·rename_i fd h2
   split
   ·rename_i g i h3 h4;exact many h1 h2 h3 h4 (.inl ⟨_,rfl⟩)
   ·rename_i n e i h3 h4;exact many h1 h2 h3 h4 (.inr ⟨_,_,rfl⟩)
   ·rename_i d i hs ha h3 h4
    intro t tm H H' v ht h
    simp only[dop,Option.map_eq_some_iff,dA_comp ht] at h
    obtain⟨y,hy,hv⟩:=h
    cases hv
    simp only[xop,Option.map_eq_some_iff]
    refine⟨_,?_,rfl⟩
    unfold yfield1 at hy
    split at hy
    ·rename_i cs hx
     simp only[hx,xfield,h1,h2,xpart]
     cases d<;>simp only[h3,h4]<;>first|exact hy|exact absurd rfl (hs _)|exact absurd rfl (ha _ _)|skip
    ·cases hy
   ·exact .bad
  ·exact .bad
 ·exact .bad
theorem dok_indexAddr (ty : TypeId) (x i : Operand) : DOk P (compOp P (.indexAddr ty x i)) (.indexAddr ty x i):=by
 simp only[compOp]
 split
 ·rename_i e h1
  split
  ·rename_i ie h2
   intro t tm H H' v ht h
   simp only[dop,Option.map_eq_some_iff,dA_comp ht] at h
   obtain⟨y,hy,hv⟩:=h
   cases hv
   simp only[xop,Option.map_eq_some_iff]
   refine⟨_,?_,rfl⟩
   unfold yindexAddr at hy
   split at hy
   ·rename_i k n hi
    split at hy
    ·rename_i b o len cap hx hx2
     simp only[hi,hx2,xindexAddr,h1,h2]
     exact hy
    ·rename_i hx hx2;cases hx
    ·cases hy
   ·cases hy
  ·exact .bad
 ·rename_i n e h1
  split
  ·rename_i ie h2
   intro t tm H H' v ht h
   simp only[dop,Option.map_eq_some_iff,dA_comp ht] at h
   obtain⟨y,hy,hv⟩:=h
   cases hv
   simp only[xop,Option.map_eq_some_iff]
   refine⟨_,?_,rfl⟩
   unfold yindexAddr at hy
   split at hy
   ·rename_i k m hi
    split at hy
    ·rename_i hx hx2;cases hx
    ·rename_i len b o hx hx2
     cases hx
     simp only[hi,hx2,xindexAddr,h1,h2]
     exact hy
    ·cases hy
   ·cases hy
  ·exact .bad
 ·exact .bad
theorem dok_index (ty : TypeId) (x i : Operand) : DOk P (compOp P (.index ty x i)) (.index ty x i):=by
 have many : ∀ {n : Nat} {e : TypeId} {d : TypeDesc} {ie : TypeInfo},P.underlying ty=some (.array n e)→P.underlying e=some d→P.info? e=some ie→((∃ f,d=.struct f)∨∃ n e,d=.array n e)→DOk P (.index n ie.size false (compA P x) (compA P i)) (.index ty x i):=by
  intro n e d ie h1 h2 h3 hd t tm H H' v ht h
  simp only[dop,Option.map_eq_some_iff,dA_comp ht] at h
  obtain⟨y,hy,hv⟩:=h
  cases hv
  simp only[xop,Option.map_eq_some_iff]
  refine⟨_,?_,rfl⟩
  unfold yindex at hy
  split at hy
  ·rename_i k m cs hi hx
   split at hy
   ·rename_i hb
    simp only[hi,hx,xindex,h1,h3,if_pos hb,xpart]
    rcases hd with⟨f,rfl⟩|⟨n,e,rfl⟩<;>simp only[h2]<;>simpa using hy
   ·cases hy
  ·cases hy
 simp only[compOp]
 split
 ·rename_i n e h1
  split
  ·rename_i f ie h2 h3;exact many h1 h2 h3 (.inl ⟨_,rfl⟩)
  ·rename_i m e' ie h2 h3;exact many h1 h2 h3 (.inr ⟨_,_,rfl⟩)
  ·rename_i d ie hs ha h2 h3
   split
   ·rename_i h4
    intro t tm H H' v ht h
    simp only[dop,Option.map_eq_some_iff,dA_comp ht] at h
    obtain⟨y,hy,hv⟩:=h
    cases hv
    simp only[xop,Option.map_eq_some_iff]
    refine⟨_,?_,rfl⟩
    unfold yindex at hy
    split at hy
    ·rename_i k m cs hi hx
     split at hy
     ·rename_i hb
      simp only[hi,hx,xindex,h1,h3,if_pos hb,xpart]
      cases d<;>simp only[h2]<;>first|(simpa using hy)|exact absurd rfl (hs _)|exact absurd rfl (ha _ _)|skip
     ·cases hy
    ·cases hy
   ·exact .bad
  ·exact .bad
 ·rename_i h1
  intro t tm H H' v ht h
  simp only[dop,Option.map_eq_some_iff,dA_comp ht] at h
  obtain⟨y,hy,hv⟩:=h
  cases hv
  simp only[xop,Option.map_eq_some_iff]
  exact⟨_,hy,rfl⟩
 ·exact .bad
theorem dok_lookup (ty : TypeId) (x k : Operand) (ok : Bool) : DOk P (compOp P (.lookup ty x k ok)) (.lookup ty x k ok):=by
 simp only[compOp]
 split
 ·rename_i kt et h1
  split
  ·rename_i ie h2
   split
   ·rename_i z h3
    split
    ·rename_i h4
     intro t tm H H' v ht h
     simp only[dop,Option.map_eq_some_iff,dA_comp ht] at h
     obtain⟨y,hy,hv⟩:=h
     cases hv
     simp only[xop,Option.map_eq_some_iff]
     refine⟨_,?_,rfl⟩
     unfold ylookup at hy
     split at hy
     ·rename_i i hx
      split at hy
      ·rename_i kt' es ck hm
       split at hy
       ·rename_i hb
        obtain⟨b1,b2,b3,b4⟩:=hb
        simp only[hx,xlookup,h1,hm,h2,h3]
        rw[if_pos ⟨b1,b2,b3,b4,h4⟩]
        exact hy
       ·cases hy
      ·cases hy
     ·cases hy
    ·exact .bad
   ·exact .bad
  ·exact .bad
 ·exact .bad
theorem dok_mapUpdate (ty : TypeId) (m k x : Operand) : DOk P (compOp P (.mapUpdate ty m k x)) (.mapUpdate ty m k x):=by
 simp only[compOp]
 split
 ·rename_i kt et h1
  intro t tm H H' v ht h
  simp only[dop,Option.map_eq_some_iff,dA_comp ht] at h
  obtain⟨y,hy,hv⟩:=h
  cases hv
  simp only[xop,Option.map_eq_some_iff]
  refine⟨_,?_,rfl⟩
  unfold ymapUpdate at hy
  split at hy
  ·rename_i i hx
   simp only[hx,xmapUpdate,h1]
   exact hy
  ·cases hy
 ·exact .bad
end
end Go.Xe
