/- An executable reading of the model's code over an abstract heap (part 25): every operation but a call of a function value: the machine's answer is the reading's. Conditions: none. -/
import Derived.Test.YtgcdbdcnlhonfaaXx
namespace Go.Xe
open Go
section
variable {cp : Code→FCode} {P : Program} [Gl P] {F : Nat→FFunc} {x : FX}
theorem compLen_ok (y : Operand) (ts : Array TypeId) : OpFx cp P F x (compLen P y ts.toList) (.call { callee:=.builtin .len,args:=#[y],argTypes:=ts }):=by
 unfold compLen
 split
 ·rename_i t hts
  split
  ·rename_i h;exact opLenS_ok y h hts
  ·rename_i h;exact opLenB_ok y h hts
  ·rename_i h;exact opLenM_ok y h hts
  ·rename_i h;exact opLenA_ok y h hts
  ·exact .bad
 ·exact .bad
theorem compAppend_ok (s y : Operand) (ts : Array TypeId) : OpFx cp P F x (compAppend P s y ts.toList) (.call { callee:=.builtin .append,args:=#[s,y],argTypes:=ts }):=by
 unfold compAppend
 split
 ·rename_i t u hts
  split
  ·rename_i e e' h1 h2
   split
   ·rename_i ie h3
    split
    ·rename_i z h4
     split
     ·rename_i hc;exact opAppend_ok s y hts h1 h2 h3 h4 hc.1 hc.2.1 hc.2.2
     ·exact .bad
    ·exact .bad
   ·exact .bad
  ·rename_i e k h1 h2
   split
   ·rename_i ie h3
    split
    ·rename_i z h4
     split
     ·rename_i hc;exact opAppendMk_ok s y hts h1 h2 h3 h4 hc.1 hc.2.1 hc.2.2.1 hc.2.2.2
     ·exact .bad
    ·exact .bad
   ·exact .bad
  ·exact .bad
 ·exact .bad
theorem compCap_ok (y : Operand) (ts : Array TypeId) : OpFx cp P F x (compCap P y ts.toList) (.call { callee:=.builtin .cap,args:=#[y],argTypes:=ts }):=by
 unfold compCap
 split
 ·rename_i t hts
  split
  ·rename_i h;exact opCap_ok y h hts
  ·exact .bad
 ·exact .bad
theorem compClear_ok (y : Operand) (ts : Array TypeId) : OpFx cp P F x (compClear P y ts.toList) (.call { callee:=.builtin .clear,args:=#[y],argTypes:=ts }):=by
 unfold compClear
 split
 ·rename_i t hts
  split
  ·rename_i e h1
   split
   ·rename_i ie h2
    split
    ·rename_i z h3
     split
     ·rename_i hc;exact opClear_ok y h1 hts h2 h3 hc.1 hc.2.1 hc.2.2
     ·exact .bad
    ·exact .bad
   ·exact .bad
  ·exact .bad
 ·exact .bad
theorem compCopy_ok (d s : Operand) (ts : Array TypeId) : OpFx cp P F x (compCopy P d s ts.toList) (.call { callee:=.builtin .copy,args:=#[d,s],argTypes:=ts }):=by
 unfold compCopy
 split
 ·rename_i t u hts
  split
  ·rename_i e h1
   split
   ·rename_i ie h2
    split
    ·rename_i hc;exact opCopy_ok d s hts h1 h2 hc
    ·exact .bad
   ·exact .bad
  ·exact .bad
 ·exact .bad
theorem compParted_bad {pl : Nat→Option (Nat×Nat)} {z : Value} {parts : Array (Nat×Operand)} {op : Op} (h : ∀ ps,plainV z=true→compParts P pl parts.toList=some ps→OpFx cp P F x (.build z.cells.toList ps) op) : OpFx cp P F x (compParted P pl z parts) op:=by
 unfold compParted
 split
 ·rename_i h5
  split
  ·rename_i ps h6;exact h ps h5 h6
  ·exact .bad
 ·exact .bad
def isCall : Op→Bool
 | .call { callee:=.value _,.. }=>true
 | _=>false
theorem compOp_ok (op : Op) (hc : isCall op=false) : OpFx cp P F x (compOp P op) op:=by
 unfold compOp
 split
 ·exact opMove_ok _
 ·exact opAssign_ok _
 ·exact opPick_ok _ _ _
 ·split
  ·rename_i i h1
   split
   ·rename_i z h2
    split
    ·rename_i h3;exact opAlloc_ok h1 h2 h3
    ·exact .bad
   ·exact .bad
  ·exact .bad
 ·exact opBox_ok _ _
 ·split
  ·rename_i it n e h1 h2
   split
   ·rename_i z ie h3 h4
    exact compParted_bad fun ps h5 h6=>opBuildA_ok h1 h2 h3 h4 h5 h6
   ·exact .bad
  ·rename_i it fs h1 h2
   split
   ·rename_i z places h3 h4
    exact compParted_bad fun ps h5 h6=>opBuildS_ok h1 h2 h3 h4 h5 h6
   ·exact .bad
  ·exact .bad
 ·split
  ·rename_i e h1
   split
   ·rename_i ie h2
    split
    ·rename_i h3;exact opBuildSlice0_ok h1 h2 h3
    ·split
     ·rename_i z ps h3 h4
      split
      ·rename_i hh;exact opBuildSlice_ok h1 h2 h3 hh.1 hh.2.1 hh.2.2.1 hh.2.2.2 h4
      ·exact .bad
     ·exact .bad
   ·exact .bad
  ·exact .bad
 ·split
  ·rename_i fs i h1 h2
   split
   ·exact .bad
   ·rename_i hz;exact opLoadN_ok _ h1 h2 (.inl ⟨_,rfl⟩) hz
  ·rename_i n e i h1 h2
   split
   ·exact .bad
   ·rename_i hz;exact opLoadN_ok _ h1 h2 (.inr ⟨_,_,rfl⟩) hz
  ·rename_i d i hs ha h1 h2
   exact opLoad1_ok _ h1 h2 (fun f hd=>hs f (by rw[hd])) (fun n e hd=>ha n e (by rw[hd]))
  ·exact .bad
 ·split
  ·rename_i i h1
   split
   ·exact .bad
   ·rename_i hz;exact opStore_ok _ _ h1 hz
  ·exact .bad
 ·exact opNil_ok _
 ·exact opBin_ok _ _ _ _ _
 ·exact opUn_ok _ _ _
 ·split
  ·rename_i d k h1 h2;exact opConv_ok _ h1 h2
  ·exact .bad
 ·exact opMakeFunc_ok _ _ _
 ·split
  ·rename_i kt et h1;exact opMakeMap_ok h1
  ·exact .bad
 ·split
  ·rename_i kt et h1;exact opMakeMapC_ok h1
  ·exact .bad
 ·split
  ·rename_i e h1
   split
   ·rename_i ie h2
    split
    ·rename_i z h3
     split
     ·rename_i hh;exact opMakeSlice_ok _ _ h1 h2 h3 hh.1 hh.2.1 hh.2.2
     ·exact .bad
    ·exact .bad
   ·exact .bad
  ·exact .bad
 ·split
  ·rename_i e h1
   split
   ·rename_i ie h2;exact opSlice_ok _ _ _ h1 h2
   ·exact .bad
  ·rename_i n e h1;exact opSliceSlow_ok _ _ _ (.inl ⟨_,_,h1⟩)
  ·rename_i h1;exact opSliceSlow_ok _ _ _ (.inr h1)
  ·exact .bad
 ·split
  ·rename_i e h1
   split
   ·rename_i ie h2;exact opSlice3_ok _ _ _ _ h1 h2
   ·exact .bad
  ·exact .bad
 ·split
  ·rename_i fs h1
   split
   ·rename_i fd h2
    split
    ·rename_i inf h3
     split
     ·exact .bad
     ·rename_i hz;exact opFieldAddr_ok _ h1 h2 h3 hz
    ·exact .bad
   ·exact .bad
  ·exact .bad
 ·split
  ·rename_i fs h1
   split
   ·rename_i fd h2
    split
    ·rename_i f' i h3 h4;exact opFieldN_ok _ h1 h2 h3 h4 (.inl ⟨_,rfl⟩)
    ·rename_i n e i h3 h4;exact opFieldN_ok _ h1 h2 h3 h4 (.inr ⟨_,_,rfl⟩)
    ·rename_i d i hs ha h3 h4
     exact opField1_ok _ h1 h2 h3 h4 (fun f hd=>hs f (by rw[hd])) (fun n e hd=>ha n e (by rw[hd]))
    ·exact .bad
   ·exact .bad
  ·exact .bad
 ·split
  ·rename_i e h1
   split
   ·rename_i ie h2;exact opIndexAddrS_ok _ _ h1 h2
   ·exact .bad
  ·rename_i n e h1
   split
   ·rename_i ie h2;exact opIndexAddrA_ok _ _ h1 h2
   ·exact .bad
  ·exact .bad
 ·split
  ·rename_i n e h1
   split
   ·rename_i f' ie h3 h2;exact opIndexN_ok _ _ h1 h2 h3 (.inl ⟨_,rfl⟩)
   ·rename_i n' e' ie h3 h2;exact opIndexN_ok _ _ h1 h2 h3 (.inr ⟨_,_,rfl⟩)
   ·rename_i d ie hs ha h3 h2
    split
    ·rename_i hz;exact opIndex1_ok _ _ h1 h2 h3 (fun f hd=>hs f (by rw[hd])) (fun n e hd=>ha n e (by rw[hd])) hz
    ·exact .bad
   ·exact .bad
  ·exact opIdxSlow_ok _ _
  ·exact .bad
 ·split
  ·rename_i kt et h1
   split
   ·rename_i ie h2
    split
    ·rename_i z h3
     split
     ·rename_i h4;exact opLookup_ok _ _ _ h1 h2 h3 h4
     ·exact .bad
    ·exact .bad
   ·exact .bad
  ·exact .bad
 ·split
  ·rename_i kt et h1;exact opMapUpdate_ok _ _ _ h1
  ·exact .bad
 ·split
  ·rename_i kt et h1;exact opMapUpdate_ok _ _ _ h1
  ·exact .bad
 ·exact opExtract_ok _ _
 ·split
  ·exact compLen_ok _ _
  ·exact .bad
 ·exact opMm_ok false _
 ·exact opMm_ok true _
 ·split
  ·exact compCap_ok _ _
  ·exact .bad
 ·split
  ·exact compAppend_ok _ _ _
  ·exact .bad
 ·split
  ·exact compClear_ok _ _
  ·exact .bad
 ·split
  ·exact compCopy_ok _ _ _
  ·exact .bad
 ·simp[isCall] at hc
 ·exact .bad
end
end Go.Xe
