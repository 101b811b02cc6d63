/- An executable reading of the model's code over an abstract heap (part 10): operations that make a block, told without a heap; the operands that an operation looks at; values whose addresses are below a bound. Conditions: none. -/
import Derived.Test.YtgcdbdcnlhonfaaXi
namespace Go.Xe
open Go
theorem xparts_congr {ρ ρ' : Operand→Value} {parts : Array (Nat×Operand)} (h : ∀ x∈(parts.toList.map (·.2)).toArray,ρ x=ρ' x) : xparts ρ parts=xparts ρ' parts:=by
 unfold xparts
 refine List.map_congr_left fun x hx=>?_
 rw[h x.2 (by simpa using ⟨x.1,by simpa using hx⟩)]
theorem amap_congr {ρ ρ' : Operand→Value} {a : Array Operand} (h : ∀ x∈a,ρ x=ρ' x) : a.map ρ=a.map ρ':=Array.map_congr_left h
theorem omap_congr {ρ ρ' : Operand→Value} {a : Option Operand} (h : ∀ x∈a.toArray,ρ x=ρ' x) : a.map ρ=a.map ρ':=by
 cases a with
 | none=>rfl
 | some x=>simp[h x (by simp)]
theorem xop_congr {P : Program} {H : Heap} {ρ ρ' : Operand→Value} {op : Op} (h : ∀ x∈op.operands,ρ x=ρ' x) : xop P H ρ op=xop P H ρ' op:=by
 cases op<;>simp only[Op.operands,Call.operands] at h<;>try rfl
 case move x=>simp only[xop,h x (by simp)]
 case assign x=>simp only[xop,h x (by simp)]
 case pick c a b=>simp only[xop,h c (by simp),h a (by simp),h b (by simp)]
 case box e x=>simp only[xop,h x (by simp)]
 case build t parts=>simp only[xop,xparts_congr h]
 case buildSlice t len parts=>simp only[xop,xparts_congr h]
 case load t a=>simp only[xop,h a (by simp)]
 case store t a x=>simp only[xop,h a (by simp),h x (by simp)]
 case nilCheck x=>simp only[xop,h x (by simp)]
 case binOp op t x y yt=>simp only[xop,h x (by simp),h y (by simp)]
 case unOp op t x=>simp only[xop,h x (by simp)]
 case convert s d x=>simp only[xop,h x (by simp)]
 case makeFunc fn a b=>
  have h1 : a.map ρ=a.map ρ':=amap_congr (fun x hx=>h x (by simp[hx]))
  have h2 : b.map ρ=b.map ρ':=amap_congr (fun x hx=>h x (by simp[hx]))
  simp only[xop,h1,h2]
 case makeMap t r=>simp only[xop,omap_congr h]
 case makeSlice t l c=>simp only[xop,h l (by simp),h c (by simp)]
 case slice t x lo hi mx=>
  have h0:=h x (by simp)
  have h1:=omap_congr (ρ:=ρ) (ρ':=ρ') (a:=lo) (fun y hy=>h y (by simp at hy ⊢;simp[hy]))
  have h2:=omap_congr (ρ:=ρ) (ρ':=ρ') (a:=hi) (fun y hy=>h y (by simp at hy ⊢;simp[hy]))
  have h3:=omap_congr (ρ:=ρ) (ρ':=ρ') (a:=mx) (fun y hy=>h y (by simp at hy ⊢;simp[hy]))
  simp only[xop,h0,h1,h2,h3]
 case fieldAddr s x f=>simp only[xop,h x (by simp)]
 case field t x f=>simp only[xop,h x (by simp)]
 case indexAddr t x i=>simp only[xop,h x (by simp),h i (by simp)]
 case index t x i=>simp only[xop,h x (by simp),h i (by simp)]
 case lookup t x k ok=>simp only[xop,h x (by simp),h k (by simp)]
 case mapUpdate t m k x=>simp only[xop,h m (by simp),h k (by simp),h x (by simp)]
 case insert t m k x=>simp only[xop,h m (by simp),h k (by simp),h x (by simp)]
 case extract x i=>simp only[xop,h x (by simp)]
 case call c=>
  obtain⟨callee,args,ats⟩:=c
  cases callee with
  | builtin b=>
   have h1 : args.map ρ=args.map ρ':=amap_congr (fun x hx=>h x (by simp[hx]))
   simp only[xop,h1]
  | value f=>rfl
  | invoke r m=>rfl
theorem xopv_congr {P : Program} [Gl P] [Orc P] {ex : Ex} {H : Heap} {ρ ρ' : Operand→Value} {op : Op} (h : ∀ x∈op.operands,ρ x=ρ' x) : xopv P ex ρ op H=xopv P ex ρ' op H:=by
 unfold xopv
 split
 ·rename_i f args ats
  simp only[Op.operands,Call.operands] at h
  rw[h f (by simp),amap_congr (a:=args) (fun x hx=>h x (by simp[hx]))]
 ·exact xop_congr h
def opTmps (op : Op) : List Nat:=op.operands.toList.filterMap fun | .tmp t=>some t|_=>none
def onlyAt (op : Op) (ρ : Operand→Value) : Operand→Value
 | .tmp t=>if t∈opTmps op then ρ (.tmp t) else top
 | x=>ρ x
theorem onlyAt_rel {θ : Th} {op : Op} {ρ ρ' : Operand→Value} (h : ∀ t∈opTmps op,VR θ (ρ (.tmp t)) (ρ' (.tmp t))) (h' : ∀ x,(∀ t,x≠.tmp t)→VR θ (ρ x) (ρ' x)) (x : Operand) : VR θ (onlyAt op ρ x) (ρ' x):=by
 cases x with
 | tmp t=>
  simp only[onlyAt]
  split
  ·rename_i hx;exact h t hx
  ·exact .top _
 | const v=>exact h' _ (fun t=>by simp)
 | global g=>exact h' _ (fun t=>by simp)
 | func f=>exact h' _ (fun t=>by simp)
theorem onlyAt_eq {op : Op} {ρ : Operand→Value} : ∀ x∈op.operands,onlyAt op ρ x=ρ x:=by
 intro x hx
 cases x with
 | tmp t=>
  have : t∈opTmps op:=List.mem_filterMap.2 ⟨.tmp t,Array.mem_toList_iff.2 hx,rfl⟩
  simp[onlyAt,this]
 | _=>rfl
def inBound (n : Nat) : Nat→Value→Bool
 | _,.bool _|_,.int _ _|_,.float _ _|_,.string _|_,.pointer none|_,.slice none _ _|_,.map none|_,.nilFunc|_,.nilIface|_,.chan none=>true
 | _,.pointer (some a)=>decide (a.block<n)
 | _,.slice (some ⟨_,_,some _⟩) _ _=>true
 | _,.slice (some ⟨i,_,none⟩) _ _=>decide (i<n)
 | _,.map (some i)=>decide (i<n)
 | d+1,.func (.func _) a b=>a.toList.all (inBound n d) && b.toList.all (inBound n d)
 | d+1,.agg a=>a.toList.all (inBound n d)
 | d+1,.tuple a=>a.toList.all (inBound n d)
 | _,_=>false
theorem VR.inBound {θ θp : Th} {n : Nat} (hθ : ∀ i p,i<n→θp i=some p→θ i=some p) : ∀ (d : Nat) {v v' : Value},Xe.inBound n d v=true→VR θp v v'→VR θ v v':=by
 have arr : ∀ (d : Nat),(∀ {v v' : Value},Xe.inBound n d v=true→VR θp v v'→VR θ v v')→∀ {a a' : Array Value},a.toList.all (Xe.inBound n d)=true →
   (∀ (i : Nat) (v w : Value),a[i]?=some v→a'[i]?=some w→VR θp v w)→∀ (i : Nat) (v w : Value),a[i]?=some v→a'[i]?=some w→VR θ v w:=by
  intro d ih a a' hall h i v w hv hw
  exact ih (List.all_eq_true.1 hall v (Array.mem_toList_iff.2 (Array.mem_of_getElem? hv))) (h i v w hv hw)
 intro d
 induction d with
 | zero=>
  intro v v' hs h
  cases h with
  | top=>exact .top _
  | bool b=>exact .bool b
  | int k n=>exact .int k n
  | float k b=>exact .float k b
  | string s=>exact .string s
  | pnil=>exact .pnil
  | ptr h=>exact .ptr (hθ _ _ (by simpa [Xe.inBound] using hs) h)
  | snil a b=>exact .snil a b
  | slice h h1 h2 h3=>exact .slice (hθ _ _ (by simpa [Xe.inBound] using hs) h) h1 h2 h3
  | sempty i o s a c=>exact .sempty i o s a c
  | mnil=>exact .mnil
  | map h=>exact .map (hθ _ _ (by simpa [Xe.inBound] using hs) h)
  | nilFunc=>exact .nilFunc
  | nilIface=>exact .nilIface
  | func=>simp[Xe.inBound] at hs
  | iface=>simp[Xe.inBound] at hs
  | agg=>simp[Xe.inBound] at hs
  | tuple=>simp[Xe.inBound] at hs
 | succ d ih=>
  intro v v' hs h
  cases h with
  | top=>exact .top _
  | bool b=>exact .bool b
  | int k n=>exact .int k n
  | float k b=>exact .float k b
  | string s=>exact .string s
  | pnil=>exact .pnil
  | ptr h=>exact .ptr (hθ _ _ (by simpa [Xe.inBound] using hs) h)
  | snil a b=>exact .snil a b
  | slice h h1 h2 h3=>exact .slice (hθ _ _ (by simpa [Xe.inBound] using hs) h) h1 h2 h3
  | sempty i o s a c=>exact .sempty i o s a c
  | mnil=>exact .mnil
  | map h=>exact .map (hθ _ _ (by simpa [Xe.inBound] using hs) h)
  | nilFunc=>exact .nilFunc
  | nilIface=>exact .nilIface
  | func hf h1 h2 h3 h4=>
   cases hf with
   | same _ hno=>
    rename_i f a a' b b'
    cases f<;>first|(simp[Xe.inBound] at hs;done)|skip
    simp only[Xe.inBound,Bool.and_eq_true] at hs
    exact .func (.same _ hno) h1 (arr d ih hs.1 h2) h3 (arr d ih hs.2 h4)
   | yield=>simp[Xe.inBound] at hs
  | iface=>simp[Xe.inBound] at hs
  | agg h1 h2=>exact .agg h1 (arr d ih (by simpa [Xe.inBound] using hs) h2)
  | tuple h1 h2=>exact .tuple h1 (arr d ih (by simpa [Xe.inBound] using hs) h2)
theorem AR.inBound {θ θp : Th} {n d : Nat} (hθ : ∀ i p,i<n→θp i=some p→θ i=some p) {a a' : Array Value} (hs : a.toList.all (Xe.inBound n d)=true) (h : AR θp a a') : AR θ a a':=
 ⟨h.1,fun i v w hv hw=>VR.inBound hθ d (List.all_eq_true.1 hs v (Array.mem_toList_iff.2 (Array.mem_of_getElem? hv))) (h.2 i v w hv hw)⟩
def all2 (f : Value→Value→Bool) : List Value→List Value→Bool
 | [],[]=>true
 | a::as,b::bs=>f a b && all2 f as bs
 | _,_=>false
theorem all2_eq {f : Value→Value→Bool} (hf : ∀ {a b},f a b=true→a=b) : ∀ {l l' : List Value},all2 f l l'=true→l=l'
 | [],[],_=>rfl
 | a::as,b::bs,h=>by
  simp only[all2,Bool.and_eq_true] at h
  rw[hf h.1,all2_eq hf h.2]
 | [],_::_,h=>by simp[all2] at h
 | _::_,[],h=>by simp[all2] at h
def vEq0 : Value→Value→Bool
 | .bool a,.bool b=>a == b
 | .int k a,.int k' b=>decide (k=k') && decide (a=b)
 | .string a,.string b=>decide (a=b)
 | .pointer a,.pointer b=>decide (a=b)
 | .slice a n c,.slice b m e=>decide (a=b) && decide (n=m) && decide (c=e)
 | .map a,.map b=>decide (a=b)
 | .nilFunc,.nilFunc=>true
 | .nilIface,.nilIface=>true
 | _,_=>false
def vEq : Nat→Value→Value→Bool
 | d+1,.func f a b,.func g x y=>decide (f=g) && all2 (vEq d) a.toList x.toList && all2 (vEq d) b.toList y.toList
 | d+1,.agg a,.agg b=>all2 (vEq d) a.toList b.toList
 | d+1,.tuple a,.tuple b=>all2 (vEq d) a.toList b.toList
 | _,a,b=>vEq0 a b
theorem vEq0_eq {a b : Value} (h : vEq0 a b=true) : a=b:=by
 cases a<;>cases b<;>simp[vEq0] at h<;>first|rfl|(obtain⟨⟨rfl,rfl⟩,rfl⟩:=h;rfl)|(obtain⟨rfl,rfl⟩:=h;rfl)|(subst h;rfl)
theorem vEq_eq : ∀ {d : Nat} {a b : Value},vEq d a b=true→a=b:=by
 intro d
 induction d with
 | zero=>intro a b h;exact vEq0_eq (by simpa [vEq] using h)
 | succ d ih=>
  intro a b h
  unfold vEq at h
  split at h
  ·rename_i d' f a b g x y hd
   obtain rfl : d=d':=by omega
   simp only[Bool.and_eq_true,decide_eq_true_eq] at h
   obtain⟨⟨rfl,h1⟩,h2⟩:=h
   rw[Array.toList_inj.1 (all2_eq ih h1),Array.toList_inj.1 (all2_eq ih h2)]
  ·rename_i d' a b hd
   obtain rfl : d=d':=by omega
   rw[Array.toList_inj.1 (all2_eq ih h)]
  ·rename_i d' a b hd
   obtain rfl : d=d':=by omega
   rw[Array.toList_inj.1 (all2_eq ih h)]
  ·exact vEq0_eq h
end Go.Xe
