/- Rules of reasoning over the executable reading of the model's code (part Z2): operations over code whose types are resolved, in the direct style, over any heap. Conditions: none. -/
import Derived.Test.YtlfikodljmdekaaXq
import Derived.Test.YtlfikodljmdekaaYg
namespace Go.Xe
open Go
def gt : Pth→TT→Value
 | _,.e=>undef
 | .o,.n v _ _=>v
 | .l p,.n _ l _=>gt p l
 | .r p,.n _ _ r=>gt p r
def st (v : Value) : Pth→TT→TT
 | _,.e=>.e
 | .o,.n _ l r=>.n v l r
 | .l p,.n x l r=>.n x (st v p l) r
 | .r p,.n x l r=>.n x l (st v p r)
theorem gt_eq : ∀ (p : Pth) (t : TT),getP p t=gt p t
 | .o,.e=>rfl
 | .o,.n v l r=>rfl
 | .l p,.e=>rfl
 | .l p,.n v l r=>by rw[gt,← gt_eq p l];rfl
 | .r p,.e=>rfl
 | .r p,.n v l r=>by rw[gt,← gt_eq p r];rfl
theorem st_F {v : Value} : ∀ {f i : Nat} {t : TT},i≤f→∀ j,(st v (pthF f i) t).at j=if j=i∧(t.at i).isSome=true then some v else t.at j:=by
 intro f
 induction f with
 | zero=>
  intro i t hi j
  have : i=0:=by omega
  subst this
  cases t with
  | e=>simp[pthF,st,TT.at]
  | n x l r=>cases j<;>simp[pthF,st,TT.at]
 | succ f ih=>
  intro i t hi j
  cases i with
  | zero=>
   cases t with
   | e=>simp[pthF,st,TT.at]
   | n x l r=>cases j<;>simp[pthF,st,TT.at]
  | succ m=>
   rcases beq_mod m with⟨hb,hm⟩|⟨hb,hm⟩
   ·have e : pthF (f+1) (m+1)=.l (pthF f (m/2)):=by simp only[pthF,hb]
    rw[e]
    cases t with
    | e=>simp[st,TT.at]
    | n x l r=>
     cases j with
     | zero=>simp[st,TT.at]
     | succ j=>
      simp only[st,TT.at,hb]
      rcases beq_mod j with⟨hb',hj⟩|⟨hb',hj⟩
      ·simp only[hb',ih (i:=m/2) (t:=l) (by omega) (j/2)]
       by_cases hjm : j=m
       ·subst hjm;simp
       ·rw[if_neg (by omega),if_neg (by omega)]
      ·simp only[hb']
       rw[if_neg (by omega)]
   ·have e : pthF (f+1) (m+1)=.r (pthF f (m/2)):=by simp only[pthF,hb]
    rw[e]
    cases t with
    | e=>simp[st,TT.at]
    | n x l r=>
     cases j with
     | zero=>simp[st,TT.at]
     | succ j=>
      simp only[st,TT.at,hb]
      rcases beq_mod j with⟨hb',hj⟩|⟨hb',hj⟩
      ·simp only[hb']
       rw[if_neg (by omega)]
      ·simp only[hb',ih (i:=m/2) (t:=r) (by omega) (j/2)]
       by_cases hjm : j=m
       ·subst hjm;simp
       ·rw[if_neg (by omega),if_neg (by omega)]
theorem TR.st {t : TT} {a : Array Value} (h : TR t a) (v : Value) (i : Nat) : TR (st v (pth i) t) (a.setIfInBounds i v):=by
 intro j
 have:=st_F (v:=v) (t:=t) (Nat.le_refl i) j
 rw[pth,this,Array.getElem?_setIfInBounds,h i,h j]
 by_cases hj : j=i
 ·subst hj
  by_cases hl : j<a.size
  ·simp[hl]
  ·simp[hl]
 ·rw[if_neg (fun c=>hj c.1),if_neg (fun c=>hj c.symm)]
theorem TR.gt {t : TT} {a : Array Value} (h : TR t a) (i : Nat) : gt (pth i) t=a.getD i undef:=by rw[← gt_eq,h.get]
def dA (t : TT) : FA→Value
 | .tmp p=>gt p t
 | .con v=>v
theorem dA_comp {P : Program} [Gl P] {t : TT} {a : Array Value} (h : TR t a) (x : Operand) : dA t (compA P x)=ev P a x:=by
 cases x with
 | tmp i=>exact h.gt i
 | const v=>rfl
 | global g=>rfl
 | func f=>rfl
def ypick (c a b : Value) (H : Heap) : Option (Value×Heap):=match c with
 | .bool t=>some (if t then a else b,H)
 | _=>none
def yload1 (H : Heap) (x : Value) : Option Value:=match x with
 | .pointer (some ⟨i,o,none⟩)=>match H.cellsAt i with
  | some (c,_,_)=>c[o]?
  | none=>none
 | _=>none
def yloadN (n : Nat) (H : Heap) (x : Value) : Option Value:=match x with
 | .pointer (some ⟨i,o,none⟩)=>match H.cellsAt i with
  | some (c,_,_)=>if o+n≤c.size∧n≠0 then some (.agg (c.extract o (o+n))) else none
  | none=>none
 | _=>none
def ystore (n : Nat) (H : Heap) (x v : Value) : Option Heap:=match x with
 | .pointer (some ⟨i,o,none⟩)=>match H.cellsAt i with
  | some (c,el,true)=>
   if notTop v=true∧v.cells.size=n∧o+v.cells.size≤c.size∧v.cells.size≠0∧v.cells.toList.all (fun y=>y.oneCell' && notTop y)=true then
    some (H.set i (.cells (setCells v.cells.toList o c) el true))
   else none
  | _=>none
 | _=>none
def yconv (k : IntKind) (x : Value) : Option Value:=match x with
 | .int _ n=>some (.int k (k.wrap n))
 | _=>none
def yfieldAddr (off : Nat) (x : Value) : Option Value:=match x with
 | .pointer (some ⟨i,o,none⟩)=>some (.pointer (some ⟨i,o+off,none⟩))
 | _=>none
def yfield1 (off : Nat) (x : Value) : Option Value:=match x with
 | .agg cs=>cs[off]?
 | _=>none
def yfieldN (off n : Nat) (x : Value) : Option Value:=match x with
 | .agg cs=>some (.agg (cs.extract off (off+n)))
 | _=>none
def yindexAddr (arr : Option Nat) (es : Nat) (x ix : Value) : Option Value:=match ix with
 | .int _ n=>match arr,x with
  | none,.slice (some ⟨i,o,none⟩) len _=>if 0≤n∧n<(len : Int) then some (.pointer (some ⟨i,o+n.toNat*es,none⟩)) else none
  | some len,.pointer (some ⟨i,o,none⟩)=>if 0≤n∧n<(len : Int) then some (.pointer (some ⟨i,o+n.toNat*es,none⟩)) else none
  | _,_=>none
 | _=>none
def yindex (len es : Nat) (one : Bool) (x ix : Value) : Option Value:=match ix,x with
 | .int _ n,.agg cs=>if 0≤n∧n<(len : Int) then (if one then cs[n.toNat*es]? else some (.agg (cs.extract (n.toNat*es) (n.toNat*es+es)))) else none
 | _,_=>none
def yslice (P : Program) (e : TypeId) (es : Nat) (H : Heap) (x : Value) (lo hi : Option Value) : Option Value:=match x with
 | .slice (some ⟨i,o,none⟩) len cap=>match H.cellsAt i with
  | some (_,el,rw)=>if rw=false∨el=e∨P.cellsOf el=P.cellsOf e then match xbound hi len cap with
   | some h=>match xbound lo 0 h with
    | some l=>if cap=l then some (.slice (some ⟨i,o,some 0⟩) 0 0) else some (.slice (some ⟨i,o+l*es,none⟩) (h-l) (cap-l))
    | none=>none
   | none=>none
   else none
  | none=>none
 | .slice (some ⟨i,o,some s⟩) len cap=>match xbound hi len cap with
   | some h=>match xbound lo 0 h with
    | some _=>some (.slice (some ⟨i,o,some s⟩) 0 0)
    | none=>none
   | none=>none
 | .slice none len cap=>match xbound hi len cap with
   | some h=>match xbound lo 0 h with
    | some l=>if len=0∧l=0∧h=0∧cap=0 then some (.slice none 0 0) else none
    | none=>none
   | none=>none
 | _=>none
def yslice3 (P : Program) (e : TypeId) (es : Nat) (H : Heap) (x : Value) (lo : Option Value) (hi m : Value) : Option Value:=match x with
 | .slice (some ⟨i,o,none⟩) _ cap=>match H.cellsAt i with
  | some (_,el,rw)=>if rw=false∨el=e∨P.cellsOf el=P.cellsOf e then match xbound (some m) 0 cap with
   | some k=>match xbound (some hi) 0 k with
    | some h=>match xbound lo 0 h with
     | some l=>if k=l then some (.slice (some ⟨i,o,some 0⟩) 0 0) else some (.slice (some ⟨i,o+l*es,none⟩) (h-l) (k-l))
     | none=>none
    | none=>none
   | none=>none
   else none
  | none=>none
 | .slice none len cap=>match xbound (some m) 0 cap with
   | some k=>match xbound (some hi) 0 k with
    | some h=>match xbound lo 0 h with
     | some l=>if len=0∧l=0∧h=0∧k=0 then some (.slice none 0 0) else none
     | none=>none
    | none=>none
   | none=>none
 | _=>none
def ylen (kd : Nat) (H : Heap) (x : Value) : Option Value:=match kd,x with
 | 0,.slice _ n _=>some (.int .i64 n)
 | 1,.string s=>some (.int .i64 s.size)
 | 2,.map none=>some (.int .i64 0)
 | 2,.map (some i)=>match H.mapAt i with
  | some (_,es,_)=>some (.int .i64 es.size)
  | none=>none
 | _,_=>none
def yappend (e : TypeId) (es bytes : Nat) (H : Heap) (s x : Value) : Option (Value×Heap):=match s,x with
 | .slice a n c,.slice b m _=>
  if m=0 then match a with
   | none=>if n=0 then some (.slice none n c,H) else none
   | some a=>some (.slice (some a) n c,H)
  else match xsource H es m b with
   | some new=>
    if new.toList.all (fun y=>y.oneCell' && notTop y)=true∧(2*(n+m)+256)*bytes≤2 ^ 48∧n+m≤2 ^ 48 then match a with
     | none=>if n=0∧c=0 then some (.slice (some ⟨H.next,0,none⟩) m m,H.alloc (.cells new e true)) else none
     | some ⟨i,o,none⟩=>match H.cellsAt i with
      | some (cd,el,true)=>
       if el=e∧o+n*es≤cd.size∧o+c*es≤cd.size∧(n+m≤c→c*es≠0) then
        if n+m≤c then some (.slice (some ⟨i,o,none⟩) (n+m) c,H.set i (.cells (setCells new.toList (o+n*es) cd) e true))
        else some (.slice (some ⟨H.next,0,none⟩) (n+m) (n+m),(H.set i (lentO o (n*es) cd e H.next)).alloc (.cells (cd.extract o (o+n*es)++new) e true))
       else none
      | some (_,_,false)=>none
      | none=>match nowB H 24 i with
       | some (cd,el,tp)=>
        if o=0∧el=e∧n*es≤cd.length∧c<n+m then
         some (.slice (some ⟨H.next,0,none⟩) (n+m) (n+m),((H.set tp .dead).set i (.lent ((⟨cd⟩ : Array Value).extract 0 (n*es)) e H.next)).alloc (.cells ((⟨cd⟩ : Array Value).extract 0 (n*es)++new) e true))
        else none
       | none=>none
     | _=>none
    else none
   | none=>none
 | _,_=>none
def yclear (es : Nat) (z : List Value) (H : Heap) (x : Value) : Option Heap:=match x with
 | .slice none _ _=>some H
 | .slice (some ⟨i,o,none⟩) n _=>if n=0 then some H else match H.cellsAt i with
  | some (cd,el,true)=>if o+n*es≤cd.size then some (H.set i (.cells (setCells (zeros ⟨z⟩ (n*es)).toList o cd) el true)) else none
  | _=>none
 | .slice (some ⟨_,_,some _⟩) 0 _=>some H
 | _=>none
def ycopy (es : Nat) (H : Heap) (d s : Value) : Option (Value×Heap):=match d,s with
 | .slice db dn _,.slice sb m _=>if min m dn=0 then some (.int .i64 (.ofNat 0),H) else match xsource H es (min m dn) sb,db with
  | some new,some ⟨i,o,none⟩=>match H.cellsAt i with
   | some (cd,el,true)=>if new.toList.all (fun y=>y.oneCell' && notTop y)=true∧o+min m dn*es≤cd.size then some (.int .i64 (.ofNat (min m dn)),H.set i (.cells (setCells new.toList o cd) el true)) else none
   | _=>none
  | _,_=>none
 | _,_=>none
def ymakeSlice (e : TypeId) (bytes : Nat) (z : List Value) (H : Heap) (l c : Value) : Option (Value×Heap):=match l,c with
 | .int _ l,.int _ c=>if 0≤l∧l≤c∧c*bytes≤2 ^ 48∧c≤2 ^ 48 then some (.slice (some ⟨H.next,0,none⟩) l.toNat c.toNat,H.alloc (.cells (zeros ⟨z⟩ (c.toNat*z.length)) e true)) else none
 | _,_=>none
def ylookup (P : Program) (kt : TypeId) (z : Value) (H : Heap) (x k : Value) (ok : Bool) : Option Value:=match x with
 | .map (some i)=>match H.mapAt i with
  | some (kt',es,_)=>if kt'=kt∧keyedB P kt=true∧keyishV k=true∧(keyOf P kt k).isSome=true then
     match xfind k es.toList 0 with
     | some j=>match es[j]? with
      | some e=>some (if ok then .tuple #[e.val,.bool true] else e.val)
      | none=>none
     | none=>some (if ok then .tuple #[z,.bool false] else z)
    else none
  | none=>none
 | _=>none
def ymapUpdate (P : Program) (kt : TypeId) (H : Heap) (x k v : Value) : Option Heap:=match x with
 | .map (some i)=>match H.mapAt i with
  | some (kt',es,clock)=>
   if kt'=kt∧keyedB P kt=true∧keyishV k=true∧(keyOf P kt k).isSome=true then
    match xfind k es.toList 0 with
    | some j=>some (H.set i (.map kt (es.modify j fun e=>{ e with key:=k,val:=v }) clock))
    | none=>some (H.set i (.map kt (es.push { key:=k,val:=v,born:=clock }) (clock+1)))
   else none
  | none=>none
 | _=>none
def ycap (x : Value) : Option Value:=match x with
 | .slice none _ c=>some (.int .i64 c)
 | _=>none
def ytoBytes (e : TypeId) (H : Heap) (x : Value) : Option (Value×Heap):=match x with
 | .string s=>some (.slice (some ⟨H.next,0,none⟩) s.data.toList.length s.data.toList.length,H.alloc (.cells ⟨bytesV s⟩ e true))
 | _=>none
def ytoStr (H : Heap) (x : Value) : Option (Value×Heap):=match x with
 | .slice a n _=>match a with
   | some ⟨i,o,none⟩=>match H.cellsAt i with
    | some (c,_,_)=>if n=0 then some (.string ⟨⟨[]⟩⟩,H) else if o+n≤c.size then match ofBytes (c.extract o (o+n)).toList with
     | some l=>some (.string ⟨⟨l⟩⟩,H)
     | none=>none
     else none
    | none=>none
   | some ⟨_,_,some _⟩=>none
   | none=>some (.string ⟨⟨[]⟩⟩,H)
 | _=>none
def yfill (t : TT) : List (Nat×Nat×FA)→Array Value→Option (Array Value)
 | [],c=>some c
 | (off,size,a)::r,c=>if notTop (dA t a)=true∧(dA t a).cells.size=size∧off+(dA t a).cells.size≤c.size then yfill t r (setCells (dA t a).cells.toList off c) else none
def dop (P : Program) (f : FOp) (t : TT) (H : Heap) : Option (Value×Heap):=match f with
 | .move x=>some (dA t x,H)
 | .pick c a b=>ypick (dA t c) (dA t a) (dA t b) H
 | .alloc el z=>some (.pointer (some ⟨H.next,0,none⟩),H.alloc (.cells ⟨z⟩ el true))
 | .box el x=>xbox H el (dA t x)
 | .build z ps=>(yfill t ps ⟨z⟩).map fun c=>(.agg c,H)
 | .buildSlice el n z ps=>(yfill t ps ⟨z⟩).map fun c=>(.slice (some ⟨H.next,0,none⟩) n n,H.alloc (.cells c el true))
 | .load1 x=>(yload1 H (dA t x)).map (·,H)
 | .loadN n x=>(yloadN n H (dA t x)).map (·,H)
 | .store n a x=>(ystore n H (dA t a) (dA t x)).map (undef,·)
 | .nilCheck x=>(xnil (dA t x)).map (·,H)
 | .bin op ty x y=>(xbinOp P op ty (dA t x) (dA t y)).map (·,H)
 | .un op x=>(xun op (dA t x)).map (·,H)
 | .conv k x=>(yconv k (dA t x)).map (·,H)
 | .fieldAddr off x=>(yfieldAddr off (dA t x)).map (·,H)
 | .field1 off x=>(yfield1 off (dA t x)).map (·,H)
 | .fieldN off n x=>(yfieldN off n (dA t x)).map (·,H)
 | .indexAddr arr es x i=>(yindexAddr arr es (dA t x) (dA t i)).map (·,H)
 | .index len es one x i=>(yindex len es one (dA t x) (dA t i)).map (·,H)
 | .slice e es x lo hi=>(yslice P e es H (dA t x) (lo.map (dA t)) (hi.map (dA t))).map (·,H)
 | .len kd x=>(ylen kd H (dA t x)).map (·,H)
 | .mm mx xs=>(xmm mx (xs.map (dA t))).map (·,H)
 | .append e es bytes s x=>yappend e es bytes H (dA t s) (dA t x)
 | .makeSlice e _ bytes z l c=>ymakeSlice e bytes z H (dA t l) (dA t c)
 | .makeFunc f a b=>some (.func (.func f) ⟨a.map (dA t)⟩ ⟨b.map (dA t)⟩,H)
 | .makeMap kt=>some (.map (some H.next),H.alloc (.map kt #[] 0))
 | .lookup kt z x k ok=>(ylookup P kt z H (dA t x) (dA t k) ok).map (·,H)
 | .mapUpdate kt m k v=>(ymapUpdate P kt H (dA t m) (dA t k) (dA t v)).map (undef,·)
 | .extract x i=>(xextract (dA t x) i).map (·,H)
 | .cap x=>(ycap (dA t x)).map (·,H)
 | .idxSlow ty x i=>(xindex P ty (dA t x) (dA t i)).map (·,H)
 | .sliceSlow ty x lo hi=>(xslice P ty (dA t x) (lo.map (dA t)) (hi.map (dA t)) none).map (·,H)
 | .toBytes e x=>ytoBytes e H (dA t x)
 | .toStr x=>ytoStr H (dA t x)
 | .clear es z x=>(yclear es z H (dA t x)).map (undef,·)
 | .slice3 e es x lo hi m=>(yslice3 P e es H (dA t x) (lo.map (dA t)) (dA t hi) (dA t m)).map (·,H)
 | .copy es d s=>ycopy es H (dA t d) (dA t s)
 | .appendMk .. | .call ..=>none
def DOk (P : Program) [Gl P] (f : FOp) (op : Op) : Prop:=∀ (t : TT) (tm : Array Value) (H H' : Heap) (v : Value),TR t tm→dop P f t H=some (v,H')→xop P H (ev P tm) op=some (v,H')
theorem setCells_zip (vs : List Value) : ∀ (off : Nat) (c : Array Value) (k : Nat),(vs.zipIdx k).foldl (fun cs x=>cs.setIfInBounds (off+x.2) x.1) c=setCells vs (off+k) c:=by
 induction vs with
 | nil=>intro off c k;rfl
 | cons v vs ih=>
  intro off c k
  simp only[List.zipIdx_cons,List.foldl_cons,setCells]
  exact ih off _ (k+1)
section
variable {P : Program} [Gl P]
theorem yfill_ok {pl : Nat→Option (Nat×Nat)} {t : TT} {tm : Array Value} (ht : TR t tm) : ∀ {l : List (Nat×Operand)} {ps : List (Nat×Nat×FA)} {c c' : Array Value},compParts P pl l=some ps→yfill t ps c=some c' →
  (l.map fun x=>(x.1,ev P tm x.2)).all (fun x=>notTop x.2)=true∧Instr.fill pl c (l.map fun x=>(x.1,ev P tm x.2))=some c'∧c'.size=c.size
 | [],ps,c,c',h,k=>by
  simp only[compParts] at h;cases h
  simp only[yfill] at k;cases k
  exact⟨rfl,rfl,rfl⟩
 | (i,x)::l,ps,c,c',h,k=>by
  simp only[compParts] at h
  split at h
  ·rename_i off size hpl
   split at h
   ·rename_i r hr
    cases h
    simp only[yfill,dA_comp ht] at k
    split at k
    ·rename_i hc
     obtain⟨h1,h2,h3⟩:=hc
     obtain⟨k1,k2,k3⟩:=yfill_ok ht hr k
     refine⟨by simp only[List.map_cons,List.all_cons,h1,k1,Bool.and_self],?_,by rw[k3,setCells_size]⟩
     simp only[List.map_cons,Instr.fill,hpl]
     have e1 : ((ev P tm x).cells.size != size)=false:=by simp[h2]
     have e2 : ¬ (off+(ev P tm x).cells.size > c.size):=by omega
     have e3 : (ev P tm x).cells.zipIdx.foldl (fun cs (y : Value×Nat)=>cs.setIfInBounds (off+y.2) y.1) c=setCells (ev P tm x).cells.toList off c:=by
      rw[← Array.foldl_toList,Array.toList_zipIdx]
      exact setCells_zip _ off c 0
     simp only[h2,ne_eq,not_true_eq_false,decide_false,Bool.false_or] at e2 ⊢
     rw[if_neg (by simpa using e2)]
     rw[← k2]
     congr 1
    ·cases k
   ·cases h
  ·cases h
end
end Go.Xe
