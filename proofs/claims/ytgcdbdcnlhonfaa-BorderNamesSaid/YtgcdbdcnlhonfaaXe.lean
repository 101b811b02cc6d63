/- An executable reading of the model's code over an abstract heap (part 5): the built-in functions len, min, max, append. Conditions: none. -/
import Derived.Test.YtgcdbdcnlhonfaaXd
namespace Go.Xe
open Go
def Heap.mapAt (H : Heap) (i : Nat) : Option (TypeId×Array MapEntry×Nat):=
 match H.get i with
 | some (.map kt es clock)=>some (kt,es,clock)
 | _=>none
theorem Rel.mapAt {P : Program} {θ : Th} {H : Heap} {w : World} (h : Rel P θ H w) {i : Nat} {kt : TypeId} {es : Array MapEntry} {clock : Nat} (hi : H.mapAt i=some (kt,es,clock)) :
  H.get i=some (.map kt es clock)∧∃ p,θ i=some p∧∃ es',w.heap[p.blk]?=some (.map es' clock)∧p.rw=true∧es.size=es'.size∧es'.toList.Pairwise (fun a b=>a.key≠b.key) ∧
   ∀ (k : Nat) (e e' : MapEntry),es[k]?=some e→es'[k]?=some e'→e.key=e'.key∧(keyOf P kt e.key).isSome=true∧VR θ e.val e'.val:=by
 unfold Heap.mapAt at hi
 split at hi
 ·rename_i kt0 es0 c0 hg
  cases hi
  obtain⟨p,hp,hor⟩:=h.obj i _ hg rfl
  exact⟨hg,p,hp,hor⟩
 ·cases hi
def xlen (P : Program) (H : Heap) (t : TypeId) (x : Value) : Option Value:=
 match P.underlying t,x with
 | some .string,.string s=>some (.int .i64 s.size)
 | some (.slice _),.slice _ n _=>some (.int .i64 n)
 | some (.array n _),_=>some (.int .i64 n)
 | some (.map _ _),.map none=>some (.int .i64 0)
 | some (.map _ _),.map (some i)=>match H.mapAt i with
  | some (_,es,_)=>some (.int .i64 es.size)
  | none=>none
 | _,_=>none
theorem xlen_ok {P : Program} {θ : Th} {H : Heap} {w : World} (hr : Rel P θ H w) {t ty : TypeId} {x x' v : Value} {ts : Array TypeId} {xs' : Array Value} (h : xlen P H t x=some v)
  (hx : VR θ x x') (ht : ts[0]?=some t) (hxs : xs'[0]?=some x') : ∃ v',(Builtin.len_ ts ty xs').run P w=.ok v' w∧VR θ v v':=by
 cases hu : P.underlying t with
 | none=>simp[xlen,hu] at h
 | some d=>
  cases d<;>try (simp[xlen,hu] at h;done)
  case string=>
   cases hx<;>simp only[xlen,hu] at h<;>first|(cases h;done)|skip
   cases h
   exact⟨_,by simp[Builtin.len_,ht,hxs,run_underlying hu,goInt],.int _ _⟩
  case slice=>
   cases hx<;>simp only[xlen,hu] at h<;>first|(cases h;done)|skip
   all_goals
    cases h
    exact⟨_,by simp[Builtin.len_,ht,hxs,run_underlying hu,goInt],.int _ _⟩
  case array=>
   simp only[xlen,hu] at h
   cases h
   exact⟨_,by simp[Builtin.len_,ht,hxs,run_underlying hu,goInt],.int _ _⟩
  case map=>
   cases hx<;>simp only[xlen,hu] at h<;>first|(cases h;done)|skip
   ·cases h
    exact⟨_,by simp[Builtin.len_,ht,hxs,run_underlying hu,goInt],.int _ _⟩
   ·rename_i i p hp
    split at h
    ·rename_i kt es clock hm
     cases h
     obtain⟨_,q,hq,es',hw,_,hsz,_⟩:=hr.mapAt hm
     rw[hp] at hq;cases hq
     refine⟨_,?_,.int _ _⟩
     have hg : (getObj p.blk).run P w=.ok (.map es' clock) w:=by simp[getObj,Sem.run,hw]
     simp[Builtin.len_,ht,hxs,run_underlying hu,goInt,hg,hsz]
    ·cases h
def xmm (mx : Bool) : List Value→Option Value
 | [.int k a,.int _ b]=>some (.int k (if mx then (if b > a then b else a) else (if b<a then b else a)))
 | [.int k a,.int _ b,.int _ c]=>
  let m:=if mx then (if b > a then b else a) else (if b<a then b else a)
  some (.int k (if mx then (if c > m then c else m) else (if c<m then c else m)))
 | _=>none
theorem AR.two {θ : Th} {a b : Value} {xs xs' : Array Value} (hx : AR θ xs xs') (h : xs.toList=[a,b]) : ∃ a' b',xs'.toList=[a',b']∧VR θ a a'∧VR θ b b':=by
 obtain⟨l⟩:=xs
 obtain⟨l'⟩:=xs'
 simp only at h
 subst h
 obtain⟨hs,hx⟩:=hx
 match l',hs with
 | [a',b'],_=>exact⟨a',b',rfl,hx 0 _ _ rfl rfl,hx 1 _ _ rfl rfl⟩
theorem AR.three {θ : Th} {a b c : Value} {xs xs' : Array Value} (hx : AR θ xs xs') (h : xs.toList=[a,b,c]) : ∃ a' b' c',xs'.toList=[a',b',c']∧VR θ a a'∧VR θ b b'∧VR θ c c':=by
 obtain⟨l⟩:=xs
 obtain⟨l'⟩:=xs'
 simp only at h
 subst h
 obtain⟨hs,hx⟩:=hx
 match l',hs with
 | [a',b',c'],_=>exact⟨a',b',c',rfl,hx 0 _ _ rfl rfl,hx 1 _ _ rfl rfl,hx 2 _ _ rfl rfl⟩
theorem xmin_ok {P : Program} {θ : Th} {xs xs' : Array Value} {ts : Array TypeId} {ty : TypeId} {v : Value} (h : xmm false xs.toList=some v) (hx : AR θ xs xs') (w : World) :
  ∃ v',(Builtin.min_ ts ty xs').run P w=.ok v' w∧VR θ v v':=by
 unfold xmm at h
 split at h
 ·rename_i hl
  cases h
  obtain⟨a',b',hl',h0,h1⟩:=hx.two hl
  cases h0;cases h1
  exact⟨_,by simp[Builtin.min_,hl',Builtin.min2],.int _ _⟩
 ·rename_i hl
  cases h
  obtain⟨a',b',c',hl',h0,h1,h2⟩:=hx.three hl
  cases h0;cases h1;cases h2
  exact⟨_,by simp[Builtin.min_,hl',Builtin.min2],.int _ _⟩
 ·cases h
theorem xmax_ok {P : Program} {θ : Th} {xs xs' : Array Value} {ts : Array TypeId} {ty : TypeId} {v : Value} (h : xmm true xs.toList=some v) (hx : AR θ xs xs') (w : World) :
  ∃ v',(Builtin.max_ ts ty xs').run P w=.ok v' w∧VR θ v v':=by
 unfold xmm at h
 split at h
 ·rename_i hl
  cases h
  obtain⟨a',b',hl',h0,h1⟩:=hx.two hl
  cases h0;cases h1
  exact⟨_,by simp[Builtin.max_,hl',Builtin.max2],.int _ _⟩
 ·rename_i hl
  cases h
  obtain⟨a',b',c',hl',h0,h1,h2⟩:=hx.three hl
  cases h0;cases h1;cases h2
  exact⟨_,by simp[Builtin.max_,hl',Builtin.max2],.int _ _⟩
 ·cases h
theorem growBy_le (newLen : Nat) : ∀ (r c : Nat),Builtin.growBy newLen r c≤c∨Builtin.growBy newLen r c≤2*newLen+256:=by
 intro r
 induction r with
 | zero=>intro c;left;simp[Builtin.growBy]
 | succ r ih=>
  intro c
  simp only[Builtin.growBy]
  split
  ·left;exact Nat.le_refl _
  ·rename_i hc
   rcases ih (c+(c+768)/4) with h|h
   ·right;omega
   ·right;exact h
theorem nextslicecap_le (need c : Nat) (h : c<need) : Builtin.nextslicecap need c≤2*need+256:=by
 unfold Builtin.nextslicecap
 split
 ·omega
 ·split
  ·omega
  ·rcases growBy_le need 4 c with h1|h1<;>omega
def xsource (H : Heap) (size m : Nat) (b : Option Addr) : Option (Array Value):=
 match b with
 | some ⟨k,u,none⟩=>match H.cellsAt k with
  | some (cx,_,_)=>if u+m*size≤cx.size∧m*size≠0 then some (cx.extract u (u+m*size)) else none
  | none=>none
 | _=>none
theorem xsource_ok {P : Program} {θ : Th} {H : Heap} {w : World} (hr : Rel P θ H w) {size m c : Nat} {b : Option Addr} {x' : Value} {new : Array Value}
  (h : xsource H size m b=some new) (hx : VR θ (.slice b m c) x') : ∃ new',(Builtin.firstCells size m x').run P w=.ok new' w∧AR θ new new'∧new.size=m*size:=by
 cases hx with
 | snil=>simp[xsource] at h
 | sempty=>simp[xsource] at h
 | slice hp hn hc hs=>
  rename_i i o c' p
  simp only[xsource] at h
  split at h
  ·rename_i cx el rw hcx
   split at h
   ·rename_i hb
    cases h
    obtain⟨_,q,hq,cx',elx,fz,hw,_,_,hcells⟩:=hr.cells hcx
    rw[hp] at hq;cases hq
    obtain⟨h1,h2⟩:=window hcells hb.1 hb.2
    exact⟨_,by simp[Builtin.firstCells,run_loadCells hw _ _ h1],h2,by simp;omega⟩
   ·cases h
  ·cases h
def eqA : Value→Value→Bool
 | .int k a,.int k' b=>decide (k=k') && decide (a=b)
 | .bool a,.bool b=>decide (a=b)
 | _,_=>false
theorem eqA_eq {x y : Value} (h : eqA x y=true) : x=y:=by
 unfold eqA at h
 split at h
 ·simp only[Bool.and_eq_true,decide_eq_true_eq] at h;rw[h.1,h.2]
 ·simp only[decide_eq_true_eq] at h;rw[h]
 ·cases h
def preB : List Value→List Value→Bool
 | [],_=>true
 | x::xs,y::ys=>eqA x y && preB xs ys
 | _::_,[]=>false
theorem preB_get : ∀ {xs ys : List Value},preB xs ys=true→∀ (k : Nat) (v : Value),xs[k]?=some v→ys[k]?=some v
 | [],_,_,k,v,h=>by simp at h
 | x::xs,[],h,_,_,_=>by simp[preB] at h
 | x::xs,y::ys,h,k,v,hk=>by
  simp only[preB,Bool.and_eq_true] at h
  cases k with
  | zero=>simp only[List.getElem?_cons_zero] at hk ⊢;rw[← eqA_eq h.1];exact hk
  | succ k=>simp only[List.getElem?_cons_succ] at hk ⊢;exact preB_get h.2 k v hk
def nowB (H : Heap) : Nat→Nat→Option (List Value×TypeId×Nat)
 | 0,_=>none
 | f+1,i=>match H.get i with
  | some (.cells c el true)=>some (c.toList,el,i)
  | some (.lent c el k)=>match nowB H f k with
   | some (ck,ek,tp)=>if ek=el∧preB c.toList ck=true then some (c.toList,el,tp) else none
   | none=>none
  | _=>none
def lentO (o n : Nat) (cd : Array Value) (e : TypeId) (k : Nat) : AO:=if o=0∧n≤16 then .lent (cd.extract 0 n) e k else .dead
def xappend (P : Program) (H : Heap) (sType xType : TypeId) (s x : Value) : Option (Value×Heap):=
 match P.underlying sType,P.underlying xType,s,x with
 | some (.slice e),some (.slice _),.slice a n c,.slice b m _=>
  match P.info? e with
  | some ie=>
   if m=0 then
    match a with
    | none=>if n=0 then some (.slice none n c,H) else none
    | some a=>some (.slice (some a) n c,H)
   else match ie.zero,xsource H ie.size m b with
   | some z,some new=>
    if new.toList.all (fun y=>y.oneCell' && notTop y)=true∧z.cells.size=ie.size∧(2*(n+m)+256)*ie.bytes≤2 ^ 48∧n+m≤2 ^ 48 then
     match a with
     | none=>if n=0∧c=0 then some (.slice (some ⟨H.next,0,none⟩) m m,H.alloc (.cells new e true)) else none
     | some ⟨i,o,none⟩=>match H.cellsAt i with
      | some (cd,el,true)=>
       if el=e∧o+n*ie.size≤cd.size∧o+c*ie.size≤cd.size∧(n+m≤c→c*ie.size≠0) then
        if n+m≤c then some (.slice (some ⟨i,o,none⟩) (n+m) c,H.set i (.cells (setCells new.toList (o+n*ie.size) cd) e true))
        else some (.slice (some ⟨H.next,0,none⟩) (n+m) (n+m),(H.set i (lentO o (n*ie.size) cd e H.next)).alloc (.cells (cd.extract o (o+n*ie.size)++new) e true))
       else none
      | some (_,_,false)=>none
      | none=>match nowB H 24 i with
       | some (cd,el,tp)=>
        if o=0∧el=e∧n*ie.size≤cd.length∧c<n+m then
         some (.slice (some ⟨H.next,0,none⟩) (n+m) (n+m),((H.set tp .dead).set i (.lent ((⟨cd⟩ : Array Value).extract 0 (n*ie.size)) e H.next)).alloc (.cells ((⟨cd⟩ : Array Value).extract 0 (n*ie.size)++new) e true))
        else none
       | none=>none
     | _=>none
    else none
   | _,_=>none
  | none=>none
 | _,_,_,_=>none
theorem Rel.kill {P : Program} {θ : Th} {H : Heap} {w : World} (h : Rel P θ H w) (i : Nat) : Rel P θ (H.set i .dead) w:=by
 obtain⟨ow,hown⟩:=h.own
 refine⟨fun j o hj ho=>?_,h.dom,ow,?_,?_,?_⟩
 ·rw[Heap.get_set] at hj
  split at hj
  ·cases hj;simp[AO.live] at ho
  ·exact h.obj j o hj ho
 ·intro j o q hj ho hq hr
  rw[Heap.get_set] at hj
  split at hj
  ·cases hj;simp[AO.live] at ho
  ·exact hown.rwo j o q hj ho hq hr
 ·intro j o q hj ho hq hr
  rw[Heap.get_set] at hj
  split at hj
  ·cases hj;simp[AO.live] at ho
  ·exact hown.roo j o q hj ho hq hr
 ·intro j c el k hj
  rw[Heap.get_set] at hj
  split at hj
  ·cases hj
  ·obtain⟨h1,h2,h3⟩:=hown.len j c el k hj
   refine⟨h1,h2,fun hv=>h3 (Val.sub (S:=fun _=>True) (fun y _ x hx=>?_) hv trivial)⟩
   rw[Heap.get_set] at hx
   split at hx
   ·cases hx;exact .inr (.inr ⟨rfl,fun _ _ _ e=>by cases e⟩)
   ·cases x with
    | lent c el k=>exact .inr (.inl ⟨c,el,k,rfl,trivial,fun hk=>.lent hx hk⟩)
    | dead=>exact .inr (.inr ⟨rfl,fun _ _ _ e=>by cases e⟩)
    | _=>exact .inl (.live hx rfl)
theorem Tr.setF_setF {α : Type} (x y : α) : ∀ (f : Nat) (t : Tr α) (n : Nat),n<f→(t.setF x f n).setF y f n=t.setF y f n:=by
 intro f
 induction f with
 | zero=>intro t n h;omega
 | succ f ih=>
  intro t n h
  cases t with
  | nil=>
   cases n with
   | zero=>rfl
   | succ n=>
    simp only[Tr.setF]
    cases hb : Nat.beq (n%2) 0<;>simp only[Tr.setF,hb]<;>rw[ih _ _ (by omega)]
  | node v l r=>
   cases n with
   | zero=>rfl
   | succ n=>
    simp only[Tr.setF]
    cases hb : Nat.beq (n%2) 0<;>simp only[Tr.setF,hb]<;>rw[ih _ _ (by omega)]
theorem Heap.set_set (H : Heap) (i : Nat) (o o' : AO) : (H.set i o).set i o'=H.set i o':=by
 unfold Heap.set
 simp only[Tr.setF_setF o o' (i+1) H.t i (Nat.lt_succ_self i)]
inductive Chain (H : Heap) : Nat→Nat→Prop
 | tip {i : Nat} {o : AO} (h : H.get i=some o) (hl : o.live=true) : Chain H i i
 | step {i k t : Nat} {c : Array Value} {el : TypeId} (h : H.get i=some (.lent c el k)) (hk : Chain H k t) : Chain H i t
theorem Chain.val {H : Heap} {i t : Nat} (h : Chain H i t) : Val H i:=by
 induction h with
 | tip h hl=>exact .live h hl
 | step h _ ih=>exact .lent h ih
theorem Chain.end {H : Heap} {i t : Nat} (h : Chain H i t) : ∃ o,H.get t=some o∧o.live=true:=by
 induction h with
 | tip h hl=>exact⟨_,h,hl⟩
 | step _ _ ih=>exact ih
theorem Chain.at {H : Heap} {i t : Nat} {o : AO} (h : Chain H i t) (hi : H.get i=some o) (hl : o.live=true) : i=t:=by
 cases h with
 | tip=>rfl
 | step h'=>rw[hi] at h';cases h';cases hl
theorem Chain.own {P : Program} {θ : Th} {H : Heap} {w : World} {ow : Nat→Option Nat} (ho : Own P θ H w ow) {i t : Nat} (h : Chain H i t) : ∀ {p : Pl},θ i=some p→p.rw=true →
  ∃ j,ow p.blk=some j∧i≤j∧Chain H j t:=by
 induction h with
 | tip h hl=>intro p hp hrw;exact⟨_,ho.rwo _ _ _ h hl hp hrw,Nat.le_refl _,.tip h hl⟩
 | step h hk ih=>
  intro p hp hrw
  obtain⟨h1,h2,h3⟩:=ho.len _ _ _ _ h
  obtain⟨q,pk,a1,a2,a3,a4,a5⟩:=h3 hk.val
  rw[hp] at a1;cases a1
  rcases a5 with⟨b1,_⟩|⟨b1,_⟩
  ·obtain⟨j,c1,c2,c3⟩:=ih a2 a4
   exact⟨j,by rw[b1];exact c1,by omega,c3⟩
  ·exact⟨_,b1,Nat.le_refl _,.step h hk⟩
theorem Rel.lend {P : Program} {θ : Th} {H : Heap} {w w' : World} (h : Rel P θ H w) {i tp : Nat} {c : Array Value} {el : TypeId} {p p' : Pl} (hp : θ i=some p) (hrw : p.rw=true) (hch : Chain H i tp) (hrw' : p'.rw=true)
  (hsz : w.heap.size≤w'.heap.size) (hlt : p'.blk<w'.heap.size) (hw : ∀ b,b<w.heap.size→b≠p.blk→w'.heap[b]?=w.heap[b]?)
  (hcase : (p'.blk=p.blk∧p'.base=p.base∧p'.sz=p.sz∧p'.st=p.st)∨(w.heap.size≤p'.blk∧w'.heap[p.blk]?=w.heap[p.blk]?∧Cont P θ w p c el))
  (hos : w'.os=w.os) (htape : w'.tape=w.tape) (hout : w'.output=w.output) {o' : AO} (hl' : o'.live=true) (ho : OR P (θ.put H.next p') w' p' o') :
  Rel P (θ.put H.next p') (((H.set tp .dead).set i (.lent c el H.next)).alloc o') w'∧Stp θ w (θ.put H.next p') w':=by
 have he : Ext θ (θ.put H.next p'):=Th.ext_put h.fresh
 have hdom:=h.dom i p hp
 obtain⟨ow,hown⟩:=h.own
 obtain⟨j0,hj0,hij0,hchj⟩:=hch.own hown hp hrw
 obtain⟨ot,hot,hlt'⟩:=hch.end
 have get' : ∀ y,(((H.set tp .dead).set i (.lent c el H.next)).alloc o').get y=if y=H.next then some o' else if y=i then some (.lent c el H.next) else if y=tp then some .dead else H.get y:=by
  intro y
  rw[Heap.get_alloc,Heap.get_set,Heap.get_set]
  rfl
 have put' : ∀ y q,y≠H.next→θ.put H.next p' y=some q→θ y=some q:=fun y q hy hq=>by simpa [Th.put,hy] using hq
 -- what is read lies elsewhere
 have away : ∀ y o q,H.get y=some o→o.live=true→θ y=some q→y≠i→y≠tp→q.blk≠p.blk:=by
  intro y o q hy hl hq hyi hyt hb
  cases hr : q.rw with
  | true=>
   have:=hown.rwo y o q hy hl hq hr
   rw[hb,hj0] at this
   cases this
   exact hyt (hchj.at hy hl)
  | false=>
   have:=hown.roo y o q hy hl hq hr
   rw[hb,hj0] at this
   cases this
 have far : ∀ y o q,H.get y=some o→o.live=true→θ y=some q→y≠i→y≠tp→q.blk≠p'.blk:=by
  intro y o q hy hl hq hyi hyt hb
  rcases hcase with⟨h1,_⟩|⟨h1,_⟩
  ·exact away y o q hy hl hq hyi hyt (hb.trans h1)
  ·have:=(h.dom y q hq).2;omega
 -- what was lent further on is no longer
 have gone : ∀ {x t : Nat},Chain H x t→t=tp→i<x→¬ Val (((H.set tp .dead).set i (.lent c el H.next)).alloc o') x:=by
  intro x t hx
  induction hx with
  | @tip x o hx hl=>
   intro ht hi hv
   rw[ht] at hx hi hv
   have hxn : tp≠H.next:=by
    obtain⟨p0,hp0,_⟩:=h.obj tp o hx hl
    have:=(h.dom tp p0 hp0).1;omega
   have e:=get' tp
   rw[if_neg hxn,if_neg (by omega),if_pos rfl] at e
   cases hv with
   | live h1 h2=>rw[e] at h1;cases h1;cases h2
   | lent h1 _=>rw[e] at h1;cases h1
  | @step x k t c1 el1 hx hk ih=>
   intro htp hi hv
   obtain⟨l1,l2,_⟩:=hown.len x _ _ _ hx
   have hxt : x≠tp:=fun e2=>by rw[e2,hot] at hx;cases hx;cases hlt'
   have e:=get' x
   rw[if_neg (by omega),if_neg (by omega),if_neg hxt,hx] at e
   cases hv with
   | live h1 h2=>rw[e] at h1;cases h1;cases h2
   | lent h1 hk'=>rw[e] at h1;cases h1;exact ih htp (by omega) hk'
 have hni : i≠H.next:=by omega
 refine⟨⟨?_,?_,fun b=>if b=p'.blk then some H.next else if b=p.blk then some i else ow b,?_,?_,?_⟩,⟨he,?_,hsz,?_,hos,htape,hout⟩⟩
 ·intro y x hy hx
  rw[get'] at hy
  by_cases e : y=H.next
  ·subst e;simp at hy;subst hy
   exact⟨p',Th.put_same _ _ _,ho⟩
  ·rw[if_neg e] at hy
   by_cases e2 : y=i
   ·rw[if_pos e2] at hy;cases hy;cases hx
   ·rw[if_neg e2] at hy
    by_cases e3 : y=tp
    ·rw[if_pos e3] at hy;cases hy;cases hx
    ·rw[if_neg e3] at hy
     obtain⟨q,hq,hor⟩:=h.obj y x hy hx
     exact⟨q,he _ _ hq,hor.ext he (hw _ (h.dom y q hq).2 (away y x q hy hx hq e2 e3))⟩
 ·intro y q hq
  by_cases e : y=H.next
  ·subst e
   rw[Th.put_same] at hq;cases hq
   exact⟨by simp,hlt⟩
  ·have:=h.dom y q (put' y q e hq)
   exact⟨by simp;omega,by omega⟩
 ·intro y x q hy hx hq hr
  rw[get'] at hy
  by_cases e : y=H.next
  ·subst e
   rw[Th.put_same] at hq;cases hq
   simp
  ·rw[if_neg e] at hy
   have hq:=put' y q e hq
   by_cases e2 : y=i
   ·rw[if_pos e2] at hy;cases hy;cases hx
   ·rw[if_neg e2] at hy
    by_cases e3 : y=tp
    ·rw[if_pos e3] at hy;cases hy;cases hx
    ·rw[if_neg e3] at hy
     simp only[if_neg (away y x q hy hx hq e2 e3),if_neg (far y x q hy hx hq e2 e3)]
     exact hown.rwo y x q hy hx hq hr
 ·intro y x q hy hx hq hr
  rw[get'] at hy
  by_cases e : y=H.next
  ·subst e
   rw[Th.put_same] at hq;cases hq
   rw[hrw'] at hr;cases hr
  ·rw[if_neg e] at hy
   have hq:=put' y q e hq
   by_cases e2 : y=i
   ·rw[if_pos e2] at hy;cases hy;cases hx
   ·rw[if_neg e2] at hy
    by_cases e3 : y=tp
    ·rw[if_pos e3] at hy;cases hy;cases hx
    ·rw[if_neg e3] at hy
     simp only[if_neg (away y x q hy hx hq e2 e3),if_neg (far y x q hy hx hq e2 e3)]
     exact hown.roo y x q hy hx hq hr
 ·intro y c2 el2 k2 hy
  rw[get'] at hy
  by_cases e : y=H.next
  ·rw[if_pos e] at hy;cases hy;cases hl'
  ·rw[if_neg e] at hy
   by_cases e2 : y=i
   ·rw[if_pos e2] at hy;cases hy
    subst e2
    refine⟨hdom.1,Nat.lt_succ_self _,fun _=>⟨p,p',he _ _ hp,Th.put_same _ _ _,hrw,hrw',?_⟩⟩
    rcases hcase with⟨h1,h2,h3,h4⟩|⟨h1,h2,h3⟩
    ·exact .inl ⟨h1.symm,h2,h3,h4⟩
    ·refine .inr ⟨?_,h3.ext he h2⟩
     have:=hdom.2
     rw[if_neg (by omega),if_pos rfl]
   ·rw[if_neg e2] at hy
    by_cases e3 : y=tp
    ·rw[if_pos e3] at hy;cases hy
    ·rw[if_neg e3] at hy
     obtain⟨l1,l2,l3⟩:=hown.len y _ _ _ hy
     refine⟨l1,by simp only[Heap.next_alloc,Heap.next_set];omega,fun hv=>?_⟩
     have hv' : Val H k2:=Val.sub (S:=(·<H.next)) (fun x hx o hxo=>by
      rw[get',if_neg (by omega)] at hxo
      by_cases e4 : x=i
      ·subst e4;exact .inl hch.val
      ·rw[if_neg e4] at hxo
       by_cases e5 : x=tp
       ·rw[if_pos e5] at hxo;cases hxo;exact .inr (.inr ⟨rfl,fun _ _ _ e=>by cases e⟩)
       ·rw[if_neg e5] at hxo
        cases o with
        | lent c el k=>exact .inr (.inl ⟨c,el,k,rfl,(hown.len _ _ _ _ hxo).2.1,fun hk=>.lent hxo hk⟩)
        | dead=>exact .inr (.inr ⟨rfl,fun _ _ _ e=>by cases e⟩)
        | _=>exact .inl (.live hxo rfl)) hv l2
     obtain⟨q,pk,a1,a2,a3,a4,a5⟩:=l3 hv'
     refine⟨q,pk,he _ _ a1,he _ _ a2,a3,a4,a5.imp id fun ⟨b1,b2⟩=>?_⟩
     have hne : q.blk≠p.blk:=by
      intro hb
      rw[hb,hj0] at b1
      cases b1
      cases hchj with
      | tip h1 h2=>rw[hy] at h1;cases h1;cases h2
      | step h1 h2=>rw[hy] at h1;cases h1;exact gone h2 rfl (by omega) hv
     have hne' : q.blk≠p'.blk:=by
      rcases hcase with⟨h1,_⟩|⟨h1,_⟩
      ·rw[h1];exact hne
      ·have:=(h.dom y q a1).2;omega
     refine⟨?_,b2.ext he (hw _ (h.dom y q a1).2 hne)⟩
     rw[if_neg hne',if_neg hne];exact b1
 ·intro y q hq
  by_cases e : y=H.next
  ·subst e
   rw[Th.put_same] at hq;cases hq
   rcases hcase with⟨h1,_⟩|⟨h1,_⟩
   ·exact .inr ⟨hrw',.inr ⟨i,p,hp,hrw,h1.symm⟩⟩
   ·exact .inr ⟨hrw',.inl h1⟩
  ·exact .inl (put' y q e hq)
 ·intro b hb hno
  exact hw b hb (fun e=>hno i p hp hrw e.symm)
theorem window0 {θ : Th} {c c' : Array Value} {base o n : Nat} (h : ∀ (k : Nat) (v : Value),c[k]?=some v→∃ v',c'[base+k]?=some v'∧VR θ v v') (_ : o+n≤c.size) :
  ∀ (k : Nat) (v : Value),(c.extract o (o+n))[k]?=some v→∃ v',c'[base+o+k]?=some v'∧VR θ v v':=by
 intro k v hk
 rw[Array.getElem?_extract] at hk
 split at hk
 ·obtain⟨v',hv',hr⟩:=h _ _ hk
  exact⟨v',by rw[← hv'];congr 1;omega,hr⟩
 ·cases hk
theorem Rel.takeover {P : Program} {θ : Th} {H : Heap} {w : World} (h : Rel P θ H w) {i : Nat} {o : AO} {p p' : Pl} (hi : H.get i=some o) (hl : o.live=true)
  (hp : θ i=some p) (hrw : p.rw=true) (hb : p'.blk=p.blk) (hrw' : p'.rw=true) {w' : World} (hsz : w'.heap.size=w.heap.size) (hw : ∀ b,b≠p.blk→w'.heap[b]?=w.heap[b]?)
  (hos : w'.os=w.os) (htape : w'.tape=w.tape) (hout : w'.output=w.output) {o' : AO} (ho : OR P (θ.put H.next p') w' p' o') (hlo : o'.live=true:=by rfl) :
  Rel P (θ.put H.next p') ((H.set i .dead).alloc o') w'∧Stp θ w (θ.put H.next p') w':=by
 have he : Ext θ (θ.put H.next p'):=Th.ext_put h.fresh
 have hdom:=h.dom i p hp
 refine⟨⟨?_,?_,?_⟩,⟨he,?_,by omega,?_,hos,htape,hout⟩⟩
 ·intro j x hj hx
  rw[Heap.get_alloc,Heap.get_set] at hj
  simp only[Heap.next_set] at hj
  by_cases e : j=H.next
  ·subst e;simp at hj;subst hj
   exact⟨p',Th.put_same _ _ _,ho⟩
  ·by_cases e2 : j=i
   ·subst e2;simp[e] at hj;subst hj;simp[AO.live] at hx
   ·simp[e,e2] at hj
    obtain⟨q,hq,hor⟩:=h.obj j x hj hx
    have hne : q.blk≠p.blk:=fun hbq=>h.inj i j p q o x hi hj hl hx hp hq (fun e'=>e2 e'.symm) hrw hbq.symm
    exact⟨q,he _ _ hq,hor.ext he (hw _ hne)⟩
 ·intro j q hq
  by_cases e : j=H.next
  ·subst e
   rw[Th.put_same] at hq;cases hq
   exact⟨by simp,by omega⟩
  ·simp[Th.put,e] at hq
   have:=h.dom j q hq
   exact⟨by simp;omega,by omega⟩
 ·obtain⟨ow,hown⟩:=h.own
  have hio:=hown.rwo i o p hi hl hp hrw
  have old : ∀ j q x,j≠H.next→(if j=H.next then some o' else if j=i then some AO.dead else H.get j)=some x→(x.live=true∨∃ c el k,x=.lent c el k)→θ.put H.next p' j=some q →
    H.get j=some x∧θ j=some q∧j≠i:=by
   intro j q x hj hjx hx hjq
   simp[Th.put,hj] at hjq
   by_cases e2 : j=i
   ·subst e2;simp[hj] at hjx;subst hjx;rcases hx with hx|⟨_,_,_,hx⟩
    ·simp[AO.live] at hx
    ·cases hx
   ·simp[hj,e2] at hjx
    exact⟨hjx,hjq,e2⟩
  refine⟨fun b=>if b=p'.blk then some H.next else ow b,?_,?_,?_⟩
  ·intro j x q hj hx hq hr
   rw[Heap.get_alloc,Heap.get_set] at hj
   simp only[Heap.next_set] at hj
   by_cases e : j=H.next
   ·subst e;rw[Th.put_same] at hq;cases hq;simp
   ·obtain⟨h1,h2,h3⟩:=old j q x e hj (.inl hx) hq
    have:=hown.rwo j x q h1 hx h2 hr
    rw[if_neg]
    ·exact this
    ·intro hbq;rw[hbq,hb,hio] at this;exact h3 (Option.some.inj this).symm
  ·intro j x q hj hx hq hr
   rw[Heap.get_alloc,Heap.get_set] at hj
   simp only[Heap.next_set] at hj
   by_cases e : j=H.next
   ·subst e;rw[Th.put_same] at hq;cases hq;rw[hrw'] at hr;cases hr
   ·obtain⟨h1,h2,h3⟩:=old j q x e hj (.inl hx) hq
    have:=hown.roo j x q h1 hx h2 hr
    rw[if_neg]
    ·exact this
    ·intro hbq;rw[hbq,hb,hio] at this;cases this
  ·intro j c el k hj
   rw[Heap.get_alloc,Heap.get_set] at hj
   simp only[Heap.next_set] at hj
   by_cases e : j=H.next
   ·simp[e] at hj;subst hj;cases hlo
   ·have hj' : j≠i∧H.get j=some (.lent c el k):=by
     by_cases e2 : j=i
     ·subst e2;simp[e] at hj
     ·exact⟨e2,by simpa [e,e2] using hj⟩
    obtain⟨l1,l2,l3⟩:=hown.len j c el k hj'.2
    refine⟨l1,by simp only[Heap.next_alloc,Heap.next_set];omega,fun hv=>?_⟩
    have hv' : Val H k:=Val.sub (S:=(·<H.next)) (fun x hx y hxo=>by
     rw[Heap.get_alloc,Heap.get_set] at hxo
     simp only[Heap.next_set] at hxo
     have hxn : x≠H.next:=by omega
     simp[hxn] at hxo
     by_cases e5 : x=i
     ·rw[if_pos e5] at hxo;cases hxo;exact .inr (.inr ⟨rfl,fun _ _ _ e=>by cases e⟩)
     ·rw[if_neg e5] at hxo
      cases y with
      | lent c el k=>exact .inr (.inl ⟨c,el,k,rfl,(hown.len _ _ _ _ hxo).2.1,fun hk=>.lent hxo hk⟩)
      | dead=>exact .inr (.inr ⟨rfl,fun _ _ _ e=>by cases e⟩)
      | _=>exact .inl (.live hxo rfl)) hv l2
    obtain⟨q,pk,a1,a2,a3,a4,a5⟩:=l3 hv'
    refine⟨q,pk,he _ _ a1,he _ _ a2,a3,a4,a5.imp id fun ⟨b1,b2⟩=>?_⟩
    have hne : q.blk≠p.blk:=fun hbq=>by rw[hbq,hio] at b1;exact hj'.1 (Option.some.inj b1).symm
    refine⟨?_,b2.ext he (hw _ hne)⟩
    rw[if_neg (by rw[hb];exact hne)];exact b1
 ·intro j q hq
  by_cases e : j=H.next
  ·subst e
   rw[Th.put_same] at hq;cases hq
   exact .inr ⟨hrw',.inr ⟨i,p,hp,hrw,hb.symm⟩⟩
  ·simp[Th.put,e] at hq
   exact .inl hq
 ·intro b _ hno
  exact hw b (fun e=>hno i p hp hrw e.symm)
theorem Stp.of_drew {θ θ' : Th} {w w' : World} (h : Stp θ { w with drawn:=w.drawn+1 } θ' w') : Stp θ w θ' w':=(Stp.drew θ w).trans h
theorem run_append_in {P : Program} {w w' : World} {sType xType : TypeId} {ty : TypeId} {e e2 : TypeId} {ie : TypeInfo} {a : Addr} {n m c' : Nat} {x' : Value} {new : Array Value}
  (hs : P.underlying sType=some (.slice e)) (hx : P.underlying xType=some (.slice e2)) (hi : P.info? e=some ie) (hlen : (Builtin.lenOf x').run P w=.ok m w)
  (hnew : (Builtin.firstCells ie.size m x').run P w=.ok new w) (hle : n+m≤c') (hst : (storeCells (a.add (n*ie.size)) new.toList).run P w=.ok () w') :
  (Builtin.append_ #[sType,xType] ty #[.slice (some a) n c',x']).run P w=.ok (.slice (some a) (n+m) c') w':=by
 simp[Builtin.append_,run_underlying hs,run_underlying hx,run_sizeOf' hi,hlen,hle,hnew,hst]
theorem run_append_out {P : Program} {w : World} {sType xType : TypeId} {ty : TypeId} {e e2 : TypeId} {ie : TypeInfo} {base : Option Addr} {n m c' : Nat} {x' z : Value} {old new : Array Value}
  (hs : P.underlying sType=some (.slice e)) (hx : P.underlying xType=some (.slice e2)) (hi : P.info? e=some ie) (hz : ie.zero=some z)
  (hlen : ∀ w,(Builtin.lenOf x').run P w=.ok m w)
  (hold : (Builtin.firstCells ie.size n (.slice base n c')).run P w.drew=.ok old w.drew)
  (hnew : (Builtin.firstCells ie.size m x').run P w.drew=.ok new w.drew) (hle : ¬ n+m≤c')
  (hb : (2*(n+m)+256)*ie.bytes≤2 ^ 48) (hsm : n+m≤2 ^ 48) :
  ∃ cap,n+m≤cap∧(Builtin.append_ #[sType,xType] ty #[.slice base n c',x']).run P w =
   .ok (.slice (some ⟨w.heap.size,0,none⟩) (n+m) cap) (w.drew.alloc (.cells (old++new++Builtin.zeroCells z.cells (cap-(n+m))) e)):=by
 have h1' : ¬ (9223372036854775807<(n : Int)+(m : Int)):=by omega
 have h2 : ¬ (Builtin.nextslicecap (n+m) c'*ie.bytes > 2 ^ 48):=by
  have:=nextslicecap_le (n+m) c' (by omega)
  have:=Nat.mul_le_mul_right ie.bytes this
  omega
 refine⟨Question.cut (.appendCap (n+m) c' e) (w.tape w.drawn (.appendCap (n+m) c' e)),by simp[Question.cut],?_⟩
 simp[Builtin.append_,run_underlying hs,run_underlying hx,run_sizeOf' hi,hlen,hle,hnew,hold,run_typeInfo' hi,run_zeroValue' hi hz,h2,Question.forced,newRow]
 intro hh;exact absurd hh h1'
theorem zeroCells_size (z : Array Value) (n : Nat) : (Builtin.zeroCells z n).size=n*z.size:=by simp[Builtin.zeroCells]
theorem extract_lead {θ : Th} {c c' : Array Value} {base o n : Nat} (h : ∀ (k : Nat) (v : Value),c[k]?=some v→∃ v',c'[base+k]?=some v'∧VR θ v v') (hn : o+n≤c.size) :
  AR θ (c.extract o (o+n)) (c'.extract (base+o) (base+o+n)):=by
 by_cases hz : n=0
 ·subst hz
  refine⟨by simp;omega,fun k x y hx=>?_⟩
  rw[Array.getElem?_extract,if_neg (by omega)] at hx;cases hx
 ·exact (window h hn hz).2
theorem setCells_get : ∀ (vs : List Value) (o : Nat) (c : Array Value) (k : Nat),o+vs.length≤c.size→(setCells vs o c)[k]?=if o≤k∧k<o+vs.length then vs[k-o]? else c[k]?:=by
 intro vs
 induction vs with
 | nil=>intro o c k _;rw[if_neg (by simp only[List.length_nil];omega)];rfl
 | cons v vs ih=>
  intro o c k h
  simp only[List.length_cons] at h
  simp only[setCells,List.length_cons]
  rw[ih (o+1) _ k (by simp;omega)]
  by_cases h1 : o+1≤k∧k<o+1+vs.length
  ·rw[if_pos h1,if_pos (by omega)]
   have : k-o=(k-(o+1))+1:=by omega
   rw[this,List.getElem?_cons_succ]
  ·rw[if_neg h1]
   by_cases h2 : k=o
   ·subst h2
    rw[if_pos (by omega),Array.getElem?_setIfInBounds_self_of_lt (by omega)]
    simp
   ·rw[if_neg (by omega),Array.getElem?_setIfInBounds_ne (by omega)]
theorem append_lead {c c2 : Array Value} {k : Nat} {v : Value} (h : c[k]?=some v) : (c++c2)[k]?=some v:=by
 rw[Array.getElem?_append_left (Array.getElem?_eq_some_iff.1 h).1];exact h
theorem now_ok {P : Program} {θ : Th} {H : Heap} {w : World} (hr : Rel P θ H w) : ∀ {f i tp : Nat} {c : List Value} {el : TypeId},nowB H f i=some (c,el,tp) →
  Chain H i tp∧∃ p,θ i=some p∧p.rw=true∧Cont P θ w p ⟨c⟩ el
 | 0,_,_,_,_,h=>by simp[nowB] at h
 | f+1,i,tp,c,el,h=>by
  simp only[nowB] at h
  split at h
  ·rename_i c0 el0 hg
   cases h
   obtain⟨p,hp,c',el',fz,h1,h2,h3,h4⟩:=hr.obj i _ hg rfl
   obtain⟨rfl,h5,h6,h7⟩:=h3 rfl
   exact⟨.tip hg rfl,p,hp,h2,c',fz,h1,h5,h6,h7,h4⟩
  ·rename_i c0 el0 k hg
   split at h
   ·rename_i ck ek tp0 hk
    split at h
    ·rename_i hc
     cases h
     obtain⟨rfl,hpre⟩:=hc
     obtain⟨h1,pk0,h2,h3,h4⟩:=now_ok hr hk
     obtain⟨ow,hown⟩:=hr.own
     obtain⟨p,pk,a1,a2,a3,a4,a5⟩:=(hown.len _ _ _ _ hg).2.2 h1.val
     rw[h2] at a2;cases a2
     refine⟨.step hg h1,p,a1,a3,?_⟩
     rcases a5 with⟨b1,b2,b3,b4⟩|⟨_,b2⟩
     ·obtain⟨c',fz,d1,d2,d3,d4,d5⟩:=h4
      refine⟨c',fz,by rw[b1];exact d1,d2,by rw[← b3];exact d3,by rw[← b4];exact d4,fun j v hv=>?_⟩
      have hv' : ck[j]?=some v:=preB_get hpre j v (by simpa using hv)
      rw[← b2]
      exact d5 j v (by simpa using hv')
     ·exact b2
    ·cases h
   ·cases h
  ·cases h
theorem Rel.cont {P : Program} {θ : Th} {H : Heap} {w : World} (hr : Rel P θ H w) {i : Nat} {p : Pl} {cd : Array Value} {el : TypeId} (hcd : H.cellsAt i=some (cd,el,true)) (hp : θ i=some p) : p.rw=true∧Chain H i i∧Cont P θ w p cd el:=by
 obtain⟨hg,q,hq,cs',el',fz,hw,hrw,hfz,hcells⟩:=hr.cells hcd
 rw[hp] at hq;cases hq
 obtain⟨rfl,hth,hsz',hst'⟩:=hfz rfl
 exact⟨hrw,.tip hg rfl,cs',fz,hw,hth,hsz',hst',hcells⟩
theorem lend_ok {P : Program} {θ : Th} {H : Heap} {w : World} (hr : Rel P θ H w) {sType xType ty e e2 : TypeId} {ie : TypeInfo} {z : Value} {n m c c' cb : Nat} {b : Option Addr} {x' : Value} {new cd : Array Value} {i tp : Nat} {p : Pl}
  (hus : P.underlying sType=some (.slice e)) (hux : P.underlying xType=some (.slice e2)) (hie : P.info? e=some ie) (hz : ie.zero=some z) (hlen : ∀ w,(Builtin.lenOf x').run P w=.ok m w)
  (hnew : xsource H ie.size m b=some new) (hx : VR θ (.slice b m cb) x') (g1 : new.toList.all (fun y=>y.oneCell' && notTop y)=true) (g3 : z.cells.size=ie.size) (g5 : (2*(n+m)+256)*ie.bytes≤2 ^ 48) (g6 : n+m≤2 ^ 48)
  (hp : θ i=some p) (hrw : p.rw=true) (hch : Chain H i tp) (hct : Cont P θ w p cd e) (hb : n*ie.size≤cd.size) (hin0 : ¬ n+m≤c) (hs : c'=c∨p.base+0+c'*p.st≤p.sz) :
  NewOk P θ w (Builtin.append_ #[sType,xType] ty #[.slice (some ⟨p.blk,p.base+0,none⟩) n c',x']) (.slice (some ⟨H.next,0,none⟩) (n+m) (n+m))
   (((H.set tp .dead).set i (.lent (cd.extract 0 (n*ie.size)) e H.next)).alloc (.cells (cd.extract 0 (n*ie.size)++new) e true)):=by
 have hst : P.cellsOf e=ie.size:=by simp[Program.cellsOf,hie]
 obtain⟨cs',fz,hw,hth,hsz',hst',hcells⟩:=hct
 have hpb:=(hr.dom i p hp).2
 have hb0 : 0+n*ie.size≤cd.size:=by omega
 have hold:=extract_lead hcells hb0
 have hcx : Cont P θ w p (cd.extract 0 (n*ie.size)) e:=by
  refine⟨cs',fz,hw,hth,hsz',hst',fun k v hk=>hcells k v ?_⟩
  rw[Array.getElem?_extract] at hk
  split at hk
  ·simpa using hk
  ·cases hk
 by_cases hfit : n+m≤c'
 ·-- in place
  obtain⟨new',hn1,hn2,hn3⟩:=xsource_ok hr hnew hx (P:=P)
  have hroom : p.base+0+c'*p.st≤p.sz:=by
   rcases hs with e|e
   ·omega
   ·exact e
  have hmul : (n+m)*ie.size≤c'*p.st:=by rw[hst',hst];exact Nat.mul_le_mul_right _ hfit
  rw[Nat.add_mul] at hmul
  have hnz : new'.size=m*ie.size:=by rw[← hn2.1];exact hn3
  have hone : ∀ y∈new'.toList,y.oneCell'=true:=by
   intro y hy
   obtain⟨k,hk⟩:=Array.getElem?_of_mem (Array.mem_toList_iff.1 hy)
   obtain⟨hk1,hk2⟩:=Array.getElem?_eq_some_iff.1 hk
   have hk3 : k<new.size:=by rw[hn2.1];exact hk1
   have hx0 : new[k]?=some new[k]:=Array.getElem?_eq_getElem hk3
   have:=List.all_eq_true.1 g1 new[k] (Array.mem_toList_iff.2 (Array.getElem_mem _))
   simp only[Bool.and_eq_true] at this
   exact oneCell_VR (hn2.2 k _ _ hx0 hk) this.1 this.2
  obtain⟨w',e1,e2,e3,e4,e5,e6,e7⟩:=run_storeCells (P:=P) (p.base+0+n*ie.size) new'.toList 0 cs' w hw hth hone (by simp[hnz];omega)
  have hrun:=run_append_in (ty:=ty) (a:=⟨p.blk,p.base+0,none⟩) (n:=n) (c':=c') hus hux hie (hlen w) hn1 hfit (w':=w') (by rw[addr_add];exact e1)
  have ho : OR P (Th.put θ H.next p) w' p (.cells (cd.extract 0 (n*ie.size)++new) e true):=by
   refine⟨_,_,_,e4,hrw,fun _=>⟨rfl,by rw[setCells_size];exact hth,by rw[setCells_size];exact hsz',hst'⟩,?_⟩
   intro k v hk
   have hls : new'.toList.length=m*ie.size:=by simpa using hnz
   have hes : (cd.extract 0 (n*ie.size)).size=n*ie.size:=by simp;omega
   rw[Array.getElem?_append,hes] at hk
   rw[setCells_get _ _ _ _ (by rw[hls];omega),hls]
   by_cases hkn : k<n*ie.size
   ·rw[if_pos hkn] at hk
    rw[if_neg (by omega)]
    rw[Array.getElem?_extract] at hk
    split at hk
    ·obtain⟨v',hv',hvr⟩:=hcells k v (by simpa using hk)
     exact⟨v',hv',hvr.ext (Th.ext_put hr.fresh)⟩
    ·cases hk
   ·rw[if_neg hkn] at hk
    obtain⟨v',hv',hvr⟩:=hn2.get hk
    have hlt:=(Array.getElem?_eq_some_iff.1 hk).1
    rw[if_pos (by omega)]
    refine⟨v',?_,hvr.ext (Th.ext_put hr.fresh)⟩
    rw[show p.base+k-(p.base+0+n*ie.size+0)=k-n*ie.size by omega]
    simpa using hv'
  obtain⟨q1,q2⟩:=hr.lend (p':=p) (w':=w') hp hrw hch hrw (by omega) (by omega) (fun b _ hb=>e3 b hb) (.inl ⟨rfl,rfl,rfl,rfl⟩) e5 e6 e7 rfl ho
  exact⟨_,w',_,hrun,q2,q1,VR.slice (p:=p) (o:=0) (Th.put_same _ _ _) (Nat.le_refl _) hfit (fun _=>.inr hroom)⟩
 ·obtain⟨newd,hd1,hd2,hd3⟩:=xsource_ok hr.drew hnew hx (P:=P)
  have hw' : (w.drew).heap[p.blk]?=some (.cells cs' e fz):=hw
  have hld : (loadCells ⟨p.blk,p.base+0,none⟩ (n*ie.size)).run P w.drew=.ok (cs'.extract (p.base+0) (p.base+0+n*ie.size)) w.drew:=by
   by_cases h0 : n*ie.size=0
   ·rw[h0];simp[loadCells,loadCellsFrom];omega
   ·exact run_loadCells hw' _ _ (window hcells hb0 h0).1
  obtain⟨cap,hc1,hc2⟩:=run_append_out (ty:=ty) (base:=some ⟨p.blk,p.base+0,none⟩) (n:=n) (c':=c') (w:=w) hus hux hie hz hlen
   (by simp only[Builtin.firstCells];exact hld) hd1 hfit g5 g6
  have hr0' : Rel P θ H w.drew:=hr.drew
  have hsz : (cd.extract 0 (0+n*ie.size)).size=n*ie.size:=by simp;omega
  have ho : OR P (Th.put θ H.next (Pl.new P w e (cap*ie.size))) (w.drew.alloc (.cells (cs'.extract (p.base+0) (p.base+0+n*ie.size)++newd++Builtin.zeroCells z.cells (cap-(n+m))) e)) (Pl.new P w e (cap*ie.size))
    (.cells (cd.extract 0 (n*ie.size)++new) e true):=by
   refine⟨_,_,_,alloc_at _ _,rfl,fun _=>⟨rfl,.inl rfl,?_,rfl⟩,?_⟩
   ·simp only[Array.size_append,zeroCells_size,← hold.1,← hd2.1,hsz,hd3,g3,Pl.new]
    rw[← Nat.add_mul,← Nat.add_mul];congr 1;omega
   ·intro k v hk
    obtain⟨v',hv',hvr⟩:=(hold.append hd2).get (show (cd.extract 0 (0+n*ie.size)++new)[k]?=some v by rw[Nat.zero_add];exact hk)
    exact⟨v',by simp only[Pl.new,Nat.zero_add];exact append_lead hv',hvr.ext (Th.ext_put hr0'.fresh)⟩
  obtain⟨q1,q2⟩:=hr0'.lend (p':=Pl.new P w e (cap*ie.size)) (w':=w.drew.alloc (.cells (cs'.extract (p.base+0) (p.base+0+n*ie.size)++newd++Builtin.zeroCells z.cells (cap-(n+m))) e)) (tp:=tp) (c:=cd.extract 0 (n*ie.size)) (el:=e) hp hrw hch rfl (by simp) (by simp[Pl.new]) (fun b hb _=>heap_alloc_lt _ _ b hb)
   (.inr ⟨Nat.le_refl _,heap_alloc_lt _ _ _ hpb,hcx.ext (Ext.refl θ) rfl⟩) rfl rfl rfl rfl ho
  refine⟨_,_,_,hc2,Stp.of_drew q2,q1,?_⟩
  refine VR.slice (p:=Pl.new P w e (cap*ie.size)) (o:=0) (Th.put_same _ _ _) (Nat.le_refl _) hc1 (fun _=>.inr ?_)
  simp[Pl.new,hst]
theorem xappend_ok {P : Program} {θ : Th} {H H' : Heap} {w : World} (hr : Rel P θ H w) {sType xType ty : TypeId} {s s' x x' r : Value}
  (h : xappend P H sType xType s x=some (r,H')) (hs : VR θ s s') (hx : VR θ x x') :
  NewOk P θ w (Builtin.append_ #[sType,xType] ty #[s',x']) r H':=by
 unfold xappend at h
 split at h
 ·rename_i e e2 a n c b m cb hus hux
  have hlen : ∀ w,(Builtin.lenOf x').run P w=.ok m w:=by cases hx<;>intro w<;>simp[Builtin.lenOf]
  split at h
  ·rename_i ie hie
   have hst : P.cellsOf e=ie.size:=by simp[Program.cellsOf,hie]
   split at h
   ·rename_i hm
    subst hm
    have hfc : ∀ size w,(Builtin.firstCells size 0 x').run P w=.ok #[] w:=by
     intro size w
     cases hx<;>simp[Builtin.firstCells,loadCells,loadCellsFrom]
    have hin : ∀ (a' : Addr) (c' : Nat),n≤c'→(Builtin.append_ #[sType,xType] ty #[.slice (some a') n c',x']).run P w=.ok (.slice (some a') n c') w:=by
     intro a' c' hle
     have:=run_append_in (ty:=ty) (a:=a') (n:=n) (c':=c') hus hux hie (hlen w) (hfc ie.size w) (by omega) (w':=w) (by simp[storeCells])
     simpa using this
    cases hs with
    | snil n c=>
     simp only at h
     split at h
     ·rename_i hn0
      subst hn0
      cases h
      refine⟨.slice none 0 c,w,θ,?_,Stp.refl _ _,hr,.snil _ _⟩
      simp[Builtin.append_,run_underlying hus,run_underlying hux,run_sizeOf' hie,hlen,hfc]
     ·cases h
    | slice hp hn hc hsz=>
     simp only at h
     cases h
     exact⟨_,w,θ,hin _ _ (by omega),Stp.refl _ _,hr,.slice hp hn hc hsz⟩
    | sempty i o s a c=>
     simp only at h
     cases h
     exact⟨_,w,θ,hin _ _ (by omega),Stp.refl _ _,hr,.sempty i o s a c⟩
   ·rename_i hm
    split at h
    ·rename_i z new hz hnew
     split at h
     ·rename_i hcond
      obtain⟨g1,g3,g5,g6⟩:=hcond
      have hsrc:=fun (w : World) (hr : Rel P θ H w)=>xsource_ok hr hnew hx (P:=P)
      obtain⟨newd,hd1,hd2,hd3⟩:=hsrc w.drew hr.drew
      -- a new block, whatever the old one was
      have fresh : ∀ (H0 : Heap) (old old' : Array Value) (cap : Nat),Rel P θ H0 w→H0.next=H.next→AR θ old old'→old.size=n*ie.size→n+m≤cap →
        ∃ θ',Rel P θ' (H0.alloc (.cells (old++new) e true)) (w.drew.alloc (.cells (old'++newd++Builtin.zeroCells z.cells (cap-(n+m))) e)) ∧
         Stp θ w θ' (w.drew.alloc (.cells (old'++newd++Builtin.zeroCells z.cells (cap-(n+m))) e)) ∧
         VR θ' (.slice (some ⟨H.next,0,none⟩) (n+m) (n+m)) (.slice (some ⟨w.heap.size,0,none⟩) (n+m) cap):=by
       intro H0 old old' cap hr0 hnx hao hsz hcap
       have hr0' : Rel P θ H0 w.drew:=hr0.drew
       have ho : OR P (Th.put θ H0.next (Pl.new P w e (cap*ie.size))) (w.drew.alloc (.cells (old'++newd++Builtin.zeroCells z.cells (cap-(n+m))) e)) (Pl.new P w e (cap*ie.size))
         (.cells (old++new) e true):=by
        refine⟨_,_,_,alloc_at _ _,rfl,fun _=>⟨rfl,.inl rfl,?_,rfl⟩,?_⟩
        ·simp only[Array.size_append,zeroCells_size,← hao.1,← hd2.1,hsz,hd3,g3,Pl.new]
         rw[← Nat.add_mul,← Nat.add_mul];congr 1;omega
        ·intro k v hk
         obtain⟨v',hv',hvr⟩:=(hao.append hd2).get hk
         exact⟨v',by simp only[Pl.new,Nat.zero_add];exact append_lead hv',hvr.ext (Th.ext_put hr0'.fresh)⟩
       obtain⟨q1,q2⟩:=hr0'.alloc _ _ (Pl.new P w e (cap*ie.size)) rfl rfl ho
       refine⟨_,q1,Stp.of_drew q2,?_⟩
       rw[← hnx]
       refine VR.slice (p:=Pl.new P w e (cap*ie.size)) (o:=0) (Th.put_same _ _ _) (Nat.le_refl _) hcap (fun _=>.inr ?_)
       simp[Pl.new,hst]
      cases hs with
      | snil n c=>
       simp only at h
       split at h
       ·rename_i hn0
        obtain⟨rfl,rfl⟩:=hn0
        cases h
        obtain⟨cap,hc1,hc2⟩:=run_append_out (ty:=ty) (base:=none) (n:=0) (c':=0) (old:=#[]) (w:=w) hus hux hie hz hlen (by simp[Builtin.firstCells]) hd1 (by omega) (by simpa using g5) (by simpa using g6)
        obtain⟨θ',q1,q2,q3⟩:=fresh H #[] #[] cap hr rfl AR.nil (by simp) hc1
        refine⟨_,_,θ',hc2,q2,?_,?_⟩
        ·simpa using q1
        ·simpa using q3
       ·cases h
      | sempty i o s a c=>simp at h
      | slice hp hn hc hsz=>
       rename_i i o c' p
       simp only at h
       split at h
       ·rename_i cd el hcd
        split at h
        ·rename_i hel
         obtain⟨rfl,hb,hcb,hcz⟩:=hel
         by_cases hin0 : n+m≤c
         ·rw[if_pos hin0] at h
          cases h
          obtain⟨hg,q,hq,cs',el',fz,hw,hrw,hfz,hcells⟩:=hr.cells hcd
          rw[hp] at hq;cases hq
          obtain⟨rfl,hth,hsz',hst'⟩:=hfz rfl
          have hfit : n+m≤c':=Nat.le_trans hin0 hc
          obtain⟨new',hn1,hn2,hn3⟩:=hsrc w hr
          have hcap : p.base+o+c*ie.size≤cs'.size:=(window hcells hcb (hcz hin0)).1
          have hmul : (n+m)*ie.size≤c*ie.size:=Nat.mul_le_mul_right _ hin0
          rw[Nat.add_mul] at hmul
          have hnz : new'.size=m*ie.size:=by rw[← hn2.1];exact hn3
          have hone : ∀ y∈new'.toList,y.oneCell'=true:=by
           intro y hy
           obtain⟨k,hk⟩:=Array.getElem?_of_mem (Array.mem_toList_iff.1 hy)
           obtain⟨hk1,hk2⟩:=Array.getElem?_eq_some_iff.1 hk
           have hk3 : k<new.size:=by rw[hn2.1];exact hk1
           have hx0 : new[k]?=some new[k]:=Array.getElem?_eq_getElem hk3
           have:=List.all_eq_true.1 g1 new[k] (Array.mem_toList_iff.2 (Array.getElem_mem _))
           simp only[Bool.and_eq_true] at this
           exact oneCell_VR (hn2.2 k _ _ hx0 hk) this.1 this.2
          obtain⟨w',e1,e2,e3,e4,e5,e6,e7⟩:=run_storeCells (P:=P) (p.base+o+n*ie.size) new'.toList 0 cs' w hw hth hone (by simp[hnz];omega)
          have hrun:=run_append_in (ty:=ty) (a:=⟨p.blk,p.base+o,none⟩) (n:=n) (c':=c') hus hux hie (hlen w) hn1 hfit (w':=w') (by rw[addr_add];exact e1)
          obtain⟨q1,q2⟩:=hr.write (o':=.cells (setCells new.toList (o+n*ie.size) cd) el' true) hg rfl hp hrw e2 e3 e5 e6 e7 (by
           refine⟨_,_,_,e4,hrw,fun _=>⟨rfl,by rw[setCells_size];exact hth,by rw[setCells_size];exact hsz',hst'⟩,?_⟩
           have hsw:=setCells_window new.toList new'.toList (o+n*ie.size) p.base cd cs' (by simpa using hn2.1) (fun i a b ha hb=>hn2.2 i a b (by simpa using ha) (by simpa using hb)) (by simp[hn3];omega) hcells
           rw[show p.base+(o+n*ie.size)=p.base+o+n*ie.size by omega] at hsw
           exact hsw)
          exact⟨_,w',θ,hrun,q2,q1,VR.slice hp hin0 hc hsz⟩
         rw[if_neg hin0] at h
         cases h
         by_cases hlo : o=0∧n*ie.size≤16
         ·obtain⟨rfl,hsm⟩:=hlo
          obtain⟨k1,k2,k3⟩:=hr.cont hcd hp
          have:=lend_ok hr (ty:=ty) hus hux hie hz hlen hnew hx g1 g3 g5 g6 hp k1 k2 k3 (n:=n) (c:=c) (c':=c') (by omega) hin0 (hsz k1)
          have e0 : (H.set i .dead).set i (.lent (cd.extract 0 (n*ie.size)) el H.next)=H.set i (lentO 0 (n*ie.size) cd el H.next):=by
           unfold lentO
           rw[if_pos ⟨rfl,hsm⟩]
           exact Heap.set_set _ _ _ _
          rw[e0] at this
          simp only[Nat.zero_add]
          exact this
         have elo : lentO o (n*ie.size) cd el H.next=.dead:=by unfold lentO;rw[if_neg hlo]
         rw[elo]
         obtain⟨hg,q,hq,cs',el',fz,hw,hrw,hfz,hcells⟩:=hr.cells hcd
         rw[hp] at hq;cases hq
         obtain⟨rfl,hth,hsz',hst'⟩:=hfz rfl
         have hold:=extract_lead hcells hb
         by_cases hfit : n+m≤c'
         ·-- in place
          obtain⟨new',hn1,hn2,hn3⟩:=hsrc w hr
          have hroom : p.base+o+c'*p.st≤p.sz:=by
           rcases hsz hrw with e|e
           ·subst e
            have:=(window hcells hcb (hcz hfit)).1
            rw[← hsz',hst',hst];exact this
           ·exact e
          have hmul : (n+m)*ie.size≤c'*p.st:=by rw[hst',hst];exact Nat.mul_le_mul_right _ hfit
          rw[Nat.add_mul] at hmul
          have hnz : new'.size=m*ie.size:=by rw[← hn2.1];exact hn3
          have hone : ∀ y∈new'.toList,y.oneCell'=true:=by
           intro y hy
           obtain⟨k,hk⟩:=Array.getElem?_of_mem (Array.mem_toList_iff.1 hy)
           obtain⟨hk1,hk2⟩:=Array.getElem?_eq_some_iff.1 hk
           have hk3 : k<new.size:=by rw[hn2.1];exact hk1
           have hx0 : new[k]?=some new[k]:=Array.getElem?_eq_getElem hk3
           have:=List.all_eq_true.1 g1 new[k] (Array.mem_toList_iff.2 (Array.getElem_mem _))
           simp only[Bool.and_eq_true] at this
           exact oneCell_VR (hn2.2 k _ _ hx0 hk) this.1 this.2
          obtain⟨w',e1,e2,e3,e4,e5,e6,e7⟩:=run_storeCells (P:=P) (p.base+o+n*ie.size) new'.toList 0 cs' w hw hth hone (by simp[hnz];omega)
          have hrun:=run_append_in (ty:=ty) (a:=⟨p.blk,p.base+o,none⟩) (n:=n) (c':=c') hus hux hie (hlen w) hn1 hfit (w':=w') (by rw[addr_add];exact e1)
          have ho : OR P (Th.put θ H.next { p with base:=p.base+o }) w' { p with base:=p.base+o } (.cells (cd.extract o (o+n*ie.size)++new) el' true):=by
           refine⟨_,_,_,e4,hrw,fun _=>⟨rfl,by rw[setCells_size];exact hth,by rw[setCells_size];exact hsz',hst'⟩,?_⟩
           intro k v hk
           have hls : new'.toList.length=m*ie.size:=by simpa using hnz
           have hes : (cd.extract o (o+n*ie.size)).size=n*ie.size:=by simp;omega
           rw[Array.getElem?_append,hes] at hk
           rw[setCells_get _ _ _ _ (by rw[hls];omega),hls]
           by_cases hkn : k<n*ie.size
           ·rw[if_pos hkn] at hk
            rw[if_neg (by simp only;omega)]
            obtain⟨v',hv',hvr⟩:=window0 hcells hb k v hk
            exact⟨v',hv',hvr.ext (Th.ext_put hr.fresh)⟩
           ·rw[if_neg hkn] at hk
            obtain⟨v',hv',hvr⟩:=hn2.get hk
            have hlt:=(Array.getElem?_eq_some_iff.1 hk).1
            rw[if_pos (by simp only;omega)]
            refine⟨v',?_,hvr.ext (Th.ext_put hr.fresh)⟩
            rw[show p.base+o+k-(p.base+o+n*ie.size+0)=k-n*ie.size by omega]
            simpa using hv'
          obtain⟨q1,q2⟩:=hr.takeover (p':={ p with base:=p.base+o }) hg rfl hp hrw rfl hrw e2 e3 e5 e6 e7 ho
          refine⟨_,w',_,hrun,q2,q1,?_⟩
          exact VR.slice (p:={ p with base:=p.base+o }) (o:=0) (Th.put_same _ _ _) (Nat.le_refl _) hfit (fun _=>.inr (by simpa using hroom))
         ·have hw' : (w.drew).heap[p.blk]?=some (.cells cs' el' fz):=hw
          have hld : (loadCells ⟨p.blk,p.base+o,none⟩ (n*ie.size)).run P w.drew=.ok (cs'.extract (p.base+o) (p.base+o+n*ie.size)) w.drew:=by
           by_cases h0 : n*ie.size=0
           ·rw[h0];simp[loadCells,loadCellsFrom];omega
           ·exact run_loadCells hw' _ _ (window hcells hb h0).1
          obtain⟨cap,hc1,hc2⟩:=run_append_out (ty:=ty) (base:=some ⟨p.blk,p.base+o,none⟩) (n:=n) (c':=c') (w:=w) hus hux hie hz hlen
           (by simp only[Builtin.firstCells];exact hld) hd1 hfit g5 g6
          obtain⟨θ',q1,q2,q3⟩:=fresh (H.set i .dead) _ _ cap (hr.kill i) rfl hold (by simp;omega) hc1
          exact⟨_,_,θ',hc2,q2,q1,q3⟩
        ·cases h
       ·cases h
       ·split at h
        ·rename_i cd el tp hnow
         split at h
         ·rename_i hcc
          obtain⟨rfl,rfl,hb,hin0⟩:=hcc
          cases h
          obtain⟨k1,q,hq,k2,k3⟩:=now_ok hr hnow
          rw[hp] at hq;cases hq
          exact lend_ok hr (ty:=ty) hus hux hie hz hlen hnew hx g1 g3 g5 g6 hp k2 k1 k3 (by simpa using hb) (by omega) (hsz k2)
         ·cases h
        ·cases h
     ·cases h
    ·cases h
  ·cases h
 ·cases h
def xclear (P : Program) (H : Heap) (t : TypeId) (x : Value) : Option (Value×Heap):=
 match P.underlying t,x with
 | some (.slice _),.slice none _ _=>some (.tuple #[],H)
 | some (.slice e),.slice (some ⟨i,o,none⟩) n _=>if n=0 then some (.tuple #[],H) else match P.info? e with
  | some ie=>match ie.zero,H.cellsAt i with
   | some z,some (cd,el,true)=>
    if z.cells.toList.all atomV=true∧z.cells.size=ie.size∧ie.size≠0∧o+n*ie.size≤cd.size then some (.tuple #[],H.set i (.cells (setCells (zeros z.cells (n*ie.size)).toList o cd) el true)) else none
   | _,_=>none
  | none=>none
 | some (.slice _),.slice (some ⟨_,_,some _⟩) 0 _=>some (.tuple #[],H)
 | _,_=>none
theorem xclear_ok {P : Program} {θ : Th} {H H' : Heap} {w : World} (hr : Rel P θ H w) {t ty : TypeId} {x x' r : Value} (h : xclear P H t x=some (r,H')) (hx : VR θ x x') : NewOk P θ w (Builtin.clear_ #[t] ty #[x']) r H':=by
 have tup : VR θ (.tuple #[]) (.tuple #[]):=.tuple rfl (fun i v w hv=>by simp at hv)
 unfold xclear at h
 split at h
 ·rename_i e _ _ hu
  cases h
  cases hx
  exact⟨.tuple #[],w,θ,by simp[Builtin.clear_,run_underlying hu],Stp.refl _ _,hr,tup⟩
 ·rename_i e i o n c hu
  cases hx with
  | slice hp hn hc hsz=>
   rename_i c' p
   split at h
   ·rename_i hn0
    subst hn0
    cases h
    exact⟨.tuple #[],w,θ,by simp[Builtin.clear_,run_underlying hu],Stp.refl _ _,hr,tup⟩
   ·rename_i hn0
    split at h
    ·rename_i ie hie
     split at h
     ·rename_i z cd el hz hcd
      split at h
      ·rename_i hcond
       obtain⟨h1,h2,h3,h4⟩:=hcond
       cases h
       obtain⟨hg,q,hq,cs',el',fz,hw,hrw,hfz,hcells⟩:=hr.cells hcd
       rw[hp] at hq;cases hq
       obtain⟨rfl,hth,hsz',hst'⟩:=hfz rfl
       have hnz : n*ie.size≠0:=Nat.mul_ne_zero hn0 h3
       have hlen : (zeros z.cells (n*ie.size)).size=n*ie.size:=by simp[zeros]
       obtain⟨hlast,_⟩:=window hcells h4 hnz
       have hall : ∀ y∈(zeros z.cells (n*ie.size)).toList,atomV y=true:=by
        intro y hy
        simp only[zeros,Array.toList_map,List.mem_map] at hy
        obtain⟨i,_,rfl⟩:=hy
        have hlt : i%z.cells.size<z.cells.size:=Nat.mod_lt _ (by omega)
        rw[getElem!_pos z.cells _ hlt]
        exact List.all_eq_true.1 h1 _ (Array.mem_toList_iff.2 (Array.getElem_mem _))
       have hone : ∀ y∈(zeros z.cells (n*ie.size)).toList,y.oneCell'=true:=by
        intro y hy
        have:=hall y hy
        cases y<;>simp_all [atomV,Value.oneCell']
       obtain⟨w',e1,e2,e3,e4,e5,e6,e7⟩:=run_storeCells (P:=P) (p.base+o) (zeros z.cells (n*ie.size)).toList 0 cs' w hw hth hone (by simp[hlen];omega)
       have hzc : Builtin.zeroCells z.cells n=zeros z.cells (n*ie.size):=by unfold Builtin.zeroCells zeros;rw[h2]
       have hrun : (Builtin.clear_ #[t] ty #[.slice (some ⟨p.blk,p.base+o,none⟩) n c']).run P w=.ok (.tuple #[]) w':=by
        obtain⟨m,rfl⟩ : ∃ m,n=m+1:=⟨n-1,by omega⟩
        simp[Builtin.clear_,run_underlying hu,run_zeroValue' hie hz,hzc,e1]
       have har:=zeros_rel (θ:=θ) h1 (n*ie.size) (by omega)
       obtain⟨q1,q2⟩:=hr.write (o':=.cells (setCells (zeros z.cells (n*ie.size)).toList o cd) el' true) hg rfl hp hrw e2 e3 e5 e6 e7
        ⟨_,_,_,e4,hrw,fun _=>⟨rfl,by rw[setCells_size];exact hth,by rw[setCells_size];exact hsz',hst'⟩,
         setCells_window _ _ o p.base cd cs' rfl (fun i a b ha hb=>har.2 i a b (by simpa using ha) (by simpa using hb)) (by simpa [hlen] using h4) hcells⟩
       exact⟨_,w',θ,hrun,q2,q1,tup⟩
      ·cases h
     ·cases h
    ·cases h
 ·rename_i e i o s c hu
  cases h
  cases hx with
  | sempty i o s a c=>exact⟨.tuple #[],w,θ,by simp[Builtin.clear_,run_underlying hu],Stp.refl _ _,hr,tup⟩
 ·cases h
def xcopy (P : Program) (H : Heap) (t : TypeId) (d s : Value) : Option (Value×Heap):=
 match P.underlying t,d,s with
 | some (.slice e),.slice db dn _,.slice sb m _=>
  match P.info? e with
  | some ie=>
   if min m dn=0 then some (.int .i64 (.ofNat 0),H)
   else match xsource H ie.size (min m dn) sb,db with
    | some new,some ⟨i,o,none⟩=>match H.cellsAt i with
     | some (cd,el,true)=>
      if new.toList.all (fun y=>y.oneCell' && notTop y)=true∧ie.size≠0∧o+min m dn*ie.size≤cd.size then some (.int .i64 (.ofNat (min m dn)),H.set i (.cells (setCells new.toList o cd) el true)) else none
     | _=>none
    | _,_=>none
  | none=>none
 | _,_,_=>none
theorem run_copy {P : Program} {w w' : World} {t u ty : TypeId} {e : TypeId} {ie : TypeInfo} {a : Addr} {m dn dc : Nat} {s' : Value} {new : Array Value} (hu : P.underlying t=some (.slice e)) (hie : P.info? e=some ie)
  (hlen : (Builtin.lenOf s').run P w=.ok m w) (hnew : (Builtin.firstCells ie.size (min m dn) s').run P w=.ok new w) (hst : (storeCells a new.toList).run P w=.ok () w') :
  (Builtin.copy_ #[t,u] ty #[.slice (some a) dn dc,s']).run P w=.ok (goInt ((min m dn : Nat) : Int)) w':=by
 have hm : Nat.min m dn=min m dn:=rfl
 simp[Builtin.copy_,run_underlying hu,run_sizeOf' hie,hlen,hm,hnew,hst]
theorem xcopy_ok {P : Program} {θ : Th} {H H' : Heap} {w : World} (hr : Rel P θ H w) {t u ty : TypeId} {d d' s s' r : Value} (h : xcopy P H t d s=some (r,H')) (hd : VR θ d d') (hs : VR θ s s') : NewOk P θ w (Builtin.copy_ #[t,u] ty #[d',s']) r H':=by
 unfold xcopy at h
 split at h
 ·rename_i e db dn dc sb m sc hu
  have hlen : ∀ w,(Builtin.lenOf s').run P w=.ok m w:=by cases hs<;>intro w<;>simp[Builtin.lenOf]
  split at h
  ·rename_i ie hie
   split at h
   ·rename_i h0
    cases h
    have hfc : ∀ size w,(Builtin.firstCells size 0 s').run P w=.ok #[] w:=by
     intro size w
     cases hs<;>simp[Builtin.firstCells,loadCells,loadCellsFrom]
    have hin : ∀ (a' : Addr) (c' : Nat),(Builtin.copy_ #[t,u] ty #[.slice (some a') dn c',s']).run P w=.ok (.int .i64 (.ofNat 0)) w:=by
     intro a' c'
     have:=run_copy (u:=u) (ty:=ty) (a:=a') (dc:=c') (dn:=dn) hu hie (hlen w) (by rw[h0];exact hfc ie.size w) (w':=w) (by simp[storeCells])
     rw[h0] at this
     exact this
    cases hd with
    | snil n c=>
     have hm : Nat.min m dn=0:=h0
     refine⟨.int .i64 (.ofNat 0),w,θ,?_,Stp.refl _ _,hr,.int _ _⟩
     simp[Builtin.copy_,run_underlying hu,run_sizeOf' hie,hlen,hm,hfc,goInt]
    | slice hp hn hc hsz=>exact⟨_,w,θ,hin _ _,Stp.refl _ _,hr,.int _ _⟩
    | sempty i o q a c=>exact⟨_,w,θ,hin _ _,Stp.refl _ _,hr,.int _ _⟩
   ·rename_i h0
    split at h
    ·rename_i new i o hnew
     split at h
     ·rename_i cd el hcd
      split at h
      ·rename_i hcond
       obtain⟨g1,g2,g3⟩:=hcond
       cases h
       have hsrc : ∃ new',(Builtin.firstCells ie.size (min m dn) s').run P w=.ok new' w∧AR θ new new'∧new.size=min m dn*ie.size:=by
        cases hs with
        | snil=>simp[xsource] at hnew
        | sempty=>simp[xsource] at hnew
        | slice hp hn hc hsz=>
         obtain⟨new',k1,k2⟩:=xsource_ok (c:=sc) hr hnew (.slice (n:=min m dn) hp (by omega) hc hsz)
         exact⟨new',by simpa only[Builtin.firstCells] using k1,k2⟩
       obtain⟨new',hn1,hn2,hn3⟩:=hsrc
       cases hd with
       | slice hp hn hc hsz=>
        rename_i c' p
        obtain⟨hg,q,hq,cs',el',fz,hw,hrw,hfz,hcells⟩:=hr.cells hcd
        rw[hp] at hq;cases hq
        obtain⟨rfl,hth,hsz',hst'⟩:=hfz rfl
        have hnz : new'.size=min m dn*ie.size:=by rw[← hn2.1];exact hn3
        have hmz : min m dn*ie.size≠0:=Nat.mul_ne_zero h0 g2
        have hcap : p.base+o+min m dn*ie.size≤cs'.size:=(window hcells g3 hmz).1
        have hone : ∀ y∈new'.toList,y.oneCell'=true:=by
         intro y hy
         obtain⟨k,hk⟩:=Array.getElem?_of_mem (Array.mem_toList_iff.1 hy)
         obtain⟨hk1,hk2⟩:=Array.getElem?_eq_some_iff.1 hk
         have hk3 : k<new.size:=by rw[hn2.1];exact hk1
         have hx0 : new[k]?=some new[k]:=Array.getElem?_eq_getElem hk3
         have:=List.all_eq_true.1 g1 new[k] (Array.mem_toList_iff.2 (Array.getElem_mem _))
         simp only[Bool.and_eq_true] at this
         exact oneCell_VR (hn2.2 k _ _ hx0 hk) this.1 this.2
        obtain⟨w',e1,e2,e3,e4,e5,e6,e7⟩:=run_storeCells (P:=P) (p.base+o) new'.toList 0 cs' w hw hth hone (by simp[hnz];omega)
        have hrun:=run_copy (u:=u) (ty:=ty) (dc:=c') hu hie (hlen w) hn1 e1
        obtain⟨q1,q2⟩:=hr.write (o':=.cells (setCells new.toList o cd) el' true) hg rfl hp hrw e2 e3 e5 e6 e7
         ⟨_,_,_,e4,hrw,fun _=>⟨rfl,by rw[setCells_size];exact hth,by rw[setCells_size];exact hsz',hst'⟩,
          setCells_window new.toList new'.toList o p.base cd cs' (by simpa using hn2.1) (fun i a b ha hb=>hn2.2 i a b (by simpa using ha) (by simpa using hb)) (by simp[hn3];omega) hcells⟩
        exact⟨_,w',θ,hrun,q2,q1,.int _ _⟩
      ·cases h
     ·cases h
    ·cases h
  ·cases h
 ·cases h
def smallEl (P : Program) (t : TypeId) : Bool:=match P.underlying t with
 | some (.slice e)=>match P.info? e with
  | some ie=>match ie.zero with
   | some z=>decide (ie.bytes≤1048576) && decide (z.cells.size=ie.size)
   | none=>false
  | none=>false
 | _=>false
def xappendMake (P : Program) (H : Heap) (t : TypeId) (s x : Value) : Option (Value×Heap):=
 match s,x with
 | .slice none 0 0,.int _ l=>if 1≤l∧l≤1048576∧smallEl P t=true then xmakeSlice P H t x x else none
 | _,_=>none
theorem xappendMake_ok {P : Program} {θ : Th} {H H' : Heap} {w : World} (hr : Rel P θ H w) {t u ty : TypeId} {kd : IntKind} {s s' x x' r : Value} (hu2 : P.underlying u=some (.int kd))
  (h : xappendMake P H t s x=some (r,H')) (hs : VR θ s s') (hx : VR θ x x') : NewOk P θ w (Builtin.append_ #[t,u] ty #[s',x']) r H':=by
 unfold xappendMake at h
 split at h
 ·rename_i k l
  split at h
  ·rename_i hc
   obtain⟨c1,c2,c3⟩:=hc
   cases hs
   cases hx
   unfold smallEl at c3
   unfold xmakeSlice at h
   cases hu : P.underlying t with
   | none=>simp[hu] at h
   | some d=>
    cases d<;>try (simp[hu] at h;done)
    rename_i e
    simp only[hu] at h c3
    split at h
    ·rename_i ie hie
     simp only[hie] at c3
     split at h
     ·rename_i z hz
      simp only[hz,Bool.and_eq_true,decide_eq_true_eq] at c3
      obtain⟨c3,c4⟩:=c3
      split at h
      ·rename_i hcond
       obtain⟨h1,h2,h3,h4,h5,h6,h7⟩:=hcond
       cases h
       have hst : P.cellsOf e=ie.size:=by simp[Program.cellsOf,hie]
       obtain⟨n,rfl⟩:=Int.eq_ofNat_of_zero_le h1
       have e1 : IntKind.i64.wrap (n : Int)=n:=wrap64_id h1 (by omega)
       have b1 : n*ie.bytes≤1048576*1048576:=Nat.mul_le_mul (by omega) c3
       have hw1 : ¬ ((n : Int)*(ie.bytes : Int) > 2 ^ 48):=by
        have : ((n : Int)*(ie.bytes : Int))=((n*ie.bytes : Nat) : Int):=by push_cast;rfl
        rw[this];omega
       have hw2 : ¬ (Builtin.nextslicecap n 0*ie.bytes > 2 ^ 48):=by
        have q1:=nextslicecap_le n 0 (by omega)
        have q2:=Nat.mul_le_mul_right ie.bytes q1
        have q3 : (2*n+256)*ie.bytes≤(2*1048576+256)*1048576:=Nat.mul_le_mul (by omega) c3
        omega
       have hn0 : ¬ (n*ie.size=0):=by
        intro hh
        rcases Nat.mul_eq_zero.1 hh with h|h<;>omega
       have hneg : ¬ ((n : Int)<0):=by omega
       have hn00 : n≠0:=by omega
       have hw1' : ¬ (281474976710656<(n : Int)*(ie.bytes : Int)):=by simpa using hw1
       have hw2' : ¬ (281474976710656<Builtin.nextslicecap n 0*ie.bytes):=by simpa using hw2
       have hbig : ¬ (9223372036854775807<(n : Int)):=by omega
       obtain⟨cap,hcap,hrun⟩ : ∃ cap,n≤cap∧(Builtin.append_ #[t,u] ty #[.slice none 0 0,.int k n]).run P w =
         .ok (.slice (some ⟨w.heap.size,0,none⟩) n cap) (w.drew.alloc (.cells (#[]++Builtin.zeroCells z.cells n++Builtin.zeroCells z.cells (cap-n)) e)):=by
        refine⟨Question.cut (.appendCap n 0 e) (w.tape w.drawn (.appendCap n 0 e)),by simp[Question.cut],?_⟩
        simp[Builtin.append_,run_underlying hu,run_underlying hu2,run_sizeOf' hie,asInt,asIntOf,e1,hneg,hw1',hn00,run_typeInfo' hie,run_zeroValue' hie hz,hw2',hn0,Question.forced,newRow,Builtin.firstCells]
        first|done|(intro hh;exact absurd hh hbig)
       have hr0' : Rel P θ H w.drew:=hr.drew
       have hsz : (#[]++Builtin.zeroCells z.cells n++Builtin.zeroCells z.cells (cap-n) : Array Value).size=cap*ie.size:=by
        simp only[Array.size_append,zeroCells_size,c4,Array.size_empty,Nat.zero_add]
        rw[← Nat.add_mul];congr 1;omega
       have ho : OR P (Th.put θ H.next (Pl.new P w e (cap*ie.size))) (w.drew.alloc (.cells (#[]++Builtin.zeroCells z.cells n++Builtin.zeroCells z.cells (cap-n)) e)) (Pl.new P w e (cap*ie.size))
         (.cells (zeros z.cells (n*ie.size)) e true):=by
        refine⟨_,_,_,alloc_at _ _,rfl,fun _=>⟨rfl,.inl rfl,?_,rfl⟩,?_⟩
        ·rw[hsz];rfl
        ·intro i v hi
         have hi' : (Builtin.zeroCells z.cells n)[i]?=some v:=by
          rw[← c4] at hi;exact hi
         have hv : VR (Th.put θ H.next (Pl.new P w e (cap*ie.size))) v v:=by
          obtain⟨v',hv',hr'⟩:=(zeros_rel (θ:=Th.put θ H.next (Pl.new P w e (cap*ie.size))) h5 (n*ie.size) h6).get hi
          rw[hi] at hv';cases hv';exact hr'
         refine⟨v,?_,hv⟩
         simp only[Pl.new,Nat.zero_add]
         refine append_lead ?_
         simpa using hi'
       obtain⟨q1,q2⟩:=hr0'.alloc _ _ (Pl.new P w e (cap*ie.size)) rfl rfl ho
       refine⟨_,_,_,hrun,Stp.of_drew q2,q1,?_⟩
       refine VR.slice (p:=Pl.new P w e (cap*ie.size)) (o:=0) (Th.put_same _ _ _) (Nat.le_refl _) (by simpa using hcap) (fun _=>.inr ?_)
       simp[Pl.new,hst]
      ·cases h
     ·cases h
    ·cases h
  ·cases h
 ·cases h
def xcap (P : Program) (t : TypeId) (x : Value) : Option Value:=
 match P.underlying t,x with
 | some (.slice _),.slice none _ c=>some (.int .i64 c)
 | _,_=>none
theorem xcap_ok {P : Program} {θ : Th} {w : World} {t ty : TypeId} {x x' v : Value} {ts : Array TypeId} {xs' : Array Value} (h : xcap P t x=some v)
  (hx : VR θ x x') (ht : ts[0]?=some t) (hxs : xs'[0]?=some x') : ∃ v',(Builtin.cap_ ts ty xs').run P w=.ok v' w∧VR θ v v':=by
 cases hu : P.underlying t with
 | none=>simp[xcap,hu] at h
 | some d=>
  cases d<;>try (simp[xcap,hu] at h;done)
  case slice=>
   cases hx<;>simp only[xcap,hu] at h<;>first|(cases h;done)|skip
   cases h
   exact⟨_,by simp[Builtin.cap_,ht,hxs,run_underlying hu,goInt],.int _ _⟩
end Go.Xe
