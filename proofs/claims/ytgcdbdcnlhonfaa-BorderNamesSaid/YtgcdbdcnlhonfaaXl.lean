/- An executable reading of the model's code over an abstract heap (part 12): a region that draws its order. Whatever order its edges allow, it comes to what one order comes to: new blocks and what hangs on them alone (kind 1) may come early, operations that write or call (kind 2) come in one order, and the others (kind 0) read the same wherever they may stand. Conditions: what is executed at a lower depth agrees with the model (ExOk), and the program follows the mixed orders. -/
import Derived.Test.YtgcdbdcnlhonfaaXk
import Derived.OrdersIn
namespace Go.Xe
open Go
def reach (ops : Array Oper) : Nat→Nat→Nat→Bool
 | 0,_,_=>false
 | f+1,k,j=>match ops[k]? with
  | some o=>o.after.toList.any fun e=>Region.binds .any e && (e.on == j || reach ops f e.on j)
  | none=>false
def bindsTo (o : Oper) (j : Nat) : Bool:=o.after.toList.any fun e=>Region.binds .any e && e.on == j
structure PlanP (ops : Array Oper) (pos kind sig : Nat→Nat) : Prop where
 sp : ∀ k,k<ops.size→pos k<ops.size∧sig (pos k)=k
 ps : ∀ j,j<ops.size→sig j<ops.size∧pos (sig j)=j
 opd : ∀ (k : Nat) (o : Oper),ops[k]?=some o→∀ t∈opTmps o.op,∀ (j : Nat) (o' : Oper),ops[j]?=some o'→o'.dst=some t→(bindsTo o j=true∧pos j<pos k∧(kind k=0→kind j≠1))∨(pos k≤pos j∧(j=k∨bindsTo o' k=true))
 gd : ∀ (k : Nat) (o : Oper) (g : Nat) (c : Bool),ops[k]?=some o→o.guard=some (g,c)→∀ (o' : Oper),ops[g]?=some o'→bindsTo o g=true∧pos g<pos k∧(kind k=0→kind g≠1)
 dst : ∀ (j k : Nat) (oj ok : Oper) (t : Tmp),ops[j]?=some oj→ops[k]?=some ok→oj.dst=some t→ok.dst=some t→j=k
 k0 : ∀ (k : Nat) (o : Oper),ops[k]?=some o→kind k=0→lightOp o.op=true
 k1 : ∀ (k : Nat) (o : Oper),ops[k]?=some o→kind k=1→newOp o.op=true∨softOp o.op=true
 ord : ∀ k j,k<ops.size→j<ops.size→kind k=2→kind j≠0→pos j<pos k→reach ops ops.size k j=true
 kk : ∀ k,k<ops.size→kind k=0∨kind k=1∨kind k=2
 edge : ∀ (k : Nat) (o : Oper),ops[k]?=some o→∀ e∈o.after.toList,Region.binds .any e=true→e.on<k
def late (ops : Array Oper) (pos : Nat→Nat) (k : Nat) (t : Tmp) : Bool:=
 (List.range ops.size).any fun j=>((ops[j]?).bind (·.dst) == some t) && decide (pos k≤pos j)
def evk (P : Program) [Gl P] (ops : Array Oper) (pos : Nat→Nat) (t0 T : Array Value) (k : Nat) : Operand→Value
 | .tmp t=>if late ops pos k t then t0.getD t undef else T.getD t undef
 | x=>ev P T x
structure RunP (P : Program) [Gl P] [Orc P] (ex : Ex) (ops : Array Oper) (pos kind sig : Nat→Nat) (t0 T : Array Value) (G : Nat→Heap) : Prop where
 size : T.size=t0.size
 run : ∀ j,j<ops.size→∀ (o : Oper),ops[sig j]?=some o →
  (xwanted ops T o=some true∧∃ v,xopv P ex (evk P ops pos t0 T (sig j)) o.op (G j)=some (v,G (j+1))∧∀ d,o.dst=some d→d<T.size→T[d]?=some v) ∨
  (xwanted ops T o=some false∧G (j+1)=G j∧∀ d,o.dst=some d→d<T.size→T[d]?=some undef)
 old : ∀ (t : Tmp),(∀ (k : Nat) (o : Oper),ops[k]?=some o→o.dst≠some t)→T[t]?=t0[t]?
 mono : ∀ j,j<ops.size→(G j).next≤(G (j+1)).next
 clean : ∀ (k : Nat) (o : Oper),ops[k]?=some o→kind k=0→xwanted ops T o=some true→∀ q,q≤ops.size→(q=0∨∃ b,b<ops.size∧kind b=2∧q=pos b+1) →
  (∀ j,j<ops.size→kind j=2→reach ops ops.size k j=true→pos j<q)→(∀ j,j<ops.size→kind j=2→pos j<q→reach ops ops.size j k=false) →
  ∃ v,xop P (G q) (evk P ops pos t0 T k) o.op=some (v,G q)∧∀ d,o.dst=some d→d<T.size→T[d]?=some v
 bound : ∀ (k : Nat) (o : Oper),ops[k]?=some o→kind k=1→xwanted ops T o=some true→∀ d v,o.dst=some d→T[d]?=some v→inBound (G (pos k+1)).next 3 v=true
 content : ∀ (k : Nat) (o : Oper) (c : Array Value) (el : TypeId),ops[k]?=some o→kind k=1→xwanted ops T o=some true→newC o.op=true→G (pos k+1)=(G (pos k)).alloc (.cells c el true)→c.toList.all (inBound (G (pos k)).next 2)=true
def isL (listed : Array Bool) (k : Nat) : Prop:=listed[k]?=some true
theorem isL_set {listed : Array Bool} {i k : Nat} (hi : i<listed.size) : isL (listed.setIfInBounds i true) k↔k=i∨isL listed k:=by
 unfold isL
 rw[Array.getElem?_setIfInBounds]
 by_cases e : i=k
 ·subst e;simp[hi]
 ·simp[e,Ne.symm e]
section
variable {P : Program} [Gl P] [Orc P] {ex : Ex} {ops : Array Oper} {pos kind sig : Nat→Nat} {t0 T : Array Value} {G : Nat→Heap}
def Closed (ops : Array Oper) (listed : Array Bool) : Prop:=∀ (k : Nat) (o : Oper),ops[k]?=some o→isL listed k→∀ e∈o.after.toList,Region.binds .any e=true→isL listed e.on
theorem reach_listed {listed : Array Bool} (hc : Closed ops listed) : ∀ (f k j : Nat) (o : Oper),ops[k]?=some o→(∀ e∈o.after.toList,Region.binds .any e=true→isL listed e.on)→reach ops f k j=true→isL listed j:=by
 intro f
 induction f with
 | zero=>intro k j o _ _ h;simp[reach] at h
 | succ f ih=>
  intro k j o ho hk h
  simp only[reach,ho,List.any_eq_true,Bool.and_eq_true,Bool.or_eq_true,beq_iff_eq] at h
  obtain⟨e,he,hb,h⟩:=h
  have hl:=hk e he hb
  rcases h with h|h
  ·rw[← h];exact hl
  ·cases ho2 : ops[e.on]? with
   | none=>cases f<;>simp[reach,ho2] at h
   | some o2=>exact ih e.on j o2 ho2 (fun e2 he2 hb2=>hc e.on o2 ho2 hl e2 he2 hb2) h
def Mid (P : Program) (ops : Array Oper) (pos kind : Nat→Nat) (t0 T : Array Value) (G : Nat→Heap) (θ0 : Th) (w0 : World) (listed : Array Bool) (q : Nat) (θ θp : Th) (b : Act) (w : World) : Prop:=
 q≤ops.size∧(∀ k,k<ops.size→kind k=2→(isL listed k↔pos k<q))∧(∀ k,k<ops.size→kind k=1→pos k<q→isL listed k)∧Rel P θ (G q) w∧Ext θ θp ∧
 (∀ i p,θp i=some p→i<(G q).next→θ i=some p) ∧
 (∀ i p,θp i=some p→θ i=some p∨∃ (k : Nat) (o : Oper),ops[k]?=some o∧kind k=1∧isL listed k∧q≤pos k∧xwanted ops T o=some true∧newOp o.op=true∧i=(G (pos k)).next) ∧
 (∀ (k : Nat) (o : Oper),ops[k]?=some o→kind k=1→isL listed k→q≤pos k→xwanted ops T o=some true→newOp o.op=true →
  ∃ p x,θp (G (pos k)).next=some p∧G (pos k+1)=(G (pos k)).alloc x.ao∧p.rw=true∧NOR P θp w p x∧w0.heap.size≤p.blk) ∧
 (∀ i j p r,θp i=some p→θp j=some r→θ i=none→i≠j→p.blk≠r.blk) ∧
 (∀ (k : Nat) (o : Oper) (t : Tmp) (v v' : Value),ops[k]?=some o→isL listed k→o.dst=some t→T[t]?=some v→b.tmps[t]?=some v'→(kind k=1∧q≤pos k→VR θp v v')∧(¬ (kind k=1∧q≤pos k)→VR θ v v')) ∧
 (∀ (t : Tmp) (v v' : Value),(∀ (k : Nat) (o : Oper),ops[k]?=some o→o.dst=some t→¬ isL listed k)→t0[t]?=some v→b.tmps[t]?=some v'→VR θ v v')∧Stp θ0 w0 θ w
theorem Mid.advance1 (hp : PlanP ops pos kind sig) (hr : RunP P ex ops pos kind sig t0 T G) {θ0 : Th} {w0 : World} {listed : Array Bool} {q : Nat} {θ θp : Th} {b : Act} {w : World}
  (h : Mid P ops pos kind t0 T G θ0 w0 listed q θ θp b w) (hq : q<ops.size) (hk : kind (sig q)≠2) (hl : kind (sig q)=1→isL listed (sig q)) :
  ∃ θ',Mid P ops pos kind t0 T G θ0 w0 listed (q+1) θ' θp b w:=by
 obtain⟨g1,g2,g3,g4,g5,g6,g7,g8,g9,g10,g11,g12⟩:=h
 obtain⟨hs1,hs2⟩:=hp.ps q hq
 have ho : ops[sig q]?=some ops[sig q]:=Array.getElem?_eq_getElem hs1
 generalize hoo : ops[sig q]=o at ho
 have hpos : ∀ k,k<ops.size→pos k=q→k=sig q:=fun k hk he=>by rw[← (hp.sp k hk).2,he]
 have hbig' : ∀ k,k<ops.size→kind k=2→(isL listed k↔pos k<q+1):=by
  intro k hk1 hk2
  rw[g2 k hk1 hk2]
  constructor
  ·omega
  ·intro h
   by_cases e : pos k=q
   ·rw[hpos k hk1 e] at hk2;exact absurd hk2 hk
   ·omega
 have hdirty' : ∀ k,k<ops.size→kind k=1→pos k<q+1→isL listed k:=by
  intro k hk1 hk2 hk3
  by_cases e : pos k=q
  ·rw[hpos k hk1 e] at hk2 ⊢;exact hl hk2
  ·exact g3 k hk1 hk2 (by omega)
 have hlt : ∀ {k : Nat} {o : Oper},ops[k]?=some o→k<ops.size:=fun h=>(Array.getElem?_eq_some_iff.1 h).1
 -- where the heap does not move
 have same : G (q+1)=G q→(kind (sig q)=1→∀ t v v',o.dst=some t→T[t]?=some v→b.tmps[t]?=some v'→VR θp v v'→VR θ v v')→(kind (sig q)=1→xwanted ops T o=some true→newOp o.op=true→False) →
   ∃ θ',Mid P ops pos kind t0 T G θ0 w0 listed (q+1) θ' θp b w:=by
  intro hG hv hno
  refine⟨θ,by omega,hbig',hdirty',by rw[hG];exact g4,g5,by rw[hG];exact g6,?_,?_,g9,?_,g11,g12⟩
  ·intro i p hi
   rcases g7 i p hi with h|⟨k,o',h1,h2,h3,h4,h5,h6,h7⟩
   ·exact .inl h
   ·by_cases e : pos k=q
    ·obtain rfl:=hpos k (hlt h1) e
     rw[ho] at h1;cases h1
     exact (hno h2 h5 h6).elim
    ·exact .inr ⟨k,o',h1,h2,h3,by omega,h5,h6,h7⟩
  ·intro k o' h1 h2 h3 h4 h5 h6
   exact g8 k o' h1 h2 h3 (by omega) h5 h6
  ·intro k o' t v v' h1 h2 h3 h4 h5
   obtain⟨c1,c2⟩:=g10 k o' t v v' h1 h2 h3 h4 h5
   refine⟨fun hc=>c1 ⟨hc.1,by omega⟩,fun hc=>?_⟩
   by_cases e : kind k=1∧pos k=q
   ·obtain rfl:=hpos k (hlt h1) e.2
    rw[ho] at h1;cases h1
    exact hv e.1 t v v' h3 h4 h5 (c1 ⟨e.1,by omega⟩)
   ·exact c2 (fun hc2=>hc ⟨hc2.1,by
     have : pos k≠q:=fun e2=>e ⟨hc2.1,e2⟩
     omega⟩)
 have hposq : pos (sig q)=q:=hs2
 rcases hr.run q hq o ho with⟨hw,v,hx,hd⟩|⟨hw,hG,hd⟩
 ·rcases hp.kk (sig q) hs1 with hk0|hk1|hk2
  ·have hlight:=hp.k0 _ _ ho hk0
   have hx' : xop P (G q) (evk P ops pos t0 T (sig q)) o.op=some (v,G (q+1)):=by
    unfold xopv at hx
    split at hx
    ·rename_i heq;rw[heq] at hlight;simp[lightOp] at hlight
    ·exact hx
   exact same (light_heap hlight hx') (fun e=>by omega) (fun e=>by omega)
  ·have hx' : xop P (G q) (evk P ops pos t0 T (sig q)) o.op=some (v,G (q+1)):=by
    unfold xopv at hx
    split at hx
    ·rename_i heq
     rcases hp.k1 _ _ ho hk1 with e|e<;>rw[heq] at e
     ·simp[newOp,newC] at e
     ·simp[softOp] at e
    ·exact hx
   by_cases hn : newOp o.op=true
   ·-- a block that lies there is taken in
    obtain⟨p,x,e1,e2,e3,e4,e9⟩:=g8 _ o ho hk1 (hl hk1) (by omega) hw hn
    rw[hposq] at e1 e2
    have hnone : θ (G q).next=none:=g4.fresh
    have hnor : NOR P θ w p x:=by
     cases x with
     | cells c el=>
      obtain⟨a1,c',a2,a3,a4,a5⟩:=e4
      have hnc : newC o.op=true:=by
       cases hop : o.op with
       | makeMap t r=>
        rw[hop] at hx'
        simp only[xop,xmakeMap] at hx'
        split at hx'
        ·split at hx'
         ·have h1:=(Prod.mk.inj (Option.some.inj hx')).2
          have h2:=congrArg (fun H=>H.get (G q).next) (h1.trans e2)
          simp[Heap.get_alloc,NO.ao] at h2
         ·cases hx'
        ·cases hx'
       | _=>rw[hop] at hn;exact hn
      have hcon:=hr.content _ o c el ho hk1 hw hnc (by rw[hposq];exact e2)
      rw[hposq] at hcon
      exact⟨a1,c',a2,a3,a4,AR.inBound (fun i p hi hpi=>g6 i p hpi hi) hcon a5⟩
     | map kt=>exact e4
    have hrel:=g4.adoptN hnor e3 (fun i r hir=>(g9 _ i p r e1 (g5 _ _ hir) hnone (by rintro rfl;rw[hnone] at hir;cases hir)).symm)
    have hext : Ext (θ.put (G q).next p) θp:=by
     intro i r hir
     by_cases e : i=(G q).next
     ·subst e;rw[Th.put_same] at hir;cases hir;exact e1
     ·simp[Th.put,e] at hir;exact g5 _ _ hir
    have hnx : (G (q+1)).next=(G q).next+1:=by rw[e2];rfl
    have hb' : ∀ i r,θp i=some r→i<(G (q+1)).next→θ.put (G q).next p i=some r:=by
     intro i r hir hi
     by_cases e : i=(G q).next
     ·subst e;rw[Th.put_same,← hir,e1]
     ·simp only[Th.put,e,if_false];exact g6 i r hir (by omega)
    refine⟨θ.put (G q).next p,by omega,hbig',hdirty',by rw[e2];exact hrel,hext,hb',?_,?_,?_,?_,?_,?_⟩
    ·intro i r hi
     rcases g7 i r hi with h|⟨k,o',h1,h2,h3,h4,h5,h6,h7⟩
     ·exact .inl (Th.ext_put hnone _ _ h)
     ·by_cases e : pos k=q
      ·rw[e] at h7;subst h7
       exact .inl (by rw[Th.put_same,← hi,e1])
      ·exact .inr ⟨k,o',h1,h2,h3,by omega,h5,h6,h7⟩
    ·intro k o' h1 h2 h3 h4 h5 h6
     exact g8 k o' h1 h2 h3 (by omega) h5 h6
    ·intro i j r s hi hj hin hne
     refine g9 i j r s hi hj ?_ hne
     by_cases e : i=(G q).next
     ·subst e;rw[Th.put_same] at hin;cases hin
     ·simpa [Th.put,e] using hin
    ·intro k o' t v1 v2 h1 h2 h3 h4 h5
     obtain⟨c1,c2⟩:=g10 k o' t v1 v2 h1 h2 h3 h4 h5
     refine⟨fun hc=>c1 ⟨hc.1,by omega⟩,fun hc=>?_⟩
     by_cases e : kind k=1∧pos k=q
     ·obtain rfl:=hpos k (hlt h1) e.2
      rw[ho] at h1;cases h1
      have hbd:=hr.bound _ o ho hk1 hw t v1 h3 h4
      rw[hposq] at hbd
      exact VR.inBound (fun i p hi hpi=>hb' i p hpi hi) 3 hbd (c1 ⟨e.1,by omega⟩)
     ·exact (c2 (fun hc2=>hc ⟨hc2.1,by
       have : pos k≠q:=fun e2=>e ⟨hc2.1,e2⟩
       omega⟩)).ext (Th.ext_put hnone)
    ·intro t v1 v2 h1 h2 h3
     exact (g11 t v1 v2 h1 h2 h3).ext (Th.ext_put hnone)
    ·refine⟨g12.ext.trans (Th.ext_put hnone),?_,g12.size,g12.frame,g12.os,g12.tape,g12.output⟩
     intro i r hi
     by_cases e : i=(G q).next
     ·subst e;rw[Th.put_same] at hi;cases hi
      exact .inr ⟨e3,.inl e9⟩
     ·simp[Th.put,e] at hi;exact g12.new i r hi
   ·have hsoft : softOp o.op=true:=(hp.k1 _ _ ho hk1).resolve_left hn
    have hG : G (q+1)=G q:=by
     have hl' : lightOp o.op=true:=by
      cases hop : o.op<;>rw[hop] at hsoft<;>simp[softOp] at hsoft<;>rfl
     exact light_heap hl' hx'
    refine same hG (fun _ t v1 v2 h1 h2 h3 h4=>?_) (fun _ _ e=>hn e)
    have hbd:=hr.bound _ o ho hk1 hw t v1 h1 h2
    rw[hposq,hG] at hbd
    exact VR.inBound (fun i p hi hpi=>g6 i p hpi hi) 3 hbd h4
  ·exact absurd hk2 hk
 ·refine same hG (fun _ t v1 v2 h1 h2 h3 h4=>?_) (fun _ e=>by rw[hw] at e;cases e)
  have hu:=hd t h1 (by
   have:=(Array.getElem?_eq_some_iff.1 h2).1
   exact this)
  rw[hu] at h2;cases h2
  exact VR.inBound (n:=0) (fun i p hi=>absurd hi (Nat.not_lt_zero _)) 1 (by rfl) h4
theorem lt_of_get {o : Oper} {k : Nat} (h : ops[k]?=some o) : k<ops.size:=(Array.getElem?_eq_some_iff.1 h).1
theorem Mid.advance (hp : PlanP ops pos kind sig) (hr : RunP P ex ops pos kind sig t0 T G) {θ0 : Th} {w0 : World} {listed : Array Bool} {b : Act} {w : World} {θp : Th} (q' : Nat) (hq' : q'≤ops.size) :
  ∀ (d q : Nat) (θ : Th),q+d=q'→Mid P ops pos kind t0 T G θ0 w0 listed q θ θp b w→(∀ j,q≤j→j<q'→kind (sig j)≠2∧(kind (sig j)=1→isL listed (sig j))) →
  ∃ θ',Mid P ops pos kind t0 T G θ0 w0 listed q' θ' θp b w:=by
 intro d
 induction d with
 | zero=>
      intro q θ hd h _;obtain rfl : q=q':=by omega
      exact⟨θ,h⟩
 | succ d ih=>
  intro q θ hd h hk
  obtain⟨h1,h2⟩:=hk q (Nat.le_refl _) (by omega)
  obtain⟨θ',h'⟩:=h.advance1 hp hr (by omega) h1 h2
  exact ih (q+1) θ' (by omega) h' (fun j hj=>hk j (by omega))
structure Inv (P : Program) (ops : Array Oper) (pos kind : Nat→Nat) (t0 T : Array Value) (G : Nat→Heap) (θ0 : Th) (w0 : World) (b0 : Act) (listed : Array Bool) (b : Act) (w : World) : Prop where
 m : ∃ q θ θp,Mid P ops pos kind t0 T G θ0 w0 listed q θ θp b w∧(q=0∨∃ k,k<ops.size∧kind k=2∧q=pos k+1)
 ls : listed.size=ops.size
 ts : b.tmps.size=T.size
 cl : Closed ops listed
 dfr : b.defers=b0.defers
def Ready (ops : Array Oper) (listed : Array Bool) (i : Nat) (o : Oper) : Prop:=ops[i]?=some o∧¬ isL listed i∧∀ e∈o.after.toList,Region.binds .any e=true→isL listed e.on
theorem ready_of {listed : Array Bool} {i : Nat} (hls : listed.size=ops.size) (h : i∈Region.ready .any ops listed) : ∃ o,Ready ops listed i o:=by
 simp only[Region.ready,List.mem_filter,List.mem_range,Bool.and_eq_true,Bool.not_eq_true'] at h
 obtain⟨h1,h2,h3⟩:=h
 have ho : ops[i]?=some ops[i]:=Array.getElem?_eq_getElem h1
 refine⟨ops[i],ho,?_,?_⟩
 ·unfold isL
  have hi : i<listed.size:=by omega
  rw[Array.getElem?_eq_getElem hi]
  simp only[Array.getD_eq_getD_getElem?,Array.getElem?_eq_getElem hi,Option.getD_some] at h2
  rw[h2];simp
 ·rw[ho] at h3
  simp only[Option.map_some,Option.getD_some] at h3
  rw[← Array.all_toList] at h3
  intro e he hb
  have:=List.all_eq_true.1 h3 e he
  simp only[hb,Bool.not_true,Bool.false_or] at this
  unfold isL
  simp only[Array.getD_eq_getD_getElem?] at this
  cases hx : listed[e.on]? with
  | none=>rw[hx] at this;simp at this
  | some c=>rw[hx] at this;simp at this;rw[this]
theorem bindsTo_listed {listed : Array Bool} {o : Oper} {j : Nat} (h : ∀ e∈o.after.toList,Region.binds .any e=true→isL listed e.on) (hb : bindsTo o j=true) : isL listed j:=by
 simp only[bindsTo,List.any_eq_true,Bool.and_eq_true,beq_iff_eq] at hb
 obtain⟨e,he,hb,rfl⟩:=hb
 exact h e he hb
theorem closed_set {listed : Array Bool} {i : Nat} {o : Oper} (hls : listed.size=ops.size) (hc : Closed ops listed) (hr : Ready ops listed i o) : Closed ops (listed.setIfInBounds i true):=by
 obtain⟨ho,_,he⟩:=hr
 have hi : i<listed.size:=by rw[hls];exact lt_of_get ho
 intro k ok hk hl e hek hb
 rw[isL_set hi] at hl ⊢
 rcases hl with rfl|hl
 ·rw[ho] at hk;cases hk
  exact .inr (he e hek hb)
 ·exact .inr (hc k ok hk hl e hek hb)
theorem late_true {k : Nat} {t : Tmp} (h : late ops pos k t=true) : ∃ j o',ops[j]?=some o'∧o'.dst=some t∧pos k≤pos j:=by
 simp only[late,List.any_eq_true,List.mem_range,Bool.and_eq_true,beq_iff_eq,decide_eq_true_eq] at h
 obtain⟨j,hj,h1,h2⟩:=h
 simp only[Option.bind_eq_some_iff] at h1
 obtain⟨o',h3,h4⟩:=h1
 exact⟨j,o',h3,h4,h2⟩
theorem late_of {k j : Nat} {t : Tmp} {o' : Oper} (hj : ops[j]?=some o') (hd : o'.dst=some t) (h : pos k≤pos j) : late ops pos k t=true:=by
 simp only[late,List.any_eq_true,List.mem_range,Bool.and_eq_true,beq_iff_eq,decide_eq_true_eq]
 exact⟨j,lt_of_get hj,by rw[hj];exact hd,h⟩
theorem operand_rel (hp : PlanP ops pos kind sig) (hr : RunP P ex ops pos kind sig t0 T G) {listed : Array Bool} {b : Act} {θx θ : Th} {i : Nat} {o : Oper} (hrd : Ready ops listed i o) (hcl : Closed ops listed) (hts : b.tmps.size=T.size)
  (hw : ∀ t∈opTmps o.op,∀ (j : Nat) (o' : Oper),ops[j]?=some o'→o'.dst=some t→pos j<pos i→isL listed j→(kind i=0→kind j≠1)→∀ v v',T[t]?=some v→b.tmps[t]?=some v'→VR θx v v')
  (h0 : ∀ (t : Tmp) (v v' : Value),(∀ (k : Nat) (o : Oper),ops[k]?=some o→o.dst=some t→¬ isL listed k)→t0[t]?=some v→b.tmps[t]?=some v'→VR θ v v') (hx : Ext θ θx) (hgl : ∀ g,Gl.G P g=true→∃ p,θx g=some p∧p.blk=g∧p.base=0) :
  ∀ x,VR θx (onlyAt o.op (evk P ops pos t0 T i) x) (b.eval x):=by
 obtain⟨ho,hnl,hed⟩:=hrd
 have hsz:=hr.size
 -- at a temporary that nothing has written yet
 have old : ∀ t,(∀ (k : Nat) (o : Oper),ops[k]?=some o→o.dst=some t→¬ isL listed k)→VR θx (t0.getD t undef) (b.tmps.getD t undef):=by
  intro t hno
  simp only[Array.getD_eq_getD_getElem?]
  cases hv : t0[t]? with
  | none=>
   have : b.tmps[t]?=none:=by rw[Array.getElem?_eq_none_iff] at hv ⊢;omega
   rw[this];exact VR.undef
  | some v=>
   have hlt:=(Array.getElem?_eq_some_iff.1 hv).1
   have hv' : b.tmps[t]?=some (b.tmps[t]'(by omega)):=Array.getElem?_eq_getElem (by omega)
   rw[hv']
   exact (h0 t v _ hno hv hv').ext hx
 refine onlyAt_rel (fun t ht=>?_) (fun x hx'=>?_)
 ·show VR θx (if late ops pos i t then t0.getD t undef else T.getD t undef) (b.tmps.getD t undef)
  by_cases hl : late ops pos i t=true
  ·rw[if_pos hl]
   obtain⟨j,o',hj,hd,hpj⟩:=late_true hl
   refine old t (fun k ok hk hkd hkl=>?_)
   have e : k=j:=hp.dst k j ok o' t hk hj hkd hd
   subst e
   rw[hj] at hk;cases hk
   rcases hp.opd i o ho t ht k o' hj hd with⟨_,h2,_⟩|⟨_,h2⟩
   ·omega
   ·rcases h2 with rfl|h2
    ·exact hnl hkl
    ·exact hnl (bindsTo_listed (fun e he hb=>hcl k o' hj hkl e he hb) h2)
  ·rw[if_neg hl]
   by_cases hex : ∃ (j : Nat) (o' : Oper),ops[j]?=some o'∧o'.dst=some t
   ·obtain⟨j,o',hj,hd⟩:=hex
    rcases hp.opd i o ho t ht j o' hj hd with⟨h1,h2,h3⟩|⟨h1,_⟩
    ·simp only[Array.getD_eq_getD_getElem?]
     cases hv : T[t]? with
     | none=>
      have : b.tmps[t]?=none:=by rw[Array.getElem?_eq_none_iff] at hv ⊢;omega
      rw[this];exact VR.undef
     | some v=>
      have hlt:=(Array.getElem?_eq_some_iff.1 hv).1
      have hv' : b.tmps[t]?=some (b.tmps[t]'(by omega)):=Array.getElem?_eq_getElem (by omega)
      rw[hv']
      exact hw t ht j o' hj hd h2 (bindsTo_listed hed h1) h3 v _ hv hv'
    ·exact absurd (late_of hj hd h1) hl
   ·have hno : ∀ (k : Nat) (o : Oper),ops[k]?=some o→o.dst≠some t:=fun k o hk hd=>hex ⟨k,o,hk,hd⟩
    have e : T.getD t undef=t0.getD t undef:=by simp only[Array.getD_eq_getD_getElem?,hr.old t hno]
    rw[e]
    exact old t (fun k o hk hd=>absurd hd (hno k o hk))
 ·cases x with
  | tmp t=>exact absurd rfl (hx' t)
  | const v=>
   show VR θx (if plainV v then v else top) v
   split
   ·rename_i hv;exact VR.plain hv
   ·exact .top v
  | global g=>
   show VR θx (if Gl.G P g then .pointer (some ⟨g,0,none⟩) else top) (.pointer (some ⟨g,0,none⟩))
   split
   ·rename_i hg
    obtain⟨p,h1,h2,h3⟩:=hgl g hg
    have:=VR.ptr (o:=0) h1
    rw[h2,h3] at this
    exact this
   ·exact .top _
  | func f=>exact .func (.same _ (fun l=>by simp)) rfl (AR.nil (θ:=θx)).2 rfl (AR.nil (θ:=θx)).2
theorem wanted_rel {b : Act} {θx : Th} {o : Oper} (hts : b.tmps.size=T.size) {c : Bool} (h : xwanted ops T o=some c)
  (hg : ∀ g want,o.guard=some (g,want)→∀ (o' : Oper),ops[g]?=some o'→∀ d,o'.dst=some d→∀ v v',T[d]?=some v→b.tmps[d]?=some v'→VR θx v v') :
  Region.wanted o (yielded ops b.tmps)=c:=by
 unfold xwanted at h
 unfold Region.wanted
 split at h
 ·rename_i hgu;cases h;rw[hgu]
 ·rename_i g want hgu
  rw[hgu]
  simp only
  unfold yielded
  cases hog : ops[g]? with
  | none=>rw[hog] at h;simp at h;subst h;simp
  | some o'=>
   rw[hog] at h
   simp only[Option.bind_some] at h ⊢
   cases hd : o'.dst with
   | none=>rw[hd] at h;simp at h;subst h;simp
   | some d=>
    rw[hd] at h
    simp only[Option.bind_some] at h ⊢
    cases hv : T[d]? with
    | none=>
     rw[hv] at h
     have : b.tmps[d]?=none:=by rw[Array.getElem?_eq_none_iff] at hv ⊢;omega
     rw[this]
     simp at h;subst h;simp
    | some v=>
     rw[hv] at h
     have hlt:=(Array.getElem?_eq_some_iff.1 hv).1
     have hv' : b.tmps[d]?=some (b.tmps[d]'(by omega)):=Array.getElem?_eq_getElem (by omega)
     have hvr:=hg g want hgu o' hog d hd v _ hv hv'
     rw[hv']
     generalize b.tmps[d]'(by omega)=v' at hvr ⊢
     cases hvr<;>simp at h<;>subst h<;>simp
theorem put_get {b : Act} {dst : Option Tmp} {v' x : Value} {t : Tmp} (h : (b.put dst v').tmps[t]?=some x) : (dst=some t∧x=v'∧t<b.tmps.size)∨(dst≠some t∧b.tmps[t]?=some x):=by
 cases dst with
 | none=>exact .inr ⟨by simp,h⟩
 | some d=>
  simp only[Act.put] at h
  rw[Array.getElem?_setIfInBounds] at h
  by_cases e : d=t
  ·subst e
   by_cases hl : d<b.tmps.size
   ·simp[hl] at h;exact .inl ⟨rfl,h.symm,hl⟩
   ·simp[hl] at h
  ·simp[e] at h;exact .inr ⟨by simpa using e,h⟩
theorem put_size {b : Act} {dst : Option Tmp} {v' : Value} : (b.put dst v').tmps.size=b.tmps.size:=by cases dst<;>simp[Act.put]
theorem Mid.sync (hp : PlanP ops pos kind sig) (hr : RunP P ex ops pos kind sig t0 T G) {θ0 : Th} {w0 : World} {listed : Array Bool} {q : Nat} {θ θp : Th} {b : Act} {w : World}
  (h : Mid P ops pos kind t0 T G θ0 w0 listed q θ θp b w) (hls : listed.size=ops.size) {i : Nat} {o : Oper} (hi : Ready ops listed i o) (hk1 : kind i≠1) {q1 : Nat} (hq0 : kind i=0→q1=q) (hq2 : kind i=2→pos i=q∧q1=q+1)
  {θ1 : Th} {w1 : World} (hs : Stp θ w θ1 w1) (hr1 : Rel P θ1 (G q1) w1) {v' : Value} (hv : ∀ d v,o.dst=some d→T[d]?=some v→VR θ1 v v') :
  ∃ θp1,Mid P ops pos kind t0 T G θ0 w0 (listed.setIfInBounds i true) q1 θ1 θp1 (b.put o.dst v') w1:=by
 obtain⟨ho,hnl,hed⟩:=hi
 have hin:=lt_of_get ho
 have hil : i<listed.size:=by omega
 have hkc : kind i=0∨kind i=2:=by rcases hp.kk i hin with h|h|h<;>omega
 obtain⟨g1,g2,g3,g4,g5,g6,g7,g8,g9,g10,g11,g12⟩:=h
 have hqle : q≤q1:=by rcases hkc with h|h;exact Nat.le_of_eq (hq0 h).symm;exact by have:=hq2 h;omega
 have hq1n : q1≤ops.size:=by
  rcases hkc with h|h
  ·rw[hq0 h];exact g1
  ·obtain⟨e1,e2⟩:=hq2 h
   have:=(hp.sp i hin).1
   omega
 have hposi : ∀ k,k<ops.size→q≤pos k→kind k=1→q1≤pos k:=by
  intro k hk1' hk2 hk3
  rcases hkc with h|h
  ·rw[hq0 h];exact hk2
  ·obtain⟨e1,e2⟩:=hq2 h
   have : pos k≠pos i:=fun e=>by
    have a:=(hp.sp k hk1').2
    have c:=(hp.sp i hin).2
    rw[e,c] at a
    subst a;omega
   omega
 have hmono : (G q).next≤(G q1).next:=by
  rcases hkc with h|h
  ·rw[hq0 h];exact Nat.le_refl _
  ·obtain⟨e1,e2⟩:=hq2 h
   rw[e2];exact hr.mono q (by have:=(hp.sp i hin).1;omega)
 have hmonos : ∀ a c,a≤c→c≤ops.size→(G a).next≤(G c).next:=by
  intro a c hac
  induction c with
  | zero=>
       intro _;obtain rfl : a=0:=by omega
       exact Nat.le_refl _
  | succ c ih=>
   intro hc
   by_cases e : a=c+1
   ·subst e;exact Nat.le_refl _
   ·exact Nat.le_trans (ih (by omega) (by omega)) (hr.mono c (by omega))
 -- what waits lies above
 have hpend : ∀ j p,θp j=some p→θ j=none→(G q1).next≤j:=by
  intro j p hj hn
  rcases g7 j p hj with h|⟨k,ok,h1,h2,h3,h4,h5,h6,rfl⟩
  ·rw[hn] at h;cases h
  ·have hkn:=lt_of_get h1
   exact hmonos _ _ (hposi k hkn h4 h2) (by have:=(hp.sp k hkn).1;omega)
 refine⟨fun j=>if j<(G q1).next then θ1 j else θp j,?_⟩
 have hin1 : ∀ j p,θ1 j=some p→j<(G q1).next:=fun j p hj=>(hr1.dom j p hj).1
 have hext1 : Ext θ1 (fun j=>if j<(G q1).next then θ1 j else θp j):=fun j p hj=>by simp[hin1 j p hj,hj]
 have hextp : Ext θp (fun j=>if j<(G q1).next then θ1 j else θp j):=by
  intro j p hj
  by_cases hlt : j<(G q1).next
  ·simp only[hlt,if_true]
   cases hθ : θ j with
   | some r=>
    have:=g5 j r hθ
    rw[hj] at this;cases this
    exact hs.ext j p hθ
   | none=>exact absurd (hpend j p hj hθ) (by omega)
  ·simp[hlt,hj]
 have hfree : ∀ j p,θp j=some p→θ j=none→∀ k r,θ1 k=some r→r.blk≠p.blk:=by
  intro j p hj hn k r hk hbq
  have hpb : p.blk<w.heap.size:=by
   rcases g7 j p hj with h|⟨k',ok,h1,h2,h3,h4,h5,h6,rfl⟩
   ·rw[hn] at h;cases h
   ·obtain⟨p',x,e1,_,_,e4,_⟩:=g8 k' ok h1 h2 h3 h4 h5 h6
    rw[hj] at e1;cases e1
    exact e4.lt
  rcases hs.new k r hk with h|⟨_,h|⟨m,s,hm,hms,hmb⟩⟩
  ·exact g9 j k p r hj (g5 k r h) hn (by rintro rfl;rw[hn] at h;cases h) hbq.symm
  ·omega
  ·exact g9 j m p s hj (g5 m s hm) hn (by rintro rfl;rw[hn] at hm;cases hm) (hbq.symm.trans hmb.symm)
 refine⟨hq1n,?_,?_,hr1,hext1,?_,?_,?_,?_,?_,?_,g12.trans hs⟩
 ·-- big
  intro k hk hk2
  rw[isL_set hil]
  rcases hkc with h|h
  ·rw[hq0 h,← g2 k hk hk2]
   exact⟨fun h'=>h'.resolve_left (by rintro rfl;omega),.inr⟩
  ·obtain⟨e1,e2⟩:=hq2 h
   rw[e2]
   constructor
   ·rintro (rfl|h')
    ·omega
    ·have:=(g2 k hk hk2).1 h';omega
   ·intro h'
    by_cases e : pos k=q
    ·left
     have a:=(hp.sp k hk).2
     rw[e,← e1,(hp.sp i hin).2] at a
     exact a.symm
    ·right;exact (g2 k hk hk2).2 (by omega)
 ·intro k hk hk2 hk3
  rw[isL_set hil]
  right
  by_cases hqk : q≤pos k
  ·have:=hposi k hk hqk hk2;omega
  ·exact g3 k hk hk2 (by omega)
 ·intro j p hj hlt
  simpa [hlt] using hj
 ·intro j p hj
  by_cases hlt : j<(G q1).next
  ·simp only[hlt,if_true] at hj;exact .inl hj
  ·simp only[hlt,if_false] at hj
   rcases g7 j p hj with h|⟨k,ok,h1,h2,h3,h4,h5,h6,h7⟩
   ·exact .inl (hs.ext _ _ h)
   ·exact .inr ⟨k,ok,h1,h2,by rw[isL_set hil];exact .inr h3,hposi k (lt_of_get h1) h4 h2,h5,h6,h7⟩
 ·intro k ok h1 h2 h3 h4 h5 h6
  have h3' : isL listed k:=by
   rw[isL_set hil] at h3
   exact h3.resolve_left (by rintro rfl;omega)
  obtain⟨p,x,e1,e2,e3,e4,e9⟩:=g8 k ok h1 h2 h3' (by omega) h5 h6
  have hnone : θ (G (pos k)).next=none:=by
   cases hθ : θ (G (pos k)).next with
   | none=>rfl
   | some r=>
    have:=(g4.dom _ _ hθ).1
    have:=hmonos q (pos k) (by omega) (by have:=(hp.sp k (lt_of_get h1)).1;omega)
    omega
  refine⟨p,x,hextp _ _ e1,e2,e3,e4.mono hextp ?_,e9⟩
  exact hs.frame p.blk e4.lt (fun m s hm _=>(g9 _ m p s e1 (g5 m s hm) hnone (by intro e;rw[← e,hnone] at hm;cases hm)).symm)
 ·intro j k p r hj hk hn hne
  have hθ1 : θ1 j=none:=hn
  by_cases hlt : j<(G q1).next
  ·simp only[hlt,if_true] at hj;rw[hθ1] at hj;cases hj
  ·simp only[hlt,if_false] at hj
   have hθ : θ j=none:=by
    cases hx : θ j with
    | none=>rfl
    | some s=>rw[hs.ext _ _ hx] at hθ1;cases hθ1
   by_cases hlk : k<(G q1).next
   ·simp only[hlk,if_true] at hk
    exact (hfree j p hj hθ k r hk).symm
   ·simp only[hlk,if_false] at hk
    exact g9 j k p r hj hk hθ hne
 ·intro k ok t x x' h1 h2 h3 h4 h5
  rw[isL_set hil] at h2
  rcases put_get h5 with⟨hd,rfl,_⟩|⟨hd,h5'⟩
  ·have : k=i:=hp.dst k i ok o t h1 ho h3 hd
   subst this
   rw[ho] at h1;cases h1
   exact⟨fun hc=>absurd hc.1 hk1,fun _=>hv t x hd h4⟩
  ·rcases h2 with rfl|h2
   ·rw[ho] at h1;cases h1
    exact absurd h3 hd
   ·obtain⟨c1,c2⟩:=g10 k ok t x x' h1 h2 h3 h4 h5'
    refine⟨fun hc=>(c1 ⟨hc.1,by omega⟩).ext hextp,fun hc=>(c2 (fun hc2=>hc ⟨hc2.1,hposi k (lt_of_get h1) hc2.2 hc2.1⟩)).ext hs.ext⟩
 ·intro t x x' h1 h2 h3
  rcases put_get h3 with⟨hd,rfl,_⟩|⟨hd,h3'⟩
  ·exact absurd (by rw[isL_set hil];exact .inl rfl) (h1 i o ho hd)
  ·exact (g11 t x x' (fun k ok hk hkd hkl=>h1 k ok hk hkd (by rw[isL_set hil];exact .inr hkl)) h2 h3').ext hs.ext
theorem Rel.grow {P : Program} {θ : Th} {H : Heap} {w : World} (h : Rel P θ H w) (ob : Obj) : Rel P θ H (w.alloc ob)∧Stp θ w θ (w.alloc ob):=by
 refine⟨⟨fun i o hi ho=>?_,fun i p hp=>?_,h.own.imp fun _ k=>k.same fun i q hq=>heap_alloc_lt w ob _ (h.dom i q hq).2⟩,⟨Ext.refl _,fun _ _ h=>.inl h,by simp,fun b hb _=>heap_alloc_lt w ob b hb,rfl,rfl,rfl⟩⟩
 ·obtain⟨p,hp,hor⟩:=h.obj i o hi ho
  exact⟨p,hp,hor.ext (Ext.refl _) (heap_alloc_lt w ob _ (h.dom _ _ hp).2)⟩
 ·have:=h.dom i p hp
  exact⟨this.1,by simp;omega⟩
theorem Mid.late0 {P : Program} (hp : PlanP ops pos kind sig) {θ0 : Th} {w0 : World} {listed : Array Bool} {q : Nat} {θ θp : Th} {b : Act} {w : World}
  (h : Mid P ops pos kind t0 T G θ0 w0 listed q θ θp b w) (hls : listed.size=ops.size) {i : Nat} {o : Oper} (hi : Ready ops listed i o) (hk1 : kind i=1)
  (hno : ¬ (xwanted ops T o=some true∧newOp o.op=true)) {v' : Value} (hv : ∀ d v,o.dst=some d→T[d]?=some v→VR θp v v') :
  Mid P ops pos kind t0 T G θ0 w0 (listed.setIfInBounds i true) q θ θp (b.put o.dst v') w:=by
 obtain⟨ho,hnl,hed⟩:=hi
 have hin:=lt_of_get ho
 have hil : i<listed.size:=by omega
 obtain⟨g1,g2,g3,g4,g5,g6,g7,g8,g9,g10,g11,g12⟩:=h
 have hqi : q≤pos i:=by
  by_cases hlt : pos i<q
  ·exact absurd (g3 i hin hk1 hlt) hnl
  ·omega
 refine⟨g1,?_,?_,g4,g5,g6,?_,?_,g9,?_,?_,g12⟩
 ·intro k hk hk2
  rw[isL_set hil,← g2 k hk hk2]
  exact⟨fun h'=>h'.resolve_left (by rintro rfl;omega),.inr⟩
 ·intro k hk hk2 hk3
  rw[isL_set hil]
  exact .inr (g3 k hk hk2 hk3)
 ·intro j p hj
  rcases g7 j p hj with h|⟨k,ok,h1,h2,h3,h4,h5,h6,h7⟩
  ·exact .inl h
  ·exact .inr ⟨k,ok,h1,h2,by rw[isL_set hil];exact .inr h3,h4,h5,h6,h7⟩
 ·intro k ok h1 h2 h3 h4 h5 h6
  rw[isL_set hil] at h3
  rcases h3 with rfl|h3
  ·rw[ho] at h1;cases h1
   exact absurd ⟨h5,h6⟩ hno
  ·exact g8 k ok h1 h2 h3 h4 h5 h6
 ·intro k ok t x x' h1 h2 h3 h4 h5
  rw[isL_set hil] at h2
  rcases put_get h5 with⟨hd,rfl,_⟩|⟨hd,h5'⟩
  ·have : k=i:=hp.dst k i ok o t h1 ho h3 hd
   subst this
   exact⟨fun _=>hv t x hd h4,fun hc=>absurd ⟨hk1,hqi⟩ hc⟩
  ·rcases h2 with rfl|h2
   ·rw[ho] at h1;cases h1
    exact absurd h3 hd
   ·exact g10 k ok t x x' h1 h2 h3 h4 h5'
 ·intro t x x' h1 h2 h3
  rcases put_get h3 with⟨hd,rfl,_⟩|⟨hd,h3'⟩
  ·exact absurd (by rw[isL_set hil];exact .inl rfl) (h1 i o ho hd)
  ·exact g11 t x x' (fun k ok hk hkd hkl=>h1 k ok hk hkd (by rw[isL_set hil];exact .inr hkl)) h2 h3'
theorem Mid.late1 (hp : PlanP ops pos kind sig) (hr : RunP P ex ops pos kind sig t0 T G) {θ0 : Th} {w0 : World} {listed : Array Bool} {q : Nat} {θ θp : Th} {b : Act} {w : World}
  (h : Mid P ops pos kind t0 T G θ0 w0 listed q θ θp b w) (hls : listed.size=ops.size) {i : Nat} {o : Oper} (hi : Ready ops listed i o) (hk1 : kind i=1)
  {x : NO} {val : Nat→Value} {ρ' : Operand→Value} {ob : Obj} {pl : Pl} (hG : G (pos i+1)=(G (pos i)).alloc x.ao) (hx : NewX P θp o ρ' x val w ob pl)
  (hT : ∀ t v,o.dst=some t→T[t]?=some v→v=val (G (pos i)).next) (hw : xwanted ops T o=some true) (hnw : newOp o.op=true) :
  ∃ θp1,Mid P ops pos kind t0 T G θ0 w0 (listed.setIfInBounds i true) q θ θp1 (b.put o.dst (val w.heap.size)) (w.alloc ob):=by
 obtain⟨ho,hnl,hed⟩:=hi
 have hin:=lt_of_get ho
 have hil : i<listed.size:=by omega
 obtain⟨g1,g2,g3,g4,g5,g6,g7,g8,g9,g10,g11,g12⟩:=h
 have hqi : q≤pos i:=by
  by_cases hlt : pos i<q
  ·exact absurd (g3 i hin hk1 hlt) hnl
  ·omega
 have hmonos : ∀ a c,a≤c→c≤ops.size→(G a).next≤(G c).next:=by
  intro a c hac
  induction c with
  | zero=>
       intro _;obtain rfl : a=0:=by omega
       exact Nat.le_refl _
  | succ c ih=>
   intro hc
   by_cases e : a=c+1
   ·subst e;exact Nat.le_refl _
   ·exact Nat.le_trans (ih (by omega) (by omega)) (hr.mono c (by omega))
 have hpi:=(hp.sp i hin).1
 have hne_id : ∀ k ok,ops[k]?=some ok→kind k=1→isL listed k→q≤pos k→xwanted ops T ok=some true→newOp ok.op=true→(G (pos k)).next≠(G (pos i)).next:=by
  intro k ok h1 h2 h3 h4 h5 h6 heq
  obtain⟨p,x2,e1,e2,_⟩:=g8 k ok h1 h2 h3 h4 h5 h6
  have hkn:=lt_of_get h1
  have hpk:=(hp.sp k hkn).1
  have hki : k≠i:=by rintro rfl;exact hnl h3
  have hpos : pos k≠pos i:=fun e=>hki (by rw[← (hp.sp k hkn).2,e,(hp.sp i hin).2])
  have a1 : (G (pos k+1)).next=(G (pos k)).next+1:=by rw[e2];rfl
  have a2 : (G (pos i+1)).next=(G (pos i)).next+1:=by rw[hG];rfl
  rcases Nat.lt_or_gt_of_ne hpos with hlt|hgt
  ·have:=hmonos (pos k+1) (pos i) (by omega) (by omega);omega
  ·have:=hmonos (pos i+1) (pos k) (by omega) (by omega);omega
 have hθn : θ (G (pos i)).next=none:=by
  cases hx : θ (G (pos i)).next with
  | none=>rfl
  | some r=>
   have:=(g4.dom _ _ hx).1
   have:=hmonos q (pos i) hqi (by omega)
   omega
 have hfresh : θp (G (pos i)).next=none:=by
  cases hx : θp (G (pos i)).next with
  | none=>rfl
  | some r=>
   rcases g7 _ _ hx with h|⟨k,ok,h1,h2,h3,h4,h5,h6,h7⟩
   ·rw[hθn] at h;cases h
   ·exact absurd h7.symm (hne_id k ok h1 h2 h3 h4 h5 h6)
 obtain⟨hrel,hstp⟩:=Rel.grow g4 ob
 have hpb : ∀ j p,θp j=some p→p.blk<w.heap.size:=by
  intro j p hj
  rcases g7 j p hj with h|⟨k,ok,h1,h2,h3,h4,h5,h6,rfl⟩
  ·exact (g4.dom _ _ h).2
  ·obtain⟨p',x2,e1,_,_,e4,_⟩:=g8 k ok h1 h2 h3 h4 h5 h6
   rw[hj] at e1;cases e1
   exact e4.lt
 have hep : Ext θp (θp.put (G (pos i)).next pl):=Th.ext_put hfresh
 have hblk:=hx.blk
 refine⟨θp.put (G (pos i)).next pl,g1,?_,?_,hrel,g5.trans hep,?_,?_,?_,?_,?_,?_,g12.trans hstp⟩
 ·intro k hk hk2
  rw[isL_set hil,← g2 k hk hk2]
  exact⟨fun h'=>h'.resolve_left (by rintro rfl;omega),.inr⟩
 ·intro k hk hk2 hk3
  rw[isL_set hil]
  exact .inr (g3 k hk hk2 hk3)
 ·intro j p hj hlt
  have : j≠(G (pos i)).next:=by
   have:=hmonos q (pos i) hqi (by omega)
   omega
  simp[Th.put,this] at hj
  exact g6 j p hj hlt
 ·intro j p hj
  by_cases e : j=(G (pos i)).next
  ·exact .inr ⟨i,o,ho,hk1,by rw[isL_set hil];exact .inl rfl,hqi,hw,hnw,e⟩
  ·simp[Th.put,e] at hj
   rcases g7 j p hj with h|⟨k,ok,h1,h2,h3,h4,h5,h6,h7⟩
   ·exact .inl h
   ·exact .inr ⟨k,ok,h1,h2,by rw[isL_set hil];exact .inr h3,h4,h5,h6,h7⟩
 ·intro k ok h1 h2 h3 h4 h5 h6
  rw[isL_set hil] at h3
  rcases h3 with rfl|h3
  ·rw[ho] at h1;cases h1
   exact⟨_,x,Th.put_same _ _ _,hG,hx.rw,hx.nor.mono hep rfl,by rw[hblk];exact g12.size⟩
  ·obtain⟨p,x2,e1,e2,e3,e4,e9⟩:=g8 k ok h1 h2 h3 h4 h5 h6
   exact⟨p,x2,hep _ _ e1,e2,e3,e4.mono hep (heap_alloc_lt w _ _ (hpb _ _ e1)),e9⟩
 ·intro j k p r hj hk hn hne
  by_cases ej : j=(G (pos i)).next
  ·subst ej
   rw[Th.put_same] at hj;cases hj
   simp[Th.put,Ne.symm hne] at hk
   have:=hpb _ _ hk
   rw[hblk];omega
  ·simp[Th.put,ej] at hj
   by_cases ek : k=(G (pos i)).next
   ·subst ek
    rw[Th.put_same] at hk;cases hk
    have:=hpb _ _ hj
    rw[hblk];omega
   ·simp[Th.put,ek] at hk
    exact g9 j k p r hj hk hn hne
 ·intro k ok t x x' h1 h2 h3 h4 h5
  rw[isL_set hil] at h2
  rcases put_get h5 with⟨hd,rfl,_⟩|⟨hd,h5'⟩
  ·have : k=i:=hp.dst k i ok o t h1 ho h3 hd
   subst this
   refine⟨fun _=>?_,fun hc=>absurd ⟨hk1,hqi⟩ hc⟩
   rw[hT t x hd h4]
   rw[← hblk]
   exact hx.vr _ _ (Th.put_same _ _ _)
  ·rcases h2 with rfl|h2
   ·rw[ho] at h1;cases h1
    exact absurd h3 hd
   ·obtain⟨c1,c2⟩:=g10 k ok t x x' h1 h2 h3 h4 h5'
    exact⟨fun hc=>(c1 hc).ext hep,c2⟩
 ·intro t x x' h1 h2 h3
  rcases put_get h3 with⟨hd,rfl,_⟩|⟨hd,h3'⟩
  ·exact absurd (by rw[isL_set hil];exact .inl rfl) (h1 i o ho hd)
  ·exact g11 t x x' (fun k ok hk hkd hkl=>h1 k ok hk hkd (by rw[isL_set hil];exact .inr hkl)) h2 h3'
end
end Go.Xe
