/- Rules of reasoning over the executable reading of the model's code (part W4): lists of numbers that are appended to again after an append took them over. Conditions: none; for every program. -/
import Derived.Test.YtelfbgmhleneiaaWc
import Derived.Test.YtelfbgmhleneiaaXq
namespace Go.Xe
open Go
inductive Chn (W : Nat→Prop) (H : Heap) (e : TypeId) : Nat→Nat→List Int→Prop
 | own {d i : Nat} {l : List Int} (hw : W i) (hi : i<H.next) (h : H.cellsAt i=some (⟨l.map (Value.int .i64)⟩,e,true)) : Chn W H e d i l
 | lent {d i k : Nat} {l r : List Int} (hw : W i) (hi : i<H.next) (h : H.get i=some (.lent ⟨l.map (Value.int .i64)⟩ e k)) (hk : i<k) (hc : Chn W H e d k (l++r)) : Chn W H e (d+1) i l
theorem eqA_int (n : Int) : eqA (Value.int .i64 n) (Value.int .i64 n)=true:=by simp[eqA]
theorem preB_int : ∀ (l r : List Int),preB (l.map (Value.int .i64)) ((l++r).map (Value.int .i64))=true
 | [],_=>by simp[preB]
 | x::l,r=>by
  have:=preB_int l r
  rw[List.map_append] at this
  simp[preB,eqA_int,this]
theorem Chn.now {W : Nat→Prop} {H : Heap} {e : TypeId} {d i : Nat} {l : List Int} (h : Chn W H e d i l) : ∀ {f : Nat},d<f→∃ tp,W tp∧tp<H.next∧i≤tp∧nowB H f i=some (l.map (Value.int .i64),e,tp):=by
 induction h with
 | @own d i l hw hi h=>
  intro f hf
  refine⟨i,hw,hi,Nat.le_refl _,?_⟩
  obtain⟨f,rfl⟩ : ∃ g,f=g+1:=⟨f-1,by omega⟩
  unfold nowB
  unfold Heap.cellsAt at h
  cases hg : H.get i with
  | none=>rw[hg] at h;cases h
  | some o=>
   rw[hg] at h
   cases o<;>simp at h
   obtain⟨rfl,rfl,rfl⟩:=h
   rfl
 | @lent d i k l r hw hi h hk hc ih=>
  intro f hf
  obtain⟨f,rfl⟩ : ∃ g,f=g+1:=⟨f-1,by omega⟩
  obtain⟨tp,h1,h2,h3,h4⟩:=ih (f:=f) (by omega)
  refine⟨tp,h1,h2,by omega,?_⟩
  unfold nowB
  simp only[h,h4]
  rw[if_pos ⟨trivial,preB_int l r⟩]
theorem Chn.lt {W : Nat→Prop} {H : Heap} {e : TypeId} {d i : Nat} {l : List Int} (h : Chn W H e d i l) : i<H.next:=by cases h<;>assumption
theorem Chn.w {W : Nat→Prop} {H : Heap} {e : TypeId} {d i : Nat} {l : List Int} (h : Chn W H e d i l) : W i:=by cases h<;>assumption
theorem Chn.keep {W U : Nat→Prop} {H Y : Heap} {e : TypeId} {d i : Nat} {l : List Int} (h : Chn W H e d i l) (g : GrowS U H Y) (hu : ∀ j,W j→i≤j→¬ U j) : Chn W Y e d i l:=by
 induction h with
 | own hw hi h=>exact .own hw (Nat.lt_of_lt_of_le hi g.1) ((g.cells hi (hu _ hw (Nat.le_refl _))).trans h)
 | lent hw hi h hk hc ih=>exact .lent hw (Nat.lt_of_lt_of_le hi g.1) ((g.2 _ hi (hu _ hw (Nat.le_refl _))).trans h) hk (ih (fun j hj hk'=>hu j hj (by omega)))
theorem Chn.mono {W W' : Nat→Prop} {H : Heap} {e : TypeId} {d i : Nat} {l : List Int} (h : Chn W H e d i l) (hw : ∀ j,W j→W' j) : Chn W' H e d i l:=by
 induction h with
 | own h1 hi h=>exact .own (hw _ h1) hi h
 | lent h1 hi h hk hc ih=>exact .lent (hw _ h1) hi h hk ih
theorem Chn.push {W : Nat→Prop} {X : Heap} {e : TypeId} {d s bytes : Nat} {v : Value} {l : List Int} {n : Int} {el : TypeId} {rw' : Bool} (hl : l.length≤16) (hd : d+1≤24) (hb : bytes≤100)
  (hv : (v=.slice none 0 0∧l=[])∨∃ i,v=.slice (some ⟨i,0,none⟩) l.length l.length∧Chn W X e d i l) (hs : s<X.next) (hc : X.cellsAt s=some (⟨[Value.int .i64 n]⟩,el,rw')) :
  ∃ Y,yappend e 1 bytes X v (.slice (some ⟨s,0,none⟩) 1 1)=some (.slice (some ⟨X.next,0,none⟩) (l.length+1) (l.length+1),Y)∧Y.next=X.next+1∧Y.cellsAt X.next=some (⟨(l++[n]).map (Value.int .i64)⟩,e,true) ∧
   ((v=.slice none 0 0∧l=[]∧Grow X Y)∨∃ i,v=.slice (some ⟨i,0,none⟩) l.length l.length∧Y.get i=some (.lent ⟨l.map (Value.int .i64)⟩ e X.next)∧GrowS (fun j=>W j∧i≤j) X Y∧i<X.next∧W i):=by
 have e48 : (2 : Nat) ^ 48=281474976710656:=by decide
 have hsrc : xsource X 1 1 (some ⟨s,0,none⟩)=some ⟨[Value.int .i64 n]⟩:=by
  have hsl : Sl X (.slice (some ⟨s,0,none⟩) 1 1) [Value.int .i64 n]:=.at hs hc (by decide) rfl (by simp) (fun k x hx=>by simpa using hx)
  exact (hsl.source (by decide)).1
 have hcond : ((⟨[Value.int .i64 n]⟩ : Array Value).toList.all fun y=>y.oneCell' && notTop y)=true:=rfl
 have hb2 : (2*(l.length+1)+256)*bytes≤281474976710656:=by
  have : (2*(l.length+1)+256)*bytes≤290*100:=Nat.mul_le_mul (by omega) hb
  omega
 rcases hv with⟨rfl,rfl⟩|⟨i,rfl,hC⟩
 ·refine⟨X.alloc (.cells ⟨[Value.int .i64 n]⟩ e true),?_,rfl,cells_alloc _ _ _ _,.inl ⟨rfl,rfl,(Grow.refl X).alloc _⟩⟩
  simp only[yappend]
  rw[if_neg (by omega),hsrc]
  simp only[]
  rw[e48,if_pos ⟨hcond,hb2,by simp⟩]
  simp
 ·have hi:=hC.lt
  have hWi:=hC.w
  have ex : ∀ a : Nat,a=l.length→(⟨l.map (Value.int .i64)⟩ : Array Value).extract 0 a=⟨l.map (Value.int .i64)⟩:=by
   rintro a rfl
   apply Array.toList_inj.1
   simp only[List.extract_toArray,List.extract_eq_take_drop,List.drop_zero,Nat.sub_zero]
   rw[List.take_of_length_le (by simp)]
  have e1 : lentO 0 (l.length*1) ⟨l.map (Value.int .i64)⟩ e X.next=.lent ⟨l.map (Value.int .i64)⟩ e X.next:=by
   unfold lentO
   rw[if_pos ⟨rfl,by omega⟩,ex _ (by omega)]
  have e2 : (⟨l.map (Value.int .i64)⟩ : Array Value).extract 0 (0+l.length*1)++(⟨[Value.int .i64 n]⟩ : Array Value)=⟨(l++[n]).map (Value.int .i64)⟩:=by
   rw[ex _ (by omega)]
   apply Array.toList_inj.1
   simp
  have e3:=ex (l.length*1) (by omega)
  have e4 : (⟨l.map (Value.int .i64)⟩ : Array Value)++(⟨[Value.int .i64 n]⟩ : Array Value)=⟨(l++[n]).map (Value.int .i64)⟩:=by
   apply Array.toList_inj.1
   simp
  have hC0:=hC
  cases hC with
  | own hw hi' h=>
   refine⟨(X.set i (.lent ⟨l.map (Value.int .i64)⟩ e X.next)).alloc (.cells ⟨(l++[n]).map (Value.int .i64)⟩ e true),?_,rfl,?_,.inr ⟨i,rfl,?_,?_,hi,hWi⟩⟩
   ·simp only[yappend]
    rw[if_neg (by omega),hsrc]
    simp only[]
    rw[e48,if_pos ⟨hcond,hb2,by omega⟩]
    simp only[h]
    rw[if_pos ⟨trivial,by simp,by simp,by omega⟩,if_neg (by omega)]
    rw[e1,e2]
   ·have:=cells_alloc (X.set i (.lent ⟨l.map (Value.int .i64)⟩ e X.next)) ⟨(l++[n]).map (Value.int .i64)⟩ e true
    simpa only[Heap.next_set] using this
   ·rw[Heap.get_alloc,if_neg (by rw[Heap.next_set];omega),Heap.get_set,if_pos rfl]
   ·refine⟨by simp only[Heap.next_alloc,Heap.next_set];omega,fun j hj hn=>?_⟩
    rw[Heap.get_alloc,if_neg (by rw[Heap.next_set];omega),Heap.get_set,if_neg (fun hh=>hn ⟨by rw[hh];exact hWi,by omega⟩)]
  | lent hw hi' h hk hc'=>
   obtain⟨tp,t1,t2,t3,t4⟩:=hC0.now (f:=24) (by omega)
   have hno : X.cellsAt i=none:=by unfold Heap.cellsAt;rw[h]
   refine⟨((X.set tp .dead).set i (.lent ⟨l.map (Value.int .i64)⟩ e X.next)).alloc (.cells ⟨(l++[n]).map (Value.int .i64)⟩ e true),?_,rfl,?_,.inr ⟨i,rfl,?_,?_,hi,hWi⟩⟩
   ·simp only[yappend]
    rw[if_neg (by omega),hsrc]
    simp only[]
    rw[e48,if_pos ⟨hcond,hb2,by omega⟩]
    simp only[hno,t4]
    rw[if_pos ⟨trivial,trivial,by simp,by omega⟩]
    rw[e3,e4]
   ·have:=cells_alloc ((X.set tp .dead).set i (.lent ⟨l.map (Value.int .i64)⟩ e X.next)) ⟨(l++[n]).map (Value.int .i64)⟩ e true
    simpa only[Heap.next_set] using this
   ·rw[Heap.get_alloc,if_neg (by simp only[Heap.next_set];omega),Heap.get_set,if_pos rfl]
   ·refine⟨by simp only[Heap.next_alloc,Heap.next_set];omega,fun j hj hn=>?_⟩
    rw[Heap.get_alloc,if_neg (by simp only[Heap.next_set];omega),Heap.get_set,if_neg (fun hh=>hn ⟨by rw[hh];exact hWi,by omega⟩),Heap.get_set,if_neg (fun hh=>hn ⟨by rw[hh];exact t1,by omega⟩)]
section
variable {P : Program} [Gl P] [Orc P] {t : TT} {H H1 : Heap} {is : List FI} {d p : Pth} {w : Bool} {v : Value} {fa : FA} {args : List FA} {l : List Value} {y : Value} {pre : List Heap} {R : TT→List Heap→Prop} {S : Value→Heap→Prop}
theorem DoesD.yield {j : Nat} {a b : Array Value} (hf : dA t fa=.func (.yield j) a b) (h : EvY P j (a++⟨args.map (dA t)⟩) H v H1) : DoesD P (.call fa args) t H v H1:=by
 have hb : FOp.call fa args≠badOp:=by
  intro e
  unfold badOp at e
  cases e
  cases hf
 refine⟨hb,fun op tm ho ht=>?_⟩
 rcases comp_call (compOp_S ho hb) with⟨f,aa,ts,rfl,rfl,rfl⟩|rfl
 ·obtain⟨n,h⟩:=h
  refine⟨n,fun N hN=>?_⟩
  rw[dA_comp ht] at hf
  rw[parts_eq ht] at h
  have e : (⟨aa.toList.map (ev P tm)⟩ : Array Value)=aa.map (ev P tm):=by apply Array.toList_inj.1;simp
  rw[e] at h
  simp only[xopv,hf,h N hN]
 ·cases hf
theorem DoesD.callV (hf : dA t fa=y) (h : FV P y (args.map (dA t)) H S) : ∃ v H1,DoesD P (.call fa args) t H v H1∧S v H1:=by
 subst hf
 unfold FV at h
 split at h
 ·rename_i g a b e
  obtain⟨v,H1,h1,h2⟩:=h
  have e2 : (⟨a⟩ : Array Value)++⟨args.map (dA t)⟩++⟨b⟩=⟨a++args.map (dA t)++b⟩:=by simp only[arr_app]
  exact⟨v,H1,.call e (by rw[e2];exact h1),h2⟩
 ·rename_i l a b e
  obtain⟨v,H1,h1,h2⟩:=h
  have e2 : (⟨a⟩ : Array Value)++⟨args.map (dA t)⟩=⟨a++args.map (dA t)⟩:=by simp only[arr_app]
  exact⟨v,H1,.yield e (by rw[e2];exact h1),h2⟩
 ·exact h.elim
theorem VD.callV (hf : dA t fa=y) (hs : FV P y l H S) (hl : args.map (dA t)=l) (k : ∀ v H',S v H'→VD P is (st v d t) H' (pre++[H]) R) : VD P (.go (.call fa args) d::is) t H pre R:=by
 subst hl
 obtain⟨v,H1,h1,h2⟩:=DoesD.callV hf hs
 exact .does h1 (k _ _ h2)
theorem VD.callVT (hp : gt p t=.bool w) (hf : dA t fa=y) (hs : FV P y l H S) (hl : args.map (dA t)=l) (k : ∀ v H',S v H'→VD P is (st v d t) H' (pre++[H]) R) : VD P (.gd p w (.call fa args) d::is) t H pre R:=by
 subst hl
 obtain⟨v,H1,h1,h2⟩:=DoesD.callV hf hs
 exact .gdT hp h1 (k _ _ h2)
end
end Go.Xe
/- Mathematics of seats (part 1): quotients, and which of them are the greatest. Conditions: none. -/
namespace Go.Xe.Sea
abbrev Q2:=Int×Int
def qlt (a b : Q2) : Prop:=if a.2=0∧b.2=0 then a.1<b.1 else a.1*b.2<b.1*a.2
instance (a b : Q2) : Decidable (qlt a b):=by unfold qlt;infer_instance
def qok (a : Q2) : Prop:=0≤a.1∧0≤a.2∧(a.2=0→0<a.1)
theorem qlt_irr (a : Q2) : ¬ qlt a a:=by
 unfold qlt;split<;>omega
theorem qlt_z {a b : Q2} (ha : a.2=0) (hb : b.2=0) : qlt a b↔a.1<b.1:=by unfold qlt;rw[if_pos ⟨ha,hb⟩]
theorem qlt_nz {a b : Q2} (h : ¬ (a.2=0∧b.2=0)) : qlt a b↔a.1*b.2<b.1*a.2:=by unfold qlt;rw[if_neg h]
theorem qlt_zn {a b : Q2} (ha : a.2=0) (hb : b.2≠0) (ok : qok a) (ob : qok b) : ¬ qlt a b:=by
 rw[qlt_nz (fun h=>hb h.2),ha,Int.mul_zero]
 have:=Int.mul_nonneg ok.1 ob.2.1
 omega
theorem qlt_nzz {a b : Q2} (ha : a.2≠0) (hb : b.2=0) (ok : qok a) (ob : qok b) : qlt a b:=by
 rw[qlt_nz (fun h=>ha h.1),hb,Int.mul_zero]
 exact Int.mul_pos (ob.2.2 hb) (by have:=ok.2.1;omega)
theorem qlt_tr {a b c : Q2} (oa : qok a) (ob : qok b) (oc : qok c) (h : qlt a b) (k : qlt b c) : qlt a c:=by
 by_cases ha : a.2=0<;>by_cases hb : b.2=0<;>by_cases hc : c.2=0
 ·rw[qlt_z ha hb] at h;rw[qlt_z hb hc] at k;rw[qlt_z ha hc];omega
 ·exact absurd k (qlt_zn hb hc ob oc)
 ·exact absurd h (qlt_zn ha hb oa ob)
 ·exact absurd h (qlt_zn ha hb oa ob)
 ·exact qlt_nzz ha hc oa oc
 ·exact absurd k (qlt_zn hb hc ob oc)
 ·exact qlt_nzz ha hc oa oc
 ·rw[qlt_nz (fun h=>ha h.1)] at h ⊢
  rw[qlt_nz (fun h=>hb h.1)] at k
  have a0 : 0<a.2:=by have:=oa.2.1;omega
  have b0 : 0<b.2:=by have:=ob.2.1;omega
  have c0 : 0<c.2:=by have:=oc.2.1;omega
  have e1:=Int.mul_lt_mul_of_pos_right h c0
  have e2:=Int.mul_lt_mul_of_pos_right k a0
  refine Int.lt_of_mul_lt_mul_right (a:=b.2) ?_ (by omega)
  have x1 : a.1*b.2*c.2=a.1*c.2*b.2:=by rw[Int.mul_assoc,Int.mul_comm b.2,← Int.mul_assoc]
  have x2 : b.1*a.2*c.2=b.1*c.2*a.2:=by rw[Int.mul_assoc,Int.mul_comm a.2,← Int.mul_assoc]
  have x3 : c.1*b.2*a.2=c.1*a.2*b.2:=by rw[Int.mul_assoc,Int.mul_comm b.2,← Int.mul_assoc]
  omega
theorem qlt_neg {a b c : Q2} (oa : qok a) (ob : qok b) (oc : qok c) (h : ¬ qlt a b) (k : ¬ qlt b c) : ¬ qlt a c:=by
 by_cases ha : a.2=0<;>by_cases hb : b.2=0<;>by_cases hc : c.2=0
 ·rw[qlt_z ha hb] at h;rw[qlt_z hb hc] at k;rw[qlt_z ha hc];omega
 ·exact qlt_zn ha hc oa oc
 ·exact absurd (qlt_nzz hb hc ob oc) k
 ·exact qlt_zn ha hc oa oc
 ·exact absurd (qlt_nzz ha hb oa ob) h
 ·exact absurd (qlt_nzz ha hb oa ob) h
 ·exact absurd (qlt_nzz hb hc ob oc) k
 ·rw[qlt_nz (fun h=>ha h.1)] at h ⊢
  rw[qlt_nz (fun h=>hb h.1)] at k
  have a0 : 0<a.2:=by have:=oa.2.1;omega
  have b0 : 0<b.2:=by have:=ob.2.1;omega
  have c0 : 0<c.2:=by have:=oc.2.1;omega
  have e1:=Int.mul_le_mul_of_nonneg_right (Int.not_lt.1 h) (Int.le_of_lt c0)
  have e2:=Int.mul_le_mul_of_nonneg_right (Int.not_lt.1 k) (Int.le_of_lt a0)
  intro hx
  have e3:=Int.mul_lt_mul_of_pos_right hx b0
  have x1 : a.1*b.2*c.2=a.1*c.2*b.2:=by rw[Int.mul_assoc,Int.mul_comm b.2,← Int.mul_assoc]
  have x2 : b.1*a.2*c.2=b.1*c.2*a.2:=by rw[Int.mul_assoc,Int.mul_comm a.2,← Int.mul_assoc]
  have x3 : c.1*b.2*a.2=c.1*a.2*b.2:=by rw[Int.mul_assoc,Int.mul_comm b.2,← Int.mul_assoc]
  omega
theorem qlt_asymm {a b : Q2} (oa : qok a) (ob : qok b) (h : qlt a b) : ¬ qlt b a:=fun k=>qlt_irr a (qlt_tr oa ob oa h k)
theorem qlt_le {a b c : Q2} (oa : qok a) (ob : qok b) (oc : qok c) (h : qlt a b) (k : ¬ qlt c b) : qlt a c:=by
 apply Decidable.by_contra
 intro hn
 exact qlt_neg oa oc ob hn k h
theorem le_qlt {a b c : Q2} (oa : qok a) (ob : qok b) (oc : qok c) (h : ¬ qlt b a) (k : qlt b c) : qlt a c:=by
 apply Decidable.by_contra
 intro hn
 exact qlt_neg ob oa oc h hn k
def lw (a : Q2) : Q2:=if a.2=0 then (a.1,0) else (a.1/(Int.gcd a.1 a.2 : Int),a.2/(Int.gcd a.1 a.2 : Int))
theorem lw_ok {a : Q2} (h : qok a) : qok (lw a)∧((lw a).2=0↔a.2=0):=by
 unfold lw
 split
 ·rename_i e;exact⟨⟨h.1,by simp,fun _=>h.2.2 e⟩,by simp[e]⟩
 ·rename_i e
  have g0 : 0<(Int.gcd a.1 a.2 : Int):=by
   have:=Int.gcd_pos_of_ne_zero_right a.1 e
   omega
  have h1:=Int.ediv_nonneg h.1 (Int.le_of_lt g0)
  have hd : (Int.gcd a.1 a.2 : Int) ∣ a.2:=Int.gcd_dvd_right a.1 a.2
  have h2 : 0<a.2/(Int.gcd a.1 a.2 : Int):=Int.ediv_pos_of_pos_of_dvd (by have:=h.2.1;omega) (Int.le_of_lt g0) hd
  refine⟨⟨h1,Int.le_of_lt h2,fun hh=>?_⟩,?_⟩
  ·simp only at hh;omega
  ·simp only;omega
theorem lw_mul {a : Q2} (hb : a.2≠0) : ∃ g : Int,0<g∧a.1=(lw a).1*g∧a.2=(lw a).2*g:=by
 have g0 : 0<(Int.gcd a.1 a.2 : Int):=by
  have:=Int.gcd_pos_of_ne_zero_right a.1 hb
  omega
 refine⟨_,g0,?_,?_⟩<;>unfold lw<;>rw[if_neg hb]
 ·exact (Int.ediv_mul_cancel (Int.gcd_dvd_left a.1 a.2)).symm
 ·exact (Int.ediv_mul_cancel (Int.gcd_dvd_right a.1 a.2)).symm
theorem lw_cop {a : Q2} (hb : a.2≠0) : Int.gcd (lw a).1 (lw a).2=1:=by
 unfold lw
 rw[if_neg hb]
 exact Int.gcd_ediv_gcd_ediv_gcd (Int.gcd_pos_of_ne_zero_right a.1 hb)
theorem lt_scale {x y g h : Int} (hg : 0<g) (hh : 0<h) : x*g*h<y*h*g↔x<y:=by
 have e : y*h*g=y*g*h:=by rw[Int.mul_assoc,Int.mul_comm h,← Int.mul_assoc]
 rw[e]
 constructor
 ·intro k
  exact Int.lt_of_mul_lt_mul_right (Int.lt_of_mul_lt_mul_right k (Int.le_of_lt hh)) (Int.le_of_lt hg)
 ·intro k
  exact Int.mul_lt_mul_of_pos_right (Int.mul_lt_mul_of_pos_right k hg) hh
theorem lw_lt {a b : Q2} (oa : qok a) (ob : qok b) : qlt (lw a) (lw b)↔qlt a b:=by
 have la:=lw_ok oa
 have lb:=lw_ok ob
 by_cases ha : a.2=0<;>by_cases hb : b.2=0
 ·have e1 : lw a=(a.1,0):=by unfold lw;rw[if_pos ha]
  have e2 : lw b=(b.1,0):=by unfold lw;rw[if_pos hb]
  rw[e1,e2,qlt_z rfl rfl,qlt_z ha hb]
 ·exact iff_of_false (qlt_zn (la.2.2 ha) (fun h=>hb (lb.2.1 h)) la.1 lb.1) (qlt_zn ha hb oa ob)
 ·exact iff_of_true (qlt_nzz (fun h=>ha (la.2.1 h)) (lb.2.2 hb) la.1 lb.1) (qlt_nzz ha hb oa ob)
 ·rw[qlt_nz (fun h=>ha h.1),qlt_nz (fun h=>ha (la.2.1 h.1))]
  obtain⟨g,g0,e1,e2⟩:=lw_mul ha
  obtain⟨h,h0,e3,e4⟩:=lw_mul hb
  conv=>rhs;rw[e1,e2,e3,e4]
  have x1 : (lw a).1*g*((lw b).2*h)=(lw a).1*(lw b).2*g*h:=by
   rw[Int.mul_assoc (lw a).1 g,Int.mul_comm g,← Int.mul_assoc,← Int.mul_assoc,Int.mul_assoc _ h g,Int.mul_comm h g,← Int.mul_assoc]
  have x2 : (lw b).1*h*((lw a).2*g)=(lw b).1*(lw a).2*h*g:=by
   rw[Int.mul_assoc (lw b).1 h,Int.mul_comm h,← Int.mul_assoc,← Int.mul_assoc,Int.mul_assoc _ g h,Int.mul_comm g h,← Int.mul_assoc]
  rw[x1,x2,lt_scale g0 h0]
theorem cop_eq {x y u v : Nat} (h : x*v=u*y) (c1 : Nat.gcd x y=1) (c2 : Nat.gcd u v=1) (hy : 0<y) : x=u∧y=v:=by
 have d1 : y ∣ v:=by
  have : y ∣ x*v:=⟨u,by rw[h,Nat.mul_comm]⟩
  exact Nat.Coprime.dvd_of_dvd_mul_left (Nat.Coprime.symm c1) this
 have d2 : v ∣ y:=by
  have : v ∣ u*y:=⟨x,by rw[← h,Nat.mul_comm]⟩
  exact Nat.Coprime.dvd_of_dvd_mul_left (Nat.Coprime.symm c2) this
 have e:=Nat.dvd_antisymm d1 d2
 subst e
 exact⟨Nat.eq_of_mul_eq_mul_right hy h,rfl⟩
theorem lw_eq {a b : Q2} (oa : qok a) (ob : qok b) : lw a=lw b↔¬ qlt a b∧¬ qlt b a:=by
 have la:=lw_ok oa
 have lb:=lw_ok ob
 constructor
 ·intro h
  rw[← lw_lt oa ob,← lw_lt ob oa,h]
  exact⟨qlt_irr _,qlt_irr _⟩
 ·rintro⟨h,k⟩
  by_cases ha : a.2=0<;>by_cases hb : b.2=0
  ·rw[qlt_z ha hb] at h
   rw[qlt_z hb ha] at k
   unfold lw
   rw[if_pos ha,if_pos hb]
   exact Prod.ext (by show a.1=b.1;omega) rfl
  ·exact absurd (qlt_nzz hb ha ob oa) k
  ·exact absurd (qlt_nzz ha hb oa ob) h
  ·rw[← lw_lt oa ob,qlt_nz (fun h=>ha (la.2.1 h.1))] at h
   rw[← lw_lt ob oa,qlt_nz (fun h=>hb (lb.2.1 h.1))] at k
   have c1:=lw_cop ha
   have c2:=lw_cop hb
   have n1 : (lw a).2≠0:=fun h=>ha (la.2.1 h)
   obtain⟨⟨x1,x2⟩,hx⟩ : ∃ x,x=lw a:=⟨_,rfl⟩
   obtain⟨⟨y1,y2⟩,hy⟩ : ∃ y,y=lw b:=⟨_,rfl⟩
   rw[← hx] at h k c1 n1 la
   rw[← hy] at h k c2 lb
   rw[← hx,← hy]
   obtain⟨p,rfl⟩:=Int.eq_ofNat_of_zero_le la.1.1
   obtain⟨q,rfl⟩:=Int.eq_ofNat_of_zero_le la.1.2.1
   obtain⟨r,rfl⟩:=Int.eq_ofNat_of_zero_le lb.1.1
   obtain⟨s,rfl⟩:=Int.eq_ofNat_of_zero_le lb.1.2.1
   simp only at h k n1
   have hh : p*s=r*q:=by
    have h1 : ((p*s : Nat) : Int)=((r*q : Nat) : Int):=by rw[Int.natCast_mul,Int.natCast_mul];omega
    exact Int.ofNat_inj.1 h1
   obtain⟨e1,e2⟩:=cop_eq hh (by simpa using c1) (by simpa using c2) (by omega)
   rw[e1,e2]
end Go.Xe.Sea
/- Mathematics of seats (part 2): seats that are given one by one to the greatest quotients. Conditions: none. -/
namespace Go.Xe.Sea
variable {v : Nat→Int} {q : Nat→Q2} {c : Nat→Int→Q2} {k p : Nat}
def tp (v : Nat→Int) (q : Nat→Q2) (k : Nat) : List Nat:=(List.range k).filter fun p=>decide (0<v p∧∀ o,o<k→0<v o→¬ qlt (q p) (q o))
theorem mem_tp : p∈tp v q k↔p<k∧0<v p∧∀ o,o<k→0<v o→¬ qlt (q p) (q o):=by
 unfold tp
 rw[List.mem_filter,List.mem_range,decide_eq_true_eq]
theorem tp_skip (h : ¬ 0<v k) : tp v q (k+1)=tp v q k:=by
 unfold tp
 rw[List.range_succ,List.filter_append]
 have e : List.filter (fun p=>decide (0<v p∧∀ o,o<k+1→0<v o→¬ qlt (q p) (q o))) [k]=[]:=by
  rw[List.filter_cons_of_neg (by simp[h])]
  rfl
 rw[e,List.append_nil]
 apply List.filter_congr
 intro x hx
 rw[decide_eq_decide]
 constructor
 ·rintro⟨h1,h2⟩
  exact⟨h1,fun o ho=>h2 o (by omega)⟩
 ·rintro⟨h1,h2⟩
  refine⟨h1,fun o ho h3=>?_⟩
  rcases Nat.lt_succ_iff_lt_or_eq.1 ho with h4|rfl
  ·exact h2 o h4 h3
  ·exact absurd h3 h
theorem tp_last (h : 0<v k) (hl : ∀ o,o<k→0<v o→¬ qlt (q k) (q o)) : List.filter (fun p=>decide (0<v p∧∀ o,o<k+1→0<v o→¬ qlt (q p) (q o))) [k]=[k]:=by
 rw[List.filter_cons_of_pos]
 ·rfl
 ·rw[decide_eq_true_eq]
  refine⟨h,fun o ho h3=>?_⟩
  rcases Nat.lt_succ_iff_lt_or_eq.1 ho with h4|rfl
  ·exact hl o h4 h3
  ·exact qlt_irr _
theorem tp_only (h : 0<v k) (hl : ∀ o,o<k→0<v o→qlt (q o) (q k)∧¬ qlt (q k) (q o)) : tp v q (k+1)=[k]:=by
 unfold tp
 rw[List.range_succ,List.filter_append,tp_last h (fun o ho h3=>(hl o ho h3).2)]
 have e : List.filter (fun p=>decide (0<v p∧∀ o,o<k+1→0<v o→¬ qlt (q p) (q o))) (List.range k)=[]:=by
  rw[List.filter_eq_nil_iff]
  intro x hx hh
  rw[decide_eq_true_eq] at hh
  have hx':=List.mem_range.1 hx
  exact hh.2 k (by omega) h (hl x hx' hh.1).1
 rw[e];rfl
theorem tp_ne (hq : ∀ p,0<v p→qok (q p)) : ∀ {k : Nat},(∃ p,p<k∧0<v p)→tp v q k≠[]
 | 0,⟨p,h,_⟩=>absurd h (Nat.not_lt_zero p)
 | k+1,⟨p,h,hp⟩=>by
  by_cases hk : 0<v k
  ·by_cases hn : tp v q k=[]
   ·rw[tp_only hk]
    ·simp
    ·intro o ho h3
     exact absurd hn (tp_ne hq ⟨o,ho,h3⟩)
   ·obtain⟨x,hx⟩:=List.exists_mem_of_ne_nil _ hn
    obtain⟨h1,h2,h3⟩:=mem_tp.1 hx
    by_cases hl : qlt (q x) (q k)
    ·rw[tp_only hk]
     ·simp
     ·intro o ho h4
      have:=h3 o ho h4
      have hok : qlt (q o) (q k):=le_qlt (hq o h4) (hq x h2) (hq k hk) this hl
      exact⟨hok,qlt_asymm (hq o h4) (hq k hk) hok⟩
    ·intro he
     have : x∈tp v q (k+1):=mem_tp.2 ⟨by omega,h2,fun o ho h4=>by
      rcases Nat.lt_succ_iff_lt_or_eq.1 ho with h5|rfl
      ·exact h3 o h5 h4
      ·exact hl⟩
     rw[he] at this
     cases this
  ·rw[tp_skip hk]
   refine tp_ne hq ⟨p,?_,hp⟩
   rcases Nat.lt_succ_iff_lt_or_eq.1 h with h4|rfl
   ·exact h4
   ·exact absurd hp hk
theorem tp_nil (hq : ∀ p,0<v p→qok (q p)) : tp v q k=[]↔∀ p,p<k→¬ 0<v p:=by
 constructor
 ·intro h p hp hv
  exact tp_ne hq ⟨p,hp,hv⟩ h
 ·intro h
  apply List.eq_nil_iff_forall_not_mem.2
  intro x hx
  obtain⟨h1,h2,_⟩:=mem_tp.1 hx
  exact h x h1 h2
theorem tp_new (hq : ∀ p,0<v p→qok (q p)) (h : 0<v k) (hn : tp v q k=[]) : tp v q (k+1)=[k]:=
 tp_only h (fun o ho h3=>absurd h3 ((tp_nil hq).1 hn o ho))
theorem tp_top (hq : ∀ p,0<v p→qok (q p)) (h : 0<v k) (hp : p∈tp v q k) (hl : qlt (q p) (q k)) : tp v q (k+1)=[k]:=by
 obtain⟨h1,h2,h3⟩:=mem_tp.1 hp
 refine tp_only h (fun o ho h4=>?_)
 have hok : qlt (q o) (q k):=le_qlt (hq o h4) (hq p h2) (hq k h) (h3 o ho h4) hl
 exact⟨hok,qlt_asymm (hq o h4) (hq k h) hok⟩
theorem tp_rest (h : 0<v k) (hl : ∀ x∈tp v q k,¬ qlt (q x) (q k)) : tp v q (k+1)=tp v q k++List.filter (fun p=>decide (0<v p∧∀ o,o<k+1→0<v o→¬ qlt (q p) (q o))) [k]:=by
 unfold tp
 rw[List.range_succ,List.filter_append]
 congr 1
 apply List.filter_congr
 intro x hx
 rw[decide_eq_decide]
 constructor
 ·rintro⟨h1,h2⟩
  exact⟨h1,fun o ho=>h2 o (by omega)⟩
 ·rintro⟨h1,h2⟩
  refine⟨h1,fun o ho h3=>?_⟩
  rcases Nat.lt_succ_iff_lt_or_eq.1 ho with h4|rfl
  ·exact h2 o h4 h3
  ·exact hl x (mem_tp.2 ⟨List.mem_range.1 hx,h1,h2⟩)
theorem tp_same {x y : Nat} (hx : x∈tp v q k) (hy : y∈tp v q k) : ¬ qlt (q x) (q y)∧¬ qlt (q y) (q x):=by
 obtain⟨h1,h2,h3⟩:=mem_tp.1 hx
 obtain⟨k1,k2,k3⟩:=mem_tp.1 hy
 exact⟨h3 y k1 k2,k3 x h1 h2⟩
theorem tp_eq (hq : ∀ p,0<v p→qok (q p)) (h : 0<v k) (hp : p∈tp v q k) (h1 : ¬ qlt (q p) (q k)) (h2 : ¬ qlt (q k) (q p)) : tp v q (k+1)=tp v q k++[k]:=by
 have hp2:=(mem_tp.1 hp).2
 rw[tp_rest h,tp_last h]
 ·intro o ho h3
  exact qlt_neg (hq k h) (hq p hp2.1) (hq o h3) h2 (hp2.2 o ho h3)
 ·intro x hx
  exact qlt_neg (hq x (mem_tp.1 hx).2.1) (hq p hp2.1) (hq k h) (tp_same hx hp).1 h1
theorem tp_low (hq : ∀ p,0<v p→qok (q p)) (h : 0<v k) (hp : p∈tp v q k) (h1 : ¬ qlt (q p) (q k)) (h2 : qlt (q k) (q p)) : tp v q (k+1)=tp v q k:=by
 have hp2:=(mem_tp.1 hp).2
 rw[tp_rest h]
 ·rw[List.filter_cons_of_neg]
  ·simp
  ·rw[decide_eq_true_eq]
   rintro⟨_,h3⟩
   exact h3 p (by have:=(mem_tp.1 hp).1;omega) hp2.1 h2
 ·intro x hx
  exact qlt_neg (hq x (mem_tp.1 hx).2.1) (hq p hp2.1) (hq k h) (tp_same hx hp).1 h1
theorem tp_nodup : (tp v q k).Nodup:=List.nodup_range.sublist (List.filter_sublist)
theorem tp_len : (tp v q k).length≤k:=by
 have:=List.length_filter_le (fun p=>decide (0<v p∧∀ o,o<k→0<v o→¬ qlt (q p) (q o))) (List.range k)
 rw[List.length_range] at this
 exact this
def sm (s : Nat→Int) : Nat→Int
 | 0=>0
 | n+1=>sm s n+s n
theorem sm_le {s t : Nat→Int} : ∀ {n : Nat},(∀ p,p<n→s p≤t p)→sm s n≤sm t n
 | 0,_=>Int.le_refl _
 | n+1,h=>by
  have:=sm_le (s:=s) (t:=t) (n:=n) (fun p hp=>h p (by omega))
  have:=h n (by omega)
  simp only[sm];omega
theorem sm_lt {s t : Nat→Int} : ∀ {n : Nat} {p : Nat},(∀ p,p<n→s p≤t p)→p<n→s p<t p→sm s n<sm t n
 | 0,_,_,h,_=>absurd h (Nat.not_lt_zero _)
 | n+1,p,h,hp,hl=>by
  simp only[sm]
  have h1:=h n (by omega)
  rcases Nat.lt_succ_iff_lt_or_eq.1 hp with h2|rfl
  ·have:=sm_lt (n:=n) (p:=p) (fun p hp=>h p (by omega)) h2 hl
   omega
  ·have:=sm_le (s:=s) (t:=t) (n:=p) (fun p hp=>h p (by omega))
   omega
theorem sm_cong {s t : Nat→Int} {n : Nat} (h : ∀ p,p<n→s p=t p) : sm s n=sm t n:=
 Int.le_antisymm (sm_le fun p hp=>Int.le_of_eq (h p hp)) (sm_le fun p hp=>Int.le_of_eq (h p hp).symm)
theorem sm_add {s t : Nat→Int} : ∀ {n : Nat},sm (fun p=>s p+t p) n=sm s n+sm t n
 | 0=>rfl
 | n+1=>by simp only[sm];rw[sm_add];omega
theorem sm_0 : ∀ {n : Nat},sm (fun _=>0) n=0
 | 0=>rfl
 | n+1=>by simp only[sm];rw[sm_0];rfl
def up (low : Nat→Int) (T : List Nat) : Nat→Int:=fun p=>if p∈T then low p+1 else low p
theorem sm_ind {T : List Nat} (hn : T.Nodup) : ∀ {n : Nat},sm (fun p=>if p∈T then 1 else 0) n=((T.filter fun p=>decide (p<n)).length : Int)
 | 0=>by
  have e : (T.filter fun p=>decide (p<0))=[]:=List.filter_eq_nil_iff.2 (by simp)
  rw[e];rfl
 | n+1=>by
  simp only[sm]
  rw[sm_ind hn]
  induction T with
  | nil=>rfl
  | cons x T ih=>
   have hn':=List.nodup_cons.1 hn
   have ih':=ih hn'.2
   by_cases hx : x=n
   ·subst hx
    have e1 : (x::T).filter (fun p=>decide (p<x))=T.filter fun p=>decide (p<x):=List.filter_cons_of_neg (by simp)
    have e2 : (x::T).filter (fun p=>decide (p<x+1))=x::T.filter fun p=>decide (p<x+1):=List.filter_cons_of_pos (by simp)
    rw[e1,e2,if_pos (by simp),List.length_cons]
    rw[if_neg hn'.1] at ih'
    omega
   ·have hm : (if n∈x::T then (1 : Int) else 0)=if n∈T then 1 else 0:=by
     by_cases h1 : n∈T
     ·rw[if_pos h1,if_pos (by simp[h1])]
     ·rw[if_neg h1,if_neg (by simp only[List.mem_cons,not_or];exact⟨fun e=>hx e.symm,h1⟩)]
    rw[hm]
    by_cases hl : x<n
    ·rw[List.filter_cons_of_pos (by simpa using hl),List.filter_cons_of_pos (by simp;omega),List.length_cons,List.length_cons]
     omega
    ·rw[List.filter_cons_of_neg (by simpa using hl),List.filter_cons_of_neg (by simp;omega)]
     exact ih'
theorem sm_up {low : Nat→Int} {T : List Nat} {n : Nat} (hn : T.Nodup) (hT : ∀ p∈T,p<n) : sm (up low T) n=sm low n+T.length:=by
 have e : sm (up low T) n=sm (fun p=>low p+if p∈T then 1 else 0) n:=sm_cong (fun p _=>by unfold up;split<;>omega)
 have e2 : (T.filter fun p=>decide (p<n))=T:=List.filter_eq_self.2 (fun p hp=>by simpa using hT p hp)
 rw[e,sm_add,sm_ind hn,e2]
def giv (v : Nat→Int) (c : Nat→Int→Q2) : Nat→Int→(Nat→Int)→(Nat→Int)×(Nat→Int)
 | 0,_,low=>(low,low)
 | f+1,left,low=>
  if left=0∨tp v (fun p=>c p (low p)) 8=[] then (low,low)
  else if ((tp v (fun p=>c p (low p)) 8).length : Int)≤left then giv v c f (left-(tp v (fun p=>c p (low p)) 8).length) (up low (tp v (fun p=>c p (low p)) 8))
  else (low,up low (tp v (fun p=>c p (low p)) 8))
structure Low (v : Nat→Int) (c : Nat→Int→Q2) (low : Nat→Int) : Prop where
 nn : ∀ p,0≤low p
 adm : ∀ p,¬ (p<8∧0<v p)→low p=0
 weak : ∀ p o t,p<8→0<v p→o<8→0<v o→0≤t→t<low p→¬ qlt (c p t) (c o (low o))
 strict : (∀ p t,0<v p→0≤t→qlt (c p (t+1)) (c p t))→∀ p o t,p<8→0<v p→o<8→0<v o→0≤t→t<low p→qlt (c o (low o)) (c p t)
def Fin (v : Nat→Int) (c : Nat→Int→Q2) (S : Int) (low high : Nat→Int) : Prop:=
 Low v c low∧(((∀ p,p<8→¬ 0<v p)∧low=(fun _=>0)∧high=low) ∨
  ((∃ p,p<8∧0<v p)∧sm low 8=S∧high=low) ∨
  ((∃ p,p<8∧0<v p)∧sm low 8<S∧S<sm low 8+(tp v (fun p=>c p (low p)) 8).length∧high=up low (tp v (fun p=>c p (low p)) 8)))
variable (hq : ∀ p t,0<v p→0≤t→qok (c p t)) (hd : ∀ p t,0<v p→0≤t→¬ qlt (c p t) (c p (t+1)))
include hq hd
theorem Low.up {low : Nat→Int} (h : Low v c low) : Low v c (up low (tp v (fun p=>c p (low p)) 8)):=by
 have hq' : ∀ p,0<v p→qok (c p (low p)):=fun p hp=>hq p _ hp (h.nn p)
 have hT : ∀ {p},p∈tp v (fun p=>c p (low p)) 8→p<8∧0<v p∧∀ o,o<8→0<v o→¬ qlt (c p (low p)) (c o (low o)):=fun hp=>mem_tp.1 hp
 refine⟨fun p=>?_,fun p hp=>?_,?_,?_⟩
 ·unfold Sea.up;have:=h.nn p;split<;>omega
 ·unfold Sea.up
  rw[if_neg (fun hm=>hp ⟨(hT hm).1,(hT hm).2.1⟩)]
  exact h.adm p hp
 ·intro p o t hp8 hp ho8 ho ht hl
  have nx : ¬ qlt (c o (low o)) (c o (Sea.up low (tp v (fun p=>c p (low p)) 8) o)):=by
   unfold Sea.up
   split
   ·exact hd o _ ho (h.nn o)
   ·exact qlt_irr _
  have nq : qok (c o (Sea.up low (tp v (fun p=>c p (low p)) 8) o)):=hq o _ ho (by unfold Sea.up;have:=h.nn o;split<;>omega)
  by_cases hlp : t<low p
  ·exact qlt_neg (hq p t hp ht) (hq' o ho) nq (h.weak p o t hp8 hp ho8 ho ht hlp) nx
  ·have hpT : p∈tp v (fun p=>c p (low p)) 8:=by
    apply Decidable.by_contra
    intro hn
    unfold Sea.up at hl
    rw[if_neg hn] at hl
    omega
   have et : t=low p:=by
    unfold Sea.up at hl
    rw[if_pos hpT] at hl
    omega
   subst et
   exact qlt_neg (hq' p hp) (hq' o ho) nq ((hT hpT).2.2 o ho8 ho) nx
 ·intro hs p o t hp8 hp ho8 ho ht hl
  have st : ∀ o,0<v o→o<8→¬ (o∈tp v (fun p=>c p (low p)) 8)→∀ p,p∈tp v (fun p=>c p (low p)) 8→qlt (c o (low o)) (c p (low p)):=by
   intro o ho ho8 hn p hpT
   apply Decidable.by_contra
   intro hx
   apply hn
   refine mem_tp.2 ⟨ho8,ho,fun x hx8 hxv=>?_⟩
   exact qlt_neg (hq' o ho) (hq' p (hT hpT).2.1) (hq' x hxv) hx ((hT hpT).2.2 x hx8 hxv)
  have nx : ¬ qlt (c o (low o)) (c o (Sea.up low (tp v (fun p=>c p (low p)) 8) o)):=by
   unfold Sea.up
   split
   ·exact hd o _ ho (h.nn o)
   ·exact qlt_irr _
  have nq : qok (c o (Sea.up low (tp v (fun p=>c p (low p)) 8) o)):=hq o _ ho (by unfold Sea.up;have:=h.nn o;split<;>omega)
  by_cases hlp : t<low p
  ·exact le_qlt nq (hq' o ho) (hq p t hp ht) nx (h.strict hs p o t hp8 hp ho8 ho ht hlp)
  ·have hpT : p∈tp v (fun p=>c p (low p)) 8:=by
    apply Decidable.by_contra
    intro hn
    unfold Sea.up at hl
    rw[if_neg hn] at hl
    omega
   have et : t=low p:=by
    unfold Sea.up at hl
    rw[if_pos hpT] at hl
    omega
   subst et
   by_cases hoT : o∈tp v (fun p=>c p (low p)) 8
   ·have e : Sea.up low (tp v (fun p=>c p (low p)) 8) o=low o+1:=by unfold Sea.up;rw[if_pos hoT]
    rw[e]
    exact qlt_le (hq o _ ho (by have:=h.nn o;omega)) (hq' o ho) (hq' p hp) (hs o _ ho (h.nn o)) ((hT hpT).2.2 o ho8 ho)
   ·have e : Sea.up low (tp v (fun p=>c p (low p)) 8) o=low o:=by unfold Sea.up;rw[if_neg hoT]
    rw[e]
    exact st o ho ho8 hoT p hpT
theorem giv_fin {S : Int} : ∀ {f : Nat} {left : Int} {low : Nat→Int},0≤left→left<f→Low v c low→sm low 8+left=S→Fin v c S (giv v c f left low).1 (giv v c f left low).2
 | 0,left,low,h0,hf,_,_=>by omega
 | f+1,left,low,h0,hf,h,hs=>by
  have hq' : ∀ p,0<v p→qok (c p (low p)):=fun p hp=>hq p _ hp (h.nn p)
  have hnil:=tp_nil (k:=8) (q:=fun p=>c p (low p)) hq'
  have hmem : ∀ p∈tp v (fun p=>c p (low p)) 8,p<8:=fun p hp=>(mem_tp.1 hp).1
  have hup:=Low.up hq hd h
  have hsu:=sm_up (low:=low) (n:=8) (tp_nodup (v:=v) (q:=fun p=>c p (low p)) (k:=8)) hmem
  unfold giv
  by_cases hT : tp v (fun p=>c p (low p)) 8=[]
  ·rw[if_pos (.inr hT)]
   have hno:=hnil.1 hT
   exact⟨h,.inl ⟨hno,funext fun p=>h.adm p (fun hh=>hno p hh.1 hh.2),rfl⟩⟩
  have hne : ∃ p,p<8∧0<v p:=by
   obtain⟨p,hp⟩:=List.exists_mem_of_ne_nil _ hT
   exact⟨p,(mem_tp.1 hp).1,(mem_tp.1 hp).2.1⟩
  by_cases hl : left=0
  ·rw[if_pos (.inl hl)]
   exact⟨h,.inr (.inl ⟨hne,by show sm low 8=S;omega,rfl⟩)⟩
  rw[if_neg (fun hh=>hh.elim hl hT)]
  have hlen:=List.length_pos_iff.2 hT
  split
  ·rename_i hle
   exact giv_fin (by omega) (by omega) hup (by omega)
  ·rename_i hle
   exact⟨h,.inr (.inr ⟨hne,by show sm low 8<S;omega,by show S<sm low 8+(tp v (fun p=>c p (low p)) 8).length;omega,rfl⟩)⟩
omit hq hd in
theorem giv_low0 : Low v c (fun _=>0):=⟨fun _=>Int.le_refl _,fun _ _=>rfl,fun _ _ _ _ _ _ _ h1 h2=>by omega,fun _ _ _ _ _ _ _ _ h1 h2=>by omega⟩
end Go.Xe.Sea
