/- Mathematics of seats (part 2): seats that are given one by one to the greatest quotients. Conditions: none. -/
import Derived.Test.YtlfikodljmdekaaSM
namespace Go.Xe.Sea
variable {v : Nat→Int} {q : Nat→Q2} {c : Nat→Int→Q2} {k p : Nat}
def tp (v : Nat→Int) (q : Nat→Q2) (k : Nat) : List Nat:=(List.range k).filter fun p=>decide (0<v p∧∀ o,o<k→0<v o→¬ qlt (q p) (q o))
theorem mem_tp : p∈tp v q k↔p<k∧0<v p∧∀ o,o<k→0<v o→¬ qlt (q p) (q o):=by
 unfold tp
 rw[List.mem_filter,List.mem_range,decide_eq_true_eq]
theorem tp_skip (h : ¬ 0<v k) : tp v q (k+1)=tp v q k:=by
 unfold tp
 rw[List.range_succ,List.filter_append]
 have e : List.filter (fun p=>decide (0<v p∧∀ o,o<k+1→0<v o→¬ qlt (q p) (q o))) [k]=[]:=by
  rw[List.filter_cons_of_neg (by simp[h])]
  rfl
 rw[e,List.append_nil]
 apply List.filter_congr
 intro x hx
 rw[decide_eq_decide]
 constructor
 ·rintro⟨h1,h2⟩
  exact⟨h1,fun o ho=>h2 o (by omega)⟩
 ·rintro⟨h1,h2⟩
  refine⟨h1,fun o ho h3=>?_⟩
  rcases Nat.lt_succ_iff_lt_or_eq.1 ho with h4|rfl
  ·exact h2 o h4 h3
  ·exact absurd h3 h
theorem tp_last (h : 0<v k) (hl : ∀ o,o<k→0<v o→¬ qlt (q k) (q o)) : List.filter (fun p=>decide (0<v p∧∀ o,o<k+1→0<v o→¬ qlt (q p) (q o))) [k]=[k]:=by
 rw[List.filter_cons_of_pos]
 ·rfl
 ·rw[decide_eq_true_eq]
  refine⟨h,fun o ho h3=>?_⟩
  rcases Nat.lt_succ_iff_lt_or_eq.1 ho with h4|rfl
  ·exact hl o h4 h3
  ·exact qlt_irr _
theorem tp_only (h : 0<v k) (hl : ∀ o,o<k→0<v o→qlt (q o) (q k)∧¬ qlt (q k) (q o)) : tp v q (k+1)=[k]:=by
 unfold tp
 rw[List.range_succ,List.filter_append,tp_last h (fun o ho h3=>(hl o ho h3).2)]
 have e : List.filter (fun p=>decide (0<v p∧∀ o,o<k+1→0<v o→¬ qlt (q p) (q o))) (List.range k)=[]:=by
  rw[List.filter_eq_nil_iff]
  intro x hx hh
  rw[decide_eq_true_eq] at hh
  have hx':=List.mem_range.1 hx
  exact hh.2 k (by omega) h (hl x hx' hh.1).1
 rw[e];rfl
theorem tp_ne (hq : ∀ p,0<v p→qok (q p)) : ∀ {k : Nat},(∃ p,p<k∧0<v p)→tp v q k≠[]
 | 0,⟨p,h,_⟩=>absurd h (Nat.not_lt_zero p)
 | k+1,⟨p,h,hp⟩=>by
  by_cases hk : 0<v k
  ·by_cases hn : tp v q k=[]
   ·rw[tp_only hk]
    ·simp
    ·intro o ho h3
     exact absurd hn (tp_ne hq ⟨o,ho,h3⟩)
   ·obtain⟨x,hx⟩:=List.exists_mem_of_ne_nil _ hn
    obtain⟨h1,h2,h3⟩:=mem_tp.1 hx
    by_cases hl : qlt (q x) (q k)
    ·rw[tp_only hk]
     ·simp
     ·intro o ho h4
      have:=h3 o ho h4
      have hok : qlt (q o) (q k):=le_qlt (hq o h4) (hq x h2) (hq k hk) this hl
      exact⟨hok,qlt_asymm (hq o h4) (hq k hk) hok⟩
    ·intro he
     have : x∈tp v q (k+1):=mem_tp.2 ⟨by omega,h2,fun o ho h4=>by
      rcases Nat.lt_succ_iff_lt_or_eq.1 ho with h5|rfl
      ·exact h3 o h5 h4
      ·exact hl⟩
     rw[he] at this
     cases this
  ·rw[tp_skip hk]
   refine tp_ne hq ⟨p,?_,hp⟩
   rcases Nat.lt_succ_iff_lt_or_eq.1 h with h4|rfl
   ·exact h4
   ·exact absurd hp hk
theorem tp_nil (hq : ∀ p,0<v p→qok (q p)) : tp v q k=[]↔∀ p,p<k→¬ 0<v p:=by
 constructor
 ·intro h p hp hv
  exact tp_ne hq ⟨p,hp,hv⟩ h
 ·intro h
  apply List.eq_nil_iff_forall_not_mem.2
  intro x hx
  obtain⟨h1,h2,_⟩:=mem_tp.1 hx
  exact h x h1 h2
theorem tp_new (hq : ∀ p,0<v p→qok (q p)) (h : 0<v k) (hn : tp v q k=[]) : tp v q (k+1)=[k]:=
 tp_only h (fun o ho h3=>absurd h3 ((tp_nil hq).1 hn o ho))
theorem tp_top (hq : ∀ p,0<v p→qok (q p)) (h : 0<v k) (hp : p∈tp v q k) (hl : qlt (q p) (q k)) : tp v q (k+1)=[k]:=by
 obtain⟨h1,h2,h3⟩:=mem_tp.1 hp
 refine tp_only h (fun o ho h4=>?_)
 have hok : qlt (q o) (q k):=le_qlt (hq o h4) (hq p h2) (hq k h) (h3 o ho h4) hl
 exact⟨hok,qlt_asymm (hq o h4) (hq k h) hok⟩
theorem tp_rest (h : 0<v k) (hl : ∀ x∈tp v q k,¬ qlt (q x) (q k)) : tp v q (k+1)=tp v q k++List.filter (fun p=>decide (0<v p∧∀ o,o<k+1→0<v o→¬ qlt (q p) (q o))) [k]:=by
 unfold tp
 rw[List.range_succ,List.filter_append]
 congr 1
 apply List.filter_congr
 intro x hx
 rw[decide_eq_decide]
 constructor
 ·rintro⟨h1,h2⟩
  exact⟨h1,fun o ho=>h2 o (by omega)⟩
 ·rintro⟨h1,h2⟩
  refine⟨h1,fun o ho h3=>?_⟩
  rcases Nat.lt_succ_iff_lt_or_eq.1 ho with h4|rfl
  ·exact h2 o h4 h3
  ·exact hl x (mem_tp.2 ⟨List.mem_range.1 hx,h1,h2⟩)
theorem tp_same {x y : Nat} (hx : x∈tp v q k) (hy : y∈tp v q k) : ¬ qlt (q x) (q y)∧¬ qlt (q y) (q x):=by
 obtain⟨h1,h2,h3⟩:=mem_tp.1 hx
 obtain⟨k1,k2,k3⟩:=mem_tp.1 hy
 exact⟨h3 y k1 k2,k3 x h1 h2⟩
theorem tp_eq (hq : ∀ p,0<v p→qok (q p)) (h : 0<v k) (hp : p∈tp v q k) (h1 : ¬ qlt (q p) (q k)) (h2 : ¬ qlt (q k) (q p)) : tp v q (k+1)=tp v q k++[k]:=by
 have hp2:=(mem_tp.1 hp).2
 rw[tp_rest h,tp_last h]
 ·intro o ho h3
  exact qlt_neg (hq k h) (hq p hp2.1) (hq o h3) h2 (hp2.2 o ho h3)
 ·intro x hx
  exact qlt_neg (hq x (mem_tp.1 hx).2.1) (hq p hp2.1) (hq k h) (tp_same hx hp).1 h1
theorem tp_low (hq : ∀ p,0<v p→qok (q p)) (h : 0<v k) (hp : p∈tp v q k) (h1 : ¬ qlt (q p) (q k)) (h2 : qlt (q k) (q p)) : tp v q (k+1)=tp v q k:=by
 have hp2:=(mem_tp.1 hp).2
 rw[tp_rest h]
 ·rw[List.filter_cons_of_neg]
  ·simp
  ·rw[decide_eq_true_eq]
   rintro⟨_,h3⟩
   exact h3 p (by have:=(mem_tp.1 hp).1;omega) hp2.1 h2
 ·intro x hx
  exact qlt_neg (hq x (mem_tp.1 hx).2.1) (hq p hp2.1) (hq k h) (tp_same hx hp).1 h1
theorem tp_nodup : (tp v q k).Nodup:=List.nodup_range.sublist (List.filter_sublist)
theorem tp_len : (tp v q k).length≤k:=by
 have:=List.length_filter_le (fun p=>decide (0<v p∧∀ o,o<k→0<v o→¬ qlt (q p) (q o))) (List.range k)
 rw[List.length_range] at this
 exact this
def sm (s : Nat→Int) : Nat→Int
 | 0=>0
 | n+1=>sm s n+s n
theorem sm_le {s t : Nat→Int} : ∀ {n : Nat},(∀ p,p<n→s p≤t p)→sm s n≤sm t n
 | 0,_=>Int.le_refl _
 | n+1,h=>by
  have:=sm_le (s:=s) (t:=t) (n:=n) (fun p hp=>h p (by omega))
  have:=h n (by omega)
  simp only[sm];omega
theorem sm_cong {s t : Nat→Int} {n : Nat} (h : ∀ p,p<n→s p=t p) : sm s n=sm t n:=
 Int.le_antisymm (sm_le fun p hp=>Int.le_of_eq (h p hp)) (sm_le fun p hp=>Int.le_of_eq (h p hp).symm)
theorem sm_add {s t : Nat→Int} : ∀ {n : Nat},sm (fun p=>s p+t p) n=sm s n+sm t n
 | 0=>rfl
 | n+1=>by simp only[sm];rw[sm_add];omega
theorem sm_0 : ∀ {n : Nat},sm (fun _=>0) n=0
 | 0=>rfl
 | n+1=>by simp only[sm];rw[sm_0];rfl
def up (low : Nat→Int) (T : List Nat) : Nat→Int:=fun p=>if p∈T then low p+1 else low p
theorem sm_ind {T : List Nat} (hn : T.Nodup) : ∀ {n : Nat},sm (fun p=>if p∈T then 1 else 0) n=((T.filter fun p=>decide (p<n)).length : Int)
 | 0=>by
  have e : (T.filter fun p=>decide (p<0))=[]:=List.filter_eq_nil_iff.2 (by simp)
  rw[e];rfl
 | n+1=>by
  simp only[sm]
  rw[sm_ind hn]
  induction T with
  | nil=>rfl
  | cons x T ih=>
   have hn':=List.nodup_cons.1 hn
   have ih':=ih hn'.2
   by_cases hx : x=n
   ·subst hx
    have e1 : (x::T).filter (fun p=>decide (p<x))=T.filter fun p=>decide (p<x):=List.filter_cons_of_neg (by simp)
    have e2 : (x::T).filter (fun p=>decide (p<x+1))=x::T.filter fun p=>decide (p<x+1):=List.filter_cons_of_pos (by simp)
    rw[e1,e2,if_pos (by simp),List.length_cons]
    rw[if_neg hn'.1] at ih'
    omega
   ·have hm : (if n∈x::T then (1 : Int) else 0)=if n∈T then 1 else 0:=by
     by_cases h1 : n∈T
     ·rw[if_pos h1,if_pos (by simp[h1])]
     ·rw[if_neg h1,if_neg (by simp only[List.mem_cons,not_or];exact⟨fun e=>hx e.symm,h1⟩)]
    rw[hm]
    by_cases hl : x<n
    ·rw[List.filter_cons_of_pos (by simpa using hl),List.filter_cons_of_pos (by simp;omega),List.length_cons,List.length_cons]
     omega
    ·rw[List.filter_cons_of_neg (by simpa using hl),List.filter_cons_of_neg (by simp;omega)]
     exact ih'
theorem sm_up {low : Nat→Int} {T : List Nat} {n : Nat} (hn : T.Nodup) (hT : ∀ p∈T,p<n) : sm (up low T) n=sm low n+T.length:=by
 have e : sm (up low T) n=sm (fun p=>low p+if p∈T then 1 else 0) n:=sm_cong (fun p _=>by unfold up;split<;>omega)
 have e2 : (T.filter fun p=>decide (p<n))=T:=List.filter_eq_self.2 (fun p hp=>by simpa using hT p hp)
 rw[e,sm_add,sm_ind hn,e2]
def giv (v : Nat→Int) (c : Nat→Int→Q2) : Nat→Int→(Nat→Int)→(Nat→Int)×(Nat→Int)
 | 0,_,low=>(low,low)
 | f+1,left,low=>
  if left=0∨tp v (fun p=>c p (low p)) 8=[] then (low,low)
  else if ((tp v (fun p=>c p (low p)) 8).length : Int)≤left then giv v c f (left-(tp v (fun p=>c p (low p)) 8).length) (up low (tp v (fun p=>c p (low p)) 8))
  else (low,up low (tp v (fun p=>c p (low p)) 8))
structure Low (v : Nat→Int) (c : Nat→Int→Q2) (low : Nat→Int) : Prop where
 nn : ∀ p,0≤low p
 adm : ∀ p,¬ (p<8∧0<v p)→low p=0
 weak : ∀ p o t,p<8→0<v p→o<8→0<v o→0≤t→t<low p→¬ qlt (c p t) (c o (low o))
 strict : (∀ p t,0<v p→0≤t→qlt (c p (t+1)) (c p t))→∀ p o t,p<8→0<v p→o<8→0<v o→0≤t→t<low p→qlt (c o (low o)) (c p t)
def Fin (v : Nat→Int) (c : Nat→Int→Q2) (S : Int) (low high : Nat→Int) : Prop:=
 Low v c low∧(((∀ p,p<8→¬ 0<v p)∧low=(fun _=>0)∧high=low) ∨
  ((∃ p,p<8∧0<v p)∧sm low 8=S∧high=low) ∨
  ((∃ p,p<8∧0<v p)∧sm low 8<S∧S<sm low 8+(tp v (fun p=>c p (low p)) 8).length∧high=up low (tp v (fun p=>c p (low p)) 8)))
variable (hq : ∀ p t,0<v p→0≤t→qok (c p t)) (hd : ∀ p t,0<v p→0≤t→¬ qlt (c p t) (c p (t+1)))
include hq hd
theorem Low.up {low : Nat→Int} (h : Low v c low) : Low v c (up low (tp v (fun p=>c p (low p)) 8)):=by
 have hq' : ∀ p,0<v p→qok (c p (low p)):=fun p hp=>hq p _ hp (h.nn p)
 have hT : ∀ {p},p∈tp v (fun p=>c p (low p)) 8→p<8∧0<v p∧∀ o,o<8→0<v o→¬ qlt (c p (low p)) (c o (low o)):=fun hp=>mem_tp.1 hp
 refine⟨fun p=>?_,fun p hp=>?_,?_,?_⟩
 ·unfold Sea.up;have:=h.nn p;split<;>omega
 ·unfold Sea.up
  rw[if_neg (fun hm=>hp ⟨(hT hm).1,(hT hm).2.1⟩)]
  exact h.adm p hp
 ·intro p o t hp8 hp ho8 ho ht hl
  have nx : ¬ qlt (c o (low o)) (c o (Sea.up low (tp v (fun p=>c p (low p)) 8) o)):=by
   unfold Sea.up
   split
   ·exact hd o _ ho (h.nn o)
   ·exact qlt_irr _
  have nq : qok (c o (Sea.up low (tp v (fun p=>c p (low p)) 8) o)):=hq o _ ho (by unfold Sea.up;have:=h.nn o;split<;>omega)
  by_cases hlp : t<low p
  ·exact qlt_neg (hq p t hp ht) (hq' o ho) nq (h.weak p o t hp8 hp ho8 ho ht hlp) nx
  ·have hpT : p∈tp v (fun p=>c p (low p)) 8:=by
    apply Decidable.by_contra
    intro hn
    unfold Sea.up at hl
    rw[if_neg hn] at hl
    omega
   have et : t=low p:=by
    unfold Sea.up at hl
    rw[if_pos hpT] at hl
    omega
   subst et
   exact qlt_neg (hq' p hp) (hq' o ho) nq ((hT hpT).2.2 o ho8 ho) nx
 ·intro hs p o t hp8 hp ho8 ho ht hl
  have st : ∀ o,0<v o→o<8→¬ (o∈tp v (fun p=>c p (low p)) 8)→∀ p,p∈tp v (fun p=>c p (low p)) 8→qlt (c o (low o)) (c p (low p)):=by
   intro o ho ho8 hn p hpT
   apply Decidable.by_contra
   intro hx
   apply hn
   refine mem_tp.2 ⟨ho8,ho,fun x hx8 hxv=>?_⟩
   exact qlt_neg (hq' o ho) (hq' p (hT hpT).2.1) (hq' x hxv) hx ((hT hpT).2.2 x hx8 hxv)
  have nx : ¬ qlt (c o (low o)) (c o (Sea.up low (tp v (fun p=>c p (low p)) 8) o)):=by
   unfold Sea.up
   split
   ·exact hd o _ ho (h.nn o)
   ·exact qlt_irr _
  have nq : qok (c o (Sea.up low (tp v (fun p=>c p (low p)) 8) o)):=hq o _ ho (by unfold Sea.up;have:=h.nn o;split<;>omega)
  by_cases hlp : t<low p
  ·exact le_qlt nq (hq' o ho) (hq p t hp ht) nx (h.strict hs p o t hp8 hp ho8 ho ht hlp)
  ·have hpT : p∈tp v (fun p=>c p (low p)) 8:=by
    apply Decidable.by_contra
    intro hn
    unfold Sea.up at hl
    rw[if_neg hn] at hl
    omega
   have et : t=low p:=by
    unfold Sea.up at hl
    rw[if_pos hpT] at hl
    omega
   subst et
   by_cases hoT : o∈tp v (fun p=>c p (low p)) 8
   ·have e : Sea.up low (tp v (fun p=>c p (low p)) 8) o=low o+1:=by unfold Sea.up;rw[if_pos hoT]
    rw[e]
    exact qlt_le (hq o _ ho (by have:=h.nn o;omega)) (hq' o ho) (hq' p hp) (hs o _ ho (h.nn o)) ((hT hpT).2.2 o ho8 ho)
   ·have e : Sea.up low (tp v (fun p=>c p (low p)) 8) o=low o:=by unfold Sea.up;rw[if_neg hoT]
    rw[e]
    exact st o ho ho8 hoT p hpT
theorem giv_fin {S : Int} : ∀ {f : Nat} {left : Int} {low : Nat→Int},0≤left→left<f→Low v c low→sm low 8+left=S→Fin v c S (giv v c f left low).1 (giv v c f left low).2
 | 0,left,low,h0,hf,_,_=>by omega
 | f+1,left,low,h0,hf,h,hs=>by
  have hq' : ∀ p,0<v p→qok (c p (low p)):=fun p hp=>hq p _ hp (h.nn p)
  have hnil:=tp_nil (k:=8) (q:=fun p=>c p (low p)) hq'
  have hmem : ∀ p∈tp v (fun p=>c p (low p)) 8,p<8:=fun p hp=>(mem_tp.1 hp).1
  have hup:=Low.up hq hd h
  have hsu:=sm_up (low:=low) (n:=8) (tp_nodup (v:=v) (q:=fun p=>c p (low p)) (k:=8)) hmem
  unfold giv
  by_cases hT : tp v (fun p=>c p (low p)) 8=[]
  ·rw[if_pos (.inr hT)]
   have hno:=hnil.1 hT
   exact⟨h,.inl ⟨hno,funext fun p=>h.adm p (fun hh=>hno p hh.1 hh.2),rfl⟩⟩
  have hne : ∃ p,p<8∧0<v p:=by
   obtain⟨p,hp⟩:=List.exists_mem_of_ne_nil _ hT
   exact⟨p,(mem_tp.1 hp).1,(mem_tp.1 hp).2.1⟩
  by_cases hl : left=0
  ·rw[if_pos (.inl hl)]
   exact⟨h,.inr (.inl ⟨hne,by show sm low 8=S;omega,rfl⟩)⟩
  rw[if_neg (fun hh=>hh.elim hl hT)]
  have hlen:=List.length_pos_iff.2 hT
  split
  ·rename_i hle
   exact giv_fin (by omega) (by omega) hup (by omega)
  ·rename_i hle
   exact⟨h,.inr (.inr ⟨hne,by show sm low 8<S;omega,by show S<sm low 8+(tp v (fun p=>c p (low p)) 8).length;omega,rfl⟩)⟩
omit hq hd in
theorem giv_low0 : Low v c (fun _=>0):=⟨fun _=>Int.le_refl _,fun _ _=>rfl,fun _ _ _ _ _ _ _ h1 h2=>by omega,fun _ _ _ _ _ _ _ _ h1 h2=>by omega⟩
end Go.Xe.Sea
