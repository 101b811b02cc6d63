/- BorderScaled: streets that weigh more by one factor. Conditions: none. -/
import Derived.Test.YtgcdbdcnlhonfaaTCM
import Derived.Test.YtgcdbdcnlhonfaaTCP
-- MOD TB
namespace Go.Xe.TBX
open Go Go.Xe Go.Proofs
open Nat renaming reduceLeDiff → qA, reduceSub → qB, reduceAdd → qC, reduceEqDiff → qD, reduceLT → qE
open Int renaming reduceNegSucc → qF, reduceEq → qG
open Go.Xe.V renaming seq → sA, block → sB, scope → sC, skip → sD, close → sE
open Go.Xe renaming pth → P
open Go.Xe.Rnd
open Go.Xe.Sea (adl adl_1 adl_at mem_adl pix pix_at pix_adl adl_len)
set_option maxRecDepth 100000
set_option maxHeartbeats 3200000
set_option linter.unusedSimpArgs false
theorem flat_set1 {w c : Nat} {x : Value} (hc : c<w) : ∀ {l : List (List Value)} {g : Nat} (hg : g<l.length),(∀ y∈l,y.length=w)→l.flatten.set (g*w+c) x=(l.set g (l[g].set c x)).flatten
 | [],_,h,_=>absurd h (by simp)
 | a::l,0,_,hl=>by
  have ha:=hl a (by simp)
  simp only[List.flatten_cons,Nat.zero_mul,Nat.zero_add,List.set_cons_zero,List.getElem_cons_zero]
  rw[List.set_append_left _ _ (by omega)]
 | a::l,g+1,h,hl=>by
  have ha:=hl a (by simp)
  have e : (g+1)*w+c=a.length+(g*w+c):=by rw[Nat.succ_mul,ha];omega
  simp only[List.flatten_cons,List.set_cons_succ,List.getElem_cons_succ]
  rw[List.set_append_right _ _ (by omega),e,Nat.add_sub_cancel_left,flat_set1 hc (by simpa using h) (fun y hy=>hl y (by simp[hy]))]
theorem own_idx5 {y n c g : Nat} (h : g<n) : yindexAddr none 5 (.slice (some ⟨y,0,none⟩) n c) (I (g : Nat))=some (.pointer (some ⟨y,g*5,none⟩)):=by
 simp only[yindexAddr]
 rw[if_pos ⟨by omega,by omega⟩]
 simp
theorem flat_len5 {l : List (List Value)} (h : ∀ x∈l,x.length=5) : l.flatten.length=l.length*5:=by
 induction l with
 | nil=>rfl
 | cons a l ih=>
  simp only[List.flatten_cons,List.length_append,List.length_cons]
  rw[ih (fun x hx=>h x (by simp[hx])),h a (by simp)]
  omega
theorem flat_get5 {l : List (List Value)} {g c : Nat} (h : ∀ x∈l,x.length=5) (hg : g<l.length) (hc : c<5) : l.flatten[g*5+c]?=l[g][c]?:=by
 induction l generalizing g with
 | nil=>exact absurd hg (by simp)
 | cons a l ih=>
  have ha:=h a (by simp)
  cases g with
  | zero=>
   simp only[List.flatten_cons,Nat.zero_mul,Nat.zero_add,List.getElem_cons_zero]
   rw[List.getElem?_append_left (by omega)]
  | succ g=>
   simp only[List.flatten_cons,List.getElem_cons_succ]
   rw[List.getElem?_append_right (by omega),ha]
   have e : (g+1)*5+c-5=g*5+c:=by omega
   rw[e]
   exact ih (fun x hx=>h x (by simp[hx])) (by simpa using hg)
section
variable {c : Int} {M : BM}
end
end Go.Xe.TBX
/- BorderSame: when each street stays in its district. Conditions: none. -/
-- MOD TB
namespace Go.Xe.TBX
open Go Go.Xe Go.Proofs
open Nat renaming reduceLeDiff → qA, reduceSub → qB, reduceAdd → qC, reduceEqDiff → qD, reduceLT → qE
open Int renaming reduceNegSucc → qF, reduceEq → qG
open Go.Xe.V renaming seq → sA, block → sB, scope → sC, skip → sD, close → sE
open Go.Xe renaming pth → P
open Go.Xe.Rnd
open Go.Xe.Sea (adl adl_1 adl_at mem_adl pix pix_at pix_adl adl_len)
set_option maxRecDepth 100000
set_option maxHeartbeats 3200000
set_option linter.unusedSimpArgs false
def mpS (φ : St→St) (k : Nat) (S : List St) : List St:=S.mapIdx fun i s=>if i<k then φ s else s
theorem mpS_len {φ : St→St} {k : Nat} {S : List St} : (mpS φ k S).length=S.length:=by simp[mpS]
theorem mpS_0 {φ : St→St} {S : List St} : mpS φ 0 S=S:=by
 apply List.ext_getElem
 ·simp[mpS]
 ·intro i h1 h2
  simp[mpS]
theorem mpS_end {φ : St→St} {S : List St} : mpS φ S.length S=S.map φ:=by
 apply List.ext_getElem
 ·simp[mpS]
 ·intro i h1 h2
  have : i<S.length:=by simpa using h2
  simp[mpS,this]
theorem mpS_at {φ : St→St} {k : Nat} {S : List St} (h : k<S.length) : (mpS φ k S)[k]'(by rw[mpS_len];exact h)=S[k]:=by
 simp[mpS]
theorem mpS_1 {φ : St→St} {k : Nat} {S : List St} (h : k<S.length) : (mpS φ k S).set k (φ S[k])=mpS φ (k+1) S:=by
 apply List.ext_getElem
 ·simp[mpS]
 ·intro i h1 h2
  have hi : i<S.length:=by simpa [mpS] using h2
  rw[List.getElem_set]
  split
  ·rename_i e
   subst e
   simp[mpS]
  ·rename_i e
   simp only[mpS,List.getElem_mapIdx]
   by_cases c1 : i<k
   ·rw[if_pos c1,if_pos (by omega)]
   ·rw[if_neg c1,if_neg (by omega)]
section
variable {M : BM}
theorem sF_pS {n : Nat} {g f : Nat→Int} {k : Int} : sF n g f k=pS n (fun i=>g i=k) f:=rfl
theorem key62 {a b : Int} (ha : (Lit.int .i64 a).wf=true) (hb : (Lit.int .i64 b).wf=true) : (keyOf Try.prog 62 (.agg ⟨A2 a b⟩)).isSome=true:=by
 have c3 : Try.prog.cellsOf 3=1:=by kernel_rfl
 have c48 : Try.prog.cellsOf 62=2:=by kernel_rfl
 have h5 : (Program.keyType Try.prog 62 && (Value.agg ⟨[I a,I b]⟩).formed Try.prog 62)=true:=by kernel_rfl
 obtain⟨n,hn⟩ : ∃ n,Try.prog.types.size+1=n+2:=⟨Try.prog.types.size-1,by have : 2≤Try.prog.types.size:=Nat.le_of_ble_eq_true (by kernel_rfl);omega⟩
 unfold keyOf
 simp only[Try.underlying62]
 rw[if_pos h5,hn]
 unfold Program.keyLits
 simp only[Try.underlying62,c48]
 have e : (Value.agg ⟨[I a,I b]⟩).cells.toList=[I a,I b]:=rfl
 rw[e,if_pos ⟨rfl,by simp⟩]
 simp[c3,kl_int ha,kl_int hb]
theorem neq62 {a b c d : Int} (ha : -1000000≤a∧a≤1000000) (hb : -1000000≤b∧b≤1000000) (hc : -1000000≤c∧c≤1000000) (hd : -1000000≤d∧d≤1000000) : xbinOp Try.prog .neq 62 (.agg ⟨A2 a b⟩) (.agg ⟨A2 c d⟩)=some (.bool (decide (¬ (a=c∧b=d)))):=by
 have w1:=wf_k (x:=a) (by omega) (by omega)
 have w2:=wf_k (x:=b) (by omega) (by omega)
 have w3:=wf_k (x:=c) (by omega) (by omega)
 have w4:=wf_k (x:=d) (by omega) (by omega)
 have h1 : xbin Try.prog .neq 62 (.agg ⟨A2 a b⟩) (.agg ⟨A2 c d⟩)=none:=rfl
 have h2 : xbinStr .neq (.agg ⟨A2 a b⟩) (.agg ⟨A2 c d⟩)=none:=rfl
 have h3 : xeqNil Try.prog true 62 (.agg ⟨A2 a b⟩) (.agg ⟨A2 c d⟩)=none:=by
  unfold xeqNil
  simp only[Try.underlying62]
 have h4 : keyedB Try.prog 62=true:=by kernel_rfl
 have h5 : Try.prog.eqGuardType Try.prog.depth 62=false:=by kernel_rfl
 unfold xbinOp
 rw[h1,h2]
 simp only[h3]
 unfold xeqAgg
 simp only[Try.underlying62]
 rw[if_pos ⟨h4,rfl,rfl,key62 w1 w2,key62 w3 w4,h5⟩]
 simp[valEq,cellsEq,cellEq]
end
end Go.Xe.TBX
/- BorderMerged: two new districts become one. Conditions: none. -/
-- MOD TB
namespace Go.Xe.TBX
open Go Go.Xe Go.Proofs
open Nat renaming reduceLeDiff → qA, reduceSub → qB, reduceAdd → qC, reduceEqDiff → qD, reduceLT → qE
open Int renaming reduceNegSucc → qF, reduceEq → qG
open Go.Xe.V renaming seq → sA, block → sB, scope → sC, skip → sD, close → sE
open Go.Xe renaming pth → P
open Go.Xe.Rnd
open Go.Xe.Sea (adl adl_1 adl_at mem_adl pix pix_at pix_adl adl_len)
set_option maxRecDepth 100000
set_option maxHeartbeats 3200000
set_option linter.unusedSimpArgs false
def mer (m c : Nat) (s : St) : St:=if s.new=(m : Int) then { s with new:=(c : Int) } else s
def meM (m c : Nat) (M : BM) : BM:={ M with N:=(m : Int),S:=M.S.map (mer m c) }
theorem mer_k {m c : Nat} {s : St} : (mer m c s).old=s.old∧(mer m c s).w=s.w∧(mer m c s).lo=s.lo∧(mer m c s).hi=s.hi:=by
 unfold mer
 split<;>exact⟨rfl,rfl,rfl,rfl⟩
theorem mer_n {m c : Nat} {s : St} : (mer m c s).new=if s.new=(m : Int) then (c : Int) else s.new:=by
 unfold mer
 split<;>rfl
theorem rg_congM {M : BM} {d : Nat} {P Q : Nat→Prop} [DecidablePred P] [DecidablePred Q] (h : ∀ i,i<M.S.length→(P i↔Q i)) : rgL M d P=rgL M d Q∧rgH M d P=rgH M d Q:=by
 have e1 : qL M d P=qL M d Q:=pS_cong fun i hi=>and_congr_right fun _=>h i hi
 have e2 : qH M d P=qH M d Q:=pS_cong fun i hi=>and_congr_right fun _=>h i hi
 have e3 : qL M d (fun i=>¬ P i)=qL M d (fun i=>¬ Q i):=pS_cong fun i hi=>and_congr_right fun _=>not_congr (h i hi)
 have e4 : qH M d (fun i=>¬ P i)=qH M d (fun i=>¬ Q i):=pS_cong fun i hi=>and_congr_right fun _=>not_congr (h i hi)
 rw[rgH_min,rgH_min]
 unfold rgL
 rw[e1,e2,e3,e4]
 exact⟨rfl,rfl⟩
section
variable {M : BM} {m c : Nat}
theorem me_len : (meM m c M).S.length=M.S.length:=by simp[meM]
theorem me_old : oldF (meM m c M)=oldF M:=by
 funext i
 unfold oldF meM
 simp only[List.getElem?_map]
 cases M.S[i]? with
 | none=>rfl
 | some s=>exact mer_k.1
theorem me_w : wF (meM m c M)=wF M:=by
 funext i
 unfold wF meM
 simp only[List.getElem?_map]
 cases M.S[i]? with
 | none=>rfl
 | some s=>exact mer_k.2.1
theorem me_lo : loF (meM m c M)=loF M:=by
 funext i
 unfold loF meM
 simp only[List.getElem?_map]
 cases M.S[i]? with
 | none=>rfl
 | some s=>exact mer_k.2.2.1
theorem me_hi : hiF (meM m c M)=hiF M:=by
 funext i
 unfold hiF meM
 simp only[List.getElem?_map]
 cases M.S[i]? with
 | none=>rfl
 | some s=>exact mer_k.2.2.2
theorem me_new (hm : m≠0) (i : Nat) : newF (meM m c M) i=if newF M i=(m : Int) then (c : Int) else newF M i:=by
 unfold newF meM
 simp only[List.getElem?_map]
 cases M.S[i]? with
 | none=>simp only[Option.map_none];rw[if_neg (by omega)]
 | some s=>exact mer_n
theorem me_vd {d : Nat} : vd (meM m c M) d=vd M d:=by unfold vd;rw[me_len,me_old]
theorem me_shr : shr (meM m c M)=shr M:=by
 funext i
 unfold shr dsh wsa
 rw[me_old,me_vd,me_w]
 rfl
theorem me_lot {d : Nat} : lot (meM m c M) d=lot M d:=by unfold lot;rw[me_len,me_old,me_lo]
theorem me_hit {d : Nat} : hit (meM m c M) d=hit M d:=by unfold hit;rw[me_len,me_old,me_hi]
theorem me_so {d : Int} : ∀ S : List St,so (·.w) d (S.map (mer m c))=so (·.w) d S:=by
 intro S
 unfold so
 rw[List.map_map]
 congr 1
 refine List.map_congr_left fun s _=>?_
 show (if (mer m c s).old=d then (mer m c s).w else 0)=_
 rw[mer_k.1,mer_k.2.1]
theorem me_bE (h : bE M=0) (hN : M.N=(m : Int)+1) (hm : 1≤m) (hc : c<m) : bE (meM m c M)=0:=by
 obtain⟨h1,h2⟩:=bE_0.1 h
 obtain⟨hf,hv⟩:=fltM_0.1 h1
 refine bE_0.2 ⟨fltM_0.2 ⟨?_,?_⟩,fun d hd=>?_⟩
 ·unfold fits at hf ⊢
  rw[me_len]
  exact hf
 ·obtain⟨v1,v2,v3,v4,v5,v6,v7⟩:=hv
  refine⟨v1,v2,⟨?_,?_⟩,by rw[me_len];exact v4,fun s hs=>?_,fun r hr=>?_,?_⟩
  ·show 1≤(m : Int);omega
  ·show (m : Int)≤4;omega
  ·obtain⟨s',hs',rfl⟩:=List.mem_map.1 hs
   have:=v5 s' hs'
   have hk:=mer_k (m:=m) (c:=c) (s:=s')
   have hn:=mer_n (m:=m) (c:=c) (s:=s')
   unfold sok wi at this ⊢
   rw[hk.1,hk.2.1,hk.2.2.1,hk.2.2.2,hn]
   have e1 : (meM m c M).O.length=M.O.length:=rfl
   have e2 : (meM m c M).N=(m : Int):=rfl
   rw[e1,e2]
   split<;>omega
  ·have:=v6 r hr
   unfold jok at this ⊢
   rw[me_len]
   exact this
  ·unfold wpos at v7 ⊢
   simp only[meM,me_so]
   exact v7
 ·rw[me_lot,me_hit]
  exact h2 d hd
theorem me_rg {d : Nat} {P : Nat→Prop} [DecidablePred P] : rgL (meM m c M) d P=rgL M d P∧rgH (meM m c M) d P=rgH M d P:=by
 have hO : (meM m c M).O=M.O:=rfl
 rw[rgH_min,rgH_min]
 unfold rgL qL qH
 rw[hO,me_len,me_old,me_lo,me_hi]
 exact⟨rfl,rfl⟩
theorem pS_or {n : Nat} {P Q R : Nat→Prop} [DecidablePred P] [DecidablePred Q] [DecidablePred R] {f : Nat→Int} (h : ∀ i,i<n→(R i↔P i∨Q i)) (hd : ∀ i,i<n→¬ (P i∧Q i)) : pS n R f=pS n P f+pS n Q f:=by
 induction n with
 | zero=>rfl
 | succ n ih=>
  have h1:=h n (by omega)
  have h2:=hd n (by omega)
  rw[pS_1,pS_1,pS_1,ih (fun i hi=>h i (by omega)) (fun i hi=>hd i (by omega))]
  by_cases a : P n
  ·have b : ¬ Q n:=fun b=>h2 ⟨a,b⟩
   rw[if_pos a,if_neg b,if_pos (h1.2 (.inl a))];omega
  ·by_cases b : Q n
   ·rw[if_neg a,if_pos b,if_pos (h1.2 (.inr b))];omega
   ·rw[if_neg a,if_neg b,if_neg (fun k=>(h1.1 k).elim a b)];omega
theorem pS_le {n : Nat} {P : Nat→Prop} [DecidablePred P] {f g : Nat→Int} (h : ∀ i,i<n→f i≤g i) : pS n P f≤pS n P g:=by
 induction n with
 | zero=>exact Int.le_refl _
 | succ n ih=>
  have:=ih (fun i hi=>h i (by omega))
  have:=h n (by omega)
  rw[pS_1,pS_1]
  split<;>omega
theorem qLH (G : VM M) {d : Nat} {P : Nat→Prop} [DecidablePred P] : qL M d P≤qH M d P:=pS_le fun i hi=>(G.lh hi).2.1
theorem rg_or (G : VM M) (hl : lie M) {d : Nat} (hd : d<M.O.length) {P Q R : Nat→Prop} [DecidablePred P] [DecidablePred Q] [DecidablePred R] (h : ∀ i,i<M.S.length→(R i↔P i∨Q i)) (hdj : ∀ i,i<M.S.length→¬ (P i∧Q i)) : rgL M d P+rgL M d Q≤rgL M d R∧rgH M d R≤rgH M d P+rgH M d Q:=by
 have hld:=hl d hd
 have a1 : ∀ f,pS M.S.length (fun i=>oldF M i=d∧R i) f=pS M.S.length (fun i=>oldF M i=d∧P i) f+pS M.S.length (fun i=>oldF M i=d∧Q i) f:=fun f=>pS_or (fun i hi=>by
  have:=h i hi
  constructor
  ·rintro⟨x,y⟩
   rcases this.1 y with z|z
   ·exact .inl ⟨x,z⟩
   ·exact .inr ⟨x,z⟩
  ·rintro (⟨x,y⟩|⟨x,y⟩)
   ·exact⟨x,this.2 (.inl y)⟩
   ·exact⟨x,this.2 (.inr y)⟩) (fun i hi k=>hdj i hi ⟨k.1.2,k.2.2⟩)
 have a2 : ∀ f,pS M.S.length (fun i=>oldF M i=d∧¬ P i) f=pS M.S.length (fun i=>oldF M i=d∧Q i) f+pS M.S.length (fun i=>oldF M i=d∧¬ R i) f:=fun f=>pS_or (fun i hi=>by
  have:=h i hi
  have:=hdj i hi
  constructor
  ·rintro⟨x,y⟩
   by_cases z : Q i
   ·exact .inl ⟨x,z⟩
   ·exact .inr ⟨x,fun k=>((h i hi).1 k).elim y z⟩
  ·rintro (⟨x,y⟩|⟨x,y⟩)
   ·exact⟨x,fun k=>this ⟨k,y⟩⟩
   ·exact⟨x,fun k=>y ((h i hi).2 (.inl k))⟩) (fun i hi k=>k.2.2 ((h i hi).2 (.inr k.1.2)))
 have a3 : ∀ f,pS M.S.length (fun i=>oldF M i=d∧¬ Q i) f=pS M.S.length (fun i=>oldF M i=d∧P i) f+pS M.S.length (fun i=>oldF M i=d∧¬ R i) f:=fun f=>pS_or (fun i hi=>by
  have:=hdj i hi
  constructor
  ·rintro⟨x,y⟩
   by_cases z : P i
   ·exact .inl ⟨x,z⟩
   ·exact .inr ⟨x,fun k=>((h i hi).1 k).elim z y⟩
  ·rintro (⟨x,y⟩|⟨x,y⟩)
   ·exact⟨x,fun k=>this ⟨y,k⟩⟩
   ·exact⟨x,fun k=>y ((h i hi).2 (.inr k))⟩) (fun i hi k=>k.2.2 ((h i hi).2 (.inl k.1.2)))
 have a4 : ∀ f,pS M.S.length (fun i=>oldF M i=d∧TP i) f=pS M.S.length (fun i=>oldF M i=d∧R i) f+pS M.S.length (fun i=>oldF M i=d∧¬ R i) f:=fun f=>pS_or (fun i hi=>by
  constructor
  ·rintro⟨x,_⟩
   by_cases z : R i
   ·exact .inl ⟨x,z⟩
   ·exact .inr ⟨x,z⟩
  ·rintro (⟨x,y⟩|⟨x,y⟩)<;>exact⟨x,trivial⟩) (fun i hi k=>k.2.2 k.1.2)
 have l1 : qL M d R=qL M d P+qL M d Q:=a1 _
 have l2 : qH M d R=qH M d P+qH M d Q:=a1 _
 have l3 : qL M d (fun i=>¬ P i)=qL M d Q+qL M d (fun i=>¬ R i):=a2 _
 have l4 : qH M d (fun i=>¬ P i)=qH M d Q+qH M d (fun i=>¬ R i):=a2 _
 have l5 : qL M d (fun i=>¬ Q i)=qL M d P+qL M d (fun i=>¬ R i):=a3 _
 have l6 : qH M d (fun i=>¬ Q i)=qH M d P+qH M d (fun i=>¬ R i):=a3 _
 have l7 : lot M d=qL M d R+qL M d (fun i=>¬ R i):=a4 _
 have l8 : hit M d=qH M d R+qH M d (fun i=>¬ R i):=a4 _
 have p1:=qLH G (d:=d) (P:=P)
 have p2:=qLH G (d:=d) (P:=Q)
 have p3:=qLH G (d:=d) (P:=fun i=>¬ R i)
 rw[rgH_min,rgH_min,rgH_min]
 unfold rgL
 rw[l1,l2,l3,l4,l5,l6]
 rw[l7,l8,l1,l2] at hld
 constructor
 ·split<;>split<;>split<;>omega
 ·omega
theorem me_eq (hm : m≠0) {q : Nat} (hq : q<m) (hqc : q≠c) (i : Nat) : newF (meM m c M) i=q↔newF M i=q:=by
 rw[me_new hm]
 by_cases e : newF M i=(m : Int)
 ·rw[if_pos e];omega
 ·rw[if_neg e]
theorem me_eqc (hm : m≠0) (hc : c<m) (i : Nat) : newF (meM m c M) i=(c : Int)↔newF M i=(c : Nat)∨newF M i=(m : Nat):=by
 rw[me_new hm]
 by_cases e : newF M i=(m : Int)
 ·rw[if_pos e];exact iff_of_true rfl (.inr e)
 ·rw[if_neg e];exact⟨.inl,fun k=>k.elim id (fun k=>absurd k e)⟩
theorem me_nw (hm : m≠0) {q : Nat} (hq : q<m) (hqc : q≠c) : nwL (meM m c M) q=nwL M q∧nwH (meM m c M) q=nwH M q:=by
 have hO : (meM m c M).O=M.O:=rfl
 have e : ∀ d,rgL (meM m c M) d (fun i=>newF (meM m c M) i=q)=rgL M d (fun i=>newF M i=q)∧rgH (meM m c M) d (fun i=>newF (meM m c M) i=q)=rgH M d (fun i=>newF M i=q):=fun d=>by
  rw[me_rg.1,me_rg.2]
  exact rg_congM fun i _=>me_eq hm hq hqc i
 unfold nwL nwH
 rw[hO]
 constructor
 ·congr 1
  exact List.map_congr_left fun d _=>(e d).1
 ·congr 1
  exact List.map_congr_left fun d _=>(e d).2
theorem me_nk (G : VM M) (hl : lie M) (hm : m≠0) (hc : c<m) : ∀ k,k≤M.O.length→nkL M c k+nkL M m k≤nkL (meM m c M) c k∧nkH (meM m c M) c k≤nkH M c k+nkH M m k
 | 0,_=>by simp[nkL,nkH,sm]
 | k+1,h=>by
  have i1:=me_nk G hl hm hc k (by omega)
  have i2:=rg_or G hl (d:=k) (by omega) (P:=fun i=>newF M i=(c : Nat)) (Q:=fun i=>newF M i=(m : Nat)) (R:=fun i=>newF (meM m c M) i=(c : Int)) (fun i _=>me_eqc hm hc i) (fun i _ k=>by omega)
  rw[nkL_1,nkL_1,nkL_1,nkH_1,nkH_1,nkH_1,me_rg.1,me_rg.2]
  omega
theorem me_nwc (G : VM M) (hl : lie M) (hm : m≠0) (hc : c<m) : nwL M c+nwL M m≤nwL (meM m c M) c∧nwH (meM m c M) c≤nwH M c+nwH M m:=me_nk G hl hm hc M.O.length (Nat.le_refl _)
theorem me_sF (hm : m≠0) {q : Nat} (hq : q<m) (hqc : q≠c) : sF M.S.length (newF (meM m c M)) (shr M) (q : Int)=sF M.S.length (newF M) (shr M) (q : Int):=by
 rw[sF_pS,sF_pS]
 exact pS_cong fun i _=>me_eq hm hq hqc i
theorem me_sFc (hm : m≠0) (hc : c<m) : sF M.S.length (newF (meM m c M)) (shr M) (c : Int)=sF M.S.length (newF M) (shr M) (c : Int)+sF M.S.length (newF M) (shr M) (m : Int):=by
 rw[sF_pS,sF_pS,sF_pS]
 exact pS_or (fun i _=>me_eqc hm hc i) (fun i _ k=>by omega)
end
end Go.Xe.TBX
