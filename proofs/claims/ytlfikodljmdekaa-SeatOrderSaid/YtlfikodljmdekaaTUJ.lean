/- What the functions of the layer seat come to: SeatKind. Conditions: none. -/
import Derived.Test.YtlfikodljmdekaaTVJ
-- MOD TV
namespace Go.Xe.TVX
open Go Go.Xe Go.Proofs
open Nat renaming reduceLeDiff → qA, reduceSub → qB, reduceAdd → qC, reduceEqDiff → qD, reduceLT → qE
open Int renaming reduceNegSucc → qF, reduceEq → qG
open Go.Xe.V renaming seq → sA, block → sB, scope → sC, skip → sD, close → sE
open Go.Xe renaming pth → P
open Go.Xe.Sea
set_option maxRecDepth 100000
set_option maxHeartbeats 3200000
set_option linter.unusedSimpArgs false
theorem SR.ok {m S L : Int} {l : List Int} {X : Heap} {w : Value} (h : SR m S L l X w) (h0 : flt m S L l=0) : ∃ y e,w=.tuple ⟨[y,I e]⟩∧((¬ sure m S (vl L l)∧y=.slice none 0 0∧e=10)∨(sure m S (vl L l)∧e=0∧LS X y (fl l.length (otc m S (vl L l)).1))):=by
 obtain⟨y,e,hw,h⟩:=h
 refine⟨y,e,hw,?_⟩
 rcases h with⟨h,_⟩|⟨_,h⟩|⟨_,h⟩
 ·exact absurd h0 h
 ·exact .inl h
 ·exact .inr h
end Go.Xe.TVX
/- What the functions of the layer seat come to: SeatVotes. Conditions: none. -/
-- MOD TV
namespace Go.Xe.TVX
open Go Go.Xe Go.Proofs
open Nat renaming reduceLeDiff → qA, reduceSub → qB, reduceAdd → qC, reduceEqDiff → qD, reduceLT → qE
open Int renaming reduceNegSucc → qF, reduceEq → qG
open Go.Xe.V renaming seq → sA, block → sB, scope → sC, skip → sD, close → sE
open Go.Xe renaming pth → P
open Go.Xe.Sea
set_option maxRecDepth 100000
set_option maxHeartbeats 3200000
set_option linter.unusedSimpArgs false
end Go.Xe.TVX
/- What the functions of the layer seat come to: SeatVotes. Conditions: none. -/
-- MOD TV
namespace Go.Xe.TVX
open Go Go.Xe Go.Proofs
open Nat renaming reduceLeDiff → qA, reduceSub → qB, reduceAdd → qC, reduceEqDiff → qD, reduceLT → qE
open Int renaming reduceNegSucc → qF, reduceEq → qG
open Go.Xe.V renaming seq → sA, block → sB, scope → sC, skip → sD, close → sE
open Go.Xe renaming pth → P
open Go.Xe.Sea
set_option maxRecDepth 100000
set_option maxHeartbeats 3200000
set_option linter.unusedSimpArgs false
end Go.Xe.TVX
/- What the functions of the layer seat come to: one seat more. Conditions: none. -/
-- MOD TV
namespace Go.Xe.TVX
open Go Go.Xe Go.Proofs
open Nat renaming reduceLeDiff → qA, reduceSub → qB, reduceAdd → qC, reduceEqDiff → qD, reduceLT → qE
open Int renaming reduceNegSucc → qF, reduceEq → qG
open Go.Xe.V renaming seq → sA, block → sB, scope → sC, skip → sD, close → sE
open Go.Xe renaming pth → P
open Go.Xe.Sea
set_option maxRecDepth 100000
set_option maxHeartbeats 3200000
set_option linter.unusedSimpArgs false
end Go.Xe.TVX
/- What the functions of the layer seat come to: SeatHouse. Conditions: none. -/
-- MOD TV
namespace Go.Xe.TVX
open Go Go.Xe Go.Proofs
open Nat renaming reduceLeDiff → qA, reduceSub → qB, reduceAdd → qC, reduceEqDiff → qD, reduceLT → qE
open Int renaming reduceNegSucc → qF, reduceEq → qG
open Go.Xe.V renaming seq → sA, block → sB, scope → sC, skip → sD, close → sE
open Go.Xe renaming pth → P
open Go.Xe.Sea
set_option maxRecDepth 100000
set_option maxHeartbeats 3200000
set_option linter.unusedSimpArgs false
end Go.Xe.TVX
/- What the functions of the layer seat come to: SeatHouse. Conditions: none. -/
-- MOD TV
namespace Go.Xe.TVX
open Go Go.Xe Go.Proofs
open Nat renaming reduceLeDiff → qA, reduceSub → qB, reduceAdd → qC, reduceEqDiff → qD, reduceLT → qE
open Int renaming reduceNegSucc → qF, reduceEq → qG
open Go.Xe.V renaming seq → sA, block → sB, scope → sC, skip → sD, close → sE
open Go.Xe renaming pth → P
open Go.Xe.Sea
set_option maxRecDepth 100000
set_option maxHeartbeats 3200000
set_option linter.unusedSimpArgs false
end Go.Xe.TVX
/- What the functions of the layer seat come to: shares, rounded down and up. Conditions: none. -/
-- MOD TV
namespace Go.Xe.TVX
open Go Go.Xe Go.Proofs
open Nat renaming reduceLeDiff → qA, reduceSub → qB, reduceAdd → qC, reduceEqDiff → qD, reduceLT → qE
open Int renaming reduceNegSucc → qF, reduceEq → qG
open Go.Xe.V renaming seq → sA, block → sB, scope → sC, skip → sD, close → sE
open Go.Xe renaming pth → P
open Go.Xe.Sea
set_option maxRecDepth 100000
set_option maxHeartbeats 3200000
set_option linter.unusedSimpArgs false
end Go.Xe.TVX
/- What the functions of the layer seat come to: SeatQuotas. Conditions: none. -/
-- MOD TV
namespace Go.Xe.TVX
open Go Go.Xe Go.Proofs
open Nat renaming reduceLeDiff → qA, reduceSub → qB, reduceAdd → qC, reduceEqDiff → qD, reduceLT → qE
open Int renaming reduceNegSucc → qF, reduceEq → qG
open Go.Xe.V renaming seq → sA, block → sB, scope → sC, skip → sD, close → sE
open Go.Xe renaming pth → P
open Go.Xe.Sea
set_option maxRecDepth 100000
set_option maxHeartbeats 3200000
set_option linter.unusedSimpArgs false
end Go.Xe.TVX
/- What the functions of the layer seat come to: SeatTimes. Conditions: none. -/
-- MOD TV
namespace Go.Xe.TVX
open Go Go.Xe Go.Proofs
open Nat renaming reduceLeDiff → qA, reduceSub → qB, reduceAdd → qC, reduceEqDiff → qD, reduceLT → qE
open Int renaming reduceNegSucc → qF, reduceEq → qG
open Go.Xe.V renaming seq → sA, block → sB, scope → sC, skip → sD, close → sE
open Go.Xe renaming pth → P
open Go.Xe.Sea
set_option maxRecDepth 100000
set_option maxHeartbeats 3200000
set_option linter.unusedSimpArgs false
theorem ls_nil (X : Heap) : LS X (.slice none 0 0) []:=⟨.nil⟩
end Go.Xe.TVX
/- What the functions of the layer seat come to: SeatQuota. Conditions: none. -/
-- MOD TV
namespace Go.Xe.TVX
open Go Go.Xe Go.Proofs
open Nat renaming reduceLeDiff → qA, reduceSub → qB, reduceAdd → qC, reduceEqDiff → qD, reduceLT → qE
open Int renaming reduceNegSucc → qF, reduceEq → qG
open Go.Xe.V renaming seq → sA, block → sB, scope → sC, skip → sD, close → sE
open Go.Xe renaming pth → P
open Go.Xe.Sea
set_option maxRecDepth 100000
set_option maxHeartbeats 3200000
set_option linter.unusedSimpArgs false
end Go.Xe.TVX
/- What the functions of the layer seat come to: SeatQuota. Conditions: none. -/
-- MOD TV
namespace Go.Xe.TVX
open Go Go.Xe Go.Proofs
open Nat renaming reduceLeDiff → qA, reduceSub → qB, reduceAdd → qC, reduceEqDiff → qD, reduceLT → qE
open Int renaming reduceNegSucc → qF, reduceEq → qG
open Go.Xe.V renaming seq → sA, block → sB, scope → sC, skip → sD, close → sE
open Go.Xe renaming pth → P
open Go.Xe.Sea
set_option maxRecDepth 100000
set_option maxHeartbeats 3200000
set_option linter.unusedSimpArgs false
end Go.Xe.TVX
/- What the functions of the layer seat come to: whether seats are a result. Conditions: none. -/
-- MOD TV
namespace Go.Xe.TVX
open Go Go.Xe Go.Proofs
open Nat renaming reduceLeDiff → qA, reduceSub → qB, reduceAdd → qC, reduceEqDiff → qD, reduceLT → qE
open Int renaming reduceNegSucc → qF, reduceEq → qG
open Go.Xe.V renaming seq → sA, block → sB, scope → sC, skip → sD, close → sE
open Go.Xe renaming pth → P
open Go.Xe.Sea
set_option maxRecDepth 100000
set_option maxHeartbeats 3200000
set_option linter.unusedSimpArgs false
def due (S : Int) (v : Nat→Int) : Int:=if sm v 8=0 then 0 else S
def gal (S : Int) (v s : Nat→Int) : Prop:=(∀ p,p<8→¬ (0<s p∧v p=0))∧sm s 8=due S v
instance (v s : Nat→Int) : Decidable (∀ p,p<8→¬ (0<s p∧v p=0)):=Nat.decidableBallLT 8 fun p _=>¬ (0<s p∧v p=0)
instance (S : Int) (v s : Nat→Int) : Decidable (gal S v s):=by unfold gal;infer_instance
def fu (m S : Int) (v s : Nat→Int) : Nat→Q2
 | 0=>(0,1)
 | k+1=>if qlt (fu m S v s k) (lw (clq m S v (pix v k) (s (pix v k)))) then lw (clq m S v (pix v k) (s (pix v k))) else fu m S v s k
def la (m S : Int) (v s : Nat→Int) : Nat→Q2
 | 0=>(100000000,0)
 | k+1=>if 0<s (pix v k) then (if qlt (la m S v s k) (lw (clq m S v (pix v k) (s (pix v k)-1))) then la m S v s k else lw (clq m S v (pix v k) (s (pix v k)-1))) else la m S v s k
def jr (m S : Int) (v s : Nat→Int) : Prop:=if gal S v s∧¬ due S v=0 then ¬ qlt (la m S v s (adl v 8).length) (fu m S v s (adl v 8).length) else gal S v s
def jo (m S : Int) (v s : Nat→Int) : Prop:=if gal S v s∧¬ due S v=0 then qlt (fu m S v s (adl v 8).length) (la m S v s (adl v 8).length) else gal S v s
instance (m S : Int) (v s : Nat→Int) : Decidable (jr m S v s):=by unfold jr;infer_instance
instance (m S : Int) (v s : Nat→Int) : Decidable (jo m S v s):=by unfold jo;infer_instance
end Go.Xe.TVX
/- What the functions of the layer seat come to: ProveSeats, and SeatAll. Conditions: none. -/
-- MOD TV
namespace Go.Xe.TVX
open Go Go.Xe Go.Proofs
open Nat renaming reduceLeDiff → qA, reduceSub → qB, reduceAdd → qC, reduceEqDiff → qD, reduceLT → qE
open Int renaming reduceNegSucc → qF, reduceEq → qG
open Go.Xe.V renaming seq → sA, block → sB, scope → sC, skip → sD, close → sE
open Go.Xe renaming pth → P
open Go.Xe.Sea
set_option maxRecDepth 100000
set_option maxHeartbeats 3200000
set_option linter.unusedSimpArgs false
def PRV (m S L : Int) (l st : List Int) : Prop:=flt m S L l=0∧st.length=l.length∧(∀ x∈st,0≤x∧x≤S)∧jr m S (vl L l) (gl0 st)
instance (m S L : Int) (l st : List Int) : Decidable (PRV m S L l st):=by unfold PRV;infer_instance
end Go.Xe.TVX
/- What the functions of the layer seat come to: SeatAll. Conditions: none. -/
-- MOD TV
namespace Go.Xe.TVX
open Go Go.Xe Go.Proofs
open Nat renaming reduceLeDiff → qA, reduceSub → qB, reduceAdd → qC, reduceEqDiff → qD, reduceLT → qE
open Int renaming reduceNegSucc → qF, reduceEq → qG
open Go.Xe.V renaming seq → sA, block → sB, scope → sC, skip → sD, close → sE
open Go.Xe renaming pth → P
open Go.Xe.Sea
set_option maxRecDepth 100000
set_option maxHeartbeats 3200000
set_option linter.unusedSimpArgs false
end Go.Xe.TVX
/- What the functions of the layer seat come to: claims. Conditions: none. -/
-- MOD TV
namespace Go.Xe.TVX
open Go Go.Xe Go.Proofs
open Nat renaming reduceLeDiff → qA, reduceSub → qB, reduceAdd → qC, reduceEqDiff → qD, reduceLT → qE
open Int renaming reduceNegSucc → qF, reduceEq → qG
open Go.Xe.V renaming seq → sA, block → sB, scope → sC, skip → sD, close → sE
open Go.Xe renaming pth → P
open Go.Xe.Sea
set_option maxRecDepth 100000
set_option maxHeartbeats 3200000
set_option linter.unusedSimpArgs false
end Go.Xe.TVX
/- What the functions of the layer seat come to: SeatClaims. Conditions: none. -/
-- MOD TV
namespace Go.Xe.TVX
open Go Go.Xe Go.Proofs
open Nat renaming reduceLeDiff → qA, reduceSub → qB, reduceAdd → qC, reduceEqDiff → qD, reduceLT → qE
open Int renaming reduceNegSucc → qF, reduceEq → qG
open Go.Xe.V renaming seq → sA, block → sB, scope → sC, skip → sD, close → sE
open Go.Xe renaming pth → P
open Go.Xe.Sea
set_option maxRecDepth 100000
set_option maxHeartbeats 3200000
set_option linter.unusedSimpArgs false
end Go.Xe.TVX
/- What the functions of the layer seat come to: SeatClaims. Conditions: none. -/
-- MOD TV
namespace Go.Xe.TVX
open Go Go.Xe Go.Proofs
open Nat renaming reduceLeDiff → qA, reduceSub → qB, reduceAdd → qC, reduceEqDiff → qD, reduceLT → qE
open Int renaming reduceNegSucc → qF, reduceEq → qG
open Go.Xe.V renaming seq → sA, block → sB, scope → sC, skip → sD, close → sE
open Go.Xe renaming pth → P
open Go.Xe.Sea
set_option maxRecDepth 100000
set_option maxHeartbeats 3200000
set_option linter.unusedSimpArgs false
end Go.Xe.TVX
/- What the functions of the layer seat come to: the places of the parties. Conditions: none. -/
-- MOD TV
namespace Go.Xe.TVX
open Go Go.Xe Go.Proofs
open Nat renaming reduceLeDiff → qA, reduceSub → qB, reduceAdd → qC, reduceEqDiff → qD, reduceLT → qE
open Int renaming reduceNegSucc → qF, reduceEq → qG
open Go.Xe.V renaming seq → sA, block → sB, scope → sC, skip → sD, close → sE
open Go.Xe renaming pth → P
open Go.Xe.Sea
set_option maxRecDepth 100000
set_option maxHeartbeats 3200000
set_option linter.unusedSimpArgs false
structure Pm (σ τ : Nat→Nat) : Prop where
 l : ∀ p,τ (σ p)=p
 r : ∀ p,σ (τ p)=p
 b : ∀ p,p<8→σ p<8
 c : ∀ p,p<8→τ p<8
section
variable {σ τ : Nat→Nat} {v : Nat→Int}
theorem Pm.inj (h : Pm σ τ) {a b : Nat} (e : σ a=σ b) : a=b:=by
 have:=congrArg τ e
 rwa [h.l,h.l] at this
theorem Pm.iff (h : Pm σ τ) {p : Nat} : σ p<8↔p<8:=⟨fun k=>by have:=h.c _ k;rwa [h.l] at this,h.b p⟩
theorem Pm.nodup (h : Pm σ τ) {l : List Nat} (hn : l.Nodup) : (l.map σ).Nodup:=
 List.pairwise_map.2 (List.Pairwise.imp (fun hne he=>hne (h.inj he)) hn)
theorem Pm.range (h : Pm σ τ) : ((List.range 8).map σ).Perm (List.range 8):=by
 refine (List.perm_ext_iff_of_nodup (h.nodup List.nodup_range) List.nodup_range).2 fun a=>?_
 rw[List.mem_map,List.mem_range]
 constructor
 ·rintro⟨p,hp,rfl⟩
  exact h.b p (List.mem_range.1 hp)
 ·intro ha
  exact⟨τ a,List.mem_range.2 (h.c a ha),h.r a⟩
theorem Pm.sm (h : Pm σ τ) (v : Nat→Int) : Sea.sm (fun p=>v (σ p)) 8=Sea.sm v 8:=by
 have e : l8 (fun p=>v (σ p))=((List.range 8).map σ).map v:=by
  unfold l8
  rw[List.map_map];rfl
 have p : (l8 (fun p=>v (σ p))).Perm (l8 v):=by
  rw[e]
  exact h.range.map v
 rw[← sl_l8,← sl_l8]
 exact p.foldl_eq' (fun x _ y _ z=>by omega) 0
theorem Pm.tp (h : Pm σ τ) (v : Nat→Int) (q : Nat→Q2) : (∀ p,p∈Sea.tp (fun p=>v (σ p)) (fun p=>q (σ p)) 8↔σ p∈Sea.tp v q 8)∧(Sea.tp (fun p=>v (σ p)) (fun p=>q (σ p)) 8).length=(Sea.tp v q 8).length:=by
 have hm : ∀ p,p∈Sea.tp (fun p=>v (σ p)) (fun p=>q (σ p)) 8↔σ p∈Sea.tp v q 8:=by
  intro p
  rw[mem_tp,mem_tp,h.iff]
  refine and_congr Iff.rfl (and_congr Iff.rfl ⟨fun k o ho hv=>?_,fun k o ho hv=>k (σ o) (h.b o ho) hv⟩)
  have:=k (τ o) (h.c o ho)
  rw[h.r] at this
  exact this hv
 refine⟨hm,?_⟩
 have p : ((Sea.tp (fun p=>v (σ p)) (fun p=>q (σ p)) 8).map σ).Perm (Sea.tp v q 8):=by
  refine (List.perm_ext_iff_of_nodup (h.nodup tp_nodup) tp_nodup).2 fun a=>?_
  rw[List.mem_map]
  constructor
  ·rintro⟨p,hp,rfl⟩
   exact (hm p).1 hp
  ·intro ha
   refine⟨τ a,(hm _).2 ?_,h.r a⟩
   rw[h.r];exact ha
 have:=p.length_eq
 rwa [List.length_map] at this
theorem Pm.up (h : Pm σ τ) (v : Nat→Int) (q : Nat→Q2) (low : Nat→Int) : Sea.up (fun p=>low (σ p)) (Sea.tp (fun p=>v (σ p)) (fun p=>q (σ p)) 8)=fun p=>Sea.up low (Sea.tp v q 8) (σ p):=by
 funext p
 unfold Sea.up
 have:=(h.tp v q).1 p
 by_cases k : σ p∈Sea.tp v q 8
 ·rw[if_pos k,if_pos (this.2 k)]
 ·rw[if_neg k,if_neg (fun hh=>k (this.1 hh))]
theorem Pm.giv (h : Pm σ τ) (v : Nat→Int) (c : Nat→Int→Q2) : ∀ (f : Nat) (left : Int) (low : Nat→Int),Sea.giv (fun p=>v (σ p)) (fun p s=>c (σ p) s) f left (fun p=>low (σ p))=(fun p=>(Sea.giv v c f left low).1 (σ p),fun p=>(Sea.giv v c f left low).2 (σ p))
 | 0,_,_=>rfl
 | f+1,left,low=>by
  have e1:=(h.tp v (fun p=>c p (low p))).2
  have e2:=h.up v (fun p=>c p (low p)) low
  have e3 : Sea.tp (fun p=>v (σ p)) (fun p=>c (σ p) (low (σ p))) 8=[]↔Sea.tp v (fun p=>c p (low p)) 8=[]:=by
   rw[← List.length_eq_zero_iff,← List.length_eq_zero_iff]
   exact iff_of_eq (congrArg (·=0) e1)
  unfold Sea.giv
  by_cases k : left=0∨Sea.tp v (fun p=>c p (low p)) 8=[]
  ·rw[if_pos k,if_pos (k.imp id e3.2)]
  ·rw[if_neg k,if_neg (fun hh=>k (hh.imp id e3.1))]
   by_cases k2 : ((Sea.tp v (fun p=>c p (low p)) 8).length : Int)≤left
   ·rw[e1,if_pos k2,if_pos k2,e2]
    exact h.giv v c f _ _
   ·rw[e1,if_neg k2,if_neg k2,e2]
theorem Pm.clq (h : Pm σ τ) (m S : Int) (v : Nat→Int) (p : Nat) (s : Int) : TVX.clq m S (fun p=>v (σ p)) p s=TVX.clq m S v (σ p) s:=by
 unfold TVX.clq shr
 rw[h.sm v]
theorem Pm.otc (h : Pm σ τ) (m S : Int) (v : Nat→Int) : TVX.otc m S (fun p=>v (σ p))=(fun p=>(TVX.otc m S v).1 (σ p),fun p=>(TVX.otc m S v).2 (σ p)):=by
 unfold TVX.otc
 have e : TVX.clq m S (fun p=>v (σ p))=fun p s=>TVX.clq m S v (σ p) s:=by
  funext p s
  exact h.clq m S v p s
 rw[e]
 exact h.giv v (TVX.clq m S v) 62 S (fun _=>0)
theorem Pm.sure (h : Pm σ τ) (m S : Int) (v : Nat→Int) : TVX.sure m S (fun p=>v (σ p))↔TVX.sure m S v:=by
 unfold TVX.sure eq8
 rw[h.otc]
 refine⟨fun k i hi=>?_,fun k i hi=>k _ (h.b i hi)⟩
 have:=k (τ i) (h.c i hi)
 simp only[h.r] at this
 exact this
theorem otc_eq {m S : Int} {v : Nat→Int} {i j : Nat} (hi : i<8) (hj : j<8) (he : v i=v j) : (TVX.otc m S v).1 i=(TVX.otc m S v).1 j:=by
 have h : Pm (fun p=>if p=i then j else if p=j then i else p) (fun p=>if p=i then j else if p=j then i else p):=by
  refine⟨fun p=>?_,fun p=>?_,fun p hp=>?_,fun p hp=>?_⟩<;>(try dsimp only)<;>(repeat' split)<;>omega
 have e : (fun p=>v (if p=i then j else if p=j then i else p))=v:=by
  funext p
  split
  ·rename_i k;rw[k,he]
  ·split
   ·rename_i k;rw[k,he]
   ·rfl
 have:=h.otc m S v
 rw[e] at this
 have e2:=congrFun (congrArg Prod.fst this) i
 dsimp only at e2
 rw[if_pos rfl] at e2
 exact e2
end
end Go.Xe.TVX
