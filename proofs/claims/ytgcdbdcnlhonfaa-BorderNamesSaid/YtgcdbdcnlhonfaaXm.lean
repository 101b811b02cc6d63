/- An executable reading of the model's code over an abstract heap (part 13): a region that draws its order, walked. Conditions: what is executed at a lower depth agrees with the model (ExOk), and the program follows the mixed orders. -/
import Derived.Test.YtgcdbdcnlhonfaaXl
namespace Go.Xe
open Go
section
variable {P : Program} [Gl P] [Orc P] {ex : Ex} {ops : Array Oper} {pos kind sig : Nat→Nat} {t0 T : Array Value} {G : Nat→Heap}
theorem Mid.tmps {P : Program} {θ0 : Th} {w0 : World} {listed : Array Bool} {q : Nat} {θ θp : Th} {b : Act} {w : World} (h : Mid P ops pos kind t0 T G θ0 w0 listed q θ θp b w) :
  (∀ (k : Nat) (o : Oper) (t : Tmp) (v v' : Value),ops[k]?=some o→isL listed k→o.dst=some t→T[t]?=some v→b.tmps[t]?=some v'→VR θp v v'∧(¬ (kind k=1∧q≤pos k)→VR θ v v')) ∧
  (∀ (t : Tmp) (v v' : Value),(∀ (k : Nat) (o : Oper),ops[k]?=some o→o.dst=some t→¬ isL listed k)→t0[t]?=some v→b.tmps[t]?=some v'→VR θ v v'):=by
 obtain⟨g1,g2,g3,g4,g5,g6,g7,g8,g9,g10,g11,g12⟩:=h
 refine⟨fun k o t v v' h1 h2 h3 h4 h5=>?_,g11⟩
 obtain⟨c1,c2⟩:=g10 k o t v v' h1 h2 h3 h4 h5
 refine⟨?_,c2⟩
 by_cases hc : kind k=1∧q≤pos k
 ·exact c1 hc
 ·exact (c2 hc).ext g5
theorem Inv.step (hex : ExOk P ex) (hp : PlanP ops pos kind sig) (hr : RunP P ex ops pos kind sig t0 T G) {θ0 : Th} {w0 : World} (hat0 : At P θ0 w0) {b0 : Act} {listed : Array Bool} {b : Act} {w : World}
  (h : Inv P ops pos kind t0 T G θ0 w0 b0 listed b w) {i : Nat} (hi : i∈Region.ready .any ops listed) (r : Option Nat) (n : Nat) (Q : Exit→Act→World→Prop) :
  wpOpIn (FW r) n P ops Q i (fun b' w'=>Inv P ops pos kind t0 T G θ0 w0 b0 (listed.setIfInBounds i true) b' w') b w:=by
 obtain⟨⟨q,θ,θp,hm,hstop⟩,hls,hts,hcl,hdf⟩:=h
 have hat:=hat0.stp hm.2.2.2.2.2.2.2.2.2.2.2
 obtain⟨o,hrd⟩:=ready_of hls hi
 have hrd':=hrd
 obtain⟨ho,hnl,hed⟩:=hrd
 have hin:=lt_of_get ho
 have hil : i<listed.size:=by omega
 have done : ∀ {q' : Nat} {θ' θp' : Th} {v' : Value} {w' : World},Mid P ops pos kind t0 T G θ0 w0 (listed.setIfInBounds i true) q' θ' θp' (b.put o.dst v') w'→(q'=0∨∃ k,k<ops.size∧kind k=2∧q'=pos k+1) →
   Inv P ops pos kind t0 T G θ0 w0 b0 (listed.setIfInBounds i true) (b.put o.dst v') w':=fun hm' hs'=>
  ⟨⟨_,_,_,hm',hs'⟩,by simpa using hls,by rw[put_size];exact hts,closed_set hls hcl hrd',by rw[put_defers];exact hdf⟩
 have hsig : sig (pos i)=i:=(hp.sp i hin).2
 have hrun:=hr.run (pos i) (hp.sp i hin).1 o (by rw[hsig];exact ho)
 rw[hsig] at hrun
 unfold wpOpIn
 rw[ho]
 simp only
 rcases hp.kk i hin with hk0|hk1|hk2
 ·-- clean
  obtain⟨htL,ht0⟩:=hm.tmps
  have hcleanw : ∀ (k : Nat) (ok : Oper),ops[k]?=some ok→bindsTo o k=true→isL listed k:=fun k ok _ hb=>bindsTo_listed hed hb
  have hrel:=hm.2.2.2.1
  rcases hrun with⟨hw,v,hx,hd⟩|⟨hw,hG,hd⟩
  ·have hwa : Region.wanted o (yielded ops b.tmps)=true:=by
    refine wanted_rel (θx:=θp) hts hw (fun g want hgu o' hog d hd v v' hv hv'=>?_)
    exact (htL g o' d v v' hog (bindsTo_listed hed (hp.gd i o g want ho hgu o' hog).1) hd hv hv').1
   rw[hwa]
   simp only[if_true]
   have hq : q≤ops.size:=hm.1
   obtain⟨v,hxq,hdq⟩:=hr.clean i o ho hk0 hw q hq hstop
    (fun j hj hj2 hre=>(hm.2.1 j hj hj2).1 (reach_listed hcl _ i j o ho hed hre))
    (fun j hj hj2 hlt=>by
     cases hre : reach ops ops.size j i with
     | false=>rfl
     | true=>
      have hjl:=(hm.2.1 j hj hj2).2 hlt
      have hoj : ops[j]?=some ops[j]:=Array.getElem?_eq_getElem hj
      exact absurd (reach_listed hcl _ j i _ hoj (fun e he hb=>hcl j _ hoj hjl e he hb) hre) hnl)
   have hops : ∀ x,VR θ (onlyAt o.op (evk P ops pos t0 T i) x) (b.eval x):=by
    refine operand_rel hp hr hrd' hcl hts (fun t ht j o' hj hdj hpj hjl hkj v v' hv hv'=>?_) ht0 (Ext.refl _) hat.glb
    exact (htL j o' t v v' hj hjl hdj hv hv').2 (fun hc=>hkj hk0 hc.1)
   have hxq' : xopv P ex (onlyAt o.op (evk P ops pos t0 T i)) o.op (G q)=some (v,G q):=by
    rw[xopv_congr (ρ':=evk P ops pos t0 T i) onlyAt_eq]
    have hlight:=hp.k0 _ _ ho hk0
    unfold xopv
    split
    ·rename_i heq;rw[heq] at hlight;simp[lightOp] at hlight
    ·exact hxq
   refine xopv_ok hex hrel hat hops hxq' r n (fun v' w' θ' hs hr' hvr=>?_)
   obtain⟨θp1,hm'⟩:=hm.sync hp hr hls hrd' (by omega) (q1:=q) (fun _=>rfl) (fun e=>by omega) hs hr' (v':=v') (fun d x hd hx=>by
    have:=hdq d hd (Array.getElem?_eq_some_iff.1 hx).1
    rw[hx] at this;cases this;exact hvr)
   exact done hm' hstop
  ·have hwa : Region.wanted o (yielded ops b.tmps)=false:=by
    refine wanted_rel (θx:=θp) hts hw (fun g want hgu o' hog d hd v v' hv hv'=>?_)
    exact (htL g o' d v v' hog (bindsTo_listed hed (hp.gd i o g want ho hgu o' hog).1) hd hv hv').1
   rw[hwa]
   simp only[Bool.false_eq_true,if_false]
   refine⟨fun _ _=>trivial,?_⟩
   obtain⟨θp1,hm'⟩:=hm.sync hp hr hls hrd' (by omega) (q1:=q) (fun _=>rfl) (fun e=>by omega) (Stp.refl θ w) hrel (v':=undef) (fun d x hd' hx=>by
    have:=hd d hd' (Array.getElem?_eq_some_iff.1 hx).1
    rw[hx] at this;cases this;exact VR.undef)
   exact done hm' hstop
 ·-- it may come early
  obtain⟨htL,ht0⟩:=hm.tmps
  rcases hrun with⟨hw,v,hx,hd⟩|⟨hw,hG,hd⟩
  ·have hwa : Region.wanted o (yielded ops b.tmps)=true:=by
    refine wanted_rel (θx:=θp) hts hw (fun g want hgu o' hog d hd v v' hv hv'=>?_)
    exact (htL g o' d v v' hog (bindsTo_listed hed (hp.gd i o g want ho hgu o' hog).1) hd hv hv').1
   rw[hwa]
   simp only[if_true]
   have hops : ∀ x,VR θp (onlyAt o.op (evk P ops pos t0 T i) x) (b.eval x):=by
    refine operand_rel hp hr hrd' hcl hts (fun t ht j o' hj hdj hpj hjl hkj v v' hv hv'=>?_) ht0 hm.2.2.2.2.1 (fun g hg=>let ⟨p,h1,h2⟩:=hat.glb g hg;⟨p,hm.2.2.2.2.1 _ _ h1,h2⟩)
    exact (htL j o' t v v' hj hjl hdj hv hv').1
   have hx' : xop P (G (pos i)) (onlyAt o.op (evk P ops pos t0 T i)) o.op=some (v,G (pos i+1)):=by
    rw[xop_congr (ρ':=evk P ops pos t0 T i) onlyAt_eq]
    unfold xopv at hx
    split at hx
    ·rename_i heq
     rcases hp.k1 _ _ ho hk1 with e|e<;>rw[heq] at e
     ·simp[newOp,newC] at e
     ·simp[softOp] at e
    ·exact hx
   have hdefer : ∀ c,o.op≠.defer c:=by
    intro c hc
    rw[hc] at hx'
    simp[xop] at hx'
   refine⟨fun _ _=>trivial,?_⟩
   rw[Oper.semAt_eq _ _ _ hdefer]
   by_cases hn : newOp o.op=true
   ·obtain⟨x,val,rfl,hG,hnx⟩:=new_okX hops hn hx'
    obtain⟨ob,pl,hnx⟩:=hnx w
    rw[hnx.run]
    obtain⟨θp1,hm'⟩:=hm.late1 hp hr hls hrd' hk1 hG hnx (fun t x ht hx=>by
     have:=hd t ht (Array.getElem?_eq_some_iff.1 hx).1
     rw[hx] at this;cases this;rfl) hw hn
    exact done hm' hstop
   ·have hsoft:=(hp.k1 _ _ ho hk1).resolve_left hn
    obtain⟨_,v',h1,h2⟩:=soft_ok hops hsoft hx' w
    rw[h1]
    have hm':=hm.late0 hp hls hrd' hk1 (fun hc=>hn hc.2) (v':=v') (fun t x ht hx=>by
     have:=hd t ht (Array.getElem?_eq_some_iff.1 hx).1
     rw[hx] at this;cases this;exact h2)
    exact done hm' hstop
  ·have hwa : Region.wanted o (yielded ops b.tmps)=false:=by
    refine wanted_rel (θx:=θp) hts hw (fun g want hgu o' hog d hd v v' hv hv'=>?_)
    exact (htL g o' d v v' hog (bindsTo_listed hed (hp.gd i o g want ho hgu o' hog).1) hd hv hv').1
   rw[hwa]
   simp only[Bool.false_eq_true,if_false]
   refine⟨fun _ _=>trivial,?_⟩
   have hm':=hm.late0 hp hls hrd' hk1 (fun hc=>by rw[hw] at hc;cases hc.1) (v':=undef) (fun t x ht hx=>by
    have:=hd t ht (Array.getElem?_eq_some_iff.1 hx).1
    rw[hx] at this;cases this;exact VR.undef)
   exact done hm' hstop
 ·-- it comes in its turn: what it hangs on is taken in first
  have hqi : q≤pos i:=by
   by_cases hlt : pos i<q
   ·exact absurd ((hm.2.1 i hin hk2).2 hlt) hnl
   ·omega
  have hpi:=(hp.sp i hin).1
  obtain⟨θ2,hm2⟩:=hm.advance hp hr (pos i) (by omega) (pos i-q) q θ (by omega) (fun j hj1 hj2=>by
   have hjn : j<ops.size:=by omega
   obtain⟨e1,e2⟩:=hp.ps j hjn
   refine⟨fun hk=>?_,fun hk=>?_⟩
   ·have hre:=hp.ord i (sig j) hin e1 hk2 (by omega) (by omega)
    have hl:=reach_listed hcl _ i (sig j) o ho hed hre
    have:=(hm.2.1 (sig j) e1 hk).1 hl
    omega
   ·exact reach_listed hcl _ i (sig j) o ho hed (hp.ord i (sig j) hin e1 hk2 (by omega) (by omega)))
  have hat2:=hat0.stp hm2.2.2.2.2.2.2.2.2.2.2.2
  obtain⟨htL,ht0⟩:=hm2.tmps
  have hrel:=hm2.2.2.2.1
  have hstop' : pos i+1=0∨∃ k,k<ops.size∧kind k=2∧pos i+1=pos k+1:=.inr ⟨i,hin,hk2,rfl⟩
  rcases hrun with⟨hw,v,hx,hd⟩|⟨hw,hG,hd⟩
  ·have hwa : Region.wanted o (yielded ops b.tmps)=true:=by
    refine wanted_rel (θx:=θp) hts hw (fun g want hgu o' hog d hd v v' hv hv'=>?_)
    exact (htL g o' d v v' hog (bindsTo_listed hed (hp.gd i o g want ho hgu o' hog).1) hd hv hv').1
   rw[hwa]
   simp only[if_true]
   have hops : ∀ x,VR θ2 (onlyAt o.op (evk P ops pos t0 T i) x) (b.eval x):=by
    refine operand_rel hp hr hrd' hcl hts (fun t ht j o' hj hdj hpj hjl hkj v v' hv hv'=>?_) ht0 (Ext.refl _) hat2.glb
    exact (htL j o' t v v' hj hjl hdj hv hv').2 (fun hc=>by omega)
   have hx' : xopv P ex (onlyAt o.op (evk P ops pos t0 T i)) o.op (G (pos i))=some (v,G (pos i+1)):=by
    rw[xopv_congr (ρ':=evk P ops pos t0 T i) onlyAt_eq];exact hx
   refine xopv_ok hex hrel hat2 hops hx' r n (fun v' w' θ' hs hr' hvr=>?_)
   obtain⟨θp1,hm'⟩:=hm2.sync hp hr hls hrd' (by omega) (q1:=pos i+1) (fun e=>by omega) (fun _=>⟨rfl,rfl⟩) hs hr' (v':=v') (fun d x hd' hx=>by
    have:=hd d hd' (Array.getElem?_eq_some_iff.1 hx).1
    rw[hx] at this;cases this;exact hvr)
   exact done hm' hstop'
  ·have hwa : Region.wanted o (yielded ops b.tmps)=false:=by
    refine wanted_rel (θx:=θp) hts hw (fun g want hgu o' hog d hd v v' hv hv'=>?_)
    exact (htL g o' d v v' hog (bindsTo_listed hed (hp.gd i o g want ho hgu o' hog).1) hd hv hv').1
   rw[hwa]
   simp only[Bool.false_eq_true,if_false]
   refine⟨fun _ _=>trivial,?_⟩
   obtain⟨θp1,hm'⟩:=hm2.sync hp hr hls hrd' (by omega) (q1:=pos i+1) (fun e=>by omega) (fun _=>⟨rfl,rfl⟩) (Stp.refl θ2 w) (by rw[hG];exact hrel) (v':=undef) (fun d x hd' hx=>by
    have:=hd d hd' (Array.getElem?_eq_some_iff.1 hx).1
    rw[hx] at this;cases this;exact VR.undef)
   exact done hm' hstop'
theorem Inv.final (hp : PlanP ops pos kind sig) (hr : RunP P ex ops pos kind sig t0 T G) {θ0 : Th} {w0 : World} {b0 : Act} {listed : Array Bool} {b : Act} {w : World}
  (h : Inv P ops pos kind t0 T G θ0 w0 b0 listed b w) (hall : ∀ k,k<ops.size→isL listed k) : ∃ θ,Stp θ0 w0 θ w∧Rel P θ (G ops.size) w∧AR θ T b.tmps∧b.defers=b0.defers:=by
 obtain⟨⟨q,θ,θp,hm,hstop⟩,hls,hts,hcl,hdf⟩:=h
 have hq : q≤ops.size:=hm.1
 obtain⟨θ2,hm2⟩:=hm.advance hp hr ops.size (Nat.le_refl _) (ops.size-q) q θ (by omega) (fun j hj1 hj2=>by
  obtain⟨e1,e2⟩:=hp.ps j hj2
  refine⟨fun hk=>?_,fun _=>hall _ e1⟩
  have:=(hm.2.1 (sig j) e1 hk).1 (hall _ e1)
  omega)
 obtain⟨htL,ht0⟩:=hm2.tmps
 refine⟨θ2,hm2.2.2.2.2.2.2.2.2.2.2.2,hm2.2.2.2.1,⟨hts.symm,fun t v v' hv hv'=>?_⟩,hdf⟩
 by_cases hex : ∃ (j : Nat) (o' : Oper),ops[j]?=some o'∧o'.dst=some t
 ·obtain⟨j,o',hj,hd⟩:=hex
  have hjn:=lt_of_get hj
  exact (htL j o' t v v' hj (hall j hjn) hd hv hv').2 (fun hc=>by have:=(hp.sp j hjn).1;omega)
 ·have hno : ∀ (k : Nat) (o : Oper),ops[k]?=some o→o.dst≠some t:=fun k o hk hd=>hex ⟨k,o,hk,hd⟩
  have:=hr.old t hno
  rw[hv] at this
  exact ht0 t v v' (fun k o hk hd=>absurd hd (hno k o hk)) this.symm hv'
theorem count_set : ∀ (l : List Bool) (i : Nat),l[i]?=some false→(l.set i true).count false+1=l.count false
 | [],i,h=>by simp at h
 | x::l,0,h=>by simp at h;subst h;simp
 | x::l,i+1,h=>by
  have:=count_set l i (by simpa using h)
  simp only[List.set_cons_succ,List.count_cons]
  omega
theorem drawn_ok (hex : ExOk P ex) (hp : PlanP ops pos kind sig) (hr : RunP P ex ops pos kind sig t0 T G) {θ0 : Th} {w0 : World} (hat0 : At P θ0 w0) {b0 : Act} (r : Option Nat) (n : Nat) {Q : Exit→Act→World→Prop}
  (hQ : ∀ θ b w,Stp θ0 w0 θ w→Rel P θ (G ops.size) w→AR θ T b.tmps→b.defers=b0.defers→Q .normal b w) :
  ∀ (fuel : Nat) (listed : Array Bool) (b : Act) (w : World),listed.toList.count false=fuel→Inv P ops pos kind t0 T G θ0 w0 b0 listed b w→wpAnyIn (FW r) n P .any ops Q fuel listed b w:=by
 intro fuel
 induction fuel with
 | zero=>
  intro listed b w hc h
  have hls:=h.ls
  have hall : ∀ k,k<ops.size→isL listed k:=by
   intro k hk
   unfold isL
   have hk' : k<listed.size:=by omega
   rw[Array.getElem?_eq_getElem hk']
   cases hv : listed[k] with
   | true=>rfl
   | false=>
    have:=List.count_eq_zero.1 hc
    exact absurd (by rw[← hv];exact Array.mem_toList_iff.2 (Array.getElem_mem hk')) this
  refine⟨?_,?_⟩
  ·rw[List.eq_nil_iff_forall_not_mem]
   intro i hi
   obtain⟨o,ho,hnl,_⟩:=ready_of hls hi
   exact hnl (hall i (lt_of_get ho))
  ·obtain⟨θ,h1,h2,h3,h4⟩:=h.final hp hr hall
   exact hQ θ b w h1 h2 h3 h4
 | succ fuel ih=>
  intro listed b w hc h
  have hls:=h.ls
  refine⟨fun hnil=>?_,fun i hi=>?_⟩
  ·-- the first that has not come is ready
   exfalso
   have hex1 : ∃ k,k<ops.size∧¬ isL listed k:=by
    by_cases hall : ∀ k,k<ops.size→isL listed k
    ·have : listed.toList.count false=0:=by
      rw[List.count_eq_zero]
      intro hm
      obtain⟨k,hk⟩:=Array.getElem?_of_mem (Array.mem_toList_iff.1 hm)
      have hlt:=(Array.getElem?_eq_some_iff.1 hk).1
      have:=hall k (by omega)
      unfold isL at this
      rw[hk] at this;cases this
     omega
    ·simp only[Classical.not_forall] at hall
     obtain⟨k,hk,hn⟩:=hall
     exact⟨k,hk,hn⟩
   have hmin : ∃ k,k<ops.size∧¬ isL listed k∧∀ j,j<k→isL listed j:=by
    obtain⟨k,hk,hn⟩:=hex1
    induction k using Nat.strongRecOn with
    | _ k ih2=>
     by_cases hc2 : ∀ j,j<k→isL listed j
     ·exact⟨k,hk,hn,hc2⟩
     ·simp only[Classical.not_forall] at hc2
      obtain⟨j,hj,hjn⟩:=hc2
      exact ih2 j hj (by omega) hjn
   obtain⟨k,hk,hn,hj⟩:=hmin
   have ho : ops[k]?=some ops[k]:=Array.getElem?_eq_getElem hk
   have hmem : k∈Region.ready .any ops listed:=by
    simp only[Region.ready,List.mem_filter,List.mem_range,Bool.and_eq_true,Bool.not_eq_true']
    refine⟨hk,?_,?_⟩
    ·have hk' : k<listed.size:=by omega
     simp only[Array.getD_eq_getD_getElem?,Array.getElem?_eq_getElem hk',Option.getD_some]
     unfold isL at hn
     rw[Array.getElem?_eq_getElem hk'] at hn
     simpa using hn
    ·rw[ho]
     simp only[Option.map_some,Option.getD_some]
     rw[← Array.all_toList,List.all_eq_true]
     intro e he
     by_cases hb : Region.binds .any e=true
     ·have:=hj e.on (hp.edge k _ ho e he hb)
      unfold isL at this
      simp[hb,Array.getD_eq_getD_getElem?,this]
     ·simp[hb]
   rw[hnil] at hmem
   cases hmem
  ·refine wpOpIn_mono (fun b' w' h'=>ih _ b' w' ?_ h') (h.step hex hp hr hat0 hi r n Q)
   obtain⟨o,ho,hnl,_⟩:=ready_of hls hi
   have hil : i<listed.size:=by rw[hls];exact lt_of_get ho
   have hf : listed.toList[i]?=some false:=by
    unfold isL at hnl
    rw[Array.getElem?_toList,Array.getElem?_eq_getElem hil] at *
    cases hv : listed[i] with
    | false=>rfl
    | true=>rw[hv] at hnl;exact absurd rfl hnl
   have:=count_set _ _ hf
   rw[Array.toList_setIfInBounds]
   omega
theorem region_draw_ok (hex : ExOk P ex) (hmix : P.follows .mixedOrders=true) (hp : PlanP ops pos kind sig) (hr : RunP P ex ops pos kind sig t0 T G) {θ0 : Th} {w0 : World} (hat0 : At P θ0 w0) {b0 : Act} (r : Option Nat) (n : Nat) {Q : Exit→Act→World→Prop} {id : Nat}
  (hrel : Rel P θ0 (G 0) w0) (ht : AR θ0 t0 b0.tmps) (hQ : ∀ θ b w,Stp θ0 w0 θ w→Rel P θ (G ops.size) w→AR θ T b.tmps→b.defers=b0.defers→Q .normal b w) :
  (Code.region id ops true).wpIn (FW r) n P Q b0 w0:=by
 refine wpIn_region_any hmix ?_
 refine drawn_ok hex hp hr (θ0:=θ0) (w0:={ w0 with drawn:=w0.drawn+1 }) (hat0.stp (Stp.drew _ _)) (b0:=b0) r n (fun θ b w h1 h2 h3 h4=>hQ θ b w (Stp.of_drew h1) h2 h3 h4) ops.size _ _ _ ?_ ?_
 ·simp
 ·have hno : ∀ k,¬ isL (Array.replicate ops.size false) k:=by
   intro k hk
   unfold isL at hk
   rw[Array.getElem?_replicate] at hk
   split at hk<;>simp at hk
  refine⟨⟨0,θ0,θ0,⟨Nat.zero_le _,fun k _ _=>⟨fun h=>absurd h (hno k),fun h=>absurd h (Nat.not_lt_zero _)⟩,fun k _ _ h=>absurd h (Nat.not_lt_zero _),hrel.drew,Ext.refl _,fun _ _ h _=>h,fun _ _ h=>.inl h,
   fun k _ _ _ h=>absurd h (hno k),(fun i j p r hi _ hn=>by rw[hi] at hn;cases hn),fun k _ _ _ _ _ h=>absurd h (hno k),fun t v v' _ hv hv'=>ht.2 t v v' hv hv',Stp.refl _ _⟩,.inl rfl⟩,by simp,by rw[hr.size];exact ht.1.symm,fun k _ _ h=>absurd h (hno k),rfl⟩
end
end Go.Xe
