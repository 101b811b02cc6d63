/- What the functions of the layer seat come to: quotients of all parties, one by one. Conditions: none. -/
import Derived.Test.YtelfbgmhleneiaaTVD
-- MOD TV
namespace Go.Xe.TVX
open Go Go.Xe Go.Proofs
open Nat renaming reduceLeDiff → qA, reduceSub → qB, reduceAdd → qC, reduceEqDiff → qD, reduceLT → qE
open Int renaming reduceNegSucc → qF, reduceEq → qG
open Go.Xe.V renaming seq → sA, block → sB, scope → sC, skip → sD, close → sE
open Go.Xe renaming pth → P
open Go.Xe.Sea
set_option maxRecDepth 100000
set_option maxHeartbeats 3200000
set_option linter.unusedSimpArgs false
noncomputable def d84 : FCode:=(.seq (.run (.go (.box 83 (tm 0)) (P 2)::
.go (.box 78 (tm 1)) (P 3)::
.go (.move (.con .nilFunc)) (P 4)::
[])) (.seq (.run (.go (.makeFunc 99 [] [(tm 2),(tm 3)]) (P 5)::
.go (.move (tm 5)) (P 4)::
[])) .ret))
theorem de84 : @compF Try.prog (Gl.none Try.prog) Try.f84 2=.mk d84 (mkTT 6) [(P 0),(P 1)] [.tmp (P 4)]:=by kernel_rfl
theorem dg84 : Try.prog.funcs[84]?=some Try.f84:=Try.func84
theorem do84 : okF Try.prog Try.f84=true:=by kernel_rfl
noncomputable def d99 : FCode:=(.seq (.run (.go (.fieldAddr 11 (tm 1)) (P 6)::
.go (.loadN 8 (tm 6)) (P 7)::
.go (.move (.con (.int .i64 (.ofNat 0)))) (P 8)::
[])) (.block 0 (.loop (.seq (.run (.go (.bin .lss 3 (tm 8) (.con (.int .i64 (.ofNat 8)))) (P 9)::
[])) (.seq (.cond (tm 9) .skip (.exit 0)) (.seq (.block 1 (.seq (.run (.go (.move (tm 8)) (P 10)::
.go (.index 8 1 true (tm 7) (tm 8)) (P 11)::
.go (.move (tm 10)) (P 4)::
.go (.move (tm 11)) (P 5)::
[])) (.seq (.draw 16 (.go (.move (tm 5)) (P 12)::
.go (.bin .gtr 3 (tm 12) (.con (.int .i64 (.ofNat 0)))) (P 13)::
.go (.move (tm 13)) (P 14)::
.gd (P 14) true (.move (tm 0)) (P 15)::
.gd (P 14) true (.move (tm 4)) (P 16)::
.gd (P 14) true (.fieldAddr 21 (tm 1)) (P 17)::
.gd (P 14) true (.load1 (tm 17)) (P 18)::
.gd (P 14) true (.loadN 22 (tm 1)) (P 19)::
.gd (P 14) true (.move (tm 4)) (P 20)::
.gd (P 14) true (.move (tm 4)) (P 21)::
.gd (P 14) true (.indexAddr (some 8) 1 (tm 2) (tm 21)) (P 22)::
.gd (P 14) true (.load1 (tm 22)) (P 23)::
.gd (P 14) true (.call (tm 18) [(tm 19),(tm 20),(tm 23)]) (P 24)::
.gd (P 14) true (.call (tm 15) [(tm 16),(tm 24)]) (P 25)::
.gd (P 14) true (.un .not (tm 25)) (P 26)::
.go (.pick (tm 14) (tm 26) (.con (.bool false))) (P 27)::
[]) [.ok,.ok,.ok,.ok,.ok,.ok,.ok,.ok,.ok,.ok,.ok,.ok,.ok,.ok,.ok,.ok]) (.cond (tm 27) .ret .skip)))) (.run (.go (.bin .add 3 (tm 8) (.con (.int .i64 (.ofNat 1)))) (P 28)::
.go (.move (tm 28)) (P 8)::
[]))))))))
theorem de99 : @compF Try.prog (Gl.none Try.prog) Try.f99 3=.mk d99 (mkTT 29) [(P 0),(P 1),(P 2)] []:=by kernel_rfl
theorem dg99 : Try.prog.funcs[99]?=some Try.f99:=Try.func99
theorem do99 : okF Try.prog Try.f99=true:=by kernel_rfl
theorem dsq_inc {m s : Int} (hs : 0≤s) : dsq m s<dsq m (s+1):=by
 have e1 : (s+1)*(s+1)=s*s+2*s+1:=by rw[Int.add_mul,Int.mul_add];omega
 have e2 : (s+1+1)*(s+1+1)=s*s+4*s+4:=by rw[Int.add_mul,Int.mul_add,e1];omega
 have e3 : (2*s+1)*(2*s+1)=4*(s*s)+4*s+1:=by
  have : 2*s*(2*s)=4*(s*s):=by rw[Int.mul_assoc,← Int.mul_assoc s 2 s,Int.mul_comm s 2,Int.mul_assoc 2 s s];omega
  rw[Int.add_mul,Int.mul_add,this];omega
 have e4 : (2*(s+1)+1)*(2*(s+1)+1)=4*(s*s)+12*s+9:=by
  have h : 2*(s+1)+1=2*s+3:=by omega
  have : 2*s*(2*s)=4*(s*s):=by rw[Int.mul_assoc,← Int.mul_assoc s 2 s,Int.mul_comm s 2,Int.mul_assoc 2 s s];omega
  rw[h,Int.add_mul,Int.mul_add,this];omega
 have e5 : s*(s+1)=s*s+s:=by rw[Int.mul_add];omega
 have e6 : (s+1)*(s+1+1)=s*s+3*s+2:=by rw[Int.mul_add,e1];omega
 unfold dsq
 by_cases h4 : m=4
 ·rw[if_pos h4,if_pos h4];omega
 ·rw[if_neg h4,if_neg h4]
  by_cases h3 : m=3
  ·rw[if_pos h3,if_pos h3];omega
  ·rw[if_neg h3,if_neg h3]
   by_cases h2 : m=2
   ·rw[if_pos h2,if_pos h2];omega
   ·rw[if_neg h2,if_neg h2];omega
theorem dsq_nn {m s : Int} (hs : 0≤s) : 0≤dsq m s:=by
 have h1 : 0≤s*s:=Int.mul_nonneg hs hs
 have h2 : 0≤(s+1)*(s+1):=Int.mul_nonneg (by omega) (by omega)
 have h3 : 0≤(2*s+1)*(2*s+1):=Int.mul_nonneg (by omega) (by omega)
 have h4 : 0≤s*(s+1):=Int.mul_nonneg (by omega) (by omega)
 unfold dsq
 split
 ·exact h4
 ·split
  ·exact h3
  ·split
   ·exact h2
   ·exact h1
theorem sm_pos {v : Nat→Int} (hv : vok v) {p : Nat} (hp : p<8) (h : 0<v p) : 0<sm v 8:=by
 have:=sm_ge hv hp;omega
theorem clq_ok {m S : Int} {v : Nat→Int} (hv : vok v) (hS : 0≤S∧S≤61) {p : Nat} (hp : p<8) (h : 0<v p) {s : Int} (hs : 0≤s) : qok (clq m S v p s):=by
 have hb:=shr_bd hv hS hp
 have ht:=sm_pos hv hp h
 unfold clq qok
 split
 ·split
  ·exact⟨by simp,by simp,by simp⟩
  ·split
   ·simp only
    exact⟨by omega,by omega,by omega⟩
   ·exact⟨by simp,by simp,by simp⟩
 ·simp only
  exact⟨Int.mul_nonneg (by omega) (by omega),dsq_nn hs,fun _=>Int.mul_pos h h⟩
theorem clq_qb {m S : Int} {v : Nat→Int} (hv : vok v) (hS : 0≤S∧S≤61) {p : Nat} (hp : p<8) {s : Int} (hs : 0≤s∧s≤100) : qb (clq m S v p s):=by
 have hb:=shr_bd hv hS hp
 have ht:=sm_bd hv
 have h1:=sq_bd (hv p hp)
 have h2:=dsq_bd (m:=m) hs
 unfold clq qb
 split
 ·split
  ·simp only;omega
  ·split<;>(simp only;omega)
 ·simp only;omega
theorem lw_qb {a : Q2} (h : qok a) (hb : qb a) : qb (lw a):=by
 have h1:=(lw_ok h).1
 by_cases h0 : a.2=0
 ·unfold lw;rw[if_pos h0];exact⟨hb.1,by simp⟩
 ·obtain⟨g,g0,e1,e2⟩:=lw_mul h0
  obtain⟨⟨_,b1⟩,_,b2⟩:=hb
  have k1 : (lw a).1*1≤(lw a).1*g:=Int.mul_le_mul_of_nonneg_left (by omega) h1.1
  have k2 : (lw a).2*1≤(lw a).2*g:=Int.mul_le_mul_of_nonneg_left (by omega) h1.2.1
  exact⟨⟨h1.1,by omega⟩,h1.2.1,by omega⟩
theorem clq_dec {m S : Int} {v : Nat→Int} (hv : vok v) (hS : 0≤S∧S≤61) {p : Nat} (hp : p<8) (h : 0<v p) {s : Int} (hs : 0≤s) : ¬ qlt (clq m S v p s) (clq m S v p (s+1)):=by
 have hb:=shr_bd hv hS hp
 have ht:=sm_pos hv hp h
 by_cases h5 : m=5
 ·unfold clq
  rw[if_pos h5,if_pos h5]
  by_cases h1 : s<(shr S v p).1
  ·rw[if_pos h1]
   split
   ·exact qlt_irr _
   ·split
    ·exact qlt_zn rfl (by simp only;omega) ⟨by simp,by simp,by simp⟩ ⟨by simp only;omega,by simp only;omega,by simp only;omega⟩
    ·exact qlt_zn rfl (by simp) ⟨by simp,by simp,by simp⟩ ⟨by simp,by simp,by simp⟩
  ·rw[if_neg h1,if_neg (show ¬ s+1<(shr S v p).1 by omega)]
   by_cases h2 : s=(shr S v p).1
   ·rw[if_pos h2,if_neg (show ¬ s+1=(shr S v p).1 by omega),qlt_nz (by simp)]
    simp only;omega
   ·rw[if_neg h2,if_neg (show ¬ s+1=(shr S v p).1 by omega)]
    exact qlt_irr _
 ·unfold clq
  rw[if_neg h5,if_neg h5]
  have hi:=dsq_inc (m:=m) hs
  have hn:=dsq_nn (m:=m) hs
  have hv2:=Int.mul_pos h h
  by_cases h0 : dsq m s=0
  ·exact qlt_zn h0 (by simp only;omega) ⟨by simp only;omega,by simp only;omega,fun _=>hv2⟩ ⟨by simp only;omega,by simp only;omega,fun _=>hv2⟩
  ·rw[qlt_nz (fun hh=>h0 hh.1)]
   simp only
   have:=Int.mul_lt_mul_of_pos_left hi hv2
   omega
theorem clq_str {m S : Int} (h5 : m≠5) {v : Nat→Int} {p : Nat} (h : 0<v p) {s : Int} (hs : 0≤s) : qlt (clq m S v p (s+1)) (clq m S v p s):=by
 unfold clq
 rw[if_neg h5,if_neg h5]
 have hi:=dsq_inc (m:=m) hs
 have hn:=dsq_nn (m:=m) hs
 have hv2:=Int.mul_pos h h
 rw[qlt_nz (fun hh=>by simp only at hh;omega)]
 simp only
 exact Int.mul_lt_mul_of_pos_left hi hv2
theorem kl_int {n : Int} (h : (Lit.int .i64 n).wf=true) (k : Nat) : Try.prog.keyLits (k+1) 3 [I n]=some [.int .i64 n]:=by
 unfold Program.keyLits
 simp only[Try.underlying3]
 rw[if_pos ⟨trivial,h⟩]
theorem wf_k {x : Int} (h1 : -1000000000≤x) (h2 : x≤1000000000) : (Lit.int .i64 x).wf=true:=by
 simp only[Lit.wf,Bool.and_eq_true,decide_eq_true_eq]
 show (-9223372036854775808 : Int)≤x∧x≤9223372036854775807
 omega
theorem key115 {a b : Int} (ha : (Lit.int .i64 a).wf=true) (hb : (Lit.int .i64 b).wf=true) : (keyOf Try.prog 115 (.agg ⟨A2 a b⟩)).isSome=true:=by
 have c3 : Try.prog.cellsOf 3=1:=by kernel_rfl
 have c48 : Try.prog.cellsOf 115=2:=by kernel_rfl
 have h5 : (Program.keyType Try.prog 115 && (Value.agg ⟨[I a,I b]⟩).formed Try.prog 115)=true:=by kernel_rfl
 obtain⟨n,hn⟩ : ∃ n,Try.prog.types.size+1=n+2:=⟨Try.prog.types.size-1,by have : 2≤Try.prog.types.size:=Nat.le_of_ble_eq_true (by kernel_rfl);omega⟩
 unfold keyOf
 simp only[Try.underlying115]
 rw[if_pos h5,hn]
 unfold Program.keyLits
 simp only[Try.underlying115,c48]
 have e : (Value.agg ⟨[I a,I b]⟩).cells.toList=[I a,I b]:=rfl
 rw[e,if_pos ⟨rfl,by simp⟩]
 simp[c3,kl_int ha,kl_int hb]
theorem eql115 {a b : Q2} (ha : qb a) (hb : qb b) : xbinOp Try.prog .eql 115 (Qv a) (Qv b)=some (.bool (decide (a=b))):=by
 obtain⟨a1,a2⟩:=a
 obtain⟨b1,b2⟩:=b
 simp only[qb] at ha hb
 have w1:=wf_k (x:=a1) (by omega) (by omega)
 have w2:=wf_k (x:=a2) (by omega) (by omega)
 have w3:=wf_k (x:=b1) (by omega) (by omega)
 have w4:=wf_k (x:=b2) (by omega) (by omega)
 have h1 : xbin Try.prog .eql 115 (.agg ⟨A2 a1 a2⟩) (.agg ⟨A2 b1 b2⟩)=none:=rfl
 have h2 : xbinStr .eql (.agg ⟨A2 a1 a2⟩) (.agg ⟨A2 b1 b2⟩)=none:=rfl
 have h3 : xeqNil Try.prog false 115 (.agg ⟨A2 a1 a2⟩) (.agg ⟨A2 b1 b2⟩)=none:=by
  unfold xeqNil
  simp only[Try.underlying115]
 have h4 : keyedB Try.prog 115=true:=by kernel_rfl
 have h5 : Try.prog.eqGuardType Try.prog.depth 115=false:=by kernel_rfl
 unfold xbinOp
 rw[h1,h2]
 simp only[h3]
 unfold xeqAgg
 simp only[Try.underlying115]
 rw[if_pos ⟨h4,rfl,rfl,key115 w1 w2,key115 w3 w4,h5⟩]
 simp[valEq,cellsEq,cellEq]
theorem f84_ok {H : Heap} {cs s : List Value} : F Try.prog 84 ⟨[.agg ⟨cs⟩,.agg ⟨s⟩]⟩ H (fun w X=>w=.func (.func 99) ⟨[]⟩ ⟨[PT H.next,PT (H.next+1)]⟩∧Grow H X∧Bx X H.next cs 83∧Bx X (H.next+1) s 78):=by
 refine F.entryL rfl dg84 do84 de84 rfl (by kernel_rfl) ?_
 simp only[sets]
 refine V.re [(0,.agg ⟨cs⟩),(1,.agg ⟨s⟩)] (N:=6) zE zY ?_
 intro t hF hA
 simp only[Kn,and_true] at hA
 refine zS ?_
 refine V.l0 ?_
 refine V.heap (fun X=>Grow H X∧Bx X H.next cs 83∧Bx X (H.next+1) s 78) ⟨?_,?_,?_⟩ ?_
 ·exact zW
 ·exact zB
 ·exact zB
 rintro H1 ⟨g1,b1,c1⟩
 refine zS ?_
 refine V.l0 ?_
 refine zS ?_
 refine V.ret (V.rets rfl (Lv.retF (by simp +contextual (disch:=first|omega|simp only[nx];omega) only[D1,cells_alloc_at,cells_alloc_ne,cells_set_at,cells_set_ne,yres,yres1,yresL,qA,qB,qC,D5,hF,hA,↓reduceIte,qD,qE];rfl) ?_))
 exact⟨rfl,g1,b1,c1⟩
def yl (m S : Int) (v : Nat→Int) (s : Nat→Int) : List (List Value):=(adl v 8).map fun p=>[I (p : Nat),Qv (lw (clq m S v p (s p)))]
theorem yl_len {m S : Int} {v s : Nat→Int} : (yl m S v s).length=(adl v 8).length:=by simp[yl]
theorem yl_at {m S : Int} {v s : Nat→Int} {k : Nat} (h : k<(yl m S v s).length) : (yl m S v s)[k]=[I (pix v k : Nat),Qv (lw (clq m S v (pix v k) (s (pix v k))))]:=by
 have hk : k<(adl v 8).length:=by rw[← yl_len (m:=m) (S:=S) (s:=s)];exact h
 simp only[yl,List.getElem_map,(pix_at hk).1]
theorem yl_pos {m S : Int} {v s : Nat→Int} {p : Nat} (hp : p<8) (h : 0<v p) : ∃ hk : (adl v p).length<(yl m S v s).length,(yl m S v s)[(adl v p).length]'hk=[I (p : Nat),Qv (lw (clq m S v p (s p)))]:=by
 have e:=adl_at hp h
 have hk:=(List.getElem?_eq_some_iff.1 e).1
 refine⟨by rw[yl_len];exact hk,?_⟩
 have e2 : (adl v 8)[(adl v p).length]=p:=by rw[List.getElem?_eq_getElem hk] at e;simpa using e
 simp only[yl,List.getElem_map,e2]
theorem f99_iter {H0 : Heap} {m S L : Int} {c v s : Nat→Int} {pb ps : Nat} (hm : 1≤m∧m≤5) (hv : vok v) (hS : 0≤S∧S≤61) (hs : ∀ p,p<8→0≤s p∧s p≤100) (hb : Bx H0 pb (pc m S L c v (sm v 8) (dvf m) (clf m)) 83) (hn : Bx H0 ps (n8 s) 78) :
  Iter Try.prog 99 [] [PT pb,PT ps] (fun i=>i=pb∨i=ps) H0 (yl m S v s):=by
 intro y W I0 J H hH hD sI sJ hY h0
 obtain⟨_,hU,hp⟩:=hD pb (.inl rfl)
 obtain⟨_,hU2,hp2⟩:=hD ps (.inr rfl)
 have bb : Bx H pb (pc m S L c v (sm v 8) (dvf m) (clf m)) 83:=⟨Nat.lt_of_lt_of_le hb.1 hH,by have:=hb.2;unfold Heap.cellsAt at this ⊢;rw[hp];exact this⟩
 have cc : Bx H ps (n8 s) 78:=⟨Nat.lt_of_lt_of_le hn.1 hH,by have:=hn.2;unfold Heap.cellsAt at this ⊢;rw[hp2];exact this⟩
 show F Try.prog 99 ⟨[y,PT pb,PT ps]⟩ H _
 refine F.entryL rfl dg99 do99 de99 rfl (by kernel_rfl) ?_
 simp only[sets]
 refine V.re [(0,y),(1,PT pb),(2,PT ps)] (N:=29) zE zY ?_
 intro t hF hA
 simp only[Kn,and_true] at hA
 refine zS ?_
 have zf:=And.intro bb.2<|@PC
 refine V.lz ?_
 refine zS ?_
 refine V.loop (fun z t mm X=>∃ (p : Nat),p≤8∧z=8-p∧mm=[]∧GrowS W H X∧I0 (adl v p).length X∧Full 29 t∧Kn [(0,y),(1,PT pb),(2,PT ps),(7,.agg ⟨n8 v⟩),(8,I p)] t) 8 ?_ ?_
 ·exact⟨0,by omega,by omega,rfl,.refl _,h0,zF,zK⟩
 clear hF hA
 rintro z t mm X ⟨p,hp8,rfl,rfl,hg,hI,hF,hA⟩
 simp only[Kn,and_true] at hA
 have bx:=bb.growS hg hU
 have cx:=cc.growS hg hU2
 refine zS ?_
 refine V.l0 ?_
 refine zS ?_
 refine V.condP zP (fun hlt=>?_) (fun hlt=>?_)
 ·have hlt' : p<8:=by omega
  have ix:=n8_ix (f:=v) hlt' (k:=.i64)
  have ia:=idx_arr (i:=ps) (o:=0) (kd:=.i64) hlt'
  have is':=n8_get (f:=s) hlt'
  have hvp : (0<v p)=(0<v p):=rfl
  refine zS ?_
  have zf:=@ix
  refine V.lz ?_
  refine zS ?_
  by_cases h : 0<v p
  ·obtain⟨hk,hyl⟩:=yl_pos (m:=m) (S:=S) (s:=s) hlt' h
   have hyy:=hY _ hk
   rw[hyl] at hyy
   have hdt : decide (0<v p)=true:=decide_eq_true h
   refine V.draw ?_
   have zf:=And.intro @hdt<|And.intro @h<|And.intro bx.2<|And.intro cx.2<|And.intro @PC<|And.intro @ia<|@is'
   refine VD.nz 9 ?_
   simp only[ds]
   have zf:=And.intro @hdt<|And.intro @h<|And.intro bx.2<|And.intro cx.2<|And.intro @PC<|And.intro @ia<|@is'
   refine VD.nz 3 ?_
   simp only[ds]
   refine VD.callVT zG zA (clf_fv (L:=L) (c:=c) hm hlt' hv hS (hs p hlt') X) zA (fun w2 X2 ⟨hw2,g2⟩=>?_)
   subst hw2
   have hI2:=sI _ _ _ hI hg g2
   have hg2:=hg.trans g2.s
   refine VD.callVT zG zA (hyy X2 hI2 hg2) zA (fun w3 X3 ⟨g3,hw3⟩=>?_)
   have m2:=g2.1
   have m3:=g3.1
   rcases hw3 with⟨rfl,hI3⟩|⟨rfl,hJ⟩
   ·refine VD.d0 ?_ ?_ rfl ?_
    ·exact zM
    ·simp only[dcAll,dcOk,wantD,List.cons_append,List.nil_append,true_and,and_true]
    refine zS ?_
    refine V.condF zA ?_
    refine zS ?_
    refine V.l0 ?_
    refine V.nil (Or.inl ⟨rfl,8-(p+1),by omega,?_⟩)
    refine⟨p+1,hlt',rfl,rfl,hg2.trans g3,?_,zF,zK⟩
    rw[adl_1,if_pos h,List.length_append]
    exact hI3
   ·refine VD.d0 ?_ ?_ rfl ?_
    ·exact zM
    ·simp only[dcAll,dcOk,wantD,List.cons_append,List.nil_append,true_and,and_true]
    refine zS ?_
    refine V.condT zA ?_
    refine zS ?_
    refine V.ret (V.rets rfl (Or.inr ⟨by simp,V.rets rfl (Lv.retF (by simp +contextual (disch:=first|omega|simp only[nx];omega) only[D1,cells_alloc_at,cells_alloc_ne,cells_set_at,cells_set_ne,yres,yres1,yresL,qA,qB,qC,D5,hF,hA,↓reduceIte,qD,qE];rfl) ?_)⟩))
    exact⟨hg2.trans g3,.inr hJ⟩
  ·have hdt : decide (0<v p)=false:=decide_eq_false h
   refine V.draw ?_
   have zf:=And.intro @hdt<|@h
   refine VD.nz 9 ?_
   simp only[ds]
   have zf:=And.intro @hdt<|@h
   refine VD.nz 3 ?_
   simp only[ds]
   refine VD.gdF zG ?_
   refine VD.gdF zG ?_
   have zf:=@hdt
   refine VD.dz ?_ ?_ rfl ?_
   ·exact zM
   ·simp only[dcAll,dcOk,wantD,List.cons_append,List.nil_append,true_and,and_true]
   refine zS ?_
   refine V.condF zA ?_
   refine zS ?_
   refine V.l0 ?_
   refine V.nil (Or.inl ⟨rfl,8-(p+1),by omega,?_⟩)
   refine⟨p+1,hlt',rfl,rfl,hg,?_,zF,zK⟩
   rw[adl_1,if_neg h]
   exact hI
 ·obtain rfl : p=8:=by omega
  refine V.exit ?_
  refine zX ?_
  refine V.nil (Or.inr ⟨by simp,?_⟩)
  refine zX ?_
  refine zS ?_
  refine V.nil (Lv.normal (by simp only[yres,yresL,Option.map_some];rfl) ?_)
  rw[yl_len]
  exact⟨hg,.inl hI⟩
end Go.Xe.TVX
/- What the functions of the layer seat come to: the parties that may be next. Conditions: none. -/
-- MOD TV
namespace Go.Xe.TVX
open Go Go.Xe Go.Proofs
open Nat renaming reduceLeDiff → qA, reduceSub → qB, reduceAdd → qC, reduceEqDiff → qD, reduceLT → qE
open Int renaming reduceNegSucc → qF, reduceEq → qG
open Go.Xe.V renaming seq → sA, block → sB, scope → sC, skip → sD, close → sE
open Go.Xe renaming pth → P
open Go.Xe.Sea
set_option maxRecDepth 100000
set_option maxHeartbeats 3200000
set_option linter.unusedSimpArgs false
noncomputable def d98 : FCode:=(.seq (.run (.go (.box 83 (tm 0)) (P 2)::
.go (.box 78 (tm 1)) (P 3)::
.go (.move (.con (.slice none 0 0))) (P 4)::
[])) (.seq (.run (.go (.alloc 115 [(.int .i64 (.ofNat 0)),(.int .i64 (.ofNat 0))]) (P 5)::
[])) (.seq (.run (.go (.alloc 24 [(.slice none 0 0)]) (P 6)::
[])) (.seq (.seq (.run (.go (.loadN 22 (tm 2)) (P 9)::
.go (.loadN 8 (tm 3)) (P 10)::
.go (.call (.con (.func (.func 84) ⟨[]⟩ ⟨[]⟩)) [(tm 9),(tm 10)]) (P 11)::
[])) (.block 0 (.rangeFunc (tm 11) [(P 12),(P 13)] (rfA Try.f98 0) (rfB Try.f98 0) (.seq (.run (.go (.move (tm 12)) (P 7)::
[])) (.run (.go (.alloc 115 [(.int .i64 (.ofNat 0)),(.int .i64 (.ofNat 0))]) (P 8)::
.un (.store 2 (tm 8) (tm 13))::
[]))) (.block 1 (.block 2 (.seq (.run (.go (.load1 (tm 6)) (P 15)::
.go (.len 0 (tm 15)) (P 16)::
.go (.bin .eql 3 (tm 16) (.con (.int .i64 (.ofNat 0)))) (P 17)::
.go (.move (tm 17)) (P 18)::
.gd (P 18) false (.loadN 2 (tm 5)) (P 19)::
.gd (P 18) false (.loadN 2 (tm 8)) (P 20)::
.gd (P 18) false (.call (.con (.func (.func 87) ⟨[]⟩ ⟨[]⟩)) [(tm 19),(tm 20)]) (P 21)::
.go (.pick (tm 18) (.con (.bool true)) (tm 21)) (P 22)::
.go (.move (tm 22)) (P 14)::
[])) (.cond (tm 14) (.run (.go (.loadN 2 (tm 8)) (P 23)::
.go (.move (tm 7)) (P 24)::
.go (.buildSlice 3 1 [(.int .i64 (.ofNat 0))] [(0,1,(tm 24))]) (P 25)::
.un (.store 2 (tm 5) (tm 23))::
.un (.store 1 (tm 6) (tm 25))::
[])) (.seq (.run (.go (.loadN 2 (tm 8)) (P 27)::
.go (.loadN 2 (tm 5)) (P 28)::
.go (.bin .eql 115 (tm 27) (tm 28)) (P 29)::
.go (.move (tm 29)) (P 26)::
[])) (.cond (tm 26) (.run (.go (.load1 (tm 6)) (P 30)::
.go (.move (tm 7)) (P 31)::
.go (.buildSlice 3 1 [(.int .i64 (.ofNat 0))] [(0,1,(tm 31))]) (P 32)::
.go (.append 3 1 8 (tm 30) (tm 32)) (P 33)::
.un (.store 1 (tm 6) (tm 33))::
[])) .skip))))))))) (.seq (.run (.go (.load1 (tm 6)) (P 34)::
.go (.move (tm 34)) (P 4)::
[])) .ret)))))
theorem de98 : @compF Try.prog (Gl.none Try.prog) Try.f98 2=.mk d98 (mkTT 35) [(P 0),(P 1)] [.tmp (P 4)]:=by kernel_rfl
theorem dg98 : Try.prog.funcs[98]?=some Try.f98:=Try.func98
theorem do98 : okF Try.prog Try.f98=true:=by kernel_rfl
def NL (l : List Nat) : List Value:=l.map fun p=>I (p : Nat)
theorem NL_len (l : List Nat) : (NL l).length=l.length:=by simp[NL]
abbrev qf (m S : Int) (v s : Nat→Int) : Nat→Q2:=fun p=>clq m S v p (s p)
theorem f98_ok {H : Heap} {m S L : Int} {c v s : Nat→Int} (hm : 1≤m∧m≤5) (hv : vok v) (hS : 0≤S∧S≤61) (hs : ∀ p,p<8→0≤s p∧s p≤100) (hv8 : ∀ p,¬ p<8→v p=0) :
  F Try.prog 98 ⟨[.agg ⟨pc m S L c v (sm v 8) (dvf m) (clf m)⟩,.agg ⟨n8 s⟩]⟩ H (fun w X=>Grow H X∧Ow H X 3 w (NL (tp v (qf m S v s) 8))):=by
 have v8 : ∀ p,0<v p→p<8:=fun p hp=>by
  apply Decidable.by_contra
  intro hn
  rw[hv8 p hn] at hp;omega
 have hq : ∀ p,0<v p→qok (qf m S v s p):=fun p hp=>clq_ok hv hS (v8 p hp) hp (hs p (v8 p hp)).1
 have hqb : ∀ p,p<8→qb (qf m S v s p):=fun p hp=>clq_qb hv hS hp (hs p hp)
 refine F.entryL rfl dg98 do98 de98 rfl (by kernel_rfl) ?_
 simp only[sets]
 refine V.re [(0,.agg ⟨pc m S L c v (sm v 8) (dvf m) (clf m)⟩),(1,.agg ⟨n8 s⟩)] (N:=35) zE zY ?_
 intro t hF hA
 simp only[Kn,and_true] at hA
 refine zS ?_
 refine V.l0 ?_
 refine zS ?_
 refine V.l0 ?_
 refine zS ?_
 refine V.l0 ?_
 refine V.heap (fun X=>Grow H X∧Bx X H.next (pc m S L c v (sm v 8) (dvf m) (clf m)) 83∧Bx X (H.next+1) (n8 s) 78∧Bx X (H.next+2) [I 0,I 0] 115∧Bx X (H.next+3) [.slice none 0 0] 24) ⟨?_,?_,?_,?_,?_⟩ ?_
 ·exact zW
 ·exact zB
 ·exact zB
 ·exact zB
 ·exact zB
 rintro H1 ⟨g1,b1,c1,d1,e1⟩
 refine zS ?_
 refine V.run ?_
 have zf:=And.intro b1.2<|And.intro c1.2<|And.intro @PC<|And.intro @n8_take<|@n8_len
 refine VI.sz 2 ?_
 simp only[ds]
 refine VI.callR zA (f84_ok (cs:=pc m S L c v (sm v 8) (dvf m) (clf m)) (s:=n8 s)) zA (fun w2 H2 ⟨hw2,g2,p2,s2⟩=>?_)
 subst hw2
 have d2:=d1.grow g2
 have e2:=e1.grow g2
 have g12:=g1.trans g2
 have n1:=e1.1
 have n2:=s2.1
 refine VI.l0 ?_
 refine zS ?_
 refine V.re [(5,PT (H.next+2)),(6,PT (H.next+3)),(11,.func (.func 99) ⟨[]⟩ ⟨[PT H1.next,PT (H1.next+1)]⟩)] (N:=35) zF zK ?_
 clear hF hA
 intro t hF hA
 simp only[Kn,and_true] at hA
 refine V.rangeL (f99_iter hm hv hS hs p2 s2) (fun y=>y=H.next+2∨y=H.next+3∨H2.next+1<y) (fun k X=>∃ sl tq,Bx X (H.next+2) (A2 tq.1 tq.2) 115∧Bx X (H.next+3) [sl] 24∧Ow (cutH X (H2.next+2)) X 3 sl (NL (tp v (qf m S v s) (pix v k)))∧((tp v (qf m S v s) (pix v k)=[]∧tq=(0,0))∨∃ p,p∈tp v (qf m S v s) (pix v k)∧tq=lw (qf m S v s p))) (fun _ _=>False)
  zA rfl (by simp only[Heap.next_alloc];omega) ?_ ?_ ?_ (fun _ _ _ _ _ h=>h.elim) ?_ ?_ ?_
 ·rintro y hy
  refine⟨by omega,by omega,?_⟩
  rw[Heap.get_alloc,if_neg (by omega)]
 ·intro l hl
  obtain⟨q,_,rfl⟩:=List.mem_map.1 hl
  rfl
 ·rintro k X X' r1 r2 ⟨sl,tq,h1,h2,h3,h4⟩ _ _ g
  simp only[Heap.next_alloc] at g
  exact⟨sl,tq,h1.growS g (by omega),h2.growS g (by omega),h3.growS g (fun i (hi : H2.next+2≤i)=>by omega) (Nat.le_refl _),h4⟩
 ·intro r
  have g : Grow H2 ((H2.alloc (.deferred true)).alloc (.loop r)):=((Grow.refl H2).alloc _).alloc _
  exact⟨_,(0,0),d2.grow g,e2.grow g,.inl ⟨rfl,by rw[pix_0];rfl⟩,.inl ⟨pix_0,rfl⟩⟩
 ·rintro k hk r X ⟨sl,tq,h1,h2,h3,h4⟩ hg hlX hl hr
  rw[yl_at hk]
  rw[yl_len] at hk
  simp only[sets]
  simp only[Heap.next_alloc] at hlX hl
  obtain⟨_,hp8,hpv,hpn⟩:=pix_at hk
  have hpn:=hpn (q:=qf m S v s)
  obtain⟨p,hpp⟩ : ∃ p,p=pix v k:=⟨_,rfl⟩
  rw[← hpp] at h3 h4 hp8 hpv hpn ⊢
  obtain⟨qq,hqq⟩ : ∃ qq,qq=lw (qf m S v s p):=⟨_,rfl⟩
  have hqqb : qb qq:=by rw[hqq];exact lw_qb (hq p hpv) (hqb p hp8)
  rw[show clq m S v p (s p)=qf m S v s p from rfl,← hqq]
  refine zS ?_
  refine V.l0 ?_
  refine zS ?_
  refine V.l0 ?_
  refine V.heap (fun Y=>Grow X Y∧Bx Y X.next (A2 qq.1 qq.2) 115) ⟨?_,?_⟩ ?_
  ·exact zW
  ·exact zB
  rintro X1 ⟨gx,x4⟩
  have nx:=gx.1
  have hl1 : X1.get (H2.next+1)=some (.loop r):=(gx.2 _ hlX).trans hl
  refine V.nil ⟨rfl,hl1,gx.s,?_⟩
  intro X2 _ hl2 g2'
  simp only[Heap.next_alloc] at g2' hl2
  have h1:=(h1.grow gx).growS g2' (by omega)
  have h2:=(h2.grow gx).growS g2' (by omega)
  have x4:=x4.growS g2' (by omega)
  have h3 : Ow (cutH X2 (H2.next+2)) X2 3 sl (NL (tp v (qf m S v s) p)):=Ow.growS (Ow.growS (B:=cutH X (H2.next+2)) h3 (Grow.s (U:=(·=H2.next+1)) gx) (fun i (hi : H2.next+2≤i)=>by omega) (Nat.le_refl _)) g2' (fun i (hi : H2.next+2≤i)=>by omega) (Nat.le_refl _)
  have n2':=g2'.1
  have gc:=cutH_grow (X:=X2) (n:=H2.next+2) (by omega)
  have hsl : ylen 0 X2 sl=some (I (tp v (qf m S v s) p).length):=by
   have:=h3.length
   rw[NL_len] at this
   obtain⟨a,b,c',rfl⟩:=h3.sl.isS
   exact this
  obtain⟨pl,nl,cl,esl⟩:=h3.sl.isS
  subst esl
  have hlen0 : (((tp v (qf m S v s) p).length : Nat) : Int)=0↔tp v (qf m S v s) p=[]:=by
   rw[← List.length_eq_zero_iff];omega
  rcases h4 with⟨h4,rfl⟩|⟨p0,h4,rfl⟩
  ·have hz : ((((tp v (qf m S v s) p).length : Nat) : Int)=0)=True:=eq_true (hlen0.2 h4)
   have hnew:=tp_new hq hpv h4
   refine zS ?_
   refine V.run ?_
   have zf:=And.intro h2.2<|And.intro @hsl<|@hz
   refine VI.sz 6 ?_
   simp only[ds]
   refine VI.gdF zG ?_
   refine VI.l0 ?_
   refine zS ?_
   refine V.condT zA ?_
   refine zS ?_
   have zf:=And.intro x4.2<|And.intro h1.2<|h2.2
   refine V.lz ?_
   refine V.heap (fun Y=>GrowS (fun y=>y=H.next+2∨y=H.next+3∨H2.next+1<y) X2 Y∧Bx Y (H.next+2) (A2 qq.1 qq.2) 115∧Bx Y (H.next+3) [.slice (some ⟨X2.next,0,none⟩) 1 1] 24∧Bx Y X2.next [I (p : Nat)] 3∧Y.get (H2.next+1)=X2.get (H2.next+1)) ⟨?_,?_,?_,?_,?_⟩ ?_
   ·exact (((GrowS.refl X2).alloc _).set (.inl (.inl rfl)) _).set (.inl (.inr (.inl rfl))) _
   ·exact (Bx.put (by simp only[Heap.next_alloc];omega) _ _).set (by omega) _
   ·exact Bx.put (by simp only[Heap.next_alloc,Heap.next_set];omega) _ _
   ·exact ((Bx.new _ _ _).set (by omega) _).set (by omega) _
   ·rw[Heap.get_set,if_neg (by omega),Heap.get_set,if_neg (by omega),Heap.get_alloc,if_neg (by omega)]
   rintro Y ⟨gY,y1,y2,y3,y4⟩
   have nY:=y3.1
   refine zS ?_
   refine V.nil ⟨y4.trans hl2,gY,.inl ⟨rfl,_,qq,y1,y2,.inr ⟨X2.next,(show H2.next+2≤X2.next by omega),y3.1,?_,?_⟩,.inr ⟨p,?_,hqq⟩⟩⟩
   ·rw[hpn,hnew];rfl
   ·rw[hpn,hnew];exact y3.2
   ·rw[hpn,hnew];simp
  ·have hz : ((((tp v (qf m S v s) p).length : Nat) : Int)=0)=False:=eq_false (fun h=>by rw[hlen0.1 h] at h4;cases h4)
   have hp0:=mem_tp.1 h4
   have hqb0:=lw_qb (hq p0 hp0.2.1) (hqb p0 (v8 p0 hp0.2.1))
   have f87':=fun X=>f87_ok (H:=X) hqb0 hqqb
   have edec : decide (qlt (lw (qf m S v s p0)) qq)=decide (qlt (qf m S v s p0) (qf m S v s p)):=by
    rw[decide_eq_decide,hqq]
    exact lw_lt (hq p0 hp0.2.1) (hq p hpv)
   rw[edec] at f87'
   refine zS ?_
   refine V.run ?_
   have zf:=And.intro h2.2<|And.intro @hsl<|And.intro @hz<|And.intro h1.2<|x4.2
   refine VI.sz 6 ?_
   simp only[ds]
   refine VI.callAT zG rfl (f87' X2) zA (fun X3 g3=>?_)
   have h1:=h1.grow g3
   have h2:=h2.grow g3
   have x4:=x4.grow g3
   have h3 : Ow (cutH X3 (H2.next+2)) X3 3 (.slice pl nl cl) (NL (tp v (qf m S v s) p)):=Ow.growS (U:=fun _=>False) h3 g3.s (fun _ _=>id) (Nat.le_refl _)
   have n3:=g3.1
   have hl3 : X3.get (H2.next+1)=some (.loop { r with state:=.busy }):=(g3.2 _ (by omega)).trans hl2
   have gU : GrowS (fun y=>y=H.next+2∨y=H.next+3∨H2.next+1<y) X2 X3:=g3.s
   refine VI.l0 ?_
   refine zS ?_
   refine V.condP zP (fun hlq=>?_) (fun hlq=>?_)
   ·have hnew:=tp_top hq hpv h4 hlq
    refine zS ?_
    have zf:=And.intro x4.2<|And.intro h1.2<|h2.2
    refine V.lz ?_
    refine V.heap (fun Y=>GrowS (fun y=>y=H.next+2∨y=H.next+3∨H2.next+1<y) X3 Y∧Bx Y (H.next+2) (A2 qq.1 qq.2) 115∧Bx Y (H.next+3) [.slice (some ⟨X3.next,0,none⟩) 1 1] 24∧Bx Y X3.next [I (p : Nat)] 3∧Y.get (H2.next+1)=X3.get (H2.next+1)) ⟨?_,?_,?_,?_,?_⟩ ?_
    ·exact (((GrowS.refl X3).alloc _).set (.inl (.inl rfl)) _).set (.inl (.inr (.inl rfl))) _
    ·exact (Bx.put (by simp only[Heap.next_alloc];omega) _ _).set (by omega) _
    ·exact Bx.put (by simp only[Heap.next_alloc,Heap.next_set];omega) _ _
    ·exact ((Bx.new _ _ _).set (by omega) _).set (by omega) _
    ·rw[Heap.get_set,if_neg (by omega),Heap.get_set,if_neg (by omega),Heap.get_alloc,if_neg (by omega)]
    rintro Y ⟨gY,y1,y2,y3,y4⟩
    have nY:=y3.1
    refine zS ?_
    refine V.nil ⟨y4.trans hl3,gU.trans gY,.inl ⟨rfl,_,qq,y1,y2,.inr ⟨X3.next,(show H2.next+2≤X3.next by omega),y3.1,?_,?_⟩,.inr ⟨p,?_,hqq⟩⟩⟩
    ·rw[hpn,hnew];rfl
    ·rw[hpn,hnew];exact y3.2
    ·rw[hpn,hnew];simp
   ·have eqq:=eql115 hqqb hqb0
    refine zS ?_
    have zf:=And.intro x4.2<|And.intro h1.2<|@eqq
    refine V.lz ?_
    refine zS ?_
    have hle:=lw_eq (hq p hpv) (hq p0 hp0.2.1)
    refine V.condP zP (fun heq=>?_) (fun heq=>?_)
    ·rw[hqq] at heq
     obtain⟨e1,e2⟩:=hle.1 heq
     have hnew:=tp_eq hq hpv h4 e2 e1
     have hlt8 : (tp v (qf m S v s) p).length≤p:=tp_len
     have gc3:=cutH_grow (X:=X3) (n:=H2.next+2) (by omega)
     obtain⟨w,X4,a1,a2,a3,a4,a5,a6,a7,a8⟩:=Ow.push (bytes:=8) (r:=[I (p : Nat)]) gc3 h3 rfl (by simp) (by rw[NL_len];simp;omega) (by rw[NL_len];simp;omega)
     replace a1 : yappend 3 1 8 (X3.alloc (.cells ⟨[I (p : Nat)]⟩ 3 true)) (.slice pl nl cl) (.slice (some ⟨X3.next,0,none⟩) 1 1)=some (w,X4):=a1
     have hb4 : ∀ i c e,i<H2.next+2→Bx X3 i c e→Bx X4 i c e:=fun i c e hi hb=>⟨Nat.lt_of_lt_of_le hb.1 (by omega),(a3.cells (i:=i) (show i<H2.next+2 from hi)).trans hb.2⟩
     have y1:=hb4 _ _ _ (by omega) h1
     have y2:=hb4 _ _ _ (by omega) h2
     have gs4 : GrowS (fun y=>y=H.next+2∨y=H.next+3∨H2.next+1<y) X3 X4:=a3.toS rfl (fun i h=>.inr (.inr (by omega))) (by omega)
     have hl4 : X4.get (H2.next+1)=some (.loop { r with state:=.busy }):=by
      have:=a3.2 (H2.next+1) (show H2.next+1<H2.next+2 by omega)
      rw[this];exact hl3
     obtain⟨wp,wn,wc,rfl⟩:=a2.slice
     refine zS ?_
     have zf:=And.intro h2.2<|And.intro y2.2<|@a1
     refine V.lz ?_
     refine zS ?_
     refine V.nil ⟨?_,(gU.trans gs4).set (.inl (.inr (.inl rfl))) _,.inl ⟨rfl,_,_,y1.set (by omega) _,Bx.put y2.1 _ _,?_,.inr ⟨p0,?_,rfl⟩⟩⟩
     ·simp only[Heap.next_alloc]
      rw[Heap.get_set,if_neg (by omega)];exact hl4
     ·rw[hpn,hnew]
      have e : NL (tp v (qf m S v s) p++[p])=NL (tp v (qf m S v s) p)++[I (p : Nat)]:=by simp[NL]
      rw[e]
      exact a2.growS (U:=(·=H.next+3)) (GrowS.setAt X4 (H.next+3) _) (fun i (hi : H2.next+2≤i)=>by omega) (Nat.le_refl _)
     ·rw[hpn,hnew];simp[h4]
    ·have hlow : qlt (qf m S v s p) (qf m S v s p0):=by
      apply Decidable.by_contra
      intro hn
      exact heq (by rw[hqq];exact hle.2 ⟨hn,hlq⟩)
     have hnew:=tp_low hq hpv h4 hlq hlow
     refine zS ?_
     refine V.nil ⟨hl3,gU,.inl ⟨rfl,_,_,h1,h2,?_,.inr ⟨p0,?_,rfl⟩⟩⟩
     ·rw[hpn,hnew];exact h3
     ·rw[hpn,hnew];exact h4
 ·rintro e X h hg hlX
  simp only[Heap.next_alloc] at hlX
  rcases h with⟨rfl,sl,tq,h1,h2,h3,_⟩|⟨_,h⟩
  ·have hgd : X.get H2.next=some (.deferred true):=by
    rw[hg.2 _ (by simp only[Heap.next_alloc];omega) (by simp only[Heap.next_alloc];omega),Heap.get_alloc,if_pos rfl]
   rw[yl_len,pix_end] at h3
   refine zS ?_
   have zf:=h2.2
   refine V.lz ?_
   refine zS ?_
   refine V.ret (V.rets rfl (Lv.retM hgd (by simp only[yres,yres1,D5,hF,hA,↓reduceIte,qD,qE];rfl) ?_))
   have q1:=g12.1
   refine⟨⟨by simp only[Heap.next_set];omega,fun q hq=>?_⟩,?_⟩
   ·rw[Heap.get_set,if_neg (by omega),hg.2 q (by simp only[Heap.next_alloc];omega) (by simp only[Heap.next_alloc];omega),Heap.get_alloc,if_neg (by omega),g12.2 q hq]
   ·exact h3.growS (U:=(·=H2.next)) (GrowS.setAt X H2.next _) (fun i (hi : H2.next+2≤i)=>by omega) (show H.next≤H2.next+2 by omega)
  ·exact h.elim
end Go.Xe.TVX
