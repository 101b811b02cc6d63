/- What the functions of the layer seat come to: shares and quotients. Conditions: none. -/
import Derived.Test.YtelfbgmhleneiaaTVC
-- MOD TV
namespace Go.Xe.TVX
open Go Go.Xe Go.Proofs
open Nat renaming reduceLeDiff → qA, reduceSub → qB, reduceAdd → qC, reduceEqDiff → qD, reduceLT → qE
open Int renaming reduceNegSucc → qF, reduceEq → qG
open Go.Xe.V renaming seq → sA, block → sB, scope → sC, skip → sD, close → sE
open Go.Xe renaming pth → P
open Go.Xe.Sea
set_option maxRecDepth 100000
set_option maxHeartbeats 3200000
set_option linter.unusedSimpArgs false
noncomputable def d65 : FCode:=(.seq (.run (.go (.box 83 (tm 0)) (P 2)::
.go (.move (.con (.int .i64 (.ofNat 0)))) (P 4)::
.go (.move (.con (.int .i64 (.ofNat 0)))) (P 5)::
[])) (.seq (.seq (.run (.go (.move (tm 1)) (P 7)::
.go (.fieldAddr 11 (tm 2)) (P 8)::
.go (.indexAddr (some 8) 1 (tm 8) (tm 7)) (P 9)::
.go (.load1 (tm 9)) (P 10)::
.go (.bin .eql 3 (tm 10) (.con (.int .i64 (.ofNat 0)))) (P 11)::
[])) (.cond (tm 11) (.seq (.run (.go (.move (.con (.int .i64 (.ofNat 0)))) (P 4)::
.go (.move (.con (.int .i64 (.ofNat 0)))) (P 5)::
[])) .ret) .skip)) (.seq (.draw 9 (.go (.move (tm 1)) (P 12)::
.go (.fieldAddr 11 (tm 2)) (P 13)::
.go (.indexAddr (some 8) 1 (tm 13) (tm 12)) (P 14)::
.go (.load1 (tm 14)) (P 15)::
.go (.fieldAddr 0 (tm 2)) (P 16)::
.go (.fieldAddr 1 (tm 16)) (P 17)::
.go (.load1 (tm 17)) (P 18)::
.go (.bin .mul 3 (tm 15) (tm 18)) (P 19)::
.go (.move (tm 19)) (P 6)::
[]) [.ok,.ok,.ok,.ok,.ok,.ok,.ok,.ok,.ok]) (.seq (.draw 10 (.go (.move (tm 6)) (P 20)::
.go (.fieldAddr 19 (tm 2)) (P 21)::
.go (.load1 (tm 21)) (P 22)::
.go (.bin .quo 3 (tm 20) (tm 22)) (P 23)::
.go (.move (tm 6)) (P 24)::
.go (.fieldAddr 19 (tm 2)) (P 25)::
.go (.load1 (tm 25)) (P 26)::
.go (.bin .rem 3 (tm 24) (tm 26)) (P 27)::
.go (.move (tm 23)) (P 4)::
.go (.move (tm 27)) (P 5)::
[]) [.ok,.ok,.ok,.ok,.ok,.ok,.ok,.ok,.ok,.ok]) .ret))))
theorem de65 : @compF Try.prog (Gl.none Try.prog) Try.f65 2=.mk d65 (mkTT 28) [(P 0),(P 1)] [.tmp (P 4),.tmp (P 5)]:=by kernel_rfl
theorem dg65 : Try.prog.funcs[65]?=some Try.f65:=Try.func65
theorem do65 : okF Try.prog Try.f65=true:=by kernel_rfl
noncomputable def d76 : FCode:=(.seq (.run (.go (.box 83 (tm 0)) (P 3)::
.go (.alloc 115 [(.int .i64 (.ofNat 0)),(.int .i64 (.ofNat 0))]) (P 6)::
[])) (.seq (.draw 11 (.go (.move (tm 1)) (P 7)::
.go (.fieldAddr 11 (tm 3)) (P 8)::
.go (.indexAddr (some 8) 1 (tm 8) (tm 7)) (P 9)::
.go (.load1 (tm 9)) (P 10)::
.go (.call (.con (.func (.func 83) ⟨[]⟩ ⟨[]⟩)) [tm 10]) (P 11)::
.go (.fieldAddr 20 (tm 3)) (P 12)::
.go (.load1 (tm 12)) (P 13)::
.go (.move (tm 2)) (P 14)::
.go (.call (tm 13) [tm 14]) (P 15)::
.go (.call (.con (.func (.func 82) ⟨[]⟩ ⟨[]⟩)) [(tm 11),(tm 15)]) (P 16)::
.un (.store 2 (tm 6) (tm 16))::
[]) [.ok,.ok,.ok,.ok,.ok,.ok,.rd none (.load1 (tm 12)) (some (P 13)) [0],.ok,.ok,.ok,.ok]) .ret))
theorem de76 : @compF Try.prog (Gl.none Try.prog) Try.f76 3=.mk d76 (mkTT 17) [(P 0),(P 1),(P 2)] [.many (P 6) 2]:=by kernel_rfl
theorem dg76 : Try.prog.funcs[76]?=some Try.f76:=Try.func76
theorem do76 : okF Try.prog Try.f76=true:=by kernel_rfl
noncomputable def d77 : FCode:=(.seq (.run (.go (.box 83 (tm 0)) (P 3)::
.go (.alloc 115 [(.int .i64 (.ofNat 0)),(.int .i64 (.ofNat 0))]) (P 6)::
[])) (.seq (.run (.go (.loadN 22 (tm 3)) (P 10)::
.go (.move (tm 1)) (P 11)::
.go (.call (.con (.func (.func 65) ⟨[]⟩ ⟨[]⟩)) [(tm 10),(tm 11)]) (P 12)::
.go (.move (tm 12)) (P 9)::
.go (.extract (tm 9) 0) (P 13)::
.go (.extract (tm 9) 1) (P 14)::
.go (.move (tm 13)) (P 7)::
.go (.move (tm 14)) (P 8)::
[])) (.seq (.block 0 (.seq (.run (.go (.move (tm 2)) (P 16)::
.go (.move (tm 7)) (P 17)::
.go (.bin .lss 3 (tm 16) (tm 17)) (P 18)::
.go (.move (tm 18)) (P 15)::
[])) (.cond (tm 15) (.seq (.run (.go (.build [(.int .i64 (.ofNat 0)),(.int .i64 (.ofNat 0))] [(0,1,(.con (.int .i64 (.ofNat 1)))),(1,1,(.con (.int .i64 (.ofNat 0))))]) (P 19)::
.un (.store 2 (tm 6) (tm 19))::
[])) .ret) (.seq (.run (.go (.move (tm 2)) (P 21)::
.go (.move (tm 7)) (P 22)::
.go (.bin .eql 3 (tm 21) (tm 22)) (P 23)::
.go (.move (tm 23)) (P 20)::
[])) (.cond (tm 20) (.seq (.run (.go (.move (tm 8)) (P 24)::
.go (.fieldAddr 19 (tm 3)) (P 25)::
.go (.load1 (tm 25)) (P 26)::
.go (.call (.con (.func (.func 82) ⟨[]⟩ ⟨[]⟩)) [(tm 24),(tm 26)]) (P 27)::
.un (.store 2 (tm 6) (tm 27))::
[])) .ret) .skip))))) (.seq (.run (.go (.call (.con (.func (.func 82) ⟨[]⟩ ⟨[]⟩)) [(.con (.int .i64 (.ofNat 0))),(.con (.int .i64 (.ofNat 1)))]) (P 28)::
.un (.store 2 (tm 6) (tm 28))::
[])) .ret))))
theorem de77 : @compF Try.prog (Gl.none Try.prog) Try.f77 3=.mk d77 (mkTT 29) [(P 0),(P 1),(P 2)] [.many (P 6) 2]:=by kernel_rfl
theorem dg77 : Try.prog.funcs[77]?=some Try.f77:=Try.func77
theorem do77 : okF Try.prog Try.f77=true:=by kernel_rfl
def shr (S : Int) (v : Nat→Int) (p : Nat) : Int×Int:=if v p=0 then (0,0) else ((v p*S)/sm v 8,(v p*S)%sm v 8)
def vok (v : Nat→Int) : Prop:=∀ p,p<8→0≤v p∧v p≤10000
theorem vts_vok {L : Int} {c : Nat→Int} (h : ∀ i,i<8→0≤c i∧c i≤10000) : vok (vts L c):=fun p hp=>vts_bd (h p hp)
theorem sm_bd {v : Nat→Int} (h : vok v) : 0≤sm v 8∧sm v 8≤80000:=by
 have h1:=sm_le (s:=fun _=>0) (t:=v) (n:=8) (fun p hp=>(h p hp).1)
 have h2:=sm_le (s:=v) (t:=fun _=>10000) (n:=8) (fun p hp=>(h p hp).2)
 rw[sm_0] at h1
 have e : sm (fun _=>10000) 8=80000:=rfl
 omega
theorem sm_ge {v : Nat→Int} (h : vok v) {p : Nat} (hp : p<8) : v p≤sm v 8:=by
 have h2:=sm_le (s:=fun i=>if i=p then v i else 0) (t:=v) (n:=8) (fun i hi=>by have:=(h i hi).1;show (if i=p then v i else 0)≤v i;split<;>omega)
 have e : ∀ n,p<n→sm (fun i=>if i=p then v i else 0) n=v p:=by
  intro n
  induction n with
  | zero=>intro h;omega
  | succ n ih=>
   intro hn
   simp only[sm]
   by_cases hpn : p=n
   ·subst hpn
    rw[if_pos rfl,sm_cong (t:=fun _=>0) (fun i hi=>if_neg (by omega)),sm_0]
    omega
   ·rw[ih (by omega),if_neg (by omega)]
    omega
 rw[e 8 hp] at h2
 exact h2
theorem vS_bd {a S : Int} (ha : 0≤a∧a≤10000) (hS : 0≤S∧S≤61) : 0≤a*S∧a*S≤610000:=⟨Int.mul_nonneg ha.1 hS.1,Int.le_trans (Int.mul_le_mul ha.2 hS.2 hS.1 (by omega)) (by omega)⟩
theorem shr_bd {S : Int} {v : Nat→Int} (hv : vok v) (hS : 0≤S∧S≤61) {p : Nat} (hp : p<8) : (0≤(shr S v p).1∧(shr S v p).1≤610000)∧0≤(shr S v p).2∧(shr S v p).2≤80000∧(v p≠0→(shr S v p).2<sm v 8):=by
 unfold shr
 split
 ·exact⟨by simp,by simp,by simp,fun h=>absurd (by assumption) h⟩
 ·have h1:=vS_bd (hv p hp) hS
  have h2:=sm_ge hv hp
  have h3:=(hv p hp).1
  have h4:=sm_bd hv
  have h5 : 0<sm v 8:=by omega
  have h6:=Int.emod_nonneg (v p*S) (Int.ne_of_gt h5)
  have h7:=Int.emod_lt_of_pos (v p*S) h5
  have h8:=Int.ediv_nonneg h1.1 (Int.le_of_lt h5)
  have h9:=Int.ediv_le_self (sm v 8) h1.1
  simp only
  exact⟨⟨h8,by omega⟩,h6,by omega,fun _=>h7⟩
theorem f65_ok {H : Heap} {m S L : Int} {c v : Nat→Int} {d k : Value} {p : Nat} (hp : p<8) (hv : vok v) (hS : 0≤S∧S≤61) : Gives Try.prog 65 [.agg ⟨pc m S L c v (sm v 8) d k⟩,I p] H (.tuple ⟨[I (shr S v p).1,I (shr S v p).2]⟩):=by
 have ia:=idx_arr (i:=H.next) (o:=11) (kd:=.i64) hp
 have hvp:=pc_v (m:=m) (S:=S) (L:=L) (c:=c) (v:=v) (tot:=sm v 8) (d:=d) (k:=k) hp
 refine F.entryL rfl dg65 do65 de65 rfl (by kernel_rfl) ?_
 simp only[sets]
 refine V.re [(0,.agg ⟨pc m S L c v (sm v 8) d k⟩),(1,I p)] (N:=28) zE zY ?_
 intro t hF hA
 simp only[Kn,and_true] at hA
 refine zS ?_
 refine V.l0 ?_
 refine V.heap (fun X=>Grow H X∧Bx X H.next (pc m S L c v (sm v 8) d k) 83) ⟨?_,?_⟩ ?_
 ·exact zW
 ·exact zB
 rintro H1 ⟨g1,b1⟩
 refine zS ?_
 have zf:=And.intro b1.2<|And.intro @PC<|And.intro @ia<|@hvp
 refine V.lz ?_
 refine zS ?_
 refine V.condP zP (fun hz=>?_) (fun hz=>?_)
 ·refine zS ?_
  refine V.l0 ?_
  refine zS ?_
  refine V.ret (V.rets rfl (Lv.retG (by simp +contextual (disch:=first|omega|simp only[nx];omega) only[D1,cells_alloc_at,cells_alloc_ne,cells_set_at,cells_set_ne,yres,yres1,yresL,qA,qB,qC,D5,hF,hA,↓reduceIte,qD,qE];rfl) ?_ ?_))
  ·exact g1
  ·unfold shr;rw[if_pos hz]
 ·have h1:=vS_bd (hv p hp) hS
  have h2:=sm_ge hv hp
  have h3:=(hv p hp).1
  have h5 : 0<sm v 8:=by omega
  have h6 : ¬ sm v 8=0:=by omega
  have h7:=tdiv_bd h1.1 h5
  refine zS ?_
  have zf:=And.intro b1.2<|And.intro @PC<|And.intro @ia<|@hvp
  refine V.dz ?_ ?_ rfl ?_
  ·exact zM
  ·simp only[dcAll,dcOk,wantD,List.cons_append,List.nil_append,true_and,and_true]
  refine zS ?_
  have zf:=And.intro b1.2<|And.intro @PC<|@h6
  refine V.dz ?_ ?_ rfl ?_
  ·exact zM
  ·simp only[dcAll,dcOk,wantD,List.cons_append,List.nil_append,true_and,and_true]
  refine zS ?_
  refine V.ret (V.rets rfl (Lv.retG (by simp +contextual (disch:=first|omega|simp only[nx];omega) only[D1,cells_alloc_at,cells_alloc_ne,cells_set_at,cells_set_ne,yres,yres1,yresL,qA,qB,qC,D5,hF,hA,↓reduceIte,qD,qE];rfl) ?_ ?_))
  ·exact g1
  ·unfold shr
   rw[if_neg hz,Int.tdiv_eq_ediv_of_nonneg h1.1,Int.tmod_eq_emod_of_nonneg h1.1]
def dsq (m s : Int) : Int:=if m=4 then s*(s+1) else if m=3 then (2*s+1)*(2*s+1) else if m=2 then (s+1)*(s+1) else s*s
def clq (m S : Int) (v : Nat→Int) (p : Nat) (s : Int) : Q2:=
 if m=5 then (if s<(shr S v p).1 then (1,0) else if s=(shr S v p).1 then ((shr S v p).2,sm v 8) else (0,1)) else (v p*v p,dsq m s)
theorem dsq_bd {m s : Int} (hs : 0≤s∧s≤100) : 0≤dsq m s∧dsq m s≤100000:=by
 have h1:=sq_bd (a:=s) (b:=100) hs
 have h2:=sq_bd (a:=s+1) (b:=101) (by omega)
 have h3:=sq_bd (a:=2*s+1) (b:=201) (by omega)
 have h4 : 0≤s*(s+1)∧s*(s+1)≤100*101:=⟨Int.mul_nonneg hs.1 (by omega),Int.mul_le_mul hs.2 (by omega) (by omega) (by omega)⟩
 unfold dsq
 split<;>(try split)<;>(try split)<;>omega
theorem dvf_eq (m : Int) : vEq 3 (dvf m) (dvf m)=true:=by
 unfold dvf dmp
 by_cases h4 : m=4
 ·rw[if_pos h4];rfl
 ·rw[if_neg h4]
  by_cases h3 : m=3
  ·rw[if_pos h3];rfl
  ·rw[if_neg h3]
   by_cases h2 : m=2
   ·rw[if_pos h2];rfl
   ·rw[if_neg h2]
    split<;>rfl
theorem dvf_fv {m : Int} (hm : 1≤m∧m≤4) {s : Int} (hs : 0≤s∧s≤100) (X : Heap) : FV Try.prog (dvf m) [I s] X (fun w X'=>w=I (dsq m s)∧Grow X X'):=by
 have h : m=1∨m=2∨m=3∨m=4:=by omega
 rcases h with rfl|rfl|rfl|rfl
 ·exact f91_ok s hs X
 ·exact f92_ok s hs X
 ·exact f93_ok s hs X
 ·exact f94_ok s hs X
theorem f76_ok {H : Heap} {m S L : Int} {c v : Nat→Int} {tot : Int} {k : Value} {p : Nat} {s : Int} (hm : 1≤m∧m≤4) (hp : p<8) (hv : vok v) (hs : 0≤s∧s≤100) : Gives Try.prog 76 [.agg ⟨pc m S L c v tot (dvf m) k⟩,I p,I s] H (Qv (lw (clq m S v p s))):=by
 have ia:=idx_arr (i:=H.next) (o:=11) (kd:=.i64) hp
 have hvp:=pc_v (m:=m) (S:=S) (L:=L) (c:=c) (v:=v) (tot:=tot) (d:=dvf m) (k:=k) hp
 have hq:=sq_bd (hv p hp)
 have hd:=dsq_bd (m:=m) hs
 have ec : clq m S v p s=(v p*v p,dsq m s):=if_neg (by omega)
 rw[ec]
 obtain⟨q,hqq⟩ : ∃ q,q=lw (v p*v p,dsq m s):=⟨_,rfl⟩
 have f82:=fun X=>f82_ok (H:=X) (c:=v p*v p) (d:=dsq m s) (by omega) (by omega)
 rw[← hqq] at f82 ⊢
 refine F.entryL rfl dg76 do76 de76 rfl (by kernel_rfl) ?_
 simp only[sets]
 refine V.re [(0,.agg ⟨pc m S L c v tot (dvf m) k⟩),(1,I p),(2,I s)] (N:=17) zE zY ?_
 intro t hF hA
 simp only[Kn,and_true] at hA
 refine zS ?_
 refine V.l0 ?_
 refine V.heap (fun X=>Grow H X∧Bx X H.next (pc m S L c v tot (dvf m) k) 83∧Bx X (H.next+1) [I 0,I 0] 115) ⟨?_,?_,?_⟩ ?_
 ·exact zW
 ·exact zB
 ·exact zB
 rintro H1 ⟨g1,b1,c1⟩
 refine zS ?_
 refine V.draw ?_
 have zf:=And.intro b1.2<|And.intro @PC<|And.intro @ia<|@hvp
 refine VD.nz 4 ?_
 simp only[ds]
 refine VD.callA zA (f83_ok (v p) (by omega) H1) zA (fun H2 g2=>?_)
 have b2:=b1.grow g2
 have c2:=c1.grow g2
 have zf:=And.intro b2.2<|@PC
 refine VD.nz 3 ?_
 simp only[ds]
 refine VD.callV zA (dvf_fv hm hs H2) zA (fun w3 H3 ⟨hw3,g3⟩=>?_)
 subst hw3
 have b3:=b2.grow g3
 have c3:=c2.grow g3
 refine VD.callA zA (f82 H3) zA (fun H4 g4=>?_)
 have b4:=b3.grow g4
 have c4:=c3.grow g4
 have m2:=g2.1
 have m3:=g3.1
 have m4:=g4.1
 have zf:=c4.2
 refine VD.dz ?_ ?_ rfl ?_
 ·exact zM
 ·simp only[dcAll,dcOk,wantD,List.cons_append,List.nil_append,true_and,and_true]
  have hve:=dvf_eq m
  have zf:=And.intro b1.2<|And.intro b2.2<|And.intro b3.2<|And.intro b4.2<|@PC
  exact zR
 have g14:=((g1.trans g2).trans g3).trans g4
 refine zS ?_
 refine V.ret (V.rets rfl (Lv.retG (by simp +contextual (disch:=first|omega|simp only[nx];omega) only[D1,cells_alloc_at,cells_alloc_ne,cells_set_at,cells_set_ne,yres,yres1,yresL,qA,qB,qC,D5,hF,hA,↓reduceIte,qD,qE,];rfl) ?_ ?_))
 ·exact zW
 ·rfl
theorem lw_10 : lw (1,0)=(1,0):=rfl
theorem f77_ok {H : Heap} {S L : Int} {c v : Nat→Int} {d k : Value} {p : Nat} {s : Int} (hp : p<8) (hv : vok v) (hS : 0≤S∧S≤61) : Gives Try.prog 77 [.agg ⟨pc 5 S L c v (sm v 8) d k⟩,I p,I s] H (Qv (lw (clq 5 S v p s))):=by
 have hb:=shr_bd hv hS hp
 have ht:=sm_bd hv
 refine F.entryL rfl dg77 do77 de77 rfl (by kernel_rfl) ?_
 simp only[sets]
 refine V.re [(0,.agg ⟨pc 5 S L c v (sm v 8) d k⟩),(1,I p),(2,I s)] (N:=29) zE zY ?_
 intro t hF hA
 simp only[Kn,and_true] at hA
 refine zS ?_
 refine V.l0 ?_
 refine V.heap (fun X=>Grow H X∧Bx X H.next (pc 5 S L c v (sm v 8) d k) 83∧Bx X (H.next+1) [I 0,I 0] 115) ⟨?_,?_,?_⟩ ?_
 ·exact zW
 ·exact zB
 ·exact zB
 rintro H1 ⟨g1,b1,c1⟩
 refine zS ?_
 refine V.run ?_
 have zf:=And.intro b1.2<|@PC
 refine VI.sz 2 ?_
 simp only[ds]
 refine VI.callA rfl (f65_ok (S:=S) hp hv hS) zA (fun H2 g2=>?_)
 have b2:=b1.grow g2
 have c2:=c1.grow g2
 have g12:=g1.trans g2
 refine VI.l0 ?_
 refine zS ?_
 refine V.l0 ?_
 refine zS ?_
 refine V.condP zP (fun h1=>?_) (fun h1=>?_)
 ·have e : clq 5 S v p s=(1,0):=by unfold clq;rw[if_pos rfl,if_pos h1]
  rw[e,lw_10]
  refine zS ?_
  have zf:=c2.2
  refine V.lz ?_
  refine zS ?_
  refine V.ret (V.rets rfl (Lv.retG (by simp +contextual (disch:=first|omega|simp only[nx];omega) only[D1,cells_alloc_at,cells_alloc_ne,cells_set_at,cells_set_ne,yres,yres1,yresL,qA,qB,qC,D5,hF,hA,↓reduceIte,qD,qE];rfl) ?_ ?_))
  ·exact zW
  ·rfl
 ·refine zS ?_
  refine V.l0 ?_
  refine zS ?_
  refine V.condP zP (fun h2=>?_) (fun h2=>?_)
  ·have e : clq 5 S v p s=((shr S v p).2,sm v 8):=by unfold clq;rw[if_pos rfl,if_neg h1,if_pos h2]
   rw[e]
   refine zS ?_
   refine V.run ?_
   have zf:=And.intro b2.2<|@PC
   refine VI.sz 3 ?_
   simp only[ds]
   refine VI.callA rfl (f82_ok (c:=(shr S v p).2) (d:=sm v 8) (by omega) (by omega)) zA (fun H3 g3=>?_)
   have c3:=c2.grow g3
   have g13:=g12.trans g3
   have zf:=c3.2
   refine VI.lz ?_
   refine zS ?_
   refine V.ret (V.rets rfl (Lv.retG (by simp +contextual (disch:=first|omega|simp only[nx];omega) only[D1,cells_alloc_at,cells_alloc_ne,cells_set_at,cells_set_ne,yres,yres1,yresL,qA,qB,qC,D5,hF,hA,↓reduceIte,qD,qE];rfl) ?_ ?_))
   ·exact zW
   ·rfl
  ·have e : clq 5 S v p s=(0,1):=by unfold clq;rw[if_pos rfl,if_neg h1,if_neg h2]
   rw[e]
   refine zS ?_
   refine V.run ?_
   refine VI.callA rfl (f82_ok (c:=0) (d:=1) (by omega) (by omega)) zA (fun H3 g3=>?_)
   have c3:=c2.grow g3
   have g13:=g12.trans g3
   have zf:=c3.2
   refine VI.lz ?_
   refine zS ?_
   refine V.ret (V.rets rfl (Lv.retG (by simp +contextual (disch:=first|omega|simp only[nx];omega) only[D1,cells_alloc_at,cells_alloc_ne,cells_set_at,cells_set_ne,yres,yres1,yresL,qA,qB,qC,D5,hF,hA,↓reduceIte,qD,qE];rfl) ?_ ?_))
   ·exact zW
   ·rfl
theorem clf_fv {m S L : Int} {c v : Nat→Int} {p : Nat} {s : Int} (hm : 1≤m∧m≤5) (hp : p<8) (hv : vok v) (hS : 0≤S∧S≤61) (hs : 0≤s∧s≤100) (X : Heap) : FV Try.prog (clf m) [.agg ⟨pc m S L c v (sm v 8) (dvf m) (clf m)⟩,I p,I s] X (fun w X'=>w=Qv (lw (clq m S v p s))∧Grow X X'):=by
 by_cases h5 : m=5
 ·subst h5
  exact f77_ok hp hv hS
 ·have e : clf m=fn 76:=if_neg h5
  conv=>arg 2;rw[e]
  exact f76_ok (by omega) hp hv hs
end Go.Xe.TVX
