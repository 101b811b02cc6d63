/- What the functions of the layer seat come to: the smallest change. Conditions: none. -/
import Derived.Test.YtelfbgmhleneiaaTUU
-- MOD TV
namespace Go.Xe.TVX
open Go Go.Xe Go.Proofs
open Nat renaming reduceLeDiff → qA, reduceSub → qB, reduceAdd → qC, reduceEqDiff → qD, reduceLT → qE
open Int renaming reduceNegSucc → qF, reduceEq → qG
open Go.Xe.V renaming seq → sA, block → sB, scope → sC, skip → sD, close → sE
open Go.Xe renaming pth → P
open Go.Xe.Sea
set_option maxRecDepth 100000
set_option maxHeartbeats 3200000
set_option linter.unusedSimpArgs false
noncomputable def d90 : FCode:=(.seq (.run (.go (.box 83 (tm 0)) (P 4)::
.go (.box 78 (tm 3)) (P 7)::
.go (.move (.con (.bool false))) (P 8)::
[])) (.seq (.run (.go (.move (tm 1)) (P 11)::
.go (.fieldAddr 3 (tm 4)) (P 12)::
.go (.indexAddr (some 8) 1 (tm 12) (tm 11)) (P 13)::
.go (.load1 (tm 13)) (P 14)::
.go (.move (tm 2)) (P 15)::
.go (.bin .add 3 (tm 14) (tm 15)) (P 16)::
.go (.fieldAddr 3 (tm 4)) (P 17)::
.go (.indexAddr (some 8) 1 (tm 17) (tm 11)) (P 18)::
.un (.store 1 (tm 18) (tm 16))::
[])) (.seq (.seq (.draw 7 (.go (.call (.con (.func (.func 73) ⟨[]⟩ ⟨[]⟩)) []) (P 19)::
.go (.move (tm 1)) (P 20)::
.go (.fieldAddr 3 (tm 4)) (P 21)::
.go (.indexAddr (some 8) 1 (tm 21) (tm 20)) (P 22)::
.go (.load1 (tm 22)) (P 23)::
.go (.call (.con (.func (.func 60) ⟨[]⟩ ⟨[]⟩)) [(tm 19),(tm 23)]) (P 24)::
.go (.un .not (tm 24)) (P 25)::
[]) [.ok,.ok,.ok,.ok,.rd none (.load1 (tm 22)) (some (P 23)) [0],.ok,.ok]) (.cond (tm 25) (.seq (.run (.go (.move (.con (.bool false))) (P 8)::
[])) .ret) .skip)) (.seq (.draw 9 (.go (.loadN 22 (tm 4)) (P 27)::
.go (.call (.con (.func (.func 78) ⟨[]⟩ ⟨[]⟩)) [tm 27]) (P 28)::
.go (.loadN 8 (tm 7)) (P 29)::
.go (.call (.con (.func (.func 61) ⟨[]⟩ ⟨[]⟩)) [(tm 28),(tm 29)]) (P 30)::
.go (.move (tm 30)) (P 26)::
.go (.extract (tm 26) 0) (P 31)::
.go (.extract (tm 26) 1) (P 32)::
.go (.move (tm 31)) (P 9)::
.go (.move (tm 32)) (P 10)::
[]) [.ok,.ok,.rd none (.loadN 8 (tm 7)) (some (P 29)) [0],.ok,.ok,.ok,.ok,.ok,.ok]) (.seq (.run (.go (.move (tm 10)) (P 33)::
.go (.un .not (tm 33)) (P 34)::
.go (.move (tm 34)) (P 8)::
[])) .ret)))))
theorem de90 : @compF Try.prog (Gl.none Try.prog) Try.f90 4=.mk d90 (mkTT 35) [(P 0),(P 1),(P 2),(P 3)] [.tmp (P 8)]:=by kernel_rfl
theorem dg90 : Try.prog.funcs[90]?=some Try.f90:=Try.func90
theorem do90 : okF Try.prog Try.f90=true:=by kernel_rfl
noncomputable def d72 : FCode:=(.seq (.run (.go (.box 83 (tm 0)) (P 3)::
.go (.box 78 (tm 1)) (P 4)::
.go (.move (.con (.int .i64 (.ofNat 0)))) (P 6)::
.go (.move (.con (.int .i64 (.ofNat 0)))) (P 7)::
.go (.move (.con (.int .i64 (.ofNat 0)))) (P 8)::
[])) (.scope (.seq (.run (.go (.move (.con (.int .i64 (.ofNat 9)))) (P 8)::
[])) (.seq .skip (.seq (.seq (.run (.go (.move (.con (.int .i64 (.ofNat 1)))) (P 9)::
[])) (.block 0 (.loop (.seq (.seq (.run (.go (.move (tm 9)) (P 13)::
.go (.bin .leq 3 (tm 13) (.con (.int .i64 (.ofNat 10000)))) (P 14)::
[])) (.cond (tm 14) .skip (.exit 0))) (.seq (.block 1 (.seq (.run (.go (.move (.con (.int .i64 (.ofNat 0)))) (P 10)::
[])) (.block 2 (.loop (.seq (.seq (.run (.go (.move (tm 10)) (P 17)::
.go (.move (tm 2)) (P 18)::
.go (.bin .lss 3 (tm 17) (tm 18)) (P 19)::
[])) (.cond (tm 19) .skip (.exit 2))) (.seq (.block 3 (.seq (.run (.go (.move (tm 9)) (P 22)::
.go (.move (tm 9)) (P 23)::
.go (.un .neg (tm 23)) (P 24)::
.go (.build [(.int .i64 (.ofNat 0)),(.int .i64 (.ofNat 0))] [(0,1,(tm 22)),(1,1,(tm 24))]) (P 25)::
.go (.move (.con (.int .i64 (.ofNat 0)))) (P 26)::
[])) (.block 4 (.loop (.seq (.run (.go (.bin .lss 3 (tm 26) (.con (.int .i64 (.ofNat 2)))) (P 27)::
[])) (.seq (.cond (tm 27) .skip (.exit 4)) (.seq (.block 5 (.seq (.run (.go (.index 2 1 true (tm 25) (tm 26)) (P 28)::
.go (.move (tm 28)) (P 12)::
[])) (.seq (.run (.go (.loadN 22 (tm 3)) (P 29)::
.go (.move (tm 10)) (P 30)::
.go (.move (tm 12)) (P 31)::
.go (.loadN 8 (tm 4)) (P 32)::
.go (.call (.con (.func (.func 90) ⟨[]⟩ ⟨[]⟩)) [(tm 29),(tm 30),(tm 31),(tm 32)]) (P 33)::
[])) (.cond (tm 33) (.seq (.run (.go (.move (tm 10)) (P 34)::
.go (.move (tm 12)) (P 35)::
.go (.move (tm 34)) (P 6)::
.go (.move (tm 35)) (P 7)::
.go (.move (.con (.int .i64 (.ofNat 0)))) (P 8)::
[])) (.exit 0)) .skip)))) (.run (.go (.bin .add 3 (tm 26) (.con (.int .i64 (.ofNat 1)))) (P 36)::
.go (.move (tm 36)) (P 26)::
[]))))))))) (.run (.go (.move (tm 10)) (P 20)::
.go (.bin .add 3 (tm 20) (.con (.int .i64 (.ofNat 1)))) (P 21)::
.go (.move (tm 21)) (P 10)::
[])))))))) (.run (.go (.move (tm 9)) (P 15)::
.go (.bin .add 3 (tm 15) (.con (.int .i64 (.ofNat 1)))) (P 16)::
.go (.move (tm 16)) (P 9)::
[]))))))) (.seq (.run (.go (.move (tm 6)) (P 37)::
.go (.move (tm 7)) (P 38)::
.go (.move (tm 8)) (P 39)::
.go (.move (tm 37)) (P 6)::
.go (.move (tm 38)) (P 7)::
.go (.move (tm 39)) (P 8)::
[])) .ret))))))
theorem de72 : @compF Try.prog (Gl.none Try.prog) Try.f72 3=.mk d72 (mkTT 40) [(P 0),(P 1),(P 2)] [.tmp (P 6),.tmp (P 7),.tmp (P 8)]:=by kernel_rfl
theorem dg72 : Try.prog.funcs[72]?=some Try.f72:=Try.func72
theorem do72 : okF Try.prog Try.f72=true:=by kernel_rfl
noncomputable def d43 : FCode:=(.seq (.run (.go (.box 28 (tm 0)) (P 2)::
.go (.move (.con (.int .i64 (.ofNat 0)))) (P 4)::
.go (.move (.con (.int .i64 (.ofNat 0)))) (P 5)::
.go (.move (.con (.int .i64 (.ofNat 0)))) (P 6)::
[])) (.seq (.seq (.run (.go (.loadN 3 (tm 2)) (P 10)::
.go (.move (tm 1)) (P 11)::
.go (.call (.con (.func (.func 54) ⟨[]⟩ ⟨[]⟩)) [(tm 10),(tm 11)]) (P 12)::
.go (.move (tm 12)) (P 7)::
[])) (.seq (.run (.go (.move (tm 7)) (P 13)::
.go (.bin .neq 26 (tm 13) (.con (.int .i64 (.ofNat 0)))) (P 14)::
[])) (.cond (tm 14) (.seq (.run (.go (.move (tm 7)) (P 15)::
.go (.move (.con (.int .i64 (.ofNat 0)))) (P 4)::
.go (.move (.con (.int .i64 (.ofNat 0)))) (P 5)::
.go (.move (tm 15)) (P 6)::
[])) .ret) .skip))) (.seq (.run (.go (.loadN 3 (tm 2)) (P 16)::
.go (.move (tm 1)) (P 17)::
.go (.call (.con (.func (.func 55) ⟨[]⟩ ⟨[]⟩)) [(tm 16),(tm 17)]) (P 18)::
.go (.alloc 83 [(.int .u8 (.ofNat 0)),(.int .i64 (.ofNat 0)),(.int .i64 (.ofNat 0)),(.int .i64 (.ofNat 0)),(.int .i64 (.ofNat 0)),(.int .i64 (.ofNat 0)),(.int .i64 (.ofNat 0)),(.int .i64 (.ofNat 0)),(.int .i64 (.ofNat 0)),(.int .i64 (.ofNat 0)),(.int .i64 (.ofNat 0)),(.int .i64 (.ofNat 0)),(.int .i64 (.ofNat 0)),(.int .i64 (.ofNat 0)),(.int .i64 (.ofNat 0)),(.int .i64 (.ofNat 0)),(.int .i64 (.ofNat 0)),(.int .i64 (.ofNat 0)),(.int .i64 (.ofNat 0)),(.int .i64 (.ofNat 0)),.nilFunc,.nilFunc]) (P 8)::
.un (.store 22 (tm 8) (tm 18))::
[])) (.seq (.run (.go (.loadN 22 (tm 8)) (P 20)::
.go (.call (.con (.func (.func 56) ⟨[]⟩ ⟨[]⟩)) [tm 20]) (P 21)::
.go (.move (tm 21)) (P 19)::
.go (.extract (tm 19) 0) (P 22)::
.go (.extract (tm 19) 1) (P 23)::
.go (.alloc 78 [(.int .i64 (.ofNat 0)),(.int .i64 (.ofNat 0)),(.int .i64 (.ofNat 0)),(.int .i64 (.ofNat 0)),(.int .i64 (.ofNat 0)),(.int .i64 (.ofNat 0)),(.int .i64 (.ofNat 0)),(.int .i64 (.ofNat 0))]) (P 9)::
.un (.store 8 (tm 9) (tm 22))::
.go (.move (tm 23)) (P 6)::
[])) (.seq (.seq (.run (.go (.move (tm 6)) (P 24)::
.go (.bin .neq 26 (tm 24) (.con (.int .i64 (.ofNat 0)))) (P 25)::
[])) (.cond (tm 25) (.seq (.run (.go (.move (tm 6)) (P 26)::
.go (.move (.con (.int .i64 (.ofNat 0)))) (P 4)::
.go (.move (.con (.int .i64 (.ofNat 0)))) (P 5)::
.go (.move (tm 26)) (P 6)::
[])) .ret) .skip)) (.seq (.run (.go (.loadN 22 (tm 8)) (P 27)::
.go (.loadN 8 (tm 9)) (P 28)::
.go (.move (tm 1)) (P 29)::
.go (.len 0 (tm 29)) (P 30)::
.go (.call (.con (.func (.func 72) ⟨[]⟩ ⟨[]⟩)) [(tm 27),(tm 28),(tm 30)]) (P 31)::
.go (.extract (tm 31) 0) (P 32)::
.go (.extract (tm 31) 1) (P 33)::
.go (.extract (tm 31) 2) (P 34)::
.go (.move (tm 32)) (P 4)::
.go (.move (tm 33)) (P 5)::
.go (.move (tm 34)) (P 6)::
[])) .ret))))))
theorem de43 : @compF Try.prog (Gl.none Try.prog) Try.f43 2=.mk d43 (mkTT 35) [(P 0),(P 1)] [.tmp (P 4),.tmp (P 5),.tmp (P 6)]:=by kernel_rfl
theorem dg43 : Try.prog.funcs[43]?=some Try.f43:=Try.func43
theorem do43 : okF Try.prog Try.f43=true:=by kernel_rfl
def chg (c : Nat→Int) (p : Nat) (n : Int) : Nat→Int:=fun i=>if i=p then c p+n else c i
def Mov (m S L : Int) (c s : Nat→Int) (p : Nat) (n : Int) : Prop:=(0≤c p+n∧c p+n≤10000)∧¬ jo m S (vts L (chg c p n)) s
instance (m S L : Int) (c s : Nat→Int) (p : Nat) (n : Int) : Decidable (Mov m S L c s p n):=by unfold Mov;infer_instance
theorem chg_bd {c : Nat→Int} (hc : ∀ i,i<8→0≤c i∧c i≤10000) {p : Nat} {n : Int} (h : 0≤c p+n∧c p+n≤10000) : ∀ i,i<8→0≤chg c p n i∧chg c p n i≤10000:=by
 intro i hi
 unfold chg
 split
 ·exact h
 ·exact hc i hi
theorem f90_ok {H : Heap} {m S L : Int} {c s : Nat→Int} {p : Nat} {n : Int} (hm : 1≤m∧m≤5) (hc : ∀ i,i<8→0≤c i∧c i≤10000) (hS : 0≤S∧S≤61) (hp : p<8) (hn : -10000≤n∧n≤10000) (hs : ∀ p,p<8→0≤s p∧s p≤100) :
  Gives Try.prog 90 [.agg ⟨pw m S L c⟩,I p,I n,.agg ⟨n8 s⟩] H (.bool (decide (Mov m S L c s p n))):=by
 have hcp:=hc p hp
 have ia:=idx_arr (i:=H.next) (o:=3) (kd:=.i64) hp
 have h22 : 3+p<22:=by omega
 have e1:=pc_c (m:=m) (S:=S) (L:=L) (c:=c) (v:=vts L c) (tot:=sm (vts L c) 8) (d:=dvf m) (k:=clf m) hp
 have es:=pc_setc (m:=m) (S:=S) (L:=L) (c:=c) (v:=vts L c) (tot:=sm (vts L c) 8) (d:=dvf m) (k:=clf m) (x:=c p+n) hp
 replace es : (pw m S L c).set (3+p) (I (c p+n))=pc m S L (chg c p n) (vts L c) (sm (vts L c) 8) (dvf m) (clf m):=es
 have e2:=pc_c (m:=m) (S:=S) (L:=L) (c:=chg c p n) (v:=vts L c) (tot:=sm (vts L c) 8) (d:=dvf m) (k:=clf m) hp
 have ec : chg c p n p=c p+n:=if_pos rfl
 rw[ec] at e2
 refine F.entryL rfl dg90 do90 de90 rfl (by kernel_rfl) ?_
 simp only[sets]
 refine V.re [(0,.agg ⟨pw m S L c⟩),(1,I p),(2,I n),(3,.agg ⟨n8 s⟩)] (N:=35) zE zY ?_
 intro t hF hA
 simp only[Kn,and_true] at hA
 refine zS ?_
 refine V.l0 ?_
 refine V.heap (fun X=>Grow H X∧Bx X H.next (pw m S L c) 83∧Bx X (H.next+1) (n8 s) 78) ⟨?_,?_,?_⟩ ?_
 ·exact zW
 ·exact zB
 ·exact zB
 rintro H1 ⟨g1,b1,c1⟩
 refine zS ?_
 have zf:=And.intro b1.2<|And.intro @PC<|And.intro @ia<|And.intro @e1<|And.intro @h22<|@es
 refine V.lz ?_
 refine V.heap (fun X=>Grow H X∧Bx X H.next (pc m S L (chg c p n) (vts L c) (sm (vts L c) 8) (dvf m) (clf m)) 83∧Bx X (H.next+1) (n8 s) 78) ⟨?_,?_,?_⟩ ?_
 ·exact zW
 ·exact Bx.put b1.1 _ _
 ·exact c1.set (by omega) _
 rintro H2 ⟨g2,b2,c2⟩
 refine zS ?_
 refine V.draw ?_
 refine VD.callA zA (f73_ok _) zA (fun H3 g3=>?_)
 have b3:=b2.grow g3
 have zf:=And.intro b3.2<|And.intro @PC<|And.intro @ia<|@e2
 refine VD.nz 4 ?_
 simp only[ds]
 refine VD.callA zA (f60_ok 0 10000 (c p+n) _) zA (fun H4 g4=>?_)
 have b4:=b3.grow g4
 have c4:=(c2.grow g3).grow g4
 have m3:=g3.1
 have m4:=g4.1
 have g14:=(g2.trans g3).trans g4
 refine VD.d0 ?_ ?_ rfl ?_
 ·exact zM
 ·simp only[dcAll,dcOk,wantD,List.cons_append,List.nil_append,true_and,and_true]
  have zf:=And.intro b2.2<|And.intro b3.2<|And.intro b4.2<|And.intro @PC<|And.intro @ia<|@e2
  exact zR
 refine zS ?_
 refine V.condP zP (fun ho=>?_) (fun ho=>?_)
 ·refine zS ?_
  refine V.l0 ?_
  refine zS ?_
  refine V.ret (V.rets rfl (Lv.retG (by simp +contextual (disch:=first|omega|simp only[nx];omega) only[D1,cells_alloc_at,cells_alloc_ne,cells_set_at,cells_set_ne,yres,yres1,yresL,qA,qB,qC,D5,hF,hA,↓reduceIte,qD,qE];rfl) ?_ ?_))
  ·exact g14
  ·congr 1
   exact (decide_eq_false (fun h=>ho h.1)).symm
 have ho:=Decidable.not_not.1 ho
 have hcc:=chg_bd hc ho
 have hv:=vts_vok (L:=L) hcc
 refine zS ?_
 refine V.draw ?_
 have zf:=And.intro b4.2<|@PC
 refine VD.nz 1 ?_
 simp only[ds]
 refine VD.callA zA (f78_ok (dvf_ok m) (clf_ok m) hcc) zA (fun H5 g5=>?_)
 have c5:=c4.grow g5
 have zf:=And.intro c5.2<|And.intro @n8_len<|@n8_take
 refine VD.nz 1 ?_
 simp only[ds]
 refine VD.callA zA (f61_ok (m:=m) (S:=S) (L:=L) hm hv hS hs) zA (fun H6 g6=>?_)
 have c6:=c5.grow g6
 have m5:=g5.1
 have m6:=g6.1
 have hve:=n8_vEq s
 refine VD.d0 ?_ ?_ rfl ?_
 ·exact zM
 ·simp only[dcAll,dcOk,wantD,List.cons_append,List.nil_append,true_and,and_true]
  have zf:=And.intro c4.2<|And.intro c5.2<|And.intro c6.2<|And.intro @n8_len<|@n8_take
  exact zR
 refine zS ?_
 refine V.l0 ?_
 refine zS ?_
 refine V.ret (V.rets rfl (Lv.retG (by simp +contextual (disch:=first|omega|simp only[nx];omega) only[D1,cells_alloc_at,cells_alloc_ne,cells_set_at,cells_set_ne,yres,yres1,yresL,qA,qB,qC,D5,hF,hA,↓reduceIte,qD,qE];rfl) ?_ ?_))
 ·exact (g14.trans g5).trans g6
 ·congr 1
  rw[decide_eq_decide]
  unfold Mov
  exact⟨fun h=>⟨ho,h⟩,fun h=>h.2⟩
def SC (mv : Nat→Int→Prop) (k : Nat) (i ch e : Int) : Prop:=
 (e=9∧i=0∧ch=0∧∀ o (d : Int),o<k→1≤d→d≤10000→¬ mv o d∧¬ mv o (-d)) ∨
 (e=0∧∃ (j : Nat) (z : Int),i=j∧j<k∧1≤z∧z≤10000∧(ch=z∨ch=-z∧¬ mv j z)∧mv j ch∧(∀ o (d : Int),o<k→1≤d→d<z→¬ mv o d∧¬ mv o (-d))∧∀ o,o<j→¬ mv o z∧¬ mv o (-z))
theorem two_ix0 {a b : Int} : yindex 2 1 true (.agg ⟨A2 a b⟩) (I ((0 : Nat) : Int))=some (I a):=rfl
theorem two_ix1 {a b : Int} : yindex 2 1 true (.agg ⟨A2 a b⟩) (I ((1 : Nat) : Int))=some (I b):=rfl
theorem f72_ok {H : Heap} {m S L : Int} {c s : Nat→Int} {k : Nat} (hm : 1≤m∧m≤5) (hc : ∀ i,i<8→0≤c i∧c i≤10000) (hS : 0≤S∧S≤61) (hk : k≤8) (hs : ∀ p,p<8→0≤s p∧s p≤100) :
  F Try.prog 72 ⟨[.agg ⟨pw m S L c⟩,.agg ⟨n8 s⟩,I k]⟩ H (fun w X=>Grow H X∧∃ i ch e,w=.tuple ⟨[I i,I ch,I e]⟩∧SC (Mov m S L c s) k i ch e):=by
 have f90:=fun X p n hp hn=>f90_ok (H:=X) (m:=m) (S:=S) (L:=L) (c:=c) (s:=s) (p:=p) (n:=n) hm hc hS hp hn hs
 refine F.entryL rfl dg72 do72 de72 rfl (by kernel_rfl) ?_
 simp only[sets]
 refine V.re [(0,.agg ⟨pw m S L c⟩),(1,.agg ⟨n8 s⟩),(2,I k)] (N:=40) zE zY ?_
 intro t hF hA
 simp only[Kn,and_true] at hA
 refine zS ?_
 refine V.l0 ?_
 refine V.heap (fun X=>Grow H X∧Bx X H.next (pw m S L c) 83∧Bx X (H.next+1) (n8 s) 78) ⟨?_,?_,?_⟩ ?_
 ·exact zW
 ·exact zB
 ·exact zB
 rintro H1 ⟨g1,b1,c1⟩
 refine zS ?_
 refine V.l0 ?_
 refine zS ?_
 refine V.l0 ?_
 refine zS ?_
 refine V.loop (fun z t mm X=>∃ (a : Nat),1≤a∧a≤10001∧z=10001-a∧mm=[]∧Grow H1 X∧(∀ o (d : Int),o<k→1≤d→d<a→¬ (Mov m S L c s) o d∧¬ (Mov m S L c s) o (-d))∧Full 40 t∧Kn [(2,I k),(3,PT H.next),(4,PT (H.next+1)),(6,I 0),(7,I 0),(8,I 9),(9,I a)] t) 10000 ?_ ?_
 ·exact⟨1,by omega,by omega,by omega,rfl,.refl _,fun o d _ h1 h2=>by omega,zF,zK⟩
 clear hF hA
 rintro z t mm X ⟨a,ha1,ha2,rfl,rfl,gX,hall,hF,hA⟩
 simp only[Kn,and_true] at hA
 refine zS ?_
 refine V.l0 ?_
 refine zS ?_
 refine V.condP zP (fun hle=>?_) (fun hle=>?_)
 ·have hle' : a≤10000:=by omega
  refine zS ?_
  refine V.l0 ?_
  refine zS ?_
  refine V.loop (fun z t mm X=>∃ (i : Nat),i≤k∧z=k-i∧mm=[]∧Grow H1 X∧(∀ o,o<i→¬ (Mov m S L c s) o a∧¬ (Mov m S L c s) o (-(a : Int)))∧Full 40 t∧Kn [(2,I k),(3,PT H.next),(4,PT (H.next+1)),(6,I 0),(7,I 0),(8,I 9),(9,I a),(10,I i)] t) k ?_ ?_
  ·exact⟨0,by omega,by omega,rfl,gX,fun o ho=>by omega,zF,zK⟩
  clear hF hA gX
  rintro z t mm X ⟨i,hi,rfl,rfl,gX,hrow,hF,hA⟩
  simp only[Kn,and_true] at hA
  refine zS ?_
  refine V.l0 ?_
  refine zS ?_
  refine V.condP zP (fun hlt=>?_) (fun hlt=>?_)
  ·have hi' : i<k:=by omega
   refine zS ?_
   refine V.l0 ?_
   refine zS ?_
   refine V.loop (fun z t mm X=>∃ (b : Nat),b≤2∧z=2-b∧mm=[]∧Grow H1 X∧(0<b→¬ (Mov m S L c s) i a)∧(1<b→¬ (Mov m S L c s) i (-(a : Int)))∧Full 40 t∧Kn [(2,I k),(3,PT H.next),(4,PT (H.next+1)),(6,I 0),(7,I 0),(8,I 9),(9,I a),(10,I i),(25,.agg ⟨A2 a (0-(a : Int))⟩),(26,I b)] t) 2 ?_ ?_
   ·exact⟨0,by omega,by omega,rfl,gX,fun h=>by omega,fun h=>by omega,zF,zK⟩
   clear hF hA gX
   rintro z t mm X ⟨b,hb,rfl,rfl,gX,h1,h2,hF,hA⟩
   simp only[Kn,and_true] at hA
   refine zS ?_
   refine V.l0 ?_
   refine zS ?_
   refine V.condP zP (fun hbl=>?_) (fun hbl=>?_)
   ·have bX:=b1.grow gX
    have cX:=c1.grow gX
    have hb2 : b=0∨b=1:=by omega
    obtain⟨n,hix,hn,hna⟩ : ∃ n,yindex 2 1 true (.agg ⟨A2 a (0-(a : Int))⟩) (I (b : Int))=some (I n)∧(-10000≤n∧n≤10000)∧((b=0∧n=a)∨(b=1∧n=-(a : Int))):=by
     rcases hb2 with rfl|rfl
     ·exact⟨_,two_ix0,by omega,.inl ⟨rfl,rfl⟩⟩
     ·exact⟨_,two_ix1,by omega,.inr ⟨rfl,by omega⟩⟩
    refine zS ?_
    have zf:=@hix
    refine V.lz ?_
    refine zS ?_
    refine V.run ?_
    have zf:=And.intro bX.2<|And.intro cX.2<|And.intro @PC<|And.intro @n8_len<|@n8_take
    refine VI.sz 4 ?_
    simp only[ds]
    refine VI.callA rfl (f90 X i n (by omega) hn) zA (fun X2 g2=>?_)
    have gX2:=gX.trans g2
    refine VI.l0 ?_
    refine zS ?_
    refine V.condP zP (fun hmv=>?_) (fun hmv=>?_)
    ·refine zS ?_
     refine V.l0 ?_
     refine V.exit ?_
     (repeat first|refine V.here ?_|refine V.out (by decide) ?_|refine V.pass ?_)
     refine V.nil (Or.inr ⟨by simp,?_⟩)
     (repeat first|refine V.here ?_|refine V.out (by decide) ?_|refine V.pass ?_)
     refine V.nil (Or.inr ⟨by simp,?_⟩)
     (repeat first|refine V.here ?_|refine V.out (by decide) ?_|refine V.pass ?_)
     refine V.nil (Or.inr ⟨by simp,?_⟩)
     (repeat first|refine V.here ?_|refine V.out (by decide) ?_|refine V.pass ?_)
     refine zS ?_
     refine V.l0 ?_
     refine zS ?_
     refine V.ret (V.rets rfl (Lv.retF (by simp +contextual (disch:=first|omega|simp only[nx];omega) only[D1,cells_alloc_at,cells_alloc_ne,cells_set_at,cells_set_ne,yres,yres1,yresL,qA,qB,qC,D5,hF,hA,↓reduceIte,qD,qE];rfl) ?_))
     refine⟨g1.trans gX2,_,_,_,rfl,.inr ⟨rfl,i,a,rfl,hi',by omega,by omega,?_,hmv,hall,hrow⟩⟩
     rcases hna with⟨_,rfl⟩|⟨rfl,rfl⟩
     ·exact .inl rfl
     ·exact .inr ⟨rfl,h1 (by omega)⟩
    ·refine zS ?_
     refine V.l0 ?_
     refine V.nil (Or.inl ⟨rfl,2-(b+1),by omega,?_⟩)
     refine⟨b+1,by omega,rfl,rfl,gX2,fun _=>?_,fun hb1=>?_,zF,zK⟩
     ·rcases hna with⟨_,rfl⟩|⟨rfl,rfl⟩
      ·exact hmv
      ·exact h1 (by omega)
     ·rcases hna with⟨rfl,rfl⟩|⟨rfl,rfl⟩
      ·omega
      ·exact hmv
   ·refine V.exit ?_
    refine zX ?_
    refine V.nil (Or.inr ⟨by simp,?_⟩)
    refine zX ?_
    refine zS ?_
    refine V.l0 ?_
    refine V.nil (Or.inl ⟨rfl,k-(i+1),by omega,?_⟩)
    refine⟨i+1,by omega,rfl,rfl,gX,fun o ho=>?_,zF,zK⟩
    rcases Nat.lt_succ_iff_lt_or_eq.1 ho with h|rfl
    ·exact hrow o h
    ·exact⟨h1 (by omega),h2 (by omega)⟩
  ·refine V.exit ?_
   refine zX ?_
   refine V.nil (Or.inr ⟨by simp,?_⟩)
   refine zX ?_
   refine zS ?_
   refine V.l0 ?_
   refine V.nil (Or.inl ⟨rfl,10001-(a+1),by omega,?_⟩)
   refine⟨a+1,by omega,by omega,rfl,rfl,gX,fun o d ho h1 h2=>?_,zF,zK⟩
   by_cases e : d=a
   ·subst e
    exact hrow o (by omega)
   ·exact hall o d ho h1 (by omega)
 ·refine V.exit ?_
  refine zX ?_
  refine V.nil (Or.inr ⟨by simp,?_⟩)
  refine zX ?_
  refine zS ?_
  refine V.l0 ?_
  refine zS ?_
  refine V.ret (V.rets rfl (Lv.retF (by simp +contextual (disch:=first|omega|simp only[nx];omega) only[D1,cells_alloc_at,cells_alloc_ne,cells_set_at,cells_set_ne,yres,yres1,yresL,qA,qB,qC,D5,hF,hA,↓reduceIte,qD,qE];rfl) ?_))
  exact⟨g1.trans gX,_,_,_,rfl,.inl ⟨rfl,rfl,rfl,fun o d ho h1 h2=>hall o d ho h1 (by omega)⟩⟩
def SHR (m S L : Int) (l : List Int) (i ch e : Int) : Prop:=
 (flt m S L l≠0∧i=0∧ch=0∧e=flt m S L l)∨(flt m S L l=0∧¬ sure m S (vl L l)∧i=0∧ch=0∧e=10) ∨
 (flt m S L l=0∧sure m S (vl L l)∧SC (Mov m S L (gl0 l) (otc m S (vl L l)).1) l.length i ch e)
theorem f43_ok {H : Heap} {m S L : Int} {x : Value} {l : List Int} (h : LS H x l) : F Try.prog 43 ⟨[.agg ⟨A3 m S L⟩,x]⟩ H (fun w X=>Grow H X∧∃ i ch e,w=.tuple ⟨[I i,I ch,I e]⟩∧SHR m S L l i ch e):=by
 have hl:=h.len
 obtain⟨px,nx',cx,rfl⟩:=h.s.isS
 refine F.entryL rfl dg43 do43 de43 rfl (by kernel_rfl) ?_
 simp only[sets]
 refine V.re [(0,.agg ⟨A3 m S L⟩),(1,.slice px nx' cx)] (N:=35) zE zY ?_
 intro t hF hA
 simp only[Kn,and_true] at hA
 refine zS ?_
 refine V.l0 ?_
 refine V.heap (fun X=>Grow H X∧Bx X H.next (A3 m S L) 28) ⟨?_,?_⟩ ?_
 ·exact zW
 ·exact zB
 rintro H1 ⟨g1,b1⟩
 refine zS ?_
 refine V.run ?_
 have zf:=b1.2
 refine VI.sz 2 ?_
 simp only[ds]
 refine VI.callA rfl (f54_ok (m:=m) (S:=S) (L:=L) (h.grow g1)) zA (fun H2 g2=>?_)
 have b2:=b1.grow g2
 have g12:=g1.trans g2
 refine VI.l0 ?_
 refine zS ?_
 refine V.l0 ?_
 refine zS ?_
 refine V.condP zP (fun he=>?_) (fun he=>?_)
 ·refine zS ?_
  refine V.l0 ?_
  refine zS ?_
  refine V.ret (V.rets rfl (Lv.retF (by simp +contextual (disch:=first|omega|simp only[nx];omega) only[D1,cells_alloc_at,cells_alloc_ne,cells_set_at,cells_set_ne,yres,yres1,yresL,qA,qB,qC,D5,hF,hA,↓reduceIte,qD,qE];rfl) ?_))
  exact⟨g12,_,_,_,rfl,.inl ⟨he,rfl,rfl,rfl⟩⟩
 have he0 : flt m S L l=0:=Decidable.not_not.1 he
 obtain⟨hr,hl8,hb⟩:=flt_0.1 he0
 have hm : 1≤m∧m≤5:=⟨hr.1,hr.2.1⟩
 have hS : 0≤S∧S≤61:=⟨hr.2.2.1,by have:=hr.2.2.2.1;omega⟩
 have hvk:=vl_ok (L:=L) hb
 have hv8:=vl_8 (L:=L) hl8
 have hgb:=gl0_bd hb
 refine zS ?_
 refine V.run ?_
 have zf:=b2.2
 refine VI.sz 2 ?_
 simp only[ds]
 refine VI.callA rfl (f55_ok (m:=m) (S:=S) (L:=L) (h.grow g12) hl8 hb hm) zA (fun H3 g3=>?_)
 have g13:=g12.trans g3
 have hok:=pc_ok (m:=m) (S:=S) (L:=L) (c:=gl0 l) (v:=vts L (gl0 l)) (tot:=sm (vts L (gl0 l)) 8) (dvf_ok m) (clf_ok m)
 have epu:=pc_put (m:=m) (S:=S) (L:=L) (c:=gl0 l) (v:=vts L (gl0 l)) (tot:=sm (vts L (gl0 l)) 8) (d:=dvf m) (k:=clf m) (x:=[.int .u8 0,I 0,I 0,I 0,I 0,I 0,I 0,I 0,I 0,I 0,I 0,I 0,I 0,I 0,I 0,I 0,I 0,I 0,I 0,I 0,.nilFunc,.nilFunc]) rfl
 have m3:=g13.1
 have zf:=And.intro @PC<|And.intro @hok<|@epu
 refine VI.lz ?_
 refine V.heap (fun X=>Grow H X∧Bx X H3.next (pw m S L (gl0 l)) 83) ⟨?_,?_⟩ ?_
 ·exact zW
 ·exact Bx.put (by simp only[Heap.next_alloc];omega) _ _
 rintro H4 ⟨g4,b4⟩
 refine zS ?_
 refine V.run ?_
 have zf:=And.intro b4.2<|@PC
 refine VI.sz 1 ?_
 simp only[ds]
 refine VI.callA rfl (f56_ok (c:=gl0 l) hm hvk hS hv8) zA (fun H5 g5=>?_)
 have b5:=b4.grow g5
 have g15:=g4.trans g5
 have m5:=g5.1
 obtain⟨rf,hrf⟩ : ∃ rf,rf=(if sure m S (vl L l) then (otc m S (vl L l)).1 else fun _=>0):=⟨_,rfl⟩
 rw[← hrf]
 have n8a:=n8_set0 rf (fun _=>0)
 have nb5:=b5.1
 have n15:=g15.1
 have zf:=And.intro @n8_take<|And.intro @n8_len<|And.intro @n8_ok<|And.intro @n8a<|@n8_0
 refine VI.lz ?_
 refine V.heap (fun X=>Grow H X∧Bx X H3.next (pw m S L (gl0 l)) 83∧Bx X H5.next (n8 rf) 78) ⟨?_,?_,?_⟩ ?_
 ·exact zW
 ·exact (b5.alloc _).set (by omega) _
 ·exact Bx.put (by simp only[Heap.next_alloc];omega) _ _
 rintro H6 ⟨g6,b6,c6⟩
 refine zS ?_
 refine V.l0 ?_
 refine zS ?_
 by_cases hsu : sure m S (vl L l)
 ·refine V.condP zP (fun ht=>?_) (fun ht=>?_)
  ·exact absurd ht (by rw[if_pos hsu];simp)
  have hbd:=Fin.bd (otc_fin (m:=m) hvk hS hv8) hS.1
  rw[if_pos hsu] at hrf
  subst hrf
  refine zS ?_
  refine V.run ?_
  have zf:=And.intro b6.2<|And.intro c6.2<|And.intro @PC<|And.intro @n8_len<|And.intro @n8_take<|@hl
  refine VI.sz 4 ?_
  simp only[ds]
  refine VI.callR zA (f72_ok (m:=m) (S:=S) (L:=L) (c:=gl0 l) (s:=(otc m S (vl L l)).1) hm (fun i _=>hgb i) hS hl8 (fun p _=>by have:=hbd.1 p;omega)) zA (fun w7 H7 ⟨g7,i,ch,e,hw,hsc⟩=>?_)
  subst hw
  refine VI.l0 ?_
  refine zS ?_
  refine V.ret (V.rets rfl (Lv.retF (by simp +contextual (disch:=first|omega|simp only[nx];omega) only[D1,cells_alloc_at,cells_alloc_ne,cells_set_at,cells_set_ne,yres,yres1,yresL,qA,qB,qC,D5,hF,hA,↓reduceIte,qD,qE];rfl) ?_))
  exact⟨g6.trans g7,_,_,_,rfl,.inr (.inr ⟨he0,hsu,hsc⟩)⟩
 ·refine V.condP zP (fun ht=>?_) (fun ht=>?_)
  ·refine zS ?_
   refine V.l0 ?_
   refine zS ?_
   refine V.ret (V.rets rfl (Lv.retF (by simp +contextual (disch:=first|omega|simp only[nx];omega) only[D1,cells_alloc_at,cells_alloc_ne,cells_set_at,cells_set_ne,yres,yres1,yresL,qA,qB,qC,D5,hF,hA,↓reduceIte,qD,qE];rfl) ?_))
   exact⟨g6,_,_,_,rfl,.inr (.inl ⟨he0,hsu,rfl,rfl,by rw[if_neg hsu]⟩)⟩
  ·exact absurd ht (by rw[if_neg hsu];simp)
end Go.Xe.TVX
/- What the functions of the layer seat come to: changes of a list. Conditions: none. -/
-- MOD TV
namespace Go.Xe.TVX
open Go Go.Xe Go.Proofs
open Nat renaming reduceLeDiff → qA, reduceSub → qB, reduceAdd → qC, reduceEqDiff → qD, reduceLT → qE
open Int renaming reduceNegSucc → qF, reduceEq → qG
open Go.Xe.V renaming seq → sA, block → sB, scope → sC, skip → sD, close → sE
open Go.Xe renaming pth → P
open Go.Xe.Sea
set_option maxRecDepth 100000
set_option maxHeartbeats 3200000
set_option linter.unusedSimpArgs false
theorem fl_eq {n : Nat} {f g : Nat→Int} : fl n f=fl n g↔∀ p,p<n→f p=g p:=by
 constructor
 ·intro h p hp
  have h1:=fl_at (n:=n) (f:=f) (i:=p) (by rw[fl_len];exact hp)
  have h2:=fl_at (n:=n) (f:=g) (i:=p) (by rw[fl_len];exact hp)
  rw[← h1,← h2]
  simp only[h]
 ·intro h
  unfold fl
  apply List.map_congr_left
  intro p hp
  exact h p (List.mem_range.1 hp)
theorem vl_set {L : Int} {l : List Int} {p : Nat} (hp : p<l.length) (n : Int) : vts L (chg (gl0 l) p n)=vl L (l.set p (gl0 l p+n)):=by
 funext i
 unfold vl vts chg
 rw[gl0_set hp]
theorem flt_set {m S L : Int} {l : List Int} (h0 : flt m S L l=0) {p : Nat} {y : Int} (hy : 0≤y∧y≤10000) : flt m S L (l.set p y)=0:=by
 obtain⟨hr,hl8,hb⟩:=flt_0.1 h0
 refine flt_0.2 ⟨hr,by rw[List.length_set];exact hl8,fun v hv=>?_⟩
 rcases List.mem_or_eq_of_mem_set hv with hv|rfl
 ·exact hb v hv
 ·exact hy
def Stay (m S L : Int) (l : List Int) (p : Nat) (y : Int) : Prop:=sure m S (vl L (l.set p y))∧fl l.length (otc m S (vl L l)).1=fl l.length (otc m S (vl L (l.set p y))).1
instance (m S L : Int) (l : List Int) (p : Nat) (y : Int) : Decidable (Stay m S L l p y):=by unfold Stay;infer_instance
theorem mov_iff {m S L : Int} {l : List Int} (h0 : flt m S L l=0) {p : Nat} (hp : p<l.length) {n : Int} : Mov m S L (gl0 l) (otc m S (vl L l)).1 p n↔(0≤gl0 l p+n∧gl0 l p+n≤10000)∧¬ Stay m S L l p (gl0 l p+n):=by
 obtain⟨hr,hl8,hb⟩:=flt_0.1 h0
 have hvk:=vl_ok (L:=L) hb
 have hv8:=vl_8 (L:=L) hl8
 have hS : 0≤S∧S≤61:=⟨hr.2.2.1,by have:=hr.2.2.2.1;omega⟩
 have hbd:=Fin.bd (otc_fin (m:=m) hvk hS hv8) hS.1
 unfold Mov
 rw[vl_set hp]
 by_cases hin : 0≤gl0 l p+n∧gl0 l p+n≤10000
 rotate_left
 ·exact iff_of_false (fun h=>hin h.1) (fun h=>hin h.1)
 have h0':=flt_set (p:=p) h0 hin
 obtain⟨_,hl8',hb'⟩:=flt_0.1 h0'
 have hvk':=vl_ok (L:=L) hb'
 have hv8':=vl_8 (L:=L) hl8'
 rw[jo_iff hvk' hS hv8' (fun q _=>by have:=hbd.1 q;omega)]
 have z1 : ∀ q,l.length≤q→(otc m S (vl L l)).1 q=0:=fun q hq=>(otc_no (m:=m) hvk hS hv8 (by rw[vl_out hq];omega)).1
 have z2 : ∀ q,l.length≤q→(otc m S (vl L (l.set p (gl0 l p+n)))).1 q=0:=fun q hq=>(otc_no (m:=m) hvk' hS hv8' (by rw[vl_out (by rw[List.length_set];exact hq)];omega)).1
 have e : eq8 (otc m S (vl L l)).1 (otc m S (vl L (l.set p (gl0 l p+n)))).1↔fl l.length (otc m S (vl L l)).1=fl l.length (otc m S (vl L (l.set p (gl0 l p+n)))).1:=by
  rw[fl_eq]
  unfold eq8
  refine⟨fun h q hq=>h q (by omega),fun h q _=>?_⟩
  by_cases hq : q<l.length
  ·exact h q hq
  ·rw[z1 q (by omega),z2 q (by omega)]
 unfold Stay
 rw[e]
end Go.Xe.TVX
/- What the functions of the layer seat come to: SeatShifts. Conditions: none. -/
-- MOD TV
namespace Go.Xe.TVX
open Go Go.Xe Go.Proofs
open Nat renaming reduceLeDiff → qA, reduceSub → qB, reduceAdd → qC, reduceEqDiff → qD, reduceLT → qE
open Int renaming reduceNegSucc → qF, reduceEq → qG
open Go.Xe.V renaming seq → sA, block → sB, scope → sC, skip → sD, close → sE
open Go.Xe renaming pth → P
open Go.Xe.Sea
set_option maxRecDepth 100000
set_option maxHeartbeats 3200000
set_option linter.unusedSimpArgs false
end Go.Xe.TVX
