/- What the functions of the layer border come to: what a street and a new district may have. Conditions: none. -/
import Derived.Test.YtgcdbdcnlhonfaaTCO
-- MOD TB
namespace Go.Xe.TBX
open Go Go.Xe Go.Proofs
open Nat renaming reduceLeDiff → qA, reduceSub → qB, reduceAdd → qC, reduceEqDiff → qD, reduceLT → qE
open Int renaming reduceNegSucc → qF, reduceEq → qG
open Go.Xe.V renaming seq → sA, block → sB, scope → sC, skip → sD, close → sE
open Go.Xe renaming pth → P
open Go.Xe.Rnd
open Go.Xe.Sea (adl adl_1 adl_at mem_adl pix pix_at pix_adl adl_len)
set_option maxRecDepth 100000
set_option maxHeartbeats 3200000
set_option linter.unusedSimpArgs false
noncomputable def d97 : FCode:=(.seq (.run (.go (.move (.con (.bool false))) (P 3)::
[])) (.seq (.run (.go (.move (tm 0)) (P 4)::
.go (.load1 (tm 1)) (P 5)::
.go (.bin .eql 3 (tm 4) (tm 5)) (P 6)::
.go (.move (tm 6)) (P 3)::
[])) .ret))
theorem de97 : @compF Try.prog (Gl.none Try.prog) Try.f97 2=.mk d97 (mkTT 7) [(P 0),(P 1)] [.tmp (P 3)]:=by kernel_rfl
theorem dg97 : Try.prog.funcs[97]?=some Try.f97:=Try.func97
theorem do97 : okF Try.prog Try.f97=true:=by kernel_rfl
noncomputable def d116 : FCode:=(.seq (.run (.go (.move (.con (.bool false))) (P 4)::
[])) (.seq (.draw 7 (.go (.move (tm 0)) (P 5)::
.go (.fieldAddr 12 (tm 1)) (P 6)::
.go (.indexAddr (some 8) 1 (tm 6) (tm 5)) (P 7)::
.go (.load1 (tm 7)) (P 8)::
.go (.load1 (tm 2)) (P 9)::
.go (.bin .eql 3 (tm 8) (tm 9)) (P 10)::
.go (.move (tm 10)) (P 4)::
[]) [.ok,.ok,.ok,.ok,.ok,.ok,.ok]) .ret))
theorem de116 : @compF Try.prog (Gl.none Try.prog) Try.f116 3=.mk d116 (mkTT 11) [(P 0),(P 1),(P 2)] [.tmp (P 4)]:=by kernel_rfl
theorem dg116 : Try.prog.funcs[116]?=some Try.f116:=Try.func116
theorem do116 : okF Try.prog Try.f116=true:=by kernel_rfl
noncomputable def d98 : FCode:=(.seq (.run (.go (.box 96 (tm 0)) (P 2)::
.go (.box 3 (tm 1)) (P 3)::
.go (.alloc 62 [(.int .i64 (.ofNat 0)),(.int .i64 (.ofNat 0))]) (P 4)::
[])) (.seq (.run (.go (.alloc 62 [(.int .i64 (.ofNat 0)),(.int .i64 (.ofNat 0))]) (P 5)::
[])) (.seq (.seq (.run (.go (.fieldAddr 0 (tm 2)) (P 7)::
.go (.fieldAddr 0 (tm 7)) (P 8)::
.go (.load1 (tm 8)) (P 9)::
.go (.len 0 (tm 9)) (P 10)::
.go (.move (.con (.int .i64 (.ofNat 0)))) (P 11)::
[])) (.block 0 (.loop (.seq (.run (.go (.bin .lss 3 (tm 11) (tm 10)) (P 12)::
[])) (.seq (.cond (tm 12) .skip (.exit 0)) (.seq (.block 1 (.seq (.run (.go (.move (tm 11)) (P 13)::
.go (.move (tm 13)) (P 6)::
[])) (.draw 7 (.go (.loadN 2 (tm 5)) (P 14)::
.go (.loadN 21 (tm 2)) (P 15)::
.go (.move (tm 6)) (P 16)::
.go (.makeFunc 116 [] [(tm 2),(tm 3)]) (P 17)::
.go (.call (.con (.func (.func 96) ⟨[]⟩ ⟨[]⟩)) [(tm 15),(tm 16),(tm 17)]) (P 18)::
.go (.call (.con (.func (.func 114) ⟨[]⟩ ⟨[]⟩)) [(tm 14),(tm 18)]) (P 19)::
.un (.store 2 (tm 5) (tm 19))::
[]) [.rd none (.loadN 2 (tm 5)) (some (P 14)) [5],.ok,.ok,.ok,.ok,.ok,.ok]))) (.run (.go (.bin .add 3 (tm 11) (.con (.int .i64 (.ofNat 1)))) (P 20)::
.go (.move (tm 20)) (P 11)::
[])))))))) (.seq (.run (.go (.loadN 2 (tm 5)) (P 21)::
.un (.store 2 (tm 4) (tm 21))::
[])) .ret))))
theorem de98 : @compF Try.prog (Gl.none Try.prog) Try.f98 2=.mk d98 (mkTT 22) [(P 0),(P 1)] [.many (P 4) 2]:=by kernel_rfl
theorem dg98 : Try.prog.funcs[98]?=some Try.f98:=Try.func98
theorem do98 : okF Try.prog Try.f98=true:=by kernel_rfl
noncomputable def d63 : FCode:=(.seq (.run (.go (.box 96 (tm 0)) (P 1)::
.go (.move (.con (.slice none 0 0))) (P 2)::
[])) (.seq (.run (.go (.move (.con (.slice none 0 0))) (P 3)::
[])) (.seq (.seq (.run (.go (.fieldAddr 0 (tm 1)) (P 5)::
.go (.fieldAddr 1 (tm 5)) (P 6)::
.go (.load1 (tm 6)) (P 7)::
.go (.move (.con (.int .i64 (.ofNat 0)))) (P 8)::
[])) (.block 0 (.loop (.seq (.run (.go (.bin .lss 3 (tm 8) (tm 7)) (P 9)::
[])) (.seq (.cond (tm 9) .skip (.exit 0)) (.seq (.block 1 (.seq (.run (.go (.move (tm 8)) (P 10)::
.go (.move (tm 10)) (P 4)::
[])) (.run (.go (.move (tm 3)) (P 11)::
.go (.loadN 21 (tm 1)) (P 12)::
.go (.move (tm 4)) (P 13)::
.go (.call (.con (.func (.func 98) ⟨[]⟩ ⟨[]⟩)) [(tm 12),(tm 13)]) (P 14)::
.go (.buildSlice 62 1 [(.int .i64 (.ofNat 0)),(.int .i64 (.ofNat 0))] [(0,2,(tm 14))]) (P 15)::
.go (.append 62 2 16 (tm 11) (tm 15)) (P 16)::
.go (.move (tm 16)) (P 3)::
[])))) (.run (.go (.bin .add 3 (tm 8) (.con (.int .i64 (.ofNat 1)))) (P 17)::
.go (.move (tm 17)) (P 8)::
[])))))))) (.seq (.run (.go (.move (tm 3)) (P 18)::
.go (.move (tm 18)) (P 2)::
[])) .ret))))
theorem de63 : @compF Try.prog (Gl.none Try.prog) Try.f63 1=.mk d63 (mkTT 19) [(P 0)] [.tmp (P 2)]:=by kernel_rfl
theorem dg63 : Try.prog.funcs[63]?=some Try.f63:=Try.func63
theorem do63 : okF Try.prog Try.f63=true:=by kernel_rfl
noncomputable def d27 : FCode:=(.seq (.run (.go (.box 34 (tm 0)) (P 1)::
.go (.move (.con (.slice none 0 0))) (P 2)::
.go (.move (.con (.int .i64 (.ofNat 0)))) (P 3)::
[])) (.seq (.run (.go (.loadN 4 (tm 1)) (P 7)::
.go (.call (.con (.func (.func 61) ⟨[]⟩ ⟨[]⟩)) [tm 7]) (P 8)::
.go (.move (tm 8)) (P 6)::
.go (.extract (tm 6) 0) (P 9)::
.go (.extract (tm 6) 1) (P 10)::
.go (.alloc 96 [(.slice none 0 0),(.int .i64 (.ofNat 0)),(.slice none 0 0),(.slice none 0 0),(.int .i64 (.ofNat 0)),(.int .i64 (.ofNat 0)),(.int .i64 (.ofNat 0)),(.int .i64 (.ofNat 0)),(.int .i64 (.ofNat 0)),(.int .i64 (.ofNat 0)),(.int .i64 (.ofNat 0)),(.int .i64 (.ofNat 0)),(.int .i64 (.ofNat 0)),(.int .i64 (.ofNat 0)),(.int .i64 (.ofNat 0)),(.int .i64 (.ofNat 0)),(.int .i64 (.ofNat 0)),(.int .i64 (.ofNat 0)),(.int .i64 (.ofNat 0)),(.int .i64 (.ofNat 0)),(.map none)]) (P 4)::
.un (.store 21 (tm 4) (tm 9))::
.go (.move (tm 10)) (P 5)::
[])) (.seq (.seq (.run (.go (.move (tm 5)) (P 11)::
.go (.bin .neq 29 (tm 11) (.con (.int .i64 (.ofNat 0)))) (P 12)::
[])) (.cond (tm 12) (.seq (.run (.go (.move (tm 5)) (P 13)::
.go (.move (.con (.slice none 0 0))) (P 2)::
.go (.move (tm 13)) (P 3)::
[])) .ret) .skip)) (.seq (.run (.go (.loadN 21 (tm 4)) (P 14)::
.go (.call (.con (.func (.func 63) ⟨[]⟩ ⟨[]⟩)) [tm 14]) (P 15)::
.go (.move (tm 15)) (P 2)::
.go (.move (.con (.int .i64 (.ofNat 0)))) (P 3)::
[])) .ret))))
theorem de27 : @compF Try.prog (Gl.none Try.prog) Try.f27 1=.mk d27 (mkTT 16) [(P 0)] [.tmp (P 2),.tmp (P 3)]:=by kernel_rfl
theorem dg27 : Try.prog.funcs[27]?=some Try.f27:=Try.func27
theorem do27 : okF Try.prog Try.f27=true:=by kernel_rfl
noncomputable def d62 : FCode:=(.seq (.run (.go (.box 96 (tm 0)) (P 1)::
.go (.move (.con (.slice none 0 0))) (P 2)::
[])) (.seq (.run (.go (.move (.con (.slice none 0 0))) (P 3)::
[])) (.seq (.seq (.run (.go (.fieldAddr 0 (tm 1)) (P 6)::
.go (.fieldAddr 2 (tm 6)) (P 7)::
.go (.load1 (tm 7)) (P 8)::
.go (.len 0 (tm 8)) (P 9)::
.go (.move (.con (.int .i64 (.ofNat 0)))) (P 10)::
[])) (.block 0 (.loop (.seq (.run (.go (.bin .lss 3 (tm 10) (tm 9)) (P 11)::
[])) (.seq (.cond (tm 11) .skip (.exit 0)) (.seq (.block 1 (.seq (.run (.go (.move (tm 10)) (P 12)::
.go (.indexAddr none 5 (tm 8) (tm 10)) (P 13)::
.go (.loadN 5 (tm 13)) (P 14)::
.go (.alloc 3 [(.int .i64 (.ofNat 0))]) (P 4)::
.go (.alloc 74 [(.int .i64 (.ofNat 0)),(.int .i64 (.ofNat 0)),(.int .i64 (.ofNat 0)),(.int .i64 (.ofNat 0)),(.int .i64 (.ofNat 0))]) (P 5)::
.un (.store 1 (tm 4) (tm 12))::
.un (.store 5 (tm 5) (tm 14))::
[])) (.run (.go (.move (tm 3)) (P 15)::
.go (.loadN 21 (tm 1)) (P 16)::
.go (.fieldAddr 0 (tm 5)) (P 17)::
.go (.load1 (tm 17)) (P 18)::
.go (.makeFunc 97 [] [tm 4]) (P 19)::
.go (.call (.con (.func (.func 96) ⟨[]⟩ ⟨[]⟩)) [(tm 16),(tm 18),(tm 19)]) (P 20)::
.go (.buildSlice 62 1 [(.int .i64 (.ofNat 0)),(.int .i64 (.ofNat 0))] [(0,2,(tm 20))]) (P 21)::
.go (.append 62 2 16 (tm 15) (tm 21)) (P 22)::
.go (.move (tm 22)) (P 3)::
[])))) (.run (.go (.bin .add 3 (tm 10) (.con (.int .i64 (.ofNat 1)))) (P 23)::
.go (.move (tm 23)) (P 10)::
[])))))))) (.seq (.run (.go (.move (tm 3)) (P 24)::
.go (.move (tm 24)) (P 2)::
[])) .ret))))
theorem de62 : @compF Try.prog (Gl.none Try.prog) Try.f62 1=.mk d62 (mkTT 25) [(P 0)] [.tmp (P 2)]:=by kernel_rfl
theorem dg62 : Try.prog.funcs[62]?=some Try.f62:=Try.func62
theorem do62 : okF Try.prog Try.f62=true:=by kernel_rfl
noncomputable def d26 : FCode:=(.seq (.run (.go (.box 34 (tm 0)) (P 1)::
.go (.move (.con (.slice none 0 0))) (P 2)::
.go (.move (.con (.int .i64 (.ofNat 0)))) (P 3)::
[])) (.seq (.run (.go (.loadN 4 (tm 1)) (P 7)::
.go (.call (.con (.func (.func 61) ⟨[]⟩ ⟨[]⟩)) [tm 7]) (P 8)::
.go (.move (tm 8)) (P 6)::
.go (.extract (tm 6) 0) (P 9)::
.go (.extract (tm 6) 1) (P 10)::
.go (.alloc 96 [(.slice none 0 0),(.int .i64 (.ofNat 0)),(.slice none 0 0),(.slice none 0 0),(.int .i64 (.ofNat 0)),(.int .i64 (.ofNat 0)),(.int .i64 (.ofNat 0)),(.int .i64 (.ofNat 0)),(.int .i64 (.ofNat 0)),(.int .i64 (.ofNat 0)),(.int .i64 (.ofNat 0)),(.int .i64 (.ofNat 0)),(.int .i64 (.ofNat 0)),(.int .i64 (.ofNat 0)),(.int .i64 (.ofNat 0)),(.int .i64 (.ofNat 0)),(.int .i64 (.ofNat 0)),(.int .i64 (.ofNat 0)),(.int .i64 (.ofNat 0)),(.int .i64 (.ofNat 0)),(.map none)]) (P 4)::
.un (.store 21 (tm 4) (tm 9))::
.go (.move (tm 10)) (P 5)::
[])) (.seq (.seq (.run (.go (.move (tm 5)) (P 11)::
.go (.bin .neq 29 (tm 11) (.con (.int .i64 (.ofNat 0)))) (P 12)::
[])) (.cond (tm 12) (.seq (.run (.go (.move (tm 5)) (P 13)::
.go (.move (.con (.slice none 0 0))) (P 2)::
.go (.move (tm 13)) (P 3)::
[])) .ret) .skip)) (.seq (.run (.go (.loadN 21 (tm 4)) (P 14)::
.go (.call (.con (.func (.func 62) ⟨[]⟩ ⟨[]⟩)) [tm 14]) (P 15)::
.go (.move (tm 15)) (P 2)::
.go (.move (.con (.int .i64 (.ofNat 0)))) (P 3)::
[])) .ret))))
theorem de26 : @compF Try.prog (Gl.none Try.prog) Try.f26 1=.mk d26 (mkTT 16) [(P 0)] [.tmp (P 2),.tmp (P 3)]:=by kernel_rfl
theorem dg26 : Try.prog.funcs[26]?=some Try.f26:=Try.func26
theorem do26 : okF Try.prog Try.f26=true:=by kernel_rfl
theorem f97_ok {H : Heap} {i k p : Nat} (b : Bx H i [I p] 3) : Gives Try.prog 97 [I k,PT i] H (.bool (decide ((k : Int)=p))):=by
 refine F.entryL rfl dg97 do97 de97 rfl (by kernel_rfl) ?_
 simp only[sets]
 refine V.re [(0,I k),(1,PT i)] (N:=7) zE zY ?_
 intro t hF hA
 simp only[Kn,and_true] at hA
 refine zS ?_
 refine V.l0 ?_
 refine zS ?_
 have zf:=b.2
 refine V.lz ?_
 refine zS ?_
 refine V.ret (V.rets rfl (Lv.retG (by simp +contextual (disch:=first|omega|simp only[nx];omega) only[D1,cells_alloc_at,cells_alloc_ne,cells_set_at,cells_set_ne,yres,yres1,yresL,qA,qB,qC,D5,hF,hA,↓reduceIte,qD,qE];rfl) ?_ ?_))
 ·exact zW
 ·rfl
theorem f116_ok {H : Heap} {o s j : Value} {M : BM} {N : Int} {mi ia iq k q : Nat} (h8 : k<8) (b : Bx H ia (ac o s j N (oldF M) (newF M) (MPm mi)) 96) (c : Bx H iq [I q] 3) : Gives Try.prog 116 [I k,PT ia,PT iq] H (.bool (decide (newF M k=q))):=by
 have i3:=idx_arr (len:=8) (i:=ia) (o:=12) (kd:=.i64) h8
 have gg:=ac_g (o:=o) (s:=s) (j:=j) (N:=N) (f:=oldF M) (g:=newF M) (m:=MPm mi) h8
 refine F.entryL rfl dg116 do116 de116 rfl (by kernel_rfl) ?_
 simp only[sets]
 refine V.re [(0,I k),(1,PT ia),(2,PT iq)] (N:=11) zE zY ?_
 intro t hF hA
 simp only[Kn,and_true] at hA
 refine zS ?_
 refine V.l0 ?_
 refine zS ?_
 have zf:=And.intro @i3<|And.intro b.2<|And.intro @AC<|And.intro @gg<|c.2
 refine V.dz ?_ ?_ rfl ?_
 ·exact zM
 ·simp only[dcAll,dcOk,wantD,List.cons_append,List.nil_append,true_and,and_true]
 refine zS ?_
 refine V.ret (V.rets rfl (Lv.retG (by simp +contextual (disch:=first|omega|simp only[nx];omega) only[D1,cells_alloc_at,cells_alloc_ne,cells_set_at,cells_set_ne,yres,yres1,yresL,qA,qB,qC,D5,hF,hA,↓reduceIte,qD,qE];rfl) ?_ ?_))
 ·exact zW
 ·rfl
def nwL (M : BM) (q : Nat) : Int:=sm ((List.range M.O.length).map fun d=>rgL M d (fun i=>newF M i=q))
def nwH (M : BM) (q : Nat) : Int:=sm ((List.range M.O.length).map fun d=>rgH M d (fun i=>newF M i=q))
def nkL (M : BM) (q k : Nat) : Int:=sm ((List.range k).map fun d=>rgL M d (fun i=>newF M i=q))
def nkH (M : BM) (q k : Nat) : Int:=sm ((List.range k).map fun d=>rgH M d (fun i=>newF M i=q))
theorem nkL_1 {M : BM} {q k : Nat} : nkL M q (k+1)=nkL M q k+rgL M k (fun i=>newF M i=q):=by
 unfold nkL
 rw[List.range_succ,List.map_append,sm_app]
 simp[sm]
theorem nkH_1 {M : BM} {q k : Nat} : nkH M q (k+1)=nkH M q k+rgH M k (fun i=>newF M i=q):=by
 unfold nkH
 rw[List.range_succ,List.map_append,sm_app]
 simp[sm]
theorem nk_bd {M : BM} (G : VM M) {q : Nat} : ∀ k : Nat,k≤M.O.length→(-80000*(k : Int)≤nkL M q k∧nkL M q k≤80000*k)∧-80000*(k : Int)≤nkH M q k∧nkH M q k≤80000*k
 | 0,_=>by simp[nkL,nkH,sm]
 | k+1,h=>by
  have:=nk_bd G (q:=q) k (by omega)
  have:=rg_bd G (d:=k) (P:=fun i=>newF M i=q) (by omega)
  rw[nkL_1,nkH_1]
  omega
theorem f98_ok {H : Heap} {o s j : Value} {M : BM} {N : Int} {mi q : Nat} (h : MV H o s j M) (G : VM M) : Gives Try.prog 98 [.agg ⟨ac o s j N (oldF M) (newF M) (MPm mi)⟩,I q] H (.agg ⟨A2 (nwL M q) (nwH M q)⟩):=by
 have hlo:=h.o.len
 have hS8:=G.s8
 have hO4:=G.o4
 obtain⟨po,no,co,rfl⟩:=h.o.s.isS
 obtain⟨ps,ns,cs,rfl⟩:=h.s.isS
 obtain⟨pj,nj,cj,rfl⟩:=h.j.isS
 refine F.entryL rfl dg98 do98 de98 rfl (by kernel_rfl) ?_
 simp only[sets]
 refine V.re [(0,.agg ⟨ac (.slice po no co) (.slice ps ns cs) (.slice pj nj cj) N (oldF M) (newF M) (MPm mi)⟩),(1,I q)] (N:=22) zE zY ?_
 intro t hF hA
 simp only[Kn,and_true] at hA
 refine zS ?_
 refine V.l0 ?_
 refine zS ?_
 refine V.l0 ?_
 refine V.heap (fun X=>Grow H X∧Bx X H.next (ac (.slice po no co) (.slice ps ns cs) (.slice pj nj cj) N (oldF M) (newF M) (MPm mi)) 96∧Bx X (H.next+1) [I q] 3∧Bx X (H.next+2) (A2 0 0) 62∧Bx X (H.next+3) (A2 (nkL M q 0) (nkH M q 0)) 62) ⟨?_,?_,?_,?_,?_⟩ ?_
 ·exact zW
 ·exact zB
 ·exact zB
 ·exact zB
 ·have e : A2 (nkL M q 0) (nkH M q 0)=A2 0 0:=rfl
  rw[e]
  exact zB
 rintro H1 ⟨g1,b1,q1,t1,c1⟩
 refine zS ?_
 have zf:=And.intro b1.2<|And.intro @AC<|@hlo
 refine V.lz ?_
 refine zS ?_
 refine V.loop (fun z t mm X=>∃ (d : Nat),d≤M.O.length∧z=M.O.length-d∧mm=[]∧Grow H X∧Bx X H.next (ac (.slice po no co) (.slice ps ns cs) (.slice pj nj cj) N (oldF M) (newF M) (MPm mi)) 96∧Bx X (H.next+1) [I q] 3∧Bx X (H.next+2) (A2 0 0) 62∧Bx X (H.next+3) (A2 (nkL M q d) (nkH M q d)) 62∧Full 22 t∧Kn [(2,PT H.next),(3,PT (H.next+1)),(4,PT (H.next+2)),(5,PT (H.next+3)),(10,I M.O.length),(11,I d)] t) M.O.length ?_ ?_
 ·exact⟨0,by omega,by omega,rfl,g1,b1,q1,t1,c1,zF,zK⟩
 clear hF hA g1 b1 q1 t1 c1
 rintro z t mm X ⟨d,hd,rfl,rfl,gX,bX,qX,tX,cX,hF,hA⟩
 simp only[Kn,and_true] at hA
 refine zS ?_
 refine V.l0 ?_
 refine zS ?_
 refine V.condP zP (fun hlt=>?_) (fun hlt=>?_)
 ·have hlt' : d<M.O.length:=by omega
  have nb:=nk_bd G (q:=q) d hd
  have rb:=rg_bd G (d:=d) (P:=fun i=>newF M i=q) hlt'
  have eL:=nkL_1 (M:=M) (q:=q) (k:=d)
  have eH:=nkH_1 (M:=M) (q:=q) (k:=d)
  obtain⟨a1,ha1⟩ : ∃ z,z=nkL M q d:=⟨_,rfl⟩
  obtain⟨a2,ha2⟩ : ∃ z,z=nkH M q d:=⟨_,rfl⟩
  have f96':=f96_ok (N:=N) (mi:=mi) (g:=116) (cap:=[PT H.next,PT (H.next+1)]) (P:=fun i=>newF M i=q) (h.grow gX) G hlt' (fun X' g' i hi=>f116_ok (by omega) (bX.grow g') (qX.grow g'))
  obtain⟨r1,hr1⟩ : ∃ z,z=rgL M d (fun i=>newF M i=q):=⟨_,rfl⟩
  obtain⟨r2,hr2⟩ : ∃ z,z=rgH M d (fun i=>newF M i=q):=⟨_,rfl⟩
  rw[← ha1] at eL cX nb
  rw[← ha2] at eH cX nb
  rw[← hr1] at eL rb f96'
  rw[← hr2] at eH rb f96'
  refine zS ?_
  refine V.l0 ?_
  refine zS ?_
  refine V.draw ?_
  have zf:=And.intro cX.2<|And.intro bX.2<|@AC
  refine VD.nz 4 ?_
  simp only[ds]
  refine VD.callA zA (f96') zA (fun Y1 k1=>?_)
  have c1:=cX.grow k1
  refine VD.callA zA (f114_ok (a:=a1) (b:=a2) (c:=r1) (d:=r2) Y1 (by omega)) zA (fun Y2 k2=>?_)
  have gY:=k1.trans k2
  have bY:=bX.grow gY
  have qY:=qX.grow gY
  have tY:=tX.grow gY
  have cY:=cX.grow gY
  have m1:=k1.1
  have m2:=k2.1
  have nY:=cY.1
  have zf:=cY.2
  refine VD.dz ?_ ?_ rfl ?_
  ·exact zM
  ·simp only[dcAll,dcOk,wantD,List.cons_append,List.nil_append,true_and,and_true]
   have zf:=And.intro cX.2<|And.intro c1.2<|cY.2
   exact zR
  refine zS ?_
  refine V.l0 ?_
  refine V.nil (Or.inl ⟨rfl,M.O.length-(d+1),by omega,?_⟩)
  refine⟨d+1,hlt',rfl,rfl,(gX.trans gY).set (by omega) _,bY.set (by omega) _,qY.set (by omega) _,tY.set (by omega) _,?_,zF,zK⟩
  rw[eL,eH]
  exact Bx.put cY.1 _ _
 ·obtain rfl : d=M.O.length:=by omega
  have cX : Bx X (H.next+3) (A2 (nwL M q) (nwH M q)) 62:=cX
  have nt:=tX.1
  refine V.exit ?_
  refine zX ?_
  refine V.nil (Or.inr ⟨by simp,?_⟩)
  refine zX ?_
  refine zS ?_
  have zf:=And.intro cX.2<|tX.2
  refine V.lz ?_
  refine V.heap (fun Z=>Grow H Z∧Bx Z (H.next+2) (A2 (nwL M q) (nwH M q)) 62) ⟨?_,?_⟩ ?_
  ·exact gX.set (by omega) _
  ·exact Bx.put tX.1 _ _
  rintro Z ⟨gZ,bZ⟩
  refine zS ?_
  refine V.ret (V.rets rfl (Lv.retG (by simp +contextual (disch:=first|omega|simp only[nx];omega) only[D1,cells_alloc_at,cells_alloc_ne,cells_set_at,cells_set_ne,yres,yres1,yresL,qA,qB,qC,D5,hF,hA,↓reduceIte,qD,qE,bZ.2];rfl) ?_ ?_))
  ·exact gZ
  ·rfl
def nws (M : BM) (n : Nat) : List R2:=(List.range n).map fun q=>(nwL M q,nwH M q)
theorem nws_1 {M : BM} {n : Nat} : nws M (n+1)=nws M n++[(nwL M n,nwH M n)]:=by unfold nws;rw[List.range_succ,List.map_append];rfl
theorem nws_len {M : BM} {n : Nat} : (nws M n).length=n:=by simp[nws]
theorem f63_ok {H : Heap} {o s j : Value} {M : BM} {Nn mi : Nat} (h : MV H o s j M) (G : VM M) (hN : M.N=Nn) : F Try.prog 63 ⟨[.agg ⟨ac o s j (Nn : Int) (oldF M) (newF M) (MPm mi)⟩]⟩ H (fun w X=>Grow H X∧RS X w (nws M Nn)):=by
 have hN4:=G.n
 obtain⟨po,no,co,rfl⟩:=h.o.s.isS
 obtain⟨ps,ns,cs,rfl⟩:=h.s.isS
 obtain⟨pj,nj,cj,rfl⟩:=h.j.isS
 refine F.entryL rfl dg63 do63 de63 rfl (by kernel_rfl) ?_
 simp only[sets]
 refine V.re [(0,.agg ⟨ac (.slice po no co) (.slice ps ns cs) (.slice pj nj cj) (Nn : Int) (oldF M) (newF M) (MPm mi)⟩)] (N:=19) zE zY ?_
 intro t hF hA
 simp only[Kn,and_true] at hA
 refine zS ?_
 refine V.l0 ?_
 refine V.heap (fun X=>Grow H X∧Bx X H.next (ac (.slice po no co) (.slice ps ns cs) (.slice pj nj cj) (Nn : Int) (oldF M) (newF M) (MPm mi)) 96) ⟨?_,?_⟩ ?_
 ·exact zW
 ·exact zB
 rintro H1 ⟨g1,b1⟩
 refine zS ?_
 refine V.l0 ?_
 refine zS ?_
 have zf:=And.intro b1.2<|@AC
 refine V.lz ?_
 refine zS ?_
 refine V.loop (fun z t mm X=>∃ (q : Nat) (w : Value),q≤Nn∧z=Nn-q∧mm=[]∧Grow H1 X∧isS w∧OwW 2 H1 X 62 w ((nws M q).map q2)∧Full 19 t∧Kn [(1,PT H.next),(3,w),(7,I Nn),(8,I q)] t) Nn ?_ ?_
 ·exact⟨0,.slice none 0 0,by omega,by omega,rfl,.refl _,⟨_,_,_,rfl⟩,.nil,zF,zK⟩
 clear hF hA
 rintro z t mm X ⟨q,w,hq,rfl,rfl,gX,hw,ow,hF,hA⟩
 obtain⟨pw,nw',cw,rfl⟩:=hw
 simp only[Kn,and_true] at hA
 have bX:=b1.grow gX
 refine zS ?_
 refine V.l0 ?_
 refine zS ?_
 refine V.condP zP (fun hlt=>?_) (fun hlt=>?_)
 ·have hlt' : q<Nn:=by omega
  have f98':=f98_ok (N:=(Nn : Int)) (mi:=mi) (q:=q) (h.grow (g1.trans gX)) G
  refine zS ?_
  refine V.l0 ?_
  refine zS ?_
  refine V.run ?_
  have zf:=And.intro bX.2<|@AC
  refine VI.sz 3 ?_
  simp only[ds]
  refine VI.callA rfl (f98') zA (fun X2 g2=>?_)
  have gX2:=gX.trans g2
  obtain⟨u,Y,a1,a2,a3,a4⟩:=OwW.push (bytes:=16) (x:=q2 (nwL M q,nwH M q)) (by decide) gX2 (ow.keep g2) q2_w rfl rfl (by rw[List.length_map,nws_len];omega) (by rw[List.length_map,nws_len];omega)
  obtain⟨pu,nu,cu,rfl⟩:=a2.isS
  have zf:=@a1
  refine VI.lz ?_
  refine zS ?_
  refine V.l0 ?_
  refine V.nil (Or.inl ⟨rfl,Nn-(q+1),by omega,?_⟩)
  refine⟨q+1,_,hlt',rfl,rfl,a3,⟨_,_,_,rfl⟩,?_,zF,zK⟩
  rw[nws_1,List.map_append]
  exact a2
 ·obtain rfl : q=Nn:=by omega
  refine V.exit ?_
  refine zX ?_
  refine V.nil (Or.inr ⟨by simp,?_⟩)
  refine zX ?_
  refine zS ?_
  refine V.l0 ?_
  refine zS ?_
  refine V.ret (V.rets rfl (Lv.retF (by simp +contextual (disch:=first|omega|simp only[nx];omega) only[D1,cells_alloc_at,cells_alloc_ne,cells_set_at,cells_set_ne,yres,yres1,yresL,qA,qB,qC,D5,hF,hA,↓reduceIte,qD,qE];rfl) ?_))
  exact⟨g1.trans gX,⟨ow.sw q2_w⟩⟩
theorem f27_ok {H : Heap} {o s j : Value} {M : BM} (h : MV H o s j M) : F Try.prog 27 ⟨[.agg ⟨mc o s j M.N⟩]⟩ H (fun w X=>Grow H X∧((bE M≠0∧w=.tuple ⟨[.slice none 0 0,I (bE M)]⟩)∨(bE M=0∧∃ y,w=.tuple ⟨[y,I 0]⟩∧RS X y (nws M M.N.toNat)))):=by
 obtain⟨po,no,co,rfl⟩:=h.o.s.isS
 obtain⟨ps,ns,cs,rfl⟩:=h.s.isS
 obtain⟨pj,nj,cj,rfl⟩:=h.j.isS
 refine F.entryL rfl dg27 do27 de27 rfl (by kernel_rfl) ?_
 simp only[sets]
 refine V.re [(0,.agg ⟨mc (.slice po no co) (.slice ps ns cs) (.slice pj nj cj) M.N⟩)] (N:=16) zE zY ?_
 intro t hF hA
 simp only[Kn,and_true] at hA
 refine zS ?_
 refine V.l0 ?_
 refine V.heap (fun X=>Grow H X∧Bx X H.next (mc (.slice po no co) (.slice ps ns cs) (.slice pj nj cj) M.N) 34) ⟨?_,?_⟩ ?_
 ·exact zW
 ·exact zB
 rintro H1 ⟨g1,b1⟩
 refine zS ?_
 refine V.run ?_
 have zf:=b1.2
 refine VI.sz 1 ?_
 simp only[ds]
 refine VI.callR zA (f61_ok (h.grow g1)) zA (fun w2 H2 ⟨g2,q2'⟩=>?_)
 have g12:=g1.trans g2
 have n2:=g12.1
 have zok : Z21.all ok1=true:=rfl
 have zpu:=z_put z_len
 obtain⟨e,he⟩ : ∃ e,e=bE M:=⟨_,rfl⟩
 rw[← he] at q2' ⊢
 rcases q2' with⟨q0,hw2⟩|⟨q0,mi,hw2,mp⟩
 ·subst hw2
  have zf:=And.intro @zok<|And.intro @zpu<|@z_len
  refine VI.lz ?_
  refine V.heap (fun X=>Grow H X) ?_ ?_
  ·exact (g12.alloc _).set (by omega) _
  intro H3 g3
  refine zS ?_
  refine V.l0 ?_
  refine zS ?_
  refine V.condP zP (fun hne=>?_) (fun hne=>?_)
  ·refine zS ?_
   refine V.l0 ?_
   refine zS ?_
   refine V.ret (V.rets rfl (Lv.retF (by simp +contextual (disch:=first|omega|simp only[nx];omega) only[D1,cells_alloc_at,cells_alloc_ne,cells_set_at,cells_set_ne,yres,yres1,yresL,qA,qB,qC,D5,hF,hA,↓reduceIte,qD,qE];rfl) ?_))
   exact⟨g3,.inl ⟨q0,rfl⟩⟩
  ·exact absurd q0 hne
 ·subst hw2
  have G:=bE_VM (he ▸ q0)
  have hN4:=G.n
  obtain⟨Nn,hNn⟩ : ∃ Nn : Nat,M.N=Nn:=⟨M.N.toNat,by omega⟩
  have eN : M.N.toNat=Nn:=by omega
  have hok:=ac_ok (o:=.slice po no co) (s:=.slice ps ns cs) (j:=.slice pj nj cj) (N:=M.N) (f:=oldF M) (g:=newF M) (m:=MPm mi) ⟨_,_,_,rfl⟩ ⟨_,_,_,rfl⟩ ⟨_,_,_,rfl⟩ rfl
  have epu:=ac_put (o:=.slice po no co) (s:=.slice ps ns cs) (j:=.slice pj nj cj) (N:=M.N) (f:=oldF M) (g:=newF M) (m:=MPm mi) z_len
  rw[eN]
  have zf:=And.intro @hok<|And.intro @epu<|And.intro @AC<|@z_len
  refine VI.lz ?_
  refine V.heap (fun X=>Grow H X∧Bx X H2.next (ac (.slice po no co) (.slice ps ns cs) (.slice pj nj cj) M.N (oldF M) (newF M) (MPm mi)) 96) ⟨?_,?_⟩ ?_
  ·exact (g12.alloc _).set (by omega) _
  ·exact Bx.put (by simp only[Heap.next_alloc];omega) _ _
  rintro H3 ⟨g3,b3⟩
  refine zS ?_
  refine V.l0 ?_
  refine zS ?_
  refine V.condP zP (fun hne=>?_) (fun hne=>?_)
  ·exact absurd trivial hne
  rw[hNn] at b3
  refine zS ?_
  refine V.run ?_
  have zf:=And.intro b3.2<|@AC
  refine VI.sz 1 ?_
  simp only[ds]
  refine VI.callR zA (f63_ok (h.grow g3) G hNn) zA (fun w4 H4 ⟨g4,q4⟩=>?_)
  have i4:=q4.isS
  obtain⟨p4,n4,c4,rfl⟩:=i4
  refine VI.l0 ?_
  refine zS ?_
  refine V.ret (V.rets rfl (Lv.retF (by simp +contextual (disch:=first|omega|simp only[nx];omega) only[D1,cells_alloc_at,cells_alloc_ne,cells_set_at,cells_set_ne,yres,yres1,yresL,qA,qB,qC,D5,hF,hA,↓reduceIte,qD,qE];rfl) ?_))
  exact⟨g3.trans g4,.inr ⟨q0,_,rfl,q4⟩⟩
def ows (M : BM) (n : Nat) : List R2:=(List.range n).map fun i=>(rgL M (oldF M i).toNat (fun k=>(k : Int)=(i : Nat)),rgH M (oldF M i).toNat (fun k=>(k : Int)=(i : Nat)))
theorem ows_1 {M : BM} {n : Nat} : ows M (n+1)=ows M n++[(rgL M (oldF M n).toNat (fun k=>(k : Int)=(n : Nat)),rgH M (oldF M n).toNat (fun k=>(k : Int)=(n : Nat)))]:=by unfold ows;rw[List.range_succ,List.map_append];rfl
theorem ows_len {M : BM} {n : Nat} : (ows M n).length=n:=by simp[ows]
theorem f62_ok {H : Heap} {o s j : Value} {M : BM} {N : Int} {mi : Nat} (h : MV H o s j M) (G : VM M) : F Try.prog 62 ⟨[.agg ⟨ac o s j N (oldF M) (newF M) (MPm mi)⟩]⟩ H (fun w X=>Grow H X∧RS X w (ows M M.S.length)):=by
 have hS8:=G.s8
 have hl:=h.s.len
 obtain⟨po,no,co,rfl⟩:=h.o.s.isS
 obtain⟨ps,ns,cs,rfl⟩:=h.s.isS
 obtain⟨pj,nj,cj,rfl⟩:=h.j.isS
 refine F.entryL rfl dg62 do62 de62 rfl (by kernel_rfl) ?_
 simp only[sets]
 refine V.re [(0,.agg ⟨ac (.slice po no co) (.slice ps ns cs) (.slice pj nj cj) N (oldF M) (newF M) (MPm mi)⟩)] (N:=25) zE zY ?_
 intro t hF hA
 simp only[Kn,and_true] at hA
 refine zS ?_
 refine V.l0 ?_
 refine V.heap (fun X=>Grow H X∧Bx X H.next (ac (.slice po no co) (.slice ps ns cs) (.slice pj nj cj) N (oldF M) (newF M) (MPm mi)) 96) ⟨?_,?_⟩ ?_
 ·exact zW
 ·exact zB
 rintro H1 ⟨g1,b1⟩
 refine zS ?_
 refine V.l0 ?_
 refine zS ?_
 have zf:=And.intro b1.2<|And.intro @AC<|@hl
 refine V.lz ?_
 refine zS ?_
 refine V.loop (fun z t mm X=>∃ (k : Nat) (w : Value),k≤M.S.length∧z=M.S.length-k∧mm=[]∧Grow H1 X∧isS w∧OwW 2 H1 X 62 w ((ows M k).map q2)∧Full 25 t∧Kn [(1,PT H.next),(3,w),(8,.slice ps ns cs),(9,I M.S.length),(10,I k)] t) M.S.length ?_ ?_
 ·exact⟨0,.slice none 0 0,by omega,by omega,rfl,.refl _,⟨_,_,_,rfl⟩,.nil,zF,zK⟩
 clear hF hA
 rintro z t mm X ⟨k,w,hk,rfl,rfl,gX,hw,ow,hF,hA⟩
 obtain⟨pw,nw',cw,rfl⟩:=hw
 simp only[Kn,and_true] at hA
 have bX:=b1.grow gX
 refine zS ?_
 refine V.l0 ?_
 refine zS ?_
 refine V.condP zP (fun hlt=>?_) (fun hlt=>?_)
 ·have hlt' : k<M.S.length:=by omega
  obtain⟨si,so',s1,s2⟩:=h.s.at hlt'
  have s3:=(s2 X (g1.trans gX)).1
  have ho:=G.old hlt'
  obtain⟨dn,hdn⟩ : ∃ dn : Nat,oldF M k=dn:=⟨(oldF M k).toNat,by omega⟩
  have edn : (oldF M k).toNat=dn:=by omega
  have hst : M.S[k].old=dn:=by rw[← oldF_at hlt',hdn]
  obtain⟨st,hst'⟩ : ∃ st,st=M.S[k]:=⟨_,rfl⟩
  rw[← hst'] at s3 hst
  refine zS ?_
  have zf:=And.intro @s1<|@s3
  refine V.lz ?_
  refine V.heap (fun Y=>Grow X Y∧Bx Y X.next [I k] 3∧Bx Y (X.next+1) (s5 st) 74) ⟨?_,?_,?_⟩ ?_
  ·exact ((((Grow.refl X).alloc _).alloc _).set (by omega) _).set (by omega) _
  ·exact Bx.set (j:=X.next+1) (Bx.put (by simp only[Heap.next_alloc];omega) _ _) (by omega) _
  ·exact Bx.put (by simp only[Heap.next_alloc,Heap.next_set];omega) _ _
  rintro X1 ⟨gx,kx,sx⟩
  have bX1:=bX.grow gx
  have f96':=f96_ok (N:=N) (mi:=mi) (g:=97) (cap:=[PT X.next]) (P:=fun i=>(i : Int)=(k : Nat)) (d:=dn) (h.grow ((g1.trans gX).trans gx)) G (by omega) (fun X' g' i hi=>f97_ok (kx.grow g'))
  refine zS ?_
  refine V.run ?_
  have zf:=And.intro bX1.2<|And.intro @AC<|And.intro sx.2<|@hst
  refine VI.sz 5 ?_
  simp only[ds]
  refine VI.callA rfl (f96') zA (fun X2 g2=>?_)
  have gX2:=(gX.trans gx).trans g2
  obtain⟨u,Y,a1,a2,a3,a4⟩:=OwW.push (bytes:=16) (x:=q2 (rgL M dn (fun i=>(i : Int)=(k : Nat)),rgH M dn (fun i=>(i : Int)=(k : Nat)))) (by decide) gX2 (ow.keep (gx.trans g2)) q2_w rfl rfl (by rw[List.length_map,ows_len];omega) (by rw[List.length_map,ows_len];omega)
  obtain⟨pu,nu,cu,rfl⟩:=a2.isS
  have zf:=@a1
  refine VI.lz ?_
  refine zS ?_
  refine V.l0 ?_
  refine V.nil (Or.inl ⟨rfl,M.S.length-(k+1),by omega,?_⟩)
  refine⟨k+1,_,hlt',rfl,rfl,a3,⟨_,_,_,rfl⟩,?_,zF,zK⟩
  rw[ows_1,List.map_append,edn]
  exact a2
 ·obtain rfl : k=M.S.length:=by omega
  refine V.exit ?_
  refine zX ?_
  refine V.nil (Or.inr ⟨by simp,?_⟩)
  refine zX ?_
  refine zS ?_
  refine V.l0 ?_
  refine zS ?_
  refine V.ret (V.rets rfl (Lv.retF (by simp +contextual (disch:=first|omega|simp only[nx];omega) only[D1,cells_alloc_at,cells_alloc_ne,cells_set_at,cells_set_ne,yres,yres1,yresL,qA,qB,qC,D5,hF,hA,↓reduceIte,qD,qE];rfl) ?_))
  exact⟨g1.trans gX,⟨ow.sw q2_w⟩⟩
theorem f26_ok {H : Heap} {o s j : Value} {M : BM} (h : MV H o s j M) : F Try.prog 26 ⟨[.agg ⟨mc o s j M.N⟩]⟩ H (fun w X=>Grow H X∧((bE M≠0∧w=.tuple ⟨[.slice none 0 0,I (bE M)]⟩)∨(bE M=0∧∃ y,w=.tuple ⟨[y,I 0]⟩∧RS X y (ows M M.S.length)))):=by
 obtain⟨po,no,co,rfl⟩:=h.o.s.isS
 obtain⟨ps,ns,cs,rfl⟩:=h.s.isS
 obtain⟨pj,nj,cj,rfl⟩:=h.j.isS
 refine F.entryL rfl dg26 do26 de26 rfl (by kernel_rfl) ?_
 simp only[sets]
 refine V.re [(0,.agg ⟨mc (.slice po no co) (.slice ps ns cs) (.slice pj nj cj) M.N⟩)] (N:=16) zE zY ?_
 intro t hF hA
 simp only[Kn,and_true] at hA
 refine zS ?_
 refine V.l0 ?_
 refine V.heap (fun X=>Grow H X∧Bx X H.next (mc (.slice po no co) (.slice ps ns cs) (.slice pj nj cj) M.N) 34) ⟨?_,?_⟩ ?_
 ·exact zW
 ·exact zB
 rintro H1 ⟨g1,b1⟩
 refine zS ?_
 refine V.run ?_
 have zf:=b1.2
 refine VI.sz 1 ?_
 simp only[ds]
 refine VI.callR zA (f61_ok (h.grow g1)) zA (fun w2 H2 ⟨g2,q2'⟩=>?_)
 have g12:=g1.trans g2
 have n2:=g12.1
 have zok : Z21.all ok1=true:=rfl
 have zpu:=z_put z_len
 obtain⟨e,he⟩ : ∃ e,e=bE M:=⟨_,rfl⟩
 rw[← he] at q2' ⊢
 rcases q2' with⟨q0,hw2⟩|⟨q0,mi,hw2,mp⟩
 ·subst hw2
  have zf:=And.intro @zok<|And.intro @zpu<|@z_len
  refine VI.lz ?_
  refine V.heap (fun X=>Grow H X) ?_ ?_
  ·exact (g12.alloc _).set (by omega) _
  intro H3 g3
  refine zS ?_
  refine V.l0 ?_
  refine zS ?_
  refine V.condP zP (fun hne=>?_) (fun hne=>?_)
  ·refine zS ?_
   refine V.l0 ?_
   refine zS ?_
   refine V.ret (V.rets rfl (Lv.retF (by simp +contextual (disch:=first|omega|simp only[nx];omega) only[D1,cells_alloc_at,cells_alloc_ne,cells_set_at,cells_set_ne,yres,yres1,yresL,qA,qB,qC,D5,hF,hA,↓reduceIte,qD,qE];rfl) ?_))
   exact⟨g3,.inl ⟨q0,rfl⟩⟩
  ·exact absurd q0 hne
 ·subst hw2
  have G:=bE_VM (he ▸ q0)
  have hok:=ac_ok (o:=.slice po no co) (s:=.slice ps ns cs) (j:=.slice pj nj cj) (N:=M.N) (f:=oldF M) (g:=newF M) (m:=MPm mi) ⟨_,_,_,rfl⟩ ⟨_,_,_,rfl⟩ ⟨_,_,_,rfl⟩ rfl
  have epu:=ac_put (o:=.slice po no co) (s:=.slice ps ns cs) (j:=.slice pj nj cj) (N:=M.N) (f:=oldF M) (g:=newF M) (m:=MPm mi) z_len
  have zf:=And.intro @hok<|And.intro @epu<|And.intro @AC<|@z_len
  refine VI.lz ?_
  refine V.heap (fun X=>Grow H X∧Bx X H2.next (ac (.slice po no co) (.slice ps ns cs) (.slice pj nj cj) M.N (oldF M) (newF M) (MPm mi)) 96) ⟨?_,?_⟩ ?_
  ·exact (g12.alloc _).set (by omega) _
  ·exact Bx.put (by simp only[Heap.next_alloc];omega) _ _
  rintro H3 ⟨g3,b3⟩
  refine zS ?_
  refine V.l0 ?_
  refine zS ?_
  refine V.condP zP (fun hne=>?_) (fun hne=>?_)
  ·exact absurd trivial hne
  refine zS ?_
  refine V.run ?_
  have zf:=And.intro b3.2<|@AC
  refine VI.sz 1 ?_
  simp only[ds]
  refine VI.callR zA (f62_ok (h.grow g3) G) zA (fun w4 H4 ⟨g4,q4⟩=>?_)
  have i4:=q4.isS
  obtain⟨p4,n4,c4,rfl⟩:=i4
  refine VI.l0 ?_
  refine zS ?_
  refine V.ret (V.rets rfl (Lv.retF (by simp +contextual (disch:=first|omega|simp only[nx];omega) only[D1,cells_alloc_at,cells_alloc_ne,cells_set_at,cells_set_ne,yres,yres1,yresL,qA,qB,qC,D5,hF,hA,↓reduceIte,qD,qE];rfl) ?_))
  exact⟨g3.trans g4,.inr ⟨q0,_,rfl,q4⟩⟩
end Go.Xe.TBX
