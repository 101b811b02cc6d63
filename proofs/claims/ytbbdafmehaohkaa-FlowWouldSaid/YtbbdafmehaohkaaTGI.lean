/- What the functions of the layer flow come to: the sizes to which a truth leads, as the statements add them up. Conditions: none. -/
import Derived.Test.YtbbdafmehaohkaaTGH
-- MOD TF
namespace Go.Xe.TFX
open Go Go.Xe Go.Proofs
open Nat renaming reduceLeDiff → qA, reduceSub → qB, reduceAdd → qC, reduceEqDiff → qD, reduceLT → qE
open Int renaming reduceNegSucc → qF, reduceEq → qG
open Go.Xe.V renaming seq → sA, block → sB, scope → sC, skip → sD, close → sE
open Go.Xe renaming pth → P
open Go.Xe.Flw
set_option maxRecDepth 100000
set_option maxHeartbeats 6400000
set_option linter.unusedSimpArgs false
noncomputable def d28 : FCode:=(.seq (.run (.go (.box 25 (tm 0)) (P 2)::
.go (.box 29 (tm 1)) (P 3)::
.go (.move (.con (.slice none 0 0))) (P 4)::
.go (.move (.con (.bool false))) (P 5)::
[])) (.seq (.run (.go (.buildSlice 3 0 [] []) (P 15)::
.go (.fieldAddr 0 (tm 3)) (P 16)::
.go (.load1 (tm 16)) (P 17)::
.go (.append 3 1 8 (tm 15) (tm 17)) (P 18)::
.go (.buildSlice 26 1 [(.slice none 0 0)] [(0,1,(tm 18))]) (P 19)::
.go (.move (tm 19)) (P 6)::
[])) (.seq (.run (.go (.move (.con (.bool true))) (P 7)::
[])) (.seq (.run (.go (.loadN 4 (tm 2)) (P 20)::
.go (.call (.con (.func (.func 34) ⟨[]⟩ ⟨[]⟩)) [tm 20]) (P 21)::
.go (.bin .sub 3 (tm 21) (.con (.int .i64 (.ofNat 1)))) (P 22)::
.go (.move (tm 22)) (P 8)::
[])) (.seq (.seq (.run (.go (.move (.con (.int .i64 (.ofNat 0)))) (P 9)::
[])) (.block 0 (.loop (.seq (.seq (.run (.go (.move (tm 9)) (P 23)::
.go (.fieldAddr 1 (tm 2)) (P 24)::
.go (.load1 (tm 24)) (P 25)::
.go (.len 0 (tm 25)) (P 26)::
.go (.bin .lss 3 (tm 23) (tm 26)) (P 27)::
[])) (.cond (tm 27) .skip (.exit 0))) (.seq (.block 1 (.seq (.draw 12 (.go (.fieldAddr 1 (tm 3)) (P 30)::
.go (.load1 (tm 30)) (P 31)::
.go (.move (tm 9)) (P 32)::
.go (.indexAddr none 1 (tm 31) (tm 32)) (P 33)::
.go (.load1 (tm 33)) (P 34)::
.go (.buildSlice 3 1 [(.int .i64 (.ofNat 0))] [(0,1,(tm 34))]) (P 35)::
.go (.move (tm 6)) (P 36)::
.go (.move (tm 9)) (P 37)::
.go (.indexAddr none 1 (tm 36) (tm 37)) (P 38)::
.go (.load1 (tm 38)) (P 39)::
.go (.append 3 1 8 (tm 35) (tm 39)) (P 40)::
.go (.move (tm 40)) (P 10)::
[]) [.ok,.ok,.ok,.ok,.ok,.ok,.ok,.ok,.ok,.rd none (.load1 (tm 38)) (some (P 39)) [0],.ok,.ok]) (.seq (.run (.go (.loadN 4 (tm 2)) (P 41)::
.go (.call (.con (.func (.func 34) ⟨[]⟩ ⟨[]⟩)) [tm 41]) (P 42)::
.go (.makeSlice 3 1 8 [(.int .i64 (.ofNat 0))] (tm 42) (tm 42)) (P 43)::
.go (.move (tm 43)) (P 11)::
[])) (.seq (.seq (.run (.go (.move (.con (.int .i64 (.ofNat 0)))) (P 12)::
[])) (.block 2 (.loop (.seq (.seq (.run (.go (.move (tm 12)) (P 44)::
.go (.move (tm 10)) (P 45)::
.go (.len 0 (tm 45)) (P 46)::
.go (.bin .lss 3 (tm 44) (tm 46)) (P 47)::
[])) (.cond (tm 47) .skip (.exit 2))) (.seq (.block 3 (.seq (.draw 12 (.go (.move (tm 10)) (P 50)::
.go (.move (tm 12)) (P 51)::
.go (.indexAddr none 1 (tm 50) (tm 51)) (P 52)::
.go (.load1 (tm 52)) (P 53)::
.go (.fieldAddr 2 (tm 2)) (P 54)::
.go (.load1 (tm 54)) (P 55)::
.go (.move (tm 12)) (P 56)::
.go (.indexAddr none 2 (tm 55) (tm 56)) (P 57)::
.go (.loadN 2 (tm 57)) (P 58)::
.go (.call (.con (.func (.func 71) ⟨[]⟩ ⟨[]⟩)) [(tm 53),(tm 58)]) (P 59)::
.go (.alloc 62 [(.int .i64 (.ofNat 0)),(.int .i64 (.ofNat 0))]) (P 13)::
.un (.store 2 (tm 13) (tm 59))::
[]) [.ok,.ok,.ok,.ok,.ok,.ok,.ok,.ok,.ok,.ok,.nw none (some (P 13)) 10 true,.ok]) (.seq (.draw 24 (.go (.move (tm 7)) (P 60)::
.go (.move (tm 60)) (P 61)::
.gd (P 61) true (.move (tm 10)) (P 62)::
.gd (P 61) true (.move (tm 12)) (P 63)::
.gd (P 61) true (.indexAddr none 1 (tm 62) (tm 63)) (P 64)::
.gd (P 61) true (.load1 (tm 64)) (P 65)::
.gd (P 61) true (.bin .geq 3 (tm 65) (.con (.int .i64 (.ofNat 0)))) (P 66)::
.go (.pick (tm 61) (tm 66) (.con (.bool false))) (P 67)::
.go (.move (tm 67)) (P 68)::
.gd (P 68) true (.fieldAddr 2 (tm 3)) (P 69)::
.gd (P 68) true (.load1 (tm 69)) (P 70)::
.gd (P 68) true (.move (tm 9)) (P 71)::
.gd (P 68) true (.indexAddr none 1 (tm 70) (tm 71)) (P 72)::
.gd (P 68) true (.load1 (tm 72)) (P 73)::
.gd (P 68) true (.move (tm 12)) (P 74)::
.gd (P 68) true (.indexAddr none 1 (tm 73) (tm 74)) (P 75)::
.gd (P 68) true (.load1 (tm 75)) (P 76)::
.gd (P 68) true (.fieldAddr 0 (tm 13)) (P 77)::
.gd (P 68) true (.load1 (tm 77)) (P 78)::
.gd (P 68) true (.fieldAddr 1 (tm 13)) (P 79)::
.gd (P 68) true (.load1 (tm 79)) (P 80)::
.gd (P 68) true (.call (.con (.func (.func 41) ⟨[]⟩ ⟨[]⟩)) [(tm 76),(tm 78),(tm 80)]) (P 81)::
.go (.pick (tm 68) (tm 81) (.con (.bool false))) (P 82)::
.go (.move (tm 82)) (P 7)::
[]) [.ok,.ok,.ok,.ok,.ok,.ok,.ok,.ok,.ok,.ok,.ok,.ok,.ok,.ok,.ok,.ok,.ok,.ok,.ok,.ok,.ok,.ok,.ok,.ok]) (.draw 22 (.go (.move (tm 11)) (P 83)::
.go (.move (tm 12)) (P 84)::
.go (.move (tm 8)) (P 85)::
.go (.mm false [(tm 84),(tm 85)]) (P 86)::
.go (.indexAddr none 1 (tm 83) (tm 86)) (P 87)::
.go (.load1 (tm 87)) (P 88)::
.go (.move (tm 10)) (P 89)::
.go (.move (tm 12)) (P 90)::
.go (.indexAddr none 1 (tm 89) (tm 90)) (P 91)::
.go (.load1 (tm 91)) (P 92)::
.go (.fieldAddr 2 (tm 3)) (P 93)::
.go (.load1 (tm 93)) (P 94)::
.go (.move (tm 9)) (P 95)::
.go (.indexAddr none 1 (tm 94) (tm 95)) (P 96)::
.go (.load1 (tm 96)) (P 97)::
.go (.move (tm 12)) (P 98)::
.go (.indexAddr none 1 (tm 97) (tm 98)) (P 99)::
.go (.load1 (tm 99)) (P 100)::
.go (.bin .sub 3 (tm 92) (tm 100)) (P 101)::
.go (.bin .add 3 (tm 88) (tm 101)) (P 102)::
.go (.indexAddr none 1 (tm 83) (tm 86)) (P 103)::
.un (.store 1 (tm 103) (tm 102))::
[]) [.ok,.ok,.ok,.ok,.ok,.ok,.ok,.ok,.ok,.ok,.ok,.ok,.ok,.ok,.ok,.ok,.ok,.ok,.ok,.ok,.ok,.ok])))) (.run (.go (.move (tm 12)) (P 48)::
.go (.bin .add 3 (tm 48) (.con (.int .i64 (.ofNat 1)))) (P 49)::
.go (.move (tm 49)) (P 12)::
[]))))))) (.seq (.seq (.run (.go (.move (.con (.int .i64 (.ofNat 0)))) (P 14)::
[])) (.block 4 (.loop (.seq (.seq (.run (.go (.move (tm 14)) (P 104)::
.go (.loadN 4 (tm 2)) (P 105)::
.go (.call (.con (.func (.func 34) ⟨[]⟩ ⟨[]⟩)) [tm 105]) (P 106)::
.go (.bin .lss 3 (tm 104) (tm 106)) (P 107)::
[])) (.cond (tm 107) .skip (.exit 4))) (.seq (.block 5 (.seq (.draw 15 (.go (.move (tm 11)) (P 110)::
.go (.move (tm 14)) (P 111)::
.go (.indexAddr none 1 (tm 110) (tm 111)) (P 112)::
.go (.load1 (tm 112)) (P 113)::
.go (.fieldAddr 3 (tm 3)) (P 114)::
.go (.load1 (tm 114)) (P 115)::
.go (.move (tm 9)) (P 116)::
.go (.indexAddr none 1 (tm 115) (tm 116)) (P 117)::
.go (.load1 (tm 117)) (P 118)::
.go (.move (tm 14)) (P 119)::
.go (.indexAddr none 1 (tm 118) (tm 119)) (P 120)::
.go (.load1 (tm 120)) (P 121)::
.go (.bin .add 3 (tm 113) (tm 121)) (P 122)::
.go (.indexAddr none 1 (tm 110) (tm 111)) (P 123)::
.un (.store 1 (tm 123) (tm 122))::
[]) [.ok,.ok,.ok,.ok,.ok,.ok,.ok,.ok,.ok,.ok,.ok,.ok,.ok,.ok,.ok]) (.run (.go (.move (tm 7)) (P 124)::
.go (.move (tm 124)) (P 125)::
.gd (P 125) true (.move (tm 11)) (P 126)::
.gd (P 125) true (.move (tm 14)) (P 127)::
.gd (P 125) true (.indexAddr none 1 (tm 126) (tm 127)) (P 128)::
.gd (P 125) true (.load1 (tm 128)) (P 129)::
.gd (P 125) true (.bin .geq 3 (tm 129) (.con (.int .i64 (.ofNat 0)))) (P 130)::
.go (.pick (tm 125) (tm 130) (.con (.bool false))) (P 131)::
.go (.move (tm 131)) (P 7)::
[])))) (.run (.go (.move (tm 14)) (P 108)::
.go (.bin .add 3 (tm 108) (.con (.int .i64 (.ofNat 1)))) (P 109)::
.go (.move (tm 109)) (P 14)::
[]))))))) (.run (.go (.move (tm 6)) (P 132)::
.go (.move (tm 11)) (P 133)::
.go (.buildSlice 26 1 [(.slice none 0 0)] [(0,1,(tm 133))]) (P 134)::
.go (.append 26 1 24 (tm 132) (tm 134)) (P 135)::
.go (.move (tm 135)) (P 6)::
[]))))))) (.run (.go (.move (tm 9)) (P 28)::
.go (.bin .add 3 (tm 28) (.con (.int .i64 (.ofNat 1)))) (P 29)::
.go (.move (tm 29)) (P 9)::
[]))))))) (.seq (.run (.go (.move (tm 6)) (P 136)::
.go (.move (tm 7)) (P 137)::
.go (.move (tm 136)) (P 4)::
.go (.move (tm 137)) (P 5)::
[])) .ret))))))
theorem de28 : @compF Try.prog (Gl.none Try.prog) Try.f28 2=.mk d28 (mkTT 138) [(P 0),(P 1)] [.tmp (P 4),.tmp (P 5)]:=by kernel_rfl
theorem dg28 : Try.prog.funcs[28]?=some Try.f28:=Try.func28
theorem do28 : okF Try.prog Try.f28=true:=by kernel_rfl
def rwk (be de : List Int) (L : Nat) : Nat→List Int
 | 0=>List.replicate L 0
 | k+1=>(rwk be de L k).set (min k (L-1)) (W ((rwk be de L k).getD (min k (L-1)) 0+W (be.getD k 0-de.getD k 0)))
def adk (ro mo : List Int) : Nat→List Int
 | 0=>ro
 | k+1=>(adk ro mo k).set k (W ((adk ro mo k).getD k 0+mo.getD k 0))
theorem rwk_len (be de : List Int) (L : Nat) : ∀ k,(rwk be de L k).length=L
 | 0=>by simp[rwk]
 | k+1=>by simp only[rwk,List.length_set,rwk_len be de L k]
theorem adk_len (ro mo : List Int) : ∀ k,(adk ro mo k).length=ro.length
 | 0=>rfl
 | k+1=>by simp only[adk,List.length_set,adk_len ro mo k]
theorem getD_set {l : List Int} {i j : Nat} {v : Int} (hi : i<l.length) : (l.set i v).getD j 0=if i=j then v else l.getD j 0:=by
 simp only[List.getD_eq_getElem?_getD,List.getElem?_set]
 by_cases h : i=j
 ·subst h;simp[hi]
 ·simp[h]
theorem rep_getD {L g : Nat} : (List.replicate L (0 : Int)).getD g 0=0:=by
 simp only[List.getD_eq_getElem?_getD,List.getElem?_replicate]
 split<;>rfl
theorem nx_rw {be de mo : List Int} (h0 : 0<mo.length) (hw : ∀ g,g<mo.length→W (mo.getD g 0)=mo.getD g 0) : ∀ k g,g<mo.length→(nxk be de mo k).getD g 0=W ((rwk be de mo.length k).getD g 0+mo.getD g 0)
 | 0,g,hg=>by
  simp only[nxk,rwk,rep_getD,Int.zero_add]
  exact (hw g hg).symm
 | k+1,g,hg=>by
  have h1:=nx_rw (be:=be) (de:=de) h0 hw k g hg
  simp only[nxk,rwk]
  rw[getD_set (by rw[nxk_len];omega),getD_set (by rw[rwk_len];omega)]
  by_cases h : min k (mo.length-1)=g
  ·rw[if_pos h,if_pos h,h,h1]
   simp only[W,wrap_i]
   omega
  ·rw[if_neg h,if_neg h,h1]
theorem adk_at {ro mo : List Int} : ∀ k,k≤ro.length→∀ g,(adk ro mo k).getD g 0=if g<k then W (ro.getD g 0+mo.getD g 0) else ro.getD g 0
 | 0,_,g=>by simp[adk]
 | k+1,hk,g=>by
  have h1:=adk_at (ro:=ro) (mo:=mo) k (by omega)
  simp only[adk]
  rw[getD_set (l:=adk ro mo k) (i:=k) (j:=g) (by rw[adk_len];omega)]
  by_cases h : k=g
  ·subst h;rw[if_pos rfl,h1 k,if_neg (by omega),if_pos (by omega)]
  ·rw[if_neg h,h1 g]
   by_cases h2 : g<k
   ·rw[if_pos h2,if_pos (by omega)]
   ·rw[if_neg h2,if_neg (by omega)]
theorem ext_getD {a b : List Int} (h : a.length=b.length) (k : ∀ g,g<a.length→a.getD g 0=b.getD g 0) : a=b:=by
 apply List.ext_getElem h
 intro g h1 h2
 have:=k g h1
 rw[getD_at h1,getD_at h2] at this
 exact this
theorem ad_nx {be de mo : List Int} (h0 : 0<mo.length) (hw : ∀ g,g<mo.length→W (mo.getD g 0)=mo.getD g 0) : adk (rwk be de mo.length be.length) mo mo.length=nxt be de mo:=by
 apply ext_getD
 ·rw[adk_len,rwk_len];exact (nxk_len _ _ _ _).symm
 ·intro g hg
  rw[adk_len,rwk_len] at hg
  rw[adk_at _ (by rw[rwk_len];exact Nat.le_refl _),if_pos hg]
  exact (nx_rw h0 hw _ g hg).symm
theorem mk_row (H : Heap) (g : Nat) (hg : g≤1048576) : ymakeSlice 3 8 [I 0] H (I g) (I g)=some (.slice (some ⟨H.next,0,none⟩) g g,H.alloc (.cells ⟨(List.replicate g (0 : Int)).map I⟩ 3 true)):=by
 have e48 : (2 : Nat) ^ 48=281474976710656:=by decide
 have ez : zeros ⟨[I 0]⟩ ((g : Int).toNat*[I 0].length)=⟨(List.replicate g (0 : Int)).map I⟩:=by
  apply Array.toList_inj.1
  simp only[zeros,Array.toList_map,Array.toList_range,List.map_replicate,List.length_cons,List.length_nil]
  apply List.ext_getElem
  ·simp
  ·intro j h1 h2
   simp[Nat.mod_one]
 simp only[ymakeSlice]
 rw[if_pos ⟨by omega,by omega,by omega,by omega⟩,ez]
 simp
theorem wrap_wf {x : Int} (h1 : -9223372036854775808≤x) (h2 : x≤9223372036854775807) : W x=x:=wrap_i64 h1 h2
theorem cn_nn {T : Tb} {X : Tr} (hh : hld T X) : ∀ k,cn T X k→∀ n∈rw X k,0≤n
 | 0,_=>fun n hn=>(hh.2.1 n hn).1
 | _+1,h=>h.2
theorem OwN.lit {α : Type} {R : Heap→Value→α→Prop} (hR : RP R) {H0 H : Heap} {e : TypeId} {x : Value} {r : α} (hn : H0.next≤H.next) (hx : R H x r) : OwN R H0 (H.alloc (.cells ⟨[x]⟩ e true)) e (.slice (some ⟨H.next,0,none⟩) 1 1) [r]:=by
 refine⟨[x],.inr ⟨H.next,hn,Nat.lt_succ_self _,rfl,cells_alloc _ _ _ _⟩,rfl,fun k y q hy hq=>?_⟩
 cases k with
 | zero=>
  simp only[List.getElem?_cons_zero,Option.some.injEq] at hy hq
  subst hy;subst hq
  refine⟨hR.grow ((Grow.refl H).alloc _) hx,fun i hi hb=>?_⟩
  have:=hR.lt hx hi
  simp only[blk,Option.some.injEq] at hb
  omega
 | succ k=>simp at hy
def cdr (rs : List R2) (bs es : List Int) (k : Nat) : Prop:=∀ q∈(rs.zip (bs.zip es)).take k,0≤q.2.1∧(dd q.2.1 q.1).1≤q.2.2∧q.2.2≤(dd q.2.1 q.1).2
theorem cdr_all {rs : List R2} {bs es : List Int} {k : Nat} (hk : rs.length≤k) (hn : ∀ n∈bs,0≤n) : cdr rs bs es k↔cd rs bs es:=by
 unfold cdr cd
 rw[List.take_of_length_le (by rw[List.length_zip];omega)]
 constructor
 ·intro h q hq;exact (h q hq).2
 ·intro h q hq
  refine⟨hn _ ?_,h q hq⟩
  obtain⟨a,b,c⟩:=q
  exact (List.of_mem_zip (List.of_mem_zip hq).2).1
theorem f28_own {H : Heap} {c b r n f e d o : Value} {T : Tb} {X : Tr} (h : TV H c b r n T) (hx : XV H f e d o X) (hft : fit T) (hv : val T) (hh : hld T X) : F Try.prog 28 ⟨[.agg ⟨[c,b,r,n]⟩,.agg ⟨[f,e,d,o]⟩]⟩ H (fun w Y=>Grow H Y∧∃ s B,H.next≤B.next∧w=.tuple ⟨[s,.bool (decide (cn T X T.B.length))]⟩∧OwN (From RI B.next) B Y 26 s (szs X (T.B.length+1))):=by
 have hlb : ∀ X,ylen 0 X b=some (I T.B.length):=h.b.len
 have hrl:=rw_len hv hh
 have hnn:=cn_nn hh
 obtain⟨q1,q2,q3,q4,q5,q6,q7⟩:=hh
 obtain⟨v1,v2,v3,v4,v5,v6,v7,v8⟩:=hv
 obtain⟨t1,t2⟩:=hft
 have hBl:=q3.1
 refine F.entryL rfl dg28 do28 de28 rfl (by kernel_rfl) ?_
 simp only[sets]
 refine V.re [(0,.agg ⟨[c,b,r,n]⟩),(1,.agg ⟨[f,e,d,o]⟩)] (N:=138) zE zY ?_
 intro t hF hA
 simp only[Kn,and_true] at hA
 refine zS ?_
 refine V.l0 ?_
 refine V.heap (fun X=>Grow H X∧Bx X H.next [c,b,r,n] 25∧Bx X (H.next+1) [f,e,d,o] 29) ⟨?_,?_,?_⟩ ?_
 ·exact zW
 ·exact zB
 ·exact zB
 rintro H1 ⟨g1,b1,c1⟩
 have k1:=hx.grow g1
 have h1:=h.grow g1
 have o0 : Ow H1 (H1.alloc (.cells ⟨[]⟩ 3 true)) 3 (.slice (some ⟨H1.next,0,none⟩) 0 0) []:=.inr ⟨H1.next,Nat.le_refl _,Nat.lt_succ_self _,rfl,cells_alloc _ _ _ _⟩
 have g0 : Grow H1 (H1.alloc (.cells ⟨[]⟩ 3 true)):=(Grow.refl H1).alloc _
 obtain⟨w0,H2,a1,a2,a3,a4⟩:=Ow.append (e:=3) (bytes:=8) g0 o0 (ri.grow g0 k1.f) (by simp[ok1_int]) (by simp only[List.length_nil,List.length_map];omega) (by simp only[List.length_nil,List.length_map];omega)
 rw[List.nil_append] at a2
 have hw0 : From RI H1.next H2 w0 X.F:=⟨ow_ri a2,a2.from⟩
 have os0:=OwN.lit (e:=26) (ri.from H1.next) a3.1 hw0
 obtain⟨p1,p2,_,_⟩:=sl1 (ri.sl hw0.1)
 have lc1:=c1.1
 refine zS ?_
 have zf:=And.intro c1.2<|And.intro @a1<|And.intro @p1<|@p2
 refine V.lz ?_
 refine V.heap (fun Y=>Grow H1 Y∧OwN (From RI H1.next) H1 Y 26 (.slice (some ⟨H2.next,0,none⟩) 1 1) [X.F]) ⟨?_,?_⟩ ?_
 ·exact a3.alloc _
 ·exact os0
 rintro H3 ⟨g3,os3⟩
 have b3:=b1.grow g3
 refine zS ?_
 refine V.l0 ?_
 refine zS ?_
 refine V.run ?_
 have zf:=b3.2
 refine VI.sz 1 ?_
 simp only[ds]
 refine VI.callA rfl (f34_ok (h1.grow g3)) zA (fun H4 g4=>?_)
 have g14:=g3.trans g4
 have os4:=os3.keep (ri.from _) g4
 refine VI.l0 ?_
 refine zS ?_
 refine V.l0 ?_
 refine zS ?_
 refine V.loop (fun z t m Z=>∃ (k : Nat) (s : Value) (p : Prop) (dp : Decidable p),k≤T.B.length∧z=T.B.length-k∧m=[]∧Grow H1 Z∧OwN (From RI H1.next) H1 Z 26 s (szs X (k+1))∧(p↔cn T X k)∧Full 138 t∧Kn [(2,.pointer (some ⟨H.next,0,none⟩)),(3,.pointer (some ⟨H.next+1,0,none⟩)),(6,s),(7,.bool (decide p)),(8,I (grp T-1 : Nat)),(9,I k)] t) T.B.length ?_ ?_
 ·have eg : (grp T : Int)-1=((grp T-1 : Nat) : Int):=by omega
  rw[← eg]
  exact⟨0,_,True,inferInstance,by omega,by omega,rfl,g14,os4,Iff.rfl,zF,zK⟩
 clear hF hA
 rintro z t m Z ⟨k,s,p,dp,hk,rfl,rfl,hg,os,hp,hF,hA⟩
 simp only[Kn,and_true] at hA
 have bz:=b1.grow hg
 have cz:=c1.grow hg
 have kz:=k1.grow hg
 have hz:=h1.grow hg
 refine zS ?_
 have zf:=And.intro bz.2<|@hlb
 refine V.lz ?_
 refine zS ?_
 refine V.condP zP (fun hlt=>?_) (fun hlt=>?_)
 ·have hlt' : k<T.B.length:=by omega
  have lB : k<X.B.length:=by omega
  have lD : k<X.D.length:=by omega
  have lM : k<X.M.length:=by omega
  have hrow:=hrl k hk
  have hlR:=hz.r.len
  obtain⟨q,hq,hqx⟩:=kz.b.at lB
  obtain⟨qd,xd,hqd,hqdx⟩:=kz.d.at ri lD
  have hqdk:=hqd .i64
  obtain⟨qm,xm,hqm,hqmx⟩:=kz.m.at ri lM
  have hqmk:=hqm .i64
  have hD2:=q5 _ (List.getElem_mem lD)
  have hM2:=(q7 _ (List.getElem_mem lM)).1
  have hM3:=(q7 _ (List.getElem_mem lM)).2
  obtain⟨qs,y,hqs,hqsx⟩:=os.nest.at (ri.from _) (k:=k) (by rw[szs_len];omega)
  have hqsk:=hqs .i64
  have hy0:=hqsx Z (.refl _)
  have esz : (szs X (k+1))[k]'(by rw[szs_len];omega)=rw X k:=by simp[szs]
  have gb : Grow Z (Z.alloc (.cells ⟨[I X.B[k]]⟩ 3 true)):=(Grow.refl Z).alloc _
  have ob : Ow Z (Z.alloc (.cells ⟨[I X.B[k]]⟩ 3 true)) 3 (.slice (some ⟨Z.next,0,none⟩) 1 1) [I X.B[k]]:=.inr ⟨Z.next,Nat.le_refl _,Nat.lt_succ_self _,rfl,cells_alloc _ _ _ _⟩
  have hyb:=hqsx _ gb
  obtain⟨u,Z1,a1,a2,a3,a4⟩:=Ow.append (r:=(rw X k).map I) (e:=3) (bytes:=8) gb ob (by rw[esz] at hyb;exact hyb.2.1) (by simp[ok1_int]) (by simp only[List.length_cons,List.length_nil,List.length_map];omega) (by simp only[List.length_cons,List.length_nil,List.length_map];omega)
  have hu : RI Z1 u (X.B[k]::rw X k):=a2.sl
  have hq1:=hqx Z (.refl _)
  have hyc:=hqsx _ a3
  have hlu:=hu.len
  refine zS ?_
  have zf:=And.intro cz.2<|And.intro @hq<|And.intro @hq1<|And.intro @hqsk<|And.intro hy0.1<|And.intro hyb.1<|@a1
  refine V.dz ?_ ?_ rfl ?_
  ·have m1:=a3.1
   have m2:=a4.1
   simp only[nx] at m2
   exact zM
  ·simp only[dcAll,dcOk,wantD,List.cons_append,List.nil_append,true_and,and_true]
   have w1:=(sl1 (ri.sl hy0.2.1)).2.2.1
   have zf:=And.intro hy0.1<|And.intro hyb.1<|hyc.1
   exact zR
  have b1':=bz.grow a3
  have c1':=cz.grow a3
  refine zS ?_
  refine V.run ?_
  have zf:=b1'.2
  refine VI.sz 1 ?_
  simp only[ds]
  refine VI.callA rfl (f34_ok (hz.grow a3)) zA (fun Z2 gz2=>?_)
  have hmk:=mk_row Z2 (grp T) (by omega)
  have zf:=@hmk
  refine VI.lz ?_
  have g02 : Grow Z Z2:=a3.trans gz2
  refine V.heap (fun Y=>Grow Z Y∧Z2.next+1≤Y.next∧Grow Z2 Y∧Bx Y Z2.next ((rwk (X.B[k]::rw X k) X.D[k] (grp T) 0).map I) 3) ⟨?_,?_,?_,?_⟩ ?_
  ·exact zW
  ·simp only[nx];omega
  ·exact zW
  ·exact Bx.new _ _ _
  rintro Y0 ⟨y1,y2,y3,y4⟩
  have hlr : (rwk (X.B[k]::rw X k) X.D[k] (grp T) 0).length=grp T:=rwk_len _ _ _ _
  have hZ2 : Z.next≤Z2.next:=g02.1
  generalize hbe : X.B[k]::rw X k=be at *
  generalize hde : X.D[k]=de at *
  have lbe : be.length=grp T+1:=by rw[← hbe,List.length_cons,hrow]
  have lde : de.length=grp T+1:=by omega
  have gu : Grow Z1 Y0:=gz2.trans y3
  have hu0:=ri.grow gu hu
  have hD0 : ∀ Y,Grow Z Y→yload1 Y qd=some xd∧RI Y xd de:=fun Y g=>hqdx Y g
  clear hqdx
  refine zS ?_
  refine V.l0 ?_
  refine zS ?_
  refine V.re [(2,.pointer (some ⟨H.next,0,none⟩)),(3,.pointer (some ⟨H.next+1,0,none⟩)),(6,s),(7,.bool (decide p)),(8,I (grp T-1 : Nat)),(9,I k),(10,u),(11,.slice (some ⟨Z2.next,0,none⟩) (grp T) (grp T)),(12,I 0)] (N:=138) zF zK ?_
  clear hF hA
  intro t hF hA
  simp only[Kn,and_true] at hA
  refine V.loop (fun z t m Y=>∃ (i : Nat) (p2 : Prop) (dp2 : Decidable p2),i≤be.length∧z=be.length-i∧m=[]∧Grow Z2 Y∧Bx Y Z2.next ((rwk be de (grp T) i).map I) 3∧(p2↔cn T X k∧cdr T.Rt be de i)∧Full 138 t∧Kn [(2,.pointer (some ⟨H.next,0,none⟩)),(3,.pointer (some ⟨H.next+1,0,none⟩)),(6,s),(7,.bool (decide p2)),(8,I (grp T-1 : Nat)),(9,I k),(10,u),(11,.slice (some ⟨Z2.next,0,none⟩) (grp T) (grp T)),(12,I i)] t) be.length ?_ ?_
  ·exact⟨0,p,dp,by omega,by omega,rfl,y3,y4,⟨fun hh=>⟨hp.1 hh,by unfold cdr;simp⟩,fun hh=>hp.2 hh.1⟩,zF,zK⟩
  clear hF hA
  rintro z t m Y ⟨i,p2,dp2,hi,rfl,rfl,gy,by2,hp2,hF,hA⟩
  simp only[Kn,and_true] at hA
  have gZY : Grow Z Y:=g02.trans gy
  have huY:=ri.grow (gz2.trans gy) hu
  have bY:=bz.grow gZY
  have cY:=cz.grow gZY
  have hTY:=hz.grow gZY
  have hlY:=huY.len
  refine zS ?_
  have zf:=@hlY
  refine V.lz ?_
  refine zS ?_
  refine V.condP zP (fun hli=>?_) (fun hli=>?_)
  ·have hli' : i<be.length:=by omega
   have hlR2 : i<T.Rt.length:=by omega
   have hlD2 : i<de.length:=by omega
   obtain⟨pe,hpe,hpex⟩:=huY.at hli'
   have hpe1:=hpex Y (.refl _)
   obtain⟨i2,o2,hr1,hr2⟩:=hTY.r.at hlR2
   obtain⟨hr3,_,_⟩:=hr2 Y (.refl _)
   refine zS ?_
   refine V.draw ?_
   have zf:=And.intro @hpe<|And.intro @hpe1<|And.intro bY.2<|And.intro @hr1<|@hr3
   refine VD.nz 9 ?_
   simp only[ds]
   refine VD.callA zA (f71_ok be[i] T.Rt[i] Y) zA (fun Y1 gy1=>?_)
   refine VD.d0 ?_ ?_ rfl ?_
   ·have m1:=gy1.1
    exact zM
   ·simp only[dcAll,dcOk,wantD,List.cons_append,List.nil_append,true_and,and_true]
    exact fun _=>⟨_,_,_,rfl,rfl,rfl,(by simp only[D5,hF,hA,↓reduceIte,qD,qE];simp[inBound]),fun _=>⟨_,_,_,cells_alloc _ _ _ _,(by first|exact An_inb|rfl)⟩⟩
   refine V.heap (fun V=>Grow Y1 V∧Bx V Y1.next (A2 (dd be[i] T.Rt[i]).1 (dd be[i] T.Rt[i]).2) 62) ⟨?_,?_⟩ ?_
   ·exact zW
   ·exact zB
   rintro Y2 ⟨gy2,dy⟩
   have gY2 : Grow Y Y2:=gy1.trans gy2
   have gZ2 : Grow Z Y2:=gZY.trans gY2
   have hpe2:=hpex Y2 gY2
   have cY2:=cz.grow gZ2
   obtain⟨hd1,hd2⟩:=hD0 Y2 gZ2
   obtain⟨pd,hpd,hpdx⟩:=hd2.at hlD2
   have hpd1:=hpdx Y2 (.refl _)
   refine zS ?_
   refine V.draw ?_
   have zf:=And.intro @hpe<|And.intro @hpe2<|And.intro cY2.2<|And.intro @hqdk<|And.intro @hd1<|And.intro @hpd<|And.intro @hpd1<|dy.2
   refine VD.nz 9 ?_
   simp only[ds]
   have zf:=And.intro @hpe<|And.intro @hpe2<|And.intro cY2.2<|And.intro @hqdk<|And.intro @hd1<|And.intro @hpd<|And.intro @hpd1<|dy.2
   refine VD.nz 9 ?_
   simp only[ds]
   have zf:=And.intro @hpe<|And.intro @hpe2<|And.intro cY2.2<|And.intro @hqdk<|And.intro @hd1<|And.intro @hpd<|And.intro @hpd1<|dy.2
   refine VD.nz 3 ?_
   simp only[ds]
   first|refine VD.callGt zG (fun hc=>zI) (fun hc=>f41_ok de[i] (dd be[i] T.Rt[i]).1 (dd be[i] T.Rt[i]).2 Y2) (fun hc=>zI) (fun Y3 gy3=>?_)|refine VD.callGf zG (fun hc=>zI) (fun hc=>f41_ok de[i] (dd be[i] T.Rt[i]).1 (dd be[i] T.Rt[i]).2 Y2) (fun hc=>zI) (fun Y3 gy3=>?_)
   refine VD.d0 ?_ ?_ rfl ?_
   ·have m1:=gy3.1
    exact zM
   ·simp only[dcAll,dcOk,wantD,List.cons_append,List.nil_append,true_and,and_true]
   have gY3 : Grow Y Y3:=gY2.trans gy3
   have gZ3 : Grow Z Y3:=gZY.trans gY3
   have hpe3:=hpex Y3 gY3
   have cY3:=cz.grow gZ3
   obtain⟨hd3,hd4⟩:=hD0 Y3 gZ3
   have hpd3:=hpdx Y3 gy3
   have b3':=by2.grow gY3
   have hgl : min i (grp T-1)<grp T:=by omega
   have hix:=own_idx (y:=Z2.next) (c:=grp T) hgl
   have hmin : (if ((grp T-1 : Nat) : Int)<(i : Int) then ((grp T-1 : Nat) : Int) else (i : Int))=((min i (grp T-1) : Nat) : Int):=by
    split<;>omega
   have hlen:=rwk_len be de (grp T) i
   have hget : ((rwk be de (grp T) i).map I)[min i (grp T-1)]?=some (I ((rwk be de (grp T) i).getD (min i (grp T-1)) 0)):=by
    rw[List.getElem?_map,getD_at (by omega)];simp[hlen,hgl]
   have hll : min i (grp T-1)<((rwk be de (grp T) i).map I).length:=by rw[List.length_map,hlen];exact hgl
   refine zS ?_
   have zf:=And.intro @mm_min<|And.intro @hmin<|And.intro @hix<|And.intro b3'.2<|And.intro @hget<|And.intro @hpe<|And.intro @hpe3<|And.intro cY3.2<|And.intro @hqdk<|And.intro @hd3<|And.intro @hpd<|And.intro @hpd3<|@hll
   refine V.dz ?_ ?_ rfl ?_
   ·exact zM
   ·simp only[dcAll,dcOk,wantD,List.cons_append,List.nil_append,true_and,and_true]
   refine V.heap (fun V=>Grow Z2 V∧Bx V Z2.next ((rwk be de (grp T) (i+1)).map I) 3) ⟨?_,?_⟩ ?_
   ·have:=gy.trans gY3
    exact zW
   ·have e : (rwk be de (grp T) (i+1)).map I=((rwk be de (grp T) i).map I).set (min i (grp T-1)) (I (W ((rwk be de (grp T) i).getD (min i (grp T-1)) 0+W (be[i]-de[i])))):=by
     simp only[rwk,List.map_set,getD_at hli',getD_at hlD2]
    rw[e]
    have lb:=b3'.1
    exact zB
   rintro V' ⟨gv,bv⟩
   refine zS ?_
   refine V.l0 ?_
   refine V.nil (Or.inl ⟨rfl,be.length-(i+1),by omega,?_⟩)
   refine⟨i+1,_,_,by omega,rfl,rfl,gv,bv,?_,zF,zK⟩
   have hlz : i<(T.Rt.zip (be.zip de)).length:=by rw[List.length_zip,List.length_zip];omega
   have hzz : (T.Rt.zip (be.zip de))[i]=(T.Rt[i],(be[i],de[i])):=by rw[List.getElem_zip,List.getElem_zip]
   have ecd : cdr T.Rt be de (i+1)↔cdr T.Rt be de i∧0≤be[i]∧(dd be[i] T.Rt[i]).1≤de[i]∧de[i]≤(dd be[i] T.Rt[i]).2:=by
    unfold cdr
    rw[tk1 hlz,hzz]
    constructor
    ·intro hh
     exact⟨fun q hq=>hh q (List.mem_append_left _ hq),hh _ (List.mem_append_right _ (List.mem_singleton.2 rfl))⟩
    ·rintro⟨h1,h2⟩ q hq
     rcases List.mem_append.1 hq with hq|hq
     ·exact h1 q hq
     ·rw[List.mem_singleton.1 hq];exact h2
   rw[ecd]
   constructor
   ·rintro⟨⟨k1,k2⟩,k3⟩
    exact⟨(hp2.1 k1).1,(hp2.1 k1).2,k2,k3⟩
   ·rintro⟨k1,k2,k3,k4⟩
    exact⟨⟨hp2.2 ⟨k1,k2⟩,k3⟩,k4⟩
  ·have ei : i=be.length:=by omega
   subst ei
   refine V.exit ?_
   refine zX ?_
   refine V.nil (Or.inr ⟨by simp,?_⟩)
   refine zX ?_
   have hgc : p2↔cn T X k∧cd T.Rt be de:=by
    rw[hp2]
    constructor
    ·rintro⟨k1,k2⟩
     refine⟨k1,(cdr_all (by omega) ?_).1 k2⟩
     intro n hn
     rw[← hbe] at hn
     rcases List.mem_cons.1 hn with rfl|hn
     ·have:=v6 _ (List.getElem_mem hlt')
      have h2:=q3.2 (T.B[k],X.B[k]) (List.mem_iff_getElem.2 ⟨k,by rw[List.length_zip];omega,List.getElem_zip ..⟩)
      have:=this.1
      simp only at h2
      omega
     ·exact hnn k k1 n hn
    ·rintro⟨k1,k2⟩
     refine⟨k1,(cdr_all (by omega) ?_).2 k2⟩
     intro n hn
     rw[← hbe] at hn
     rcases List.mem_cons.1 hn with rfl|hn
     ·have:=v6 _ (List.getElem_mem hlt')
      have h2:=q3.2 (T.B[k],X.B[k]) (List.mem_iff_getElem.2 ⟨k,by rw[List.length_zip];omega,List.getElem_zip ..⟩)
      have:=this.1
      simp only at h2
      omega
     ·exact hnn k k1 n hn
   have hwf : ∀ g,g<(X.M[k]).length→W ((X.M[k]).getD g 0)=(X.M[k]).getD g 0:=by
    intro g hg
    rw[getD_at hg]
    have h2:=hM3 (T.N[g],(X.M[k])[g]) (List.mem_iff_getElem.2 ⟨g,by rw[List.length_zip];omega,List.getElem_zip ..⟩)
    have h3:=v8 _ (List.getElem_mem (show g<T.N.length by omega))
    obtain⟨h4,_,h5⟩:=h3
    simp only at h2
    exact wrap_wf (by omega) (by omega)
   have hM0 : ∀ Y,Grow Z Y→yload1 Y qm=some xm∧RI Y xm X.M[k]:=fun Y g=>hqmx Y g
   have er : rw X (k+1)=adk (rwk be de (grp T) be.length) X.M[k] (grp T):=by
    have e1 : rw X (k+1)=nxt be de X.M[k]:=by
     simp only[rw,getD_at lB,getD_nest lD,getD_nest lM,hbe,hde]
    have e2:=ad_nx (be:=be) (de:=de) (mo:=X.M[k]) (by omega) hwf
    have e3 : (X.M[k]).length=grp T:=by omega
    rw[e3] at e2
    rw[e1,← e2]
   clear hqmx
   generalize hmo : X.M[k]=mo at *
   generalize hro : rwk be de (grp T) be.length=ro at *
   have lro : ro.length=grp T:=by rw[← hro];exact rwk_len _ _ _ _
   have lmo : mo.length=grp T:=by omega
   refine zS ?_
   refine V.l0 ?_
   refine zS ?_
   refine V.re [(2,.pointer (some ⟨H.next,0,none⟩)),(3,.pointer (some ⟨H.next+1,0,none⟩)),(6,s),(7,.bool (decide p2)),(8,I (grp T-1 : Nat)),(9,I k),(11,.slice (some ⟨Z2.next,0,none⟩) (grp T) (grp T)),(14,I 0)] (N:=138) zF zK ?_
   clear hF hA
   intro t hF hA
   simp only[Kn,and_true] at hA
   refine V.loop (fun z t m Y=>∃ (g : Nat) (p3 : Prop) (dp3 : Decidable p3),g≤grp T∧z=grp T-g∧m=[]∧Grow Z2 Y∧Bx Y Z2.next ((adk ro mo g).map I) 3∧(p3↔(cn T X k∧cd T.Rt be de)∧∀ j,j<g→0≤(adk ro mo (grp T)).getD j 0)∧Full 138 t∧Kn [(2,.pointer (some ⟨H.next,0,none⟩)),(3,.pointer (some ⟨H.next+1,0,none⟩)),(6,s),(7,.bool (decide p3)),(8,I (grp T-1 : Nat)),(9,I k),(11,.slice (some ⟨Z2.next,0,none⟩) (grp T) (grp T)),(14,I g)] t) (grp T) ?_ ?_
   ·exact⟨0,p2,dp2,by omega,by omega,rfl,gy,by2,⟨fun hh=>⟨hgc.1 hh,fun j hj=>absurd hj (by omega)⟩,fun hh=>hgc.2 hh.1⟩,zF,zK⟩
   clear hF hA
   rintro z t m Y ⟨g,p3,dp3,hg3,rfl,rfl,gy3,by3,hp3,hF,hA⟩
   simp only[Kn,and_true] at hA
   have gZ3 : Grow Z Y:=g02.trans gy3
   have bY:=bz.grow gZ3
   have cY:=cz.grow gZ3
   refine zS ?_
   refine V.run ?_
   have zf:=bY.2
   refine VI.sz 2 ?_
   simp only[ds]
   refine VI.callA rfl (f34_ok (hz.grow gZ3)) zA (fun Y4 gy4=>?_)
   have by4:=by3.grow gy4
   have cY4:=cY.grow gy4
   refine VI.l0 ?_
   refine zS ?_
   refine V.condP zP (fun hlg=>?_) (fun hlg=>?_)
   ·have hlg' : g<grp T:=by omega
    obtain⟨hm1,hm2⟩:=hM0 Y4 (gZ3.trans gy4)
    obtain⟨pm2,hpm2,hpm2x⟩:=hm2.at (k:=g) (by omega)
    have hpm3:=hpm2x Y4 (.refl _)
    have hix:=own_idx (y:=Z2.next) (c:=grp T) hlg'
    have hal:=adk_len ro mo g
    have hget : ((adk ro mo g).map I)[g]?=some (I ((adk ro mo g).getD g 0)):=by
     rw[List.getElem?_map,getD_at (by omega)];simp[hal,lro,hlg']
    have hll : g<((adk ro mo g).map I).length:=by rw[List.length_map,hal,lro];exact hlg'
    refine zS ?_
    have zf:=And.intro @hix<|And.intro by4.2<|And.intro @hget<|And.intro cY4.2<|And.intro @hqmk<|And.intro @hm1<|And.intro @hpm2<|And.intro @hpm3<|@hll
    refine V.dz ?_ ?_ rfl ?_
    ·exact zM
    ·simp only[dcAll,dcOk,wantD,List.cons_append,List.nil_append,true_and,and_true]
    refine V.heap (fun V=>Grow Z2 V∧Bx V Z2.next ((adk ro mo (g+1)).map I) 3) ⟨?_,?_⟩ ?_
    ·have:=gy3.trans gy4
     exact zW
    ·have e : (adk ro mo (g+1)).map I=((adk ro mo g).map I).set g (I (W ((adk ro mo g).getD g 0+mo[g]))):=by
      simp only[adk,List.map_set,getD_at (show g<mo.length by omega)]
     rw[e]
     have lb:=by4.1
     exact zB
    rintro V' ⟨gv,bv⟩
    have hget2 : ((adk ro mo (g+1)).map I)[g]?=some (I ((adk ro mo (g+1)).getD g 0)):=by
     rw[List.getElem?_map,getD_at (by rw[adk_len];omega)];simp[adk_len,lro,hlg']
    have efin : (adk ro mo (grp T)).getD g 0=(adk ro mo (g+1)).getD g 0:=by
     rw[adk_at _ (by omega),adk_at _ (by omega),if_pos hlg',if_pos (by omega)]
    refine zS ?_
    have zf:=And.intro @hix<|And.intro bv.2<|@hget2
    refine V.lz ?_
    refine zS ?_
    refine V.l0 ?_
    refine V.nil (Or.inl ⟨rfl,grp T-(g+1),by omega,?_⟩)
    refine⟨g+1,_,_,by omega,rfl,rfl,gv,bv,?_,zF,zK⟩
    rw[← efin]
    constructor
    ·rintro⟨k1,k2⟩
     refine⟨(hp3.1 k1).1,fun j hj=>?_⟩
     by_cases hjg : j<g
     ·exact (hp3.1 k1).2 j hjg
     ·have : j=g:=by omega
      subst this;exact k2
    ·rintro⟨k1,k2⟩
     exact⟨hp3.2 ⟨k1,fun j hj=>k2 j (by omega)⟩,k2 g (by omega)⟩
   ·have eg : g=grp T:=by omega
    subst eg
    refine V.exit ?_
    refine zX ?_
    refine V.nil (Or.inr ⟨by simp,?_⟩)
    refine zX ?_
    have by5:=by3.grow gy4
    have gZ4 : Grow Z Y4:=gZ3.trans gy4
    have ly : (adk ro mo (grp T)).length=grp T:=by rw[adk_len,lro]
    have hrow4 : RI Y4 (.slice (some ⟨Z2.next,0,none⟩) (grp T) (grp T)) (rw X (k+1)):=by
     rw[er]
     have h5 : Sl Y4 (.slice (some ⟨Z2.next,0,none⟩) (grp T) (grp T)) ((adk ro mo (grp T)).map I):=
      .at by5.1 by5.2 (Nat.le_refl _) (by rw[List.length_map,ly]) (by show 0+grp T≤((adk ro mo (grp T)).map I).length;rw[List.length_map,ly];omega) (fun j x hx=>by rw[Nat.zero_add];exact (arr_get _ _).trans hx)
     exact h5
    have hfr : From RI H1.next Y4 (.slice (some ⟨Z2.next,0,none⟩) (grp T) (grp T)) (rw X (k+1)):=⟨hrow4,fun i hi=>by simp only[blkN,Option.some.injEq] at hi;have:=hg.1;omega⟩
    have os4:=os.keep (ri.from _) gZ4
    have hsep : SepN s (.slice (some ⟨Z2.next,0,none⟩) (grp T) (grp T)):=os.sepNew (b:=Z2.next) (by omega) (fun i hi=>by simp only[blkN,Option.some.injEq] at hi;omega)
    obtain⟨w',Z5,f1,f2,f3,f4,f5,f6⟩:=OwN.pushB (H0:=H1) (e:=26) (ri.from _) (bytes:=24) (Nat.le_trans hg.1 gZ4.1) os4 hfr hsep (by rw[szs_len];omega) (by rw[szs_len];omega)
    refine zS ?_
    have zf:=@f1
    refine V.lz ?_
    refine zS ?_
    refine V.l0 ?_
    refine V.nil (Or.inl ⟨rfl,T.B.length-(k+1),by omega,?_⟩)
    refine⟨k+1,w',p3,dp3,by omega,rfl,rfl,f3.grow (hg.trans gZ4) (Nat.le_refl _),?_,?_,zF,zK⟩
    ·rw[szs_s];exact f2
    ·rw[hp3]
     simp only[cn,getD_at lB,getD_nest lD,hbe,hde]
     rw[er]
     constructor
     ·rintro⟨k1,k2⟩
      refine⟨k1,fun n hn=>?_⟩
      obtain⟨j,hj,rfl⟩:=List.mem_iff_getElem.1 hn
      have:=k2 j (by omega)
      rw[getD_at hj] at this
      exact this
     ·rintro⟨k1,k2⟩
      refine⟨k1,fun j hj=>?_⟩
      rw[getD_at (by omega)]
      exact k2 _ (List.getElem_mem _)
 ·have ek : k=T.B.length:=by omega
  subst ek
  refine V.exit ?_
  refine zX ?_
  refine V.nil (Or.inr ⟨by simp,?_⟩)
  refine zX ?_
  refine zS ?_
  refine V.l0 ?_
  refine zS ?_
  refine V.ret (V.rets rfl (Lv.retF (by simp +contextual (disch:=first|omega|simp only[nx];omega) only[D1,cells_alloc_at,cells_alloc_ne,cells_set_at,cells_set_ne,yres,yres1,yresL,qA,qB,qC,D5,hF,hA,↓reduceIte,qD,qE];rfl) ?_))
  refine⟨g1.trans hg,s,H1,g1.1,?_,os⟩
  rw[decide_eq_decide.2 hp]
theorem f28_ok {H : Heap} {c b r n f e d o : Value} {T : Tb} {X : Tr} (h : TV H c b r n T) (hx : XV H f e d o X) (hft : fit T) (hv : val T) (hh : hld T X) : F Try.prog 28 ⟨[.agg ⟨[c,b,r,n]⟩,.agg ⟨[f,e,d,o]⟩]⟩ H (fun w Y=>Grow H Y∧∃ s,w=.tuple ⟨[s,.bool (decide (cn T X T.B.length))]⟩∧Nest RI Y s (szs X (T.B.length+1))):=
 F.mono (f28_own h hx hft hv hh) (fun _ _ ⟨g,s,_,_,h1,h2⟩=>⟨g,s,h1,h2.nest.weak (fun _ _ h=>h.1)⟩)
end Go.Xe.TFX
