/- Truths that are picked: the program of the statements. Conditions: none. -/
import Derived.Test.YtbbdafmehaohkaaZz
-- MOD TF
namespace Go.Xe.TFX
open Go Go.Xe Go.Proofs
open Nat renaming reduceLeDiff → qA, reduceSub → qB, reduceAdd → qC, reduceEqDiff → qD, reduceLT → qE
open Int renaming reduceNegSucc → qF, reduceEq → qG
open Go.Xe.V renaming seq → sA, block → sB, scope → sC, skip → sD, close → sE
open Go.Xe renaming pth → P
open Go.Xe.Flw
set_option maxRecDepth 100000
set_option maxHeartbeats 3200000
set_option linter.unusedSimpArgs false
noncomputable def d54 : FCode:=(.seq (.run (.go (.box 25 (tm 0)) (P 2)::
.go (.alloc 29 [(.slice none 0 0),(.slice none 0 0),(.slice none 0 0),(.slice none 0 0)]) (P 4)::
[])) (.seq (.run (.go (.alloc 29 [(.slice none 0 0),(.slice none 0 0),(.slice none 0 0),(.slice none 0 0)]) (P 5)::
[])) (.seq (.seq (.run (.go (.move (.con (.int .i64 (.ofNat 0)))) (P 6)::
[])) (.block 0 (.loop (.seq (.seq (.run (.go (.move (tm 6)) (P 14)::
.go (.loadN 4 (tm 2)) (P 15)::
.go (.call (.con (.func (.func 34) ⟨[]⟩ ⟨[]⟩)) [tm 15]) (P 16)::
.go (.bin .lss 3 (tm 14) (tm 16)) (P 17)::
[])) (.cond (tm 17) .skip (.exit 0))) (.seq (.block 1 (.draw 17 (.go (.fieldAddr 0 (tm 5)) (P 20)::
.go (.load1 (tm 20)) (P 21)::
.go (.fieldAddr 0 (tm 2)) (P 22)::
.go (.load1 (tm 22)) (P 23)::
.go (.indexAddr none 1 (tm 23) (.con (.int .i64 (.ofNat 0)))) (P 24)::
.go (.load1 (tm 24)) (P 25)::
.go (.move (tm 6)) (P 26)::
.go (.indexAddr none 2 (tm 25) (tm 26)) (P 27)::
.go (.loadN 2 (tm 27)) (P 28)::
.go (.move (tm 1)) (P 29)::
.go (.move (tm 6)) (P 30)::
.go (.call (.con (.func (.func 92) ⟨[]⟩ ⟨[]⟩)) [(tm 29),(tm 30)]) (P 31)::
.go (.call (.con (.func (.func 91) ⟨[]⟩ ⟨[]⟩)) [(tm 28),(tm 31)]) (P 32)::
.go (.buildSlice 3 1 [(.int .i64 (.ofNat 0))] [(0,1,(tm 32))]) (P 33)::
.go (.append 3 1 8 (tm 21) (tm 33)) (P 34)::
.go (.fieldAddr 0 (tm 5)) (P 35)::
.un (.store 1 (tm 35) (tm 34))::
[]) [.ok,.rd none (.load1 (tm 20)) (some (P 21)) [12,13,14],.ok,.rd none (.load1 (tm 22)) (some (P 23)) [12],.ok,.rd none (.load1 (tm 24)) (some (P 25)) [12],.ok,.ok,.rd none (.loadN 2 (tm 27)) (some (P 28)) [12],.ok,.ok,.ok,.ok,.ok,.ok,.ok,.ok])) (.run (.go (.move (tm 6)) (P 18)::
.go (.bin .add 3 (tm 18) (.con (.int .i64 (.ofNat 1)))) (P 19)::
.go (.move (tm 19)) (P 6)::
[]))))))) (.seq (.seq (.run (.go (.move (.con (.int .i64 (.ofNat 0)))) (P 7)::
[])) (.block 2 (.loop (.seq (.seq (.run (.go (.move (tm 7)) (P 36)::
.go (.fieldAddr 1 (tm 2)) (P 37)::
.go (.load1 (tm 37)) (P 38)::
.go (.len 0 (tm 38)) (P 39)::
.go (.bin .lss 3 (tm 36) (tm 39)) (P 40)::
[])) (.cond (tm 40) .skip (.exit 2))) (.seq (.block 3 (.seq (.draw 16 (.go (.fieldAddr 1 (tm 5)) (P 43)::
.go (.load1 (tm 43)) (P 44)::
.go (.fieldAddr 1 (tm 2)) (P 45)::
.go (.load1 (tm 45)) (P 46)::
.go (.move (tm 7)) (P 47)::
.go (.indexAddr none 2 (tm 46) (tm 47)) (P 48)::
.go (.loadN 2 (tm 48)) (P 49)::
.go (.move (tm 1)) (P 50)::
.go (.move (tm 7)) (P 51)::
.go (.bin .add 3 (tm 51) (.con (.int .i64 (.ofNat 4)))) (P 52)::
.go (.call (.con (.func (.func 92) ⟨[]⟩ ⟨[]⟩)) [(tm 50),(tm 52)]) (P 53)::
.go (.call (.con (.func (.func 91) ⟨[]⟩ ⟨[]⟩)) [(tm 49),(tm 53)]) (P 54)::
.go (.buildSlice 3 1 [(.int .i64 (.ofNat 0))] [(0,1,(tm 54))]) (P 55)::
.go (.append 3 1 8 (tm 44) (tm 55)) (P 56)::
.go (.fieldAddr 1 (tm 5)) (P 57)::
.un (.store 1 (tm 57) (tm 56))::
[]) [.ok,.rd none (.load1 (tm 43)) (some (P 44)) [11,12,13],.ok,.rd none (.load1 (tm 45)) (some (P 46)) [11],.ok,.ok,.rd none (.loadN 2 (tm 48)) (some (P 49)) [11],.ok,.ok,.ok,.ok,.ok,.ok,.ok,.ok,.ok]) (.seq (.draw 16 (.go (.fieldAddr 2 (tm 5)) (P 58)::
.go (.load1 (tm 58)) (P 59)::
.go (.loadN 4 (tm 2)) (P 60)::
.go (.call (.con (.func (.func 34) ⟨[]⟩ ⟨[]⟩)) [tm 60]) (P 61)::
.go (.bin .add 3 (tm 61) (.con (.int .i64 (.ofNat 1)))) (P 62)::
.go (.makeSlice 3 1 8 [(.int .i64 (.ofNat 0))] (tm 62) (tm 62)) (P 63)::
.go (.buildSlice 26 1 [(.slice none 0 0)] [(0,1,(tm 63))]) (P 64)::
.go (.append 26 1 24 (tm 59) (tm 64)) (P 65)::
.go (.fieldAddr 3 (tm 5)) (P 66)::
.go (.load1 (tm 66)) (P 67)::
.go (.buildSlice 26 1 [(.slice none 0 0)] [(0,1,(.con (.slice none 0 0)))]) (P 68)::
.go (.append 26 1 24 (tm 67) (tm 68)) (P 69)::
.go (.fieldAddr 2 (tm 5)) (P 70)::
.un (.store 1 (tm 70) (tm 65))::
.go (.fieldAddr 3 (tm 5)) (P 71)::
.un (.store 1 (tm 71) (tm 69))::
[]) [.ok,.rd none (.load1 (tm 58)) (some (P 59)) [4],.ok,.ok,.ok,.nw none (some (P 63)) 5 true,.nw none (some (P 64)) 6 true,.ok,.ok,.rd none (.load1 (tm 66)) (some (P 67)) [0,4],.nw none (some (P 68)) 10 true,.ok,.ok,.ok,.ok,.ok]) (.seq (.seq (.run (.go (.move (.con (.int .i64 (.ofNat 0)))) (P 8)::
[])) (.block 4 (.loop (.seq (.seq (.run (.go (.move (tm 8)) (P 72)::
.go (.loadN 4 (tm 2)) (P 73)::
.go (.call (.con (.func (.func 34) ⟨[]⟩ ⟨[]⟩)) [tm 73]) (P 74)::
.go (.bin .lss 3 (tm 72) (tm 74)) (P 75)::
[])) (.cond (tm 75) .skip (.exit 4))) (.seq (.block 5 (.draw 25 (.go (.fieldAddr 3 (tm 5)) (P 78)::
.go (.load1 (tm 78)) (P 79)::
.go (.move (tm 7)) (P 80)::
.go (.fieldAddr 3 (tm 5)) (P 81)::
.go (.load1 (tm 81)) (P 82)::
.go (.move (tm 7)) (P 83)::
.go (.indexAddr none 1 (tm 82) (tm 83)) (P 84)::
.go (.load1 (tm 84)) (P 85)::
.go (.fieldAddr 3 (tm 2)) (P 86)::
.go (.load1 (tm 86)) (P 87)::
.go (.move (tm 8)) (P 88)::
.go (.indexAddr none 2 (tm 87) (tm 88)) (P 89)::
.go (.loadN 2 (tm 89)) (P 90)::
.go (.move (tm 1)) (P 91)::
.go (.move (tm 7)) (P 92)::
.go (.bin .mul 3 (.con (.int .i64 (.ofNat 3))) (tm 92)) (P 93)::
.go (.move (tm 8)) (P 94)::
.go (.bin .add 3 (tm 93) (tm 94)) (P 95)::
.go (.bin .add 3 (tm 95) (.con (.int .i64 (.ofNat 7)))) (P 96)::
.go (.call (.con (.func (.func 92) ⟨[]⟩ ⟨[]⟩)) [(tm 91),(tm 96)]) (P 97)::
.go (.call (.con (.func (.func 91) ⟨[]⟩ ⟨[]⟩)) [(tm 90),(tm 97)]) (P 98)::
.go (.buildSlice 3 1 [(.int .i64 (.ofNat 0))] [(0,1,(tm 98))]) (P 99)::
.go (.append 3 1 8 (tm 85) (tm 99)) (P 100)::
.go (.indexAddr none 1 (tm 79) (tm 80)) (P 101)::
.un (.store 1 (tm 101) (tm 100))::
[]) [.ok,.rd none (.load1 (tm 78)) (some (P 79)) [20,21,22,23],.ok,.ok,.rd none (.load1 (tm 81)) (some (P 82)) [20,21,22],.ok,.ok,.rd none (.load1 (tm 84)) (some (P 85)) [20,21,22],.ok,.rd none (.load1 (tm 86)) (some (P 87)) [20],.ok,.ok,.rd none (.loadN 2 (tm 89)) (some (P 90)) [20],.ok,.ok,.ok,.ok,.ok,.ok,.ok,.ok,.ok,.ok,.ok,.ok])) (.run (.go (.move (tm 8)) (P 76)::
.go (.bin .add 3 (tm 76) (.con (.int .i64 (.ofNat 1)))) (P 77)::
.go (.move (tm 77)) (P 8)::
[]))))))) (.seq (.run (.go (.loadN 4 (tm 2)) (P 102)::
.go (.alloc 25 [(.slice none 0 0),(.slice none 0 0),(.slice none 0 0),(.slice none 0 0)]) (P 9)::
.un (.store 4 (tm 9) (tm 102))::
[])) (.seq (.draw 14 (.go (.fieldAddr 1 (tm 2)) (P 103)::
.go (.load1 (tm 103)) (P 104)::
.go (.move (tm 7)) (P 105)::
.go (.bin .add 3 (tm 105) (.con (.int .i64 (.ofNat 1)))) (P 106)::
.go (.slice 62 2 (tm 104) none (some (tm 106))) (P 107)::
.go (.fieldAddr 0 (tm 2)) (P 108)::
.go (.load1 (tm 108)) (P 109)::
.go (.move (tm 7)) (P 110)::
.go (.bin .add 3 (tm 110) (.con (.int .i64 (.ofNat 2)))) (P 111)::
.go (.slice 23 1 (tm 109) none (some (tm 111))) (P 112)::
.go (.fieldAddr 1 (tm 9)) (P 113)::
.un (.store 1 (tm 113) (tm 107))::
.go (.fieldAddr 0 (tm 9)) (P 114)::
.un (.store 1 (tm 114) (tm 112))::
[]) [.ok,.ok,.ok,.ok,.ok,.ok,.rd none (.load1 (tm 108)) (some (P 109)) [12],.ok,.ok,.rd none (.slice 23 1 (tm 109) none (some (tm 111))) (some (P 112)) [12],.ok,.ok,.ok,.ok]) (.seq (.run (.go (.loadN 4 (tm 9)) (P 116)::
.go (.loadN 4 (tm 5)) (P 117)::
.go (.call (.con (.func (.func 28) ⟨[]⟩ ⟨[]⟩)) [(tm 116),(tm 117)]) (P 118)::
.go (.move (tm 118)) (P 115)::
.go (.extract (tm 115) 0) (P 119)::
.go (.extract (tm 115) 1) (P 120)::
.go (.move (tm 119)) (P 10)::
.go (.move (tm 120)) (P 11)::
[])) (.seq (.draw 12 (.go (.fieldAddr 1 (tm 5)) (P 121)::
.go (.load1 (tm 121)) (P 122)::
.go (.move (tm 7)) (P 123)::
.go (.indexAddr none 1 (tm 122) (tm 123)) (P 124)::
.go (.load1 (tm 124)) (P 125)::
.go (.buildSlice 3 1 [(.int .i64 (.ofNat 0))] [(0,1,(tm 125))]) (P 126)::
.go (.move (tm 10)) (P 127)::
.go (.move (tm 7)) (P 128)::
.go (.indexAddr none 1 (tm 127) (tm 128)) (P 129)::
.go (.load1 (tm 129)) (P 130)::
.go (.append 3 1 8 (tm 126) (tm 130)) (P 131)::
.go (.move (tm 131)) (P 12)::
[]) [.ok,.ok,.ok,.ok,.ok,.ok,.ok,.ok,.ok,.rd none (.load1 (tm 129)) (some (P 130)) [0],.ok,.ok]) (.seq (.run (.go (.move (.con (.int .i64 (.ofNat 0)))) (P 13)::
[])) (.block 6 (.loop (.seq (.seq (.run (.go (.move (tm 13)) (P 132)::
.go (.move (tm 12)) (P 133)::
.go (.len 0 (tm 133)) (P 134)::
.go (.bin .lss 3 (tm 132) (tm 134)) (P 135)::
[])) (.cond (tm 135) .skip (.exit 6))) (.seq (.block 7 (.draw 27 (.go (.fieldAddr 2 (tm 5)) (P 138)::
.go (.load1 (tm 138)) (P 139)::
.go (.move (tm 7)) (P 140)::
.go (.indexAddr none 1 (tm 139) (tm 140)) (P 141)::
.go (.load1 (tm 141)) (P 142)::
.go (.move (tm 13)) (P 143)::
.go (.move (tm 12)) (P 144)::
.go (.move (tm 13)) (P 145)::
.go (.indexAddr none 1 (tm 144) (tm 145)) (P 146)::
.go (.load1 (tm 146)) (P 147)::
.go (.mm true [(.con (.int .i64 (.ofNat 0))),(tm 147)]) (P 148)::
.go (.fieldAddr 2 (tm 2)) (P 149)::
.go (.load1 (tm 149)) (P 150)::
.go (.move (tm 13)) (P 151)::
.go (.indexAddr none 2 (tm 150) (tm 151)) (P 152)::
.go (.loadN 2 (tm 152)) (P 153)::
.go (.call (.con (.func (.func 71) ⟨[]⟩ ⟨[]⟩)) [(tm 148),(tm 153)]) (P 154)::
.go (.move (tm 1)) (P 155)::
.go (.move (tm 7)) (P 156)::
.go (.bin .mul 3 (.con (.int .i64 (.ofNat 5))) (tm 156)) (P 157)::
.go (.move (tm 13)) (P 158)::
.go (.bin .add 3 (tm 157) (tm 158)) (P 159)::
.go (.bin .add 3 (tm 159) (.con (.int .i64 (.ofNat 11)))) (P 160)::
.go (.call (.con (.func (.func 92) ⟨[]⟩ ⟨[]⟩)) [(tm 155),(tm 160)]) (P 161)::
.go (.call (.con (.func (.func 91) ⟨[]⟩ ⟨[]⟩)) [(tm 154),(tm 161)]) (P 162)::
.go (.indexAddr none 1 (tm 142) (tm 143)) (P 163)::
.un (.store 1 (tm 163) (tm 162))::
[]) [.ok,.rd none (.load1 (tm 138)) (some (P 139)) [17,24,25],.ok,.ok,.rd none (.load1 (tm 141)) (some (P 142)) [17,24,25],.ok,.ok,.ok,.ok,.ok,.ok,.ok,.ok,.ok,.ok,.ok,.ok,.ok,.ok,.ok,.ok,.ok,.ok,.ok,.ok,.ok,.ok])) (.run (.go (.move (tm 13)) (P 136)::
.go (.bin .add 3 (tm 136) (.con (.int .i64 (.ofNat 1)))) (P 137)::
.go (.move (tm 137)) (P 13)::
[]))))))))))))))) (.run (.go (.move (tm 7)) (P 41)::
.go (.bin .add 3 (tm 41) (.con (.int .i64 (.ofNat 1)))) (P 42)::
.go (.move (tm 42)) (P 7)::
[]))))))) (.seq (.run (.go (.loadN 4 (tm 5)) (P 164)::
.un (.store 4 (tm 4) (tm 164))::
[])) .ret)))))
theorem de54 : @compF Try.prog (Gl.none Try.prog) Try.f54 2=.mk d54 (mkTT 165) [(P 0),(P 1)] [.many (P 4) 4]:=by kernel_rfl
theorem dg54 : Try.prog.funcs[54]?=some Try.f54:=Try.func54
theorem do54 : okF Try.prog Try.f54=true:=by kernel_rfl
def il (l : List Int) : Nat×List Value:=(l.length,l.map I)
structure PXs (n0 : Nat) (col : Nat→Nat) (X : Heap) (f b d m : Value) (vd vm : List Value) (F B : List Int) (D M : List (List Int)) : Prop where
 f : Oc n0 col 0 X 3 f F.length (F.map I)
 b : Oc n0 col 1 X 3 b B.length (B.map I)
 d : Oc n0 col 2 X 26 d vd.length vd
 dr : Rws n0 col (fun k=>4+2*k) X 3 vd (D.map il)
 m : Oc n0 col 3 X 26 m vm.length vm
 mr : Rws n0 col (fun k=>5+2*k) X 3 vm (M.map il)
section
variable {n0 : Nat} {col : Nat→Nat} {X Y : Heap} {f b d m : Value} {vd vm : List Value} {F B : List Int} {D M : List (List Int)}
theorem PXs.grow (h : PXs n0 col X f b d m vd vm F B D M) (g : Grow X Y) : PXs n0 col Y f b d m vd vm F B D M:=⟨h.f.grow g,h.b.grow g,h.d.grow g,h.dr.grow g,h.m.grow g,h.mr.grow g⟩
theorem PXs.put (h : PXs n0 col X f b d m vd vm F B D M) {i : Nat} (hi : i<n0) (o : AO) : PXs n0 col (X.set i o) f b d m vd vm F B D M:=⟨h.f.put hi o,h.b.put hi o,h.d.put hi o,h.dr.put hi o,h.m.put hi o,h.mr.put hi o⟩
theorem PXs.sl (h : PXs n0 col X f b d m vd vm F B D M) : (∃ p n c,f=.slice p n c)∧(∃ p n c,b=.slice p n c)∧(∃ p n c,d=.slice p n c)∧∃ p n c,m=.slice p n c:=⟨h.f.slice,h.b.slice,h.d.slice,h.m.slice⟩
theorem oc_ri {c n0 : Nat} {v : Value} {l : List Int} {H0 : Heap} (h : Oc n0 col c X 3 v l.length (l.map I)) (hn : H0.next≤n0) : RI X v l:=by
 have h' : Oc n0 col c X 3 v (l.map I).length (l.map I):=by rw[List.length_map];exact h
 exact (h'.o hn).sl
theorem PXs.xv (h : PXs n0 col X f b d m vd vm F B D M) {H0 : Heap} (hn : H0.next≤n0) : XV X f b d m ⟨F,B,D,M⟩:=
 ⟨oc_ri h.f hn,oc_ri h.b hn,h.dr.nest il (h.d.o hn).sl (fun _ _ _ _ hx=>oc_ri hx hn),h.mr.nest il (h.m.o hn).sl (fun _ _ _ _ hx=>oc_ri hx hn)⟩
end
structure PS (H : Heap) (c b r n : Value) (col : Nat→Nat) (Y : Heap) (f b' d' m' : Value) (vd vm : List Value) (F B : List Int) (D M : List (List Int)) : Prop where
 g : Grow H Y
 nx : H.next+3≤Y.next
 t : Bx Y H.next [c,b,r,n] 25
 r : Bx Y (H.next+1) [.slice none 0 0,.slice none 0 0,.slice none 0 0,.slice none 0 0] 29
 x : Bx Y (H.next+2) [f,b',d',m'] 29
 p : PXs (H.next+3) col Y f b' d' m' vd vm F B D M
theorem PS.grow {H Y Z : Heap} {c b r n f b' d' m' : Value} {col : Nat→Nat} {vd vm : List Value} {F B : List Int} {D M : List (List Int)} (h : PS H c b r n col Y f b' d' m' vd vm F B D M) (g : Grow Y Z) : PS H c b r n col Z f b' d' m' vd vm F B D M:=⟨h.g.trans g,Nat.le_trans h.nx g.1,h.t.grow g,h.r.grow g,h.x.grow g,h.p.grow g⟩
theorem PXs.loc {n0 : Nat} {col : Nat→Nat} {X Y : Heap} {f b d m : Value} {vd vm : List Value} {F B : List Int} {D M : List (List Int)} (h : PXs n0 col X f b d m vd vm F B D M) (hn : X.next≤Y.next) (k : ∀ i,n0≤i→i<X.next→Y.get i=X.get i) : PXs n0 col Y f b d m vd vm F B D M:=⟨h.f.loc hn k,h.b.loc hn k,h.d.loc hn k,h.dr.loc hn k,h.m.loc hn k,h.mr.loc hn k⟩
def pFk (T : Tb) (ws : List Int) (k : Nat) : List Int:=(List.range k).map fun g=>pk ((T.C.getD 0 []).getD g (0,0)) (wd ws g)
theorem inb_ints {l : List Int} {b k : Nat} : (⟨l.map I⟩ : Array Value).toList.all (inBound b (k+1))=true:=by
 rw[List.all_eq_true]
 intro x hx
 obtain⟨n,_,rfl⟩:=List.mem_map.1 hx
 rfl
theorem il_set {A : List (List Int)} {l : List Int} {k : Nat} (hk : A.length=k) (v : Int) : ((A++[l]).map il).set k ((il l).1+1,(il l).2++[I v])=(A++[l++[v]]).map il:=by
 subst hk
 simp[List.set_append,il]
theorem il_at {A : List (List Int)} {l : List Int} {k : Nat} (hk : A.length=k) (h : k<((A++[l]).map il).length) : ((A++[l]).map il)[k]=il l:=by
 subst hk
 simp
def dri (T : Tb) (ws : List Int) (k : Nat) (al : List Int) (i : Nat) : List Int:=(List.range (grp T+1)).map fun j=>if j<i then pd T ws k al j else 0
theorem dri_0 (T : Tb) (ws : List Int) (k : Nat) (al : List Int) : dri T ws k al 0=List.replicate (grp T+1) 0:=by
 apply List.ext_getElem
 ·simp[dri]
 ·intro j h1 h2
  simp[dri]
theorem dri_e (T : Tb) (ws : List Int) (k : Nat) (al : List Int) : dri T ws k al (grp T+1)=(List.range (grp T+1)).map (pd T ws k al):=by
 unfold dri
 refine List.map_congr_left (fun j hj=>?_)
 rw[if_pos (List.mem_range.1 hj)]
theorem dri_s {T : Tb} {ws : List Int} {k i : Nat} {al : List Int} : dri T ws k al (i+1)=(dri T ws k al i).set i (pd T ws k al i):=by
 apply List.ext_getElem
 ·simp[dri]
 ·intro j h1 h2
  by_cases hj : j=i
  ·subst hj
   rw[List.getElem_set_self]
   simp[dri]
  ·rw[List.getElem_set_ne (Ne.symm hj)]
   simp only[dri,List.getElem_map,List.getElem_range]
   have e : (j<i+1)=(j<i):=by apply propext;omega
   simp only[e]
theorem il_put {A : List (List Int)} {l : List Int} {k i : Nat} (hk : A.length=k) (v : Int) : ((A++[l]).map il).set k ((il l).1,(il l).2.set i (I v))=(A++[l.set i v]).map il:=by
 subst hk
 simp[List.set_append,il,List.map_set]
theorem set_same {vs : List Value} {k : Nat} {x : Value} (h : vs[k]?=some x) : vs.set k x=vs:=by
 apply List.ext_getElem?
 intro j
 rw[List.getElem?_set]
 split
 ·rename_i e
  subst e
  split
  ·exact h.symm
  ·rename_i hh
   rw[List.getElem?_eq_none (by omega)]
 ·rfl
theorem f54_ok {H : Heap} {c b r n x : Value} {T : Tb} {ws : List Int} {A : Heap} (hR : Ro A) (hAc : Nest RS A c T.C) (hAb : RS A b T.B) (gA : Grow A H) (h : TV H c b r n T) (hw : WS H x ws) (hf : fit T) (hv : val T) : F Try.prog 54 ⟨[.agg ⟨[c,b,r,n]⟩,x]⟩ H (fun w X=>Grow H X∧∃ f' b' d' m',w=.agg ⟨[f',b',d',m']⟩∧LocP H.next X (fun Y=>XV Y f' b' d' m' (pT T ws))):=by
 have k1:=(sl1 h.c.isS).1
 have k2:=(sl1 (rp.sl h.b)).1
 have k3:=(sl1 (rp.sl h.r)).1
 have k4:=(sl1 (rp.sl h.n)).1
 have hf1:=hf.1
 have hf2:=hf.2
 have hv1:=hv.1
 have hvB:=hv.2.1
 have hvR:=hv.2.2.1
 have hvN:=hv.2.2.2.1
 have hbl:=h.b.len
 refine F.entryL rfl dg54 do54 de54 rfl (by kernel_rfl) ?_
 simp only[sets]
 refine V.re [(0,.agg ⟨[c,b,r,n]⟩),(1,x)] (N:=165) zE zY ?_
 intro t hF hA
 simp only[Kn,and_true] at hA
 refine zS ?_
 refine V.l0 ?_
 refine zS ?_
 refine V.l0 ?_
 refine V.heap (fun X=>Grow H X∧Bx X H.next [c,b,r,n] 25∧Bx X (H.next+1) [.slice none 0 0,.slice none 0 0,.slice none 0 0,.slice none 0 0] 29∧Bx X (H.next+2) [.slice none 0 0,.slice none 0 0,.slice none 0 0,.slice none 0 0] 29) ⟨?_,?_,?_,?_⟩ ?_
 ·exact zW
 ·exact zB
 ·exact zB
 ·exact zB
 rintro H1 ⟨g1,b1,r1,x1⟩
 have nx1:=x1.1
 refine zS ?_
 refine V.l0 ?_
 refine zS ?_
 refine V.loop (fun w t m X=>∃ (k : Nat) (col : Nat→Nat) (f : Value),k≤grp T∧w=grp T-k∧m=[]∧Grow H X∧H.next+3≤X.next∧Bx X H.next [c,b,r,n] 25∧Bx X (H.next+1) [.slice none 0 0,.slice none 0 0,.slice none 0 0,.slice none 0 0] 29∧Bx X (H.next+2) [f,.slice none 0 0,.slice none 0 0,.slice none 0 0] 29∧Oc (H.next+3) col 0 X 3 f (pFk T ws k).length ((pFk T ws k).map I)∧Full 165 t∧Kn [(1,x),(2,PT H.next),(4,PT (H.next+1)),(5,PT (H.next+2)),(6,I k)] t) (grp T) ?_ ?_
 ·exact⟨0,fun _=>0,_,by omega,by omega,rfl,g1,by omega,b1,r1,x1,.nil,zF,zK⟩
 clear hF hA
 rintro w t m X ⟨k,col,f,hk,rfl,rfl,hg,hnX,bX,rX,xX,of,hF,hA⟩
 simp only[Kn,and_true] at hA
 refine zS ?_
 refine V.run ?_
 have zf:=bX.2
 refine VI.sz 2 ?_
 simp only[ds]
 refine VI.callA rfl (f34_ok (h.grow hg)) zA (fun X1 gx1=>?_)
 refine VI.l0 ?_
 refine zS ?_
 refine V.condP zP (fun hlt=>?_) (fun hlt=>?_)
 ·have hk' : k<grp T:=by omega
  have hg1:=hg.trans gx1
  have bX1:=bX.grow gx1
  have xX1:=xX.grow gx1
  have of1:=of.grow gx1
  have hK : 0<T.C.length:=by omega
  have hrow : (T.C[0]).length=grp T:=(hv.2.2.2.2.1 _ (List.getElem_mem hK)).1
  have hkr : k<(T.C[0]).length:=by omega
  have hrg:=(hv.2.2.2.2.1 _ (List.getElem_mem hK)).2 _ (List.getElem_mem hkr)
  obtain⟨hr1,hr2,hr3⟩:=hrg
  obtain⟨p,y,hp,hy⟩:=h.c.at rp hK
  have hp0 : yindexAddr none 1 c (I 0)=some p:=hp .i64
  obtain⟨hy1,hy2⟩:=hy X1 hg1
  obtain⟨i,o,hq,hq2⟩:=hy2.at hkr
  obtain⟨hq3,_⟩:=hq2 X1 (.refl _)
  obtain⟨fp,fn,fc,rfl⟩:=of.slice
  have e0 : pk (T.C[0])[k] (wd ws k)=pk ((T.C.getD 0 []).getD k (0,0)) (wd ws k):=by rw[gd hK,gd hkr]
  refine zS ?_
  refine V.draw ?_
  have zf:=And.intro bX1.2<|And.intro xX1.2<|And.intro @hp0<|And.intro @hy1<|And.intro @hq<|@hq3
  refine VD.nz 9 ?_
  simp only[ds]
  have zf:=And.intro bX1.2<|And.intro xX1.2<|And.intro @hp0<|And.intro @hy1<|And.intro @hq<|@hq3
  refine VD.nz 2 ?_
  simp only[ds]
  refine VD.callA zA (f92_ok (hw.grow hg1) rfl) zA (fun X2 gx2=>?_)
  refine VD.callA zA (f91_ok hr2 (by omega) (by omega) (wd_bd hw.bd k) X2) zA (fun X3 gx3=>?_)
  have m2:=gx2.1
  have m3:=gx3.1
  have m1:=gx1.1
  have xX3:=(xX1.grow gx2).grow gx3
  have bX3:=(bX1.grow gx2).grow gx3
  have hlk : (pFk T ws k).length=k:=by simp[pFk]
  obtain⟨u,X4,a1,a2,a3,a4,a5,a6,pp,a7,a8⟩:=Oc.push (bytes:=8) (w:=1) (x:=[I (pk (T.C[0])[k] (wd ws k))]) (by decide) ((of1.grow gx2).grow gx3) (by omega) (by simp) rfl rfl (by rw[hlk];omega) (by rw[hlk];omega)
  subst a7
  have xX4:=a4.bx xX3 (by omega)
  have lx:=xX3.1
  have lx4:=xX4.1
  have xX2:=xX1.grow gx2
  have bX2:=bX1.grow gx2
  have bX4:=a4.bx bX3 (by omega)
  have hg2:=hg1.trans gx2
  have hg3:=hg2.trans gx3
  have hg4 : Grow H X4:=a4.grow hg3 (by omega)
  have y2:=(hy X2 hg2).1
  have y3:=(hy X3 hg3).1
  have y4:=(hy X4 hg4).1
  have q2:=(hq2 X2 gx2).1
  have q3:=(hq2 X3 (gx2.trans gx3)).1
  have lbX:=bX3.1
  have y3a:=fun o=>(hy (X3.alloc o) (hg3.alloc o)).1
  have q3a:=fun o=>(hq2 (X3.alloc o) ((gx2.trans gx3).alloc o)).1
  have vc:=(sl1 h.c.isS).2.2.1
  have vy:=(sl1 (rp.sl hy2)).2.2.1
  have zf:=And.intro @a1<|And.intro xX3.2<|xX4.2
  refine VD.dz ?_ ?_ rfl ?_
  ·exact zM
  ·simp only[dcAll,dcOk,wantD,List.cons_append,List.nil_append,true_and,and_true]
   have zf:=And.intro xX1.2<|And.intro xX2.2<|And.intro xX3.2<|And.intro xX4.2<|And.intro bX1.2<|And.intro bX2.2<|And.intro bX3.2<|And.intro bX4.2<|And.intro @hy1<|And.intro @y2<|And.intro @y3<|And.intro @y3a<|And.intro @y4<|And.intro @hq3<|And.intro @q2<|And.intro @q3<|@q3a
   exact⟨zR,zR,zR,zR⟩
  refine zS ?_
  refine V.l0 ?_
  refine V.nil (Or.inl ⟨rfl,grp T-(k+1),by omega,?_⟩)
  have efk : pFk T ws (k+1)=pFk T ws k++[pk (T.C[0])[k] (wd ws k)]:=by
   rw[e0]
   unfold pFk
   rw[List.range_succ,List.map_append]
   rfl
  refine⟨k+1,pnt col (X3.next+1) 0,_,hk',rfl,rfl,hg4.set (by omega) _,by simp only[Heap.next_set];omega,bX4.set (by omega) _,(a4.bx ((((rX.grow gx1).grow gx2).grow gx3)) (by omega)).set (by omega) _,⟨by simp only[Heap.next_set];exact lx4,cells_set _ _ _ _ _⟩,?_,zF,zK⟩
  rw[efk]
  have:=a2.put (i:=H.next+2) (by omega) (.cells ⟨[.slice (some ⟨pp,0,none⟩) ((pFk T ws k).length+1) ((pFk T ws k).length+1),.slice none 0 0,.slice none 0 0,.slice none 0 0]⟩ 29 true)
  simpa using this
 ·obtain rfl : k=grp T:=by omega
  have hg1:=hg.trans gx1
  have bX1:=bX.grow gx1
  have xX1:=xX.grow gx1
  have rX1:=rX.grow gx1
  have of1:=of.grow gx1
  have hn1:=gx1.1
  refine V.exit ?_
  refine zX ?_
  refine V.nil (Or.inr ⟨by simp,?_⟩)
  refine zX ?_
  clear hg bX xX rX of hlt hk
  have hfk : pFk T ws (grp T)=pF T ws:=rfl
  rw[hfk] at of1
  refine zS ?_
  refine V.l0 ?_
  refine zS ?_
  refine V.loop (fun w t m X=>∃ (k : Nat) (col : Nat→Nat) (f b' d' m' : Value) (vd vm : List Value),k≤T.B.length∧w=T.B.length-k∧m=[]∧Grow H X∧H.next+3≤X.next∧Bx X H.next [c,b,r,n] 25∧Bx X (H.next+1) [.slice none 0 0,.slice none 0 0,.slice none 0 0,.slice none 0 0] 29∧Bx X (H.next+2) [f,b',d',m'] 29∧PXs (H.next+3) col X f b' d' m' vd vm (pF T ws) (pB T ws k) (pD T ws k) (pM T ws k)∧Full 165 t∧Kn [(1,x),(2,PT H.next),(4,PT (H.next+1)),(5,PT (H.next+2)),(7,I k)] t) T.B.length ?_ ?_
  ·exact⟨0,col,f,_,_,_,[],[],by omega,by omega,rfl,hg1,by omega,bX1,rX1,xX1,⟨of1,.nil,.nil,⟨rfl,fun k x r hx=>by simp at hx⟩,.nil,⟨rfl,fun k x r hx=>by simp at hx⟩⟩,zF,zK⟩
  clear hF hA of1 xX1 bX1 rX1 hg1 gx1 hnX
  rintro w t m X ⟨k,col,f,b',d',m',vd,vm,hk,rfl,rfl,hg,hnX,bX,rX,xX,px,hF,hA⟩
  simp only[Kn,and_true] at hA
  refine zS ?_
  have zf:=And.intro bX.2<|@hbl
  refine V.lz ?_
  refine zS ?_
  refine V.condP zP (fun hlt=>?_) (fun hlt=>?_)
  ·have hk' : k<T.B.length:=by omega
   have hvl : vd.length=k:=by rw[px.dr.1,List.length_map,pD_len]
   have hml : vm.length=k:=by rw[px.mr.1,List.length_map];simp[pM]
   obtain⟨⟨fp,fn,fc,rfl⟩,⟨bp,bn,bc,rfl⟩,⟨dp,dn,dc,rfl⟩,⟨mp,mn,mc,rfl⟩⟩:=px.sl
   obtain⟨i,o,hq,hq2⟩:=h.b.at hk'
   obtain⟨hq3,_⟩:=hq2 X hg
   obtain⟨hr1,hr2,hr3⟩:=hv.2.2.2.2.2.1 _ (List.getElem_mem hk')
   have hlB : (pB T ws k).length=k:=by simp[pB]
   have lx:=xX.1
   have ew : W ((k : Int)+4)=((k+4 : Nat) : Int):=wrap_i64 (by omega) (by omega)
   have ew' : IntKind.i64.wrap ((k : Int)+4)=((k+4 : Nat) : Int):=ew
   refine zS ?_
   refine V.draw ?_
   have zf:=And.intro bX.2<|And.intro xX.2<|And.intro @hq<|And.intro @hq3<|@ew'
   refine VD.nz 9 ?_
   simp only[ds]
   have zf:=And.intro bX.2<|And.intro xX.2<|And.intro @hq<|And.intro @hq3<|@ew'
   refine VD.nz 1 ?_
   simp only[ds]
   refine VD.callA zA (f92_ok (hw.grow hg) rfl) zA (fun X2 gx2=>?_)
   refine VD.callA zA (f91_ok hr2 (by omega) (by omega) (wd_bd hw.bd (k+4)) X2) zA (fun X3 gx3=>?_)
   have m2:=gx2.1
   have m3:=gx3.1
   have hg2:=hg.trans gx2
   have hg3:=hg2.trans gx3
   have px3:=(px.grow gx2).grow gx3
   have xX2:=xX.grow gx2
   have xX3:=xX2.grow gx3
   have bX2:=bX.grow gx2
   have bX3:=bX2.grow gx3
   obtain⟨u,X4,a1,a2,a3,a4,a5,a6,pp,a7,a8⟩:=Oc.push (bytes:=8) (w:=1) (x:=[I (pb T ws k)]) (by decide) px3.b (by omega) (by simp) rfl rfl (by rw[hlB];omega) (by rw[hlB];omega)
   have epb : pk T.B[k] (wd ws (k+4))=pb T ws k:=by unfold pb;rw[gd hk']
   rw[epb]
   subst a7
   have xX4:=a4.bx xX3 (by omega)
   have bX4:=a4.bx bX3 (by omega)
   have rX4:=a4.bx ((rX.grow gx2).grow gx3) (by omega)
   have lx4:=xX4.1
   have hg4 : Grow H X4:=a4.grow hg3 (by omega)
   have q2:=(hq2 X2 hg2).1
   have q3:=(hq2 X3 hg3).1
   have q3a:=fun o=>(hq2 (X3.alloc o) (hg3.alloc o)).1
   have vc:=(sl1 (rp.sl h.b)).2.2.1
   have px4 : PXs (H.next+3) (pnt col (X3.next+1) 1) X4 (.slice fp fn fc) (.slice (some ⟨pp,0,none⟩) ((pB T ws k).length+1) ((pB T ws k).length+1)) (.slice dp dn dc) (.slice mp mn mc) vd vm (pF T ws) (pB T ws (k+1)) (pD T ws k) (pM T ws k):=by
    have eB : pB T ws (k+1)=pB T ws k++[pb T ws k]:=by unfold pB;rw[List.range_succ,List.map_append];rfl
    refine⟨px3.f.st a3 (by show ¬ (_=_);omega),?_,px3.d.st a3 (by show ¬ (_=_);omega),px3.dr.st a3 (fun j _=>by show ¬ (_=_);omega),px3.m.st a3 (by show ¬ (_=_);omega),px3.mr.st a3 (fun j _=>by show ¬ (_=_);omega)⟩
    rw[eB]
    simpa using a2
   have zf:=And.intro @a1<|And.intro xX3.2<|xX4.2
   refine VD.dz ?_ ?_ rfl ?_
   ·exact zM
   ·simp only[dcAll,dcOk,wantD,List.cons_append,List.nil_append,true_and,and_true]
    have zf:=And.intro xX.2<|And.intro xX2.2<|And.intro xX3.2<|And.intro xX4.2<|And.intro bX.2<|And.intro bX2.2<|And.intro bX3.2<|And.intro bX4.2<|And.intro @hq3<|And.intro @q2<|And.intro @q3<|@q3a
    exact⟨zR,zR,zR⟩
   refine V.heap (fun Y=>PS H c b r n (pnt col (X3.next+1) 1) Y (.slice fp fn fc) (.slice (some ⟨pp,0,none⟩) ((pB T ws k).length+1) ((pB T ws k).length+1)) (.slice dp dn dc) (.slice mp mn mc) vd vm (pF T ws) (pB T ws (k+1)) (pD T ws k) (pM T ws k)) ?_ ?_
   ·exact⟨hg4.set (by omega) _,by simp only[Heap.next_set];omega,bX4.set (by omega) _,rX4.set (by omega) _,⟨by simp only[Heap.next_set];exact lx4,cells_set _ _ _ _ _⟩,px4.put (by omega) _⟩
   clear a1 a2 a3 a4 a5 a6 a8 px4 px3 px xX xX2 xX3 xX4 bX bX2 bX3 bX4 rX rX4 lx lx4 q2 q3 q3a hq hq2 hq3 hg hg2 hg3 hg4 m2 m3 gx2 gx3 hnX
   generalize pnt col (X3.next+1) 1=col at *
   generalize Value.slice (some ⟨pp,0,none⟩) ((pB T ws k).length+1) ((pB T ws k).length+1)=b' at *
   rintro Y ps
   refine zS ?_
   refine V.re [(1,x),(2,PT H.next),(4,PT (H.next+1)),(5,PT (H.next+2)),(7,I k)] (N:=165) zF zK ?_
   clear hF hA
   intro t hF hA
   simp only[Kn,and_true] at hA
   have lx:=ps.x.1
   refine V.draw ?_
   have zf:=And.intro ps.t.2<|ps.x.2
   refine VD.nz 3 ?_
   simp only[ds]
   refine VD.callA zA (f34_ok (h.grow ps.g)) zA (fun Y2 gy2=>?_)
   have ps2:=ps.grow gy2
   have hy2:=gy2.1
   have mkr:=mk_row Y2 (grp T+1) (by omega)
   have ec : ((grp T+1 : Nat) : Int)=(grp T : Int)+1:=by omega
   rw[ec] at mkr
   obtain⟨Z,hZ⟩ : ∃ Z,Z=Y2.alloc (.cells ⟨(List.replicate (grp T+1) (0 : Int)).map I⟩ 3 true):=⟨_,rfl⟩
   rw[← hZ] at mkr
   have gZ : Grow Y2 Z:=by rw[hZ];exact (Grow.refl Y2).alloc _
   have nZ : Z.next=Y2.next+1:=by rw[hZ];rfl
   have rZ : Bx Z Y2.next ((List.replicate (grp T+1) (0 : Int)).map I) 3:=by rw[hZ];exact .new _ _ _
   have s3 : St (H.next+3) (fun _=>False) col Y2 (pnt col Y2.next (4+2*k)) Z:=⟨gZ.1,fun i hi=>pnt_ne (by omega),fun i hi _=>gZ.2 i hi⟩
   have p3 : PXs (H.next+3) (pnt col Y2.next (4+2*k)) Z (.slice fp fn fc) b' (.slice dp dn dc) (.slice mp mn mc) vd vm (pF T ws) (pB T ws (k+1)) (pD T ws k) (pM T ws k):=⟨ps2.p.f.st s3 id,ps2.p.b.st s3 id,ps2.p.d.st s3 id,ps2.p.dr.st s3 (fun _ _=>id),ps2.p.m.st s3 id,ps2.p.mr.st s3 (fun _ _=>id)⟩
   have hrow : Oc (H.next+3) (pnt col Y2.next (4+2*k)) (4+2*k) Z 3 (.slice (some ⟨Y2.next,0,none⟩) (grp T+1) (grp T+1)) (grp T+1) ((List.replicate (grp T+1) (0 : Int)).map I):=.inr ⟨Y2.next,by have:=ps2.nx;omega,rZ.1,pnt_at _ _,rfl,rZ.2⟩
   generalize hcol : pnt col Y2.next (4+2*k)=col3 at *
   have hnx2:=ps2.nx
   obtain⟨u1,Z4,a1,a2,a3,a4,a5,a6,p1,a7,a8⟩:=Oc.push (bytes:=24) (w:=1) (x:=[.slice (some ⟨Y2.next,0,none⟩) (grp T+1) (grp T+1)]) (by decide) p3.d (by omega) (by simp) rfl rfl (by omega) (by omega)
   generalize hcol4 : pnt col3 (Z.next+1) 2=col4 at *
   have hm4:=p3.m.st a3 (by show ¬ (_=_);omega)
   obtain⟨u2,Z5,c1,c2,c3,c4,c5,c6,p2,c7,c8⟩:=Oc.push (bytes:=24) (w:=1) (x:=[.slice none 0 0]) (by decide) hm4 (by omega) (by simp) rfl rfl (by omega) (by omega)
   generalize hcol5 : pnt col4 (Z4.next+1) 3=col5 at *
   subst a7 c7
   have x3:=ps2.x.grow gZ
   have x4:=a4.bx x3 (by omega)
   have x5:=c4.bx x4 (by omega)
   have t5:=c4.bx (a4.bx (ps2.t.grow gZ) (by omega)) (by omega)
   have r5:=c4.bx (a4.bx (ps2.r.grow gZ) (by omega)) (by omega)
   have lx3:=x3.1
   have lx4:=x4.1
   have lx5:=x5.1
   have g5 : Grow H Z5:=c4.grow (a4.grow (ps2.g.trans gZ) (by omega)) (by omega)
   have p5 : PXs (H.next+3) col5 Z5 (.slice fp fn fc) b' (.slice (some ⟨p1,0,none⟩) (vd.length+1) (vd.length+1)) (.slice (some ⟨p2,0,none⟩) (vm.length+1) (vm.length+1)) (vd++[.slice (some ⟨Y2.next,0,none⟩) (grp T+1) (grp T+1)]) (vm++[.slice none 0 0]) (pF T ws) (pB T ws (k+1)) (pD T ws k++[List.replicate (grp T+1) 0]) (pM T ws k++[[]]):=by
    refine⟨(p3.f.st a3 (by show ¬ (_=_);omega)).st c3 (by show ¬ (_=_);omega),(p3.b.st a3 (by show ¬ (_=_);omega)).st c3 (by show ¬ (_=_);omega),?_,?_,?_,?_⟩
    ·have:=a2.st c3 (by show ¬ (_=_);omega)
     simpa using this
    ·have hl : ((pD T ws k).map il).length=k:=by rw[List.length_map,pD_len]
     have:=(p3.dr.push (u:=.slice (some ⟨Y2.next,0,none⟩) (grp T+1) (grp T+1)) (m:=grp T+1) (cs':=(List.replicate (grp T+1) (0 : Int)).map I) (by rw[hl];exact hrow)).st a3 (fun j _=>by show ¬ (_=_);omega) |>.st c3 (fun j _=>by show ¬ (_=_);omega)
     have e : (pD T ws k++[List.replicate (grp T+1) 0]).map il=(pD T ws k).map il++[(grp T+1,(List.replicate (grp T+1) (0 : Int)).map I)]:=by simp[il]
     rw[e]
     exact this
    ·simpa using c2
    ·have:=((p3.mr.st a3 (fun j _=>by show ¬ (_=_);omega)).st c3 (fun j _=>by show ¬ (_=_);omega)).push (u:=.slice none 0 0) (m:=0) (cs':=[]) .nil
     have e : (pM T ws k++[[]]).map il=(pM T ws k).map il++[(0,[])]:=by simp[il]
     rw[e]
     exact this
   have zf:=And.intro @a1<|And.intro @c1<|And.intro x3.2<|And.intro x4.2<|And.intro x5.2<|@mkr
   refine VD.dz ?_ ?_ rfl ?_
   ·exact zM
   ·simp only[dcAll,dcOk,wantD,List.cons_append,List.nil_append,true_and,and_true]
    have zf:=And.intro ps.x.2<|And.intro ps2.x.2<|And.intro x3.2<|And.intro x4.2<|x5.2
    exact⟨zR,fun _=>⟨_,_,_,rfl,rfl,rfl,(by simp only[D5,hF,hA,↓reduceIte,qD,qE];simp[inBound];omega),fun _=>⟨_,_,_,rZ.2,inb_ints⟩⟩,fun _=>⟨_,_,_,rfl,rfl,rfl,(by simp only[D5,hF,hA,↓reduceIte,qD,qE];simp[inBound]),fun _=>⟨_,_,_,cells_alloc _ _ _ _,(by simp[inBound];omega)⟩⟩,zR,fun _=>⟨_,_,_,rfl,rfl,rfl,(by simp only[D5,hF,hA,↓reduceIte,qD,qE];simp[inBound]),fun _=>⟨_,_,_,cells_alloc _ _ _ _,(by first|exact An_inb|rfl)⟩⟩⟩
   refine V.heap (fun V=>PS H c b r n col5 V (.slice fp fn fc) b' (.slice (some ⟨p1,0,none⟩) (vd.length+1) (vd.length+1)) (.slice (some ⟨p2,0,none⟩) (vm.length+1) (vm.length+1)) (vd++[.slice (some ⟨Y2.next,0,none⟩) (grp T+1) (grp T+1)]) (vm++[.slice none 0 0]) (pF T ws) (pB T ws (k+1)) (pD T ws k++[List.replicate (grp T+1) 0]) (pM T ws k++[[]])) ?_ ?_
   ·exact⟨(g5.set (by omega) _).set (by omega) _,by simp only[Heap.next_set];omega,(t5.set (by omega) _).set (by omega) _,(r5.set (by omega) _).set (by omega) _,⟨by simp only[Heap.next_set];exact lx5,cells_set _ _ _ _ _⟩,(p5.put (by omega) _).put (by omega) _⟩
   have el1 : (vd++[Value.slice (some ⟨Y2.next,0,none⟩) (grp T+1) (grp T+1)]).length=k+1:=by simp[hvl]
   have el2 : (vm++[Value.slice none 0 0]).length=k+1:=by simp[hml]
   have hd1 : ∃ a b c,Value.slice (some ⟨p1,0,none⟩) (vd.length+1) (vd.length+1)=.slice a b c:=⟨_,_,_,rfl⟩
   have hd2 : ∃ a b c,Value.slice (some ⟨p2,0,none⟩) (vm.length+1) (vm.length+1)=.slice a b c:=⟨_,_,_,rfl⟩
   clear a1 a2 a3 a4 a5 a6 a8 c1 c2 c3 c4 c5 c6 c8 p5 x3 x4 x5 t5 r5 g5 lx3 lx4 lx5 hm4 hrow p3 s3 rZ gZ mkr lx
   clear hcol hcol4 hcol5 ps2 ps gy2
   generalize (vd++[Value.slice (some ⟨Y2.next,0,none⟩) (grp T+1) (grp T+1)])=vd at *
   generalize (vm++[Value.slice none 0 0])=vm at *
   generalize Value.slice (some ⟨p1,0,none⟩) _ _=d' at *
   generalize Value.slice (some ⟨p2,0,none⟩) _ _=m' at *
   rintro Y0 ps
   refine zS ?_
   refine V.l0 ?_
   refine zS ?_
   refine V.loop (fun w t m Y0=>∃ (g : Nat) (col : Nat→Nat) (m' : Value) (vm : List Value),g≤grp T∧w=grp T-g∧m=[]∧vm.length=k+1∧PS H c b r n col Y0 (.slice fp fn fc) b' d' m' vd vm (pF T ws) (pB T ws (k+1)) (pD T ws k++[List.replicate (grp T+1) 0]) (pM T ws k++[(List.range g).map (pm T ws k)])∧Full 165 t∧Kn [(1,x),(2,PT H.next),(4,PT (H.next+1)),(5,PT (H.next+2)),(7,I k),(8,I g)] t) (grp T) ?_ ?_
   ·exact⟨0,col5,m',vm,by omega,by omega,rfl,el2,ps,zF,zK⟩
   clear hF hA ps el2 hd2
   rintro w t mm Y0 ⟨g,col,m',vm,hgl,rfl,rfl,el2,ps,hF,hA⟩
   simp only[Kn,and_true] at hA
   refine zS ?_
   refine V.run ?_
   have zf:=ps.t.2
   refine VI.sz 2 ?_
   simp only[ds]
   refine VI.callA rfl (f34_ok (h.grow ps.g)) zA (fun Y1 gv1=>?_)
   refine VI.l0 ?_
   refine zS ?_
   refine V.condP zP (fun hlt2=>?_) (fun hlt2=>?_)
   ·have hg' : g<grp T:=by omega
    have ps1:=ps.grow gv1
    have hN:=hv.2.2.2.2.2.2.2 _ (List.getElem_mem (show g<T.N.length by omega))
    obtain⟨hn1,hn2,hn3⟩:=hN
    have hlM : (pM T ws k).length=k:=by simp[pM]
    rcases ps1.p.m with⟨_,h0,_⟩|⟨mb,mb1,mb2,mb3,rfl,mb5⟩
    ·omega
    obtain⟨y,hvx,hoc⟩:=ps1.p.mr.at (k:=k) (by rw[List.length_map];simp[hlM])
    rw[il_at hlM] at hoc
    obtain⟨yp,yn,yc,rfl⟩:=hoc.slice
    have ix : yindexAddr none 1 (.slice (some ⟨mb,0,none⟩) vm.length vm.length) (I (k : Nat))=some (.pointer (some ⟨mb,k,none⟩)):=own_idx (by omega)
    obtain⟨i,o,hq,hq2⟩:=h.n.at (show g<T.N.length by omega)
    obtain⟨hq3,_⟩:=hq2 Y1 ps1.g
    have lx:=ps1.x.1
    refine zS ?_
    refine V.draw ?_
    have zf:=And.intro ps1.t.2<|And.intro ps1.x.2<|And.intro @ix<|And.intro @mb5<|And.intro @hvx<|And.intro @hq<|@hq3
    refine VD.nz 9 ?_
    simp only[ds]
    have zf:=And.intro ps1.t.2<|And.intro ps1.x.2<|And.intro @ix<|And.intro @mb5<|And.intro @hvx<|And.intro @hq<|@hq3
    refine VD.nz 9 ?_
    simp only[ds]
    have zf:=And.intro ps1.t.2<|And.intro ps1.x.2<|And.intro @ix<|And.intro @mb5<|And.intro @hvx<|And.intro @hq<|@hq3
    refine VD.nz 1 ?_
    simp only[ds]
    refine VD.callA zA (f92_ok (hw.grow ps1.g) (a:=3*(k : Int)+g+7) (k:=3*k+g+7) (by omega)) zA (fun Y3 gv2=>?_)
    refine VD.callA zA (f91_ok hn2 (by omega) (by omega) (wd_bd hw.bd (3*k+g+7)) Y3) zA (fun Y4 gv3=>?_)
    have epm : pk T.N[g] (wd ws (3*k+g+7))=pm T ws k g:=by unfold pm;rw[gd (by omega)]
    rw[epm]
    have ps4:=(ps1.grow gv2).grow gv3
    have ps3:=ps1.grow gv2
    have m2:=gv2.1
    have m3:=gv3.1
    have hoc4:=(hoc.grow gv2).grow gv3
    have hln:=ps1.nx
    obtain⟨u,Z4,a1,a2,a3,a4,a5,a6,p1,a7,a8⟩:=Oc.push (bytes:=8) (w:=1) (x:=[I (pm T ws k g)]) (by decide) hoc4 (by omega) (by simp[il]) rfl rfl (by simp[il];omega) (by simp[il];omega)
    generalize hcol4 : pnt col (Y4.next+1) (5+2*k)=col4 at *
    subst a7
    have x4:=a4.bx ps4.x (by omega)
    have t4:=a4.bx ps4.t (by omega)
    have r4:=a4.bx ps4.r (by omega)
    have lx4:=x4.1
    have g4 : Grow H Z4:=a4.grow ps4.g (by omega)
    have hm4:=ps4.p.m.st a3 (by show ¬ (_=_);omega)
    obtain⟨mb',e1,_,lmb,hmb4,hset,s5⟩:=hm4.set1 (i:=k) (x:=.slice (some ⟨p1,0,none⟩) ((il ((List.range g).map (pm T ws k))).1+1) ((il ((List.range g).map (pm T ws k))).1+1)) (by omega)
    cases e1
    have mbA:=(gv2.cells mb2).trans mb5
    have mbB:=(gv3.cells (Nat.lt_of_lt_of_le mb2 m2)).trans mbA
    have nq2:=(hq2 Y3 ps3.g).1
    have nq3:=(hq2 Y4 ps4.g).1
    have nq3a:=fun o=>(hq2 (Y4.alloc o) (ps4.g.alloc o)).1
    have nq4:=(hq2 Z4 g4).1
    have vc:=(sl1 (rp.sl h.n)).2.2.1
    have lvm : k<vm.length:=by omega
    have zf:=And.intro @a1<|And.intro ps4.x.2<|And.intro x4.2<|And.intro @hmb4<|And.intro @lvm<|@ix
    refine VD.dz ?_ ?_ rfl ?_
    ·exact zM
    ·simp only[dcAll,dcOk,wantD,List.cons_append,List.nil_append,true_and,and_true]
     have zf:=And.intro ps1.x.2<|And.intro ps3.x.2<|And.intro ps4.x.2<|And.intro x4.2<|And.intro @mb5<|And.intro @mbA<|And.intro @mbB<|And.intro @hmb4<|And.intro @hvx<|And.intro ps1.t.2<|And.intro ps3.t.2<|And.intro ps4.t.2<|And.intro t4.2<|And.intro @hq3<|And.intro @nq2<|And.intro @nq3<|And.intro @nq3a<|@nq4
     exact⟨zR,zR,zR,zR,zR⟩
    refine zS ?_
    refine V.l0 ?_
    refine V.nil (Or.inl ⟨rfl,grp T-(g+1),by omega,?_⟩)
    have eM : (List.range (g+1)).map (pm T ws k)=(List.range g).map (pm T ws k)++[pm T ws k g]:=by rw[List.range_succ,List.map_append];rfl
    refine⟨g+1,col4,_,vm.set k (.slice (some ⟨p1,0,none⟩) ((il ((List.range g).map (pm T ws k))).1+1) ((il ((List.range g).map (pm T ws k))).1+1)),hg',rfl,rfl,by rw[List.length_set];exact el2,⟨g4.set (by omega) _,by simp only[Heap.next_set];omega,t4.set (by omega) _,r4.set (by omega) _,x4.set (by omega) _,?_⟩,zF,zK⟩
    rw[eM]
    refine⟨(ps4.p.f.st a3 (by show ¬ (_=_);omega)).st s5 (by show ¬ (_=_);omega),(ps4.p.b.st a3 (by show ¬ (_=_);omega)).st s5 (by show ¬ (_=_);omega),(ps4.p.d.st a3 (by show ¬ (_=_);omega)).st s5 (by show ¬ (_=_);omega),(ps4.p.dr.st a3 (fun j _=>by show ¬ (_=_);omega)).st s5 (fun j _=>by show ¬ (_=_);omega),?_,?_⟩
    ·rw[List.length_set];exact hset
    ·have:=(ps4.p.mr.upd (k:=k) a3 (fun j hj=>by show ¬ (_=_);omega) a2).st s5 (fun j _=>by show ¬ (_=_);omega)
     rw[il_set hlM] at this
     exact this
   ·obtain rfl : g=grp T:=by omega
    have ps1:=ps.grow gv1
    refine V.exit ?_
    refine zX ?_
    refine V.nil (Or.inr ⟨by simp,?_⟩)
    refine zX ?_
    clear ps gv1 hlt2
    have eM : pM T ws k++[(List.range (grp T)).map (pm T ws k)]=pM T ws (k+1):=by unfold pM;rw[List.range_succ,List.map_append];rfl
    rw[eM] at ps1
    have lt1:=ps1.t.1
    have lx1:=ps1.x.1
    refine zS ?_
    have zf:=And.intro ps1.t.2<|And.intro @k1<|And.intro @k2<|And.intro @k3<|@k4
    refine V.lz ?_
    refine V.heap (fun Z=>Grow Y1 Z∧Bx Z Y1.next [c,b,r,n] 25) ⟨?_,?_⟩ ?_
    ·exact zW
    ·exact zB
    rintro Z ⟨gz,z9⟩
    have psz:=ps1.grow gz
    have nz:=z9.1
    have ny1:=ps1.nx
    obtain⟨sB,hsB⟩:=Sw.take (P:=Try.prog) (e:=62) hAb hR (k:=k+1) (by rw[List.length_map];omega)
    obtain⟨sC,hsC⟩:=Nest.take (P:=Try.prog) (e:=23) rp hAc hR (k:=k+2) (by omega)
    have hsB1:=hsB Z (gA.trans psz.g)
    have hsC1:=hsC Z (gA.trans psz.g)
    obtain⟨q1,q2,q3,rfl⟩:=hsB1.2.isS
    obtain⟨w1,w2,w3,rfl⟩:=hsC1.2.isS
    have ek1 : ((k+1 : Nat) : Int)=(k : Int)+1:=by omega
    have ek2 : ((k+2 : Nat) : Int)=(k : Int)+2:=by omega
    rw[ek1] at hsB
    rw[ek2] at hsC
    have hB1:=(hsB Z (gA.trans psz.g)).1
    have hC1:=(hsC Z (gA.trans psz.g)).1
    have gO : ∀ o,Grow Y1 (Z.set Y1.next o):=fun o=>gz.set (Nat.le_refl _) o
    have gO2 : ∀ o o',Grow Y1 ((Z.set Y1.next o).set Y1.next o'):=fun o o'=>(gO o).set (Nat.le_refl _) o'
    have hC2:=fun o=>(hsC (Z.set Y1.next o) (gA.trans (ps1.g.trans (gO o)))).1
    have hC3:=fun o o'=>(hsC ((Z.set Y1.next o).set Y1.next o') (gA.trans (ps1.g.trans (gO2 o o')))).1
    have vc:=(sl1 h.c.isS).2.2.1
    have vb:=(sl1 (rp.sl h.b)).2.2.1
    have lzt:=psz.t.1
    refine zS ?_
    have zf:=And.intro psz.t.2<|And.intro z9.2<|And.intro @hB1<|@hC1
    refine V.dz ?_ ?_ rfl ?_
    ·exact zM
    ·simp only[dcAll,dcOk,wantD,List.cons_append,List.nil_append,true_and,and_true]
     have zf:=And.intro psz.t.2<|And.intro @hC1<|And.intro @hC2<|@hC3
     exact⟨zR,zR⟩
    refine V.heap (fun Z'=>Grow Y1 Z'∧Bx Z' Y1.next [.slice w1 w2 w3,.slice q1 q2 q3,r,n] 25) ⟨?_,?_⟩ ?_
    ·exact gO2 _ _
    ·exact⟨by simp only[Heap.next_set];exact nz,cells_set _ _ _ _ _⟩
    clear hB1 hC1 hC2 hC3 hsB1 hsC1 gO gO2 psz z9 nz gz lzt
    rintro Z ⟨gz,z9⟩
    have psz:=ps1.grow gz
    have tv : TV Z (.slice w1 w2 w3) (.slice q1 q2 q3) r n (sT T k):=⟨(hsC Z (gA.trans psz.g)).2,by have:=(hsB Z (gA.trans psz.g)).2;rw[← List.map_take] at this;exact this,(h.grow psz.g).r,(h.grow psz.g).n⟩
    have hxv:=psz.p.xv (H0:=H) (by omega)
    have hhl : hld (sT T k) (pX T ws (pD T ws k++[List.replicate (grp T+1) 0]) (k+1)):=hld_p hv (sT_grp T k) hk' rfl rfl rfl (by simp[pD_len]) (fun row hr=>by
     rcases List.mem_append.1 hr with hr|hr
     ·exact pD_row T ws k row hr
     ·rw[List.mem_singleton.1 hr];simp)
    refine zS ?_
    refine V.run ?_
    have zf:=And.intro z9.2<|psz.x.2
    refine VI.sz 2 ?_
    simp only[ds]
    refine VI.callR zA (f28_ok tv hxv (sT_fit hf k) (sT_val hv hk') hhl) zA (fun w0 Z1 ⟨gz1,s,hw0,hs0⟩=>?_)
    subst hw0
    refine VI.l0 ?_
    clear hsB hsC z9 tv hxv hhl
    have ps2:=psz.grow gz1
    clear psz gz
    have hlB : (sT T k).B.length=k+1:=by show (T.B.take (k+1)).length=_;rw[List.length_take];omega
    rw[hlB] at hs0
    have erw : (szs (pX T ws (pD T ws k++[List.replicate (grp T+1) 0]) (k+1)) (k+1+1)).getD k []=rw (pX T ws (pD T ws k) k) k:=by
     unfold szs
     rw[getD_map_range (by omega)]
     exact rw_p (by omega) (fun j hj=>by rw[getD_app (by rw[pD_len];exact hj)])
    have hsl : k<(szs (pX T ws (pD T ws k++[List.replicate (grp T+1) 0]) (k+1)) (k+1+1)).length:=by rw[szs_len];omega
    change Nest RI Z1 s (szs (pX T ws (pD T ws k++[List.replicate (grp T+1) 0]) (k+1)) (k+1+1)) at hs0
    obtain⟨sp,sy,hsp,hsy⟩:=hs0.at ri hsl
    rw[gd hsl] at erw
    rw[erw] at hsy
    have hsy1:=hsy Z1 (.refl _)
    have hsp':=hsp .i64
    obtain⟨bb1,bb2⟩:=rw_bd (ws:=ws) hf hv (c:=k) (by omega)
    rcases ps2.p.b with⟨_,h0,_⟩|⟨bbk,mb1,mb2,mb3,rfl,mb5⟩
    ·simp[pB] at h0
    have hpl : (pB T ws (k+1)).length=k+1:=by simp[pB]
    have ix : yindexAddr none 1 (.slice (some ⟨bbk,0,none⟩) (pB T ws (k+1)).length (pB T ws (k+1)).length) (I (k : Nat))=some (.pointer (some ⟨bbk,k,none⟩)):=own_idx (by omega)
    have hvb : ((pB T ws (k+1)).map I)[k]?=some (I (pb T ws k)):=by simp[pB]
    have gA1 : Grow Z1 (Z1.alloc (.cells ⟨[I (pb T ws k)]⟩ 3 true)):=(Grow.refl _).alloc _
    obtain⟨all,Z2,a1,a2,a3,a4⟩:=Ow.append (H0:=Z1) (e:=3) (bytes:=8) (s:=.slice (some ⟨Z1.next,0,none⟩) 1 1) (l:=[I (pb T ws k)]) (r:=(rw (pX T ws (pD T ws k) k) k).map I) gA1 (.inr ⟨Z1.next,Nat.le_refl _,Nat.lt_succ_self _,rfl,cells_alloc _ _ _ _⟩) (hsy _ gA1).2 (by rw[List.all_eq_true];intro z hz;obtain⟨_,_,rfl⟩:=List.mem_map.1 hz;rfl) (by rw[List.length_map,bb1];simp;omega) (by rw[List.length_map,bb1];simp;omega)
    have lx2:=ps2.x.1
    have hsyA:=fun o=>(hsy (Z1.alloc o) ((Grow.refl Z1).alloc o)).1
    have hsy2:=(hsy Z2 a3).1
    have vsy:=(sl1 (ri.sl hsy1.2)).2.2.1
    refine zS ?_
    have zf:=And.intro ps2.x.2<|And.intro @ix<|And.intro @mb5<|And.intro @hvb<|And.intro @hsp'<|And.intro hsy1.1<|And.intro @hsyA<|@a1
    refine V.dz ?_ ?_ rfl ?_
    ·have:=a4.1
     simp only[Heap.next_alloc] at this
     exact zM
    ·simp only[dcAll,dcOk,wantD,List.cons_append,List.nil_append,true_and,and_true]
     have zf:=And.intro hsy1.1<|And.intro @hsyA<|@hsy2
     exact zR
    have ps3:=ps2.grow a3
    have eall : [I (pb T ws k)]++(rw (pX T ws (pD T ws k) k) k).map I=(pA T ws (pD T ws k) k).map I:=rfl
    rw[eall] at a2
    have hal : (pA T ws (pD T ws k) k).length=grp T+1:=by simp[pA,bb1]
    have hA' : ∀ i,-pbd k≤(pA T ws (pD T ws k) k).getD i 0∧(pA T ws (pD T ws k) k).getD i 0≤pbd k:=by
     intro i
     cases i with
     | zero=>
      have:=pb_in hv ws (c:=k) (by omega)
      have:=pbd_0 k
      show -pbd k≤pb T ws k∧pb T ws k≤pbd k
      omega
     | succ i=>exact bb2 i
    generalize hpA : pA T ws (pD T ws k) k=al at *
    rcases a2 with⟨_,h0⟩|⟨ab,ab1,ab2,hall,ab3⟩
    ·have:=congrArg List.length h0
     rw[List.length_map,List.length_nil] at this
     omega
    have hb4:=pbd_4 (show k<4 by omega)
    have ny3:=ps3.nx
    have n2:=ps2.nx
    have s6 : St (H.next+3) (fun _=>False) col Z1 (pnt col ab 1) Z2:=⟨a3.1,fun i hi=>pnt_ne (by omega),fun i hi _=>a3.2 i hi⟩
    have hml2 : (al.map I).length=grp T+1:=by rw[List.length_map,hal]
    have oall : Oc (H.next+3) (pnt col ab 1) 1 Z2 3 all (grp T+1) (al.map I):=.inr ⟨ab,by omega,ab2,pnt_at _ _,by rw[hall,hml2],ab3⟩
    have ps4 : PS H c b r n (pnt col ab 1) Z2 (.slice fp fn fc) (.slice (some ⟨bbk,0,none⟩) (pB T ws (k+1)).length (pB T ws (k+1)).length) d' m' vd vm (pF T ws) (pB T ws (k+1)) (pD T ws k++[List.replicate (grp T+1) 0]) (pM T ws (k+1)):=⟨ps3.g,ps3.nx,ps3.t,ps3.r,ps3.x,⟨ps2.p.f.st s6 id,ps2.p.b.st s6 id,ps2.p.d.st s6 id,ps2.p.dr.st s6 (fun _ _=>id),ps2.p.m.st s6 id,ps2.p.mr.st s6 (fun _ _=>id)⟩⟩
    clear a1 a3 a4 gA1 hsyA hsy2 hsy1 hsy hs0 ix hvb mb5 mb1 mb2 mb3 ps2 ps3 s6 lx2 ab1 ab2 ab3 ny3 n2 hall hml2
    generalize pnt col ab 1=col at *
    generalize Value.slice (some ⟨bbk,0,none⟩) (pB T ws (k+1)).length (pB T ws (k+1)).length=b' at *
    rw[← dri_0 T ws k al] at ps4
    refine zS ?_
    refine V.l0 ?_
    refine zS ?_
    refine V.loop (fun w t m Y0=>∃ (i : Nat),i≤grp T+1∧w=grp T+1-i∧m=[]∧Oc (H.next+3) col 1 Y0 3 all (grp T+1) (al.map I)∧PS H c b r n col Y0 (.slice fp fn fc) b' d' m' vd vm (pF T ws) (pB T ws (k+1)) (pD T ws k++[dri T ws k al i]) (pM T ws (k+1))∧Full 165 t∧Kn [(1,x),(2,PT H.next),(4,PT (H.next+1)),(5,PT (H.next+2)),(7,I k),(12,all),(13,I i)] t) (grp T+1) ?_ ?_
    ·exact⟨0,by omega,by omega,rfl,oall,ps4,zF,zK⟩
    clear hF hA ps4 oall
    rintro w t mm Y0 ⟨i,hil,rfl,rfl,oall,ps,hF,hA⟩
    simp only[Kn,and_true] at hA
    have hlen:=oall.len Y0
    refine zS ?_
    have zf:=@hlen
    refine V.lz ?_
    refine zS ?_
    refine V.condP zP (fun hlt2=>?_) (fun hlt2=>?_)
    ·have hi : i<grp T+1:=by omega
     have hlD : (pD T ws k).length=k:=pD_len ..
     have hdl : vd.length=k+1:=el1
     have hrw : (dri T ws k al i).length=grp T+1:=by simp[dri]
     rcases ps.p.d with⟨_,h0,_⟩|⟨mb,mb1,mb2,mb3,rfl,mb5⟩
     ·omega
     obtain⟨y,hvx,hoc⟩:=ps.p.dr.at (k:=k) (by rw[List.length_map];simp[hlD])
     rw[il_at hlD] at hoc
     rcases oall with⟨_,h0,_⟩|⟨ab,ab1,ab2,ab3,rfl,ab5⟩
     ·omega
     have oall : Oc (H.next+3) col 1 Y0 3 (.slice (some ⟨ab,0,none⟩) (grp T+1) (grp T+1)) (grp T+1) (al.map I):=.inr ⟨ab,ab1,ab2,ab3,rfl,ab5⟩
     have ix1 : yindexAddr none 1 (.slice (some ⟨mb,0,none⟩) vd.length vd.length) (I (k : Nat))=some (.pointer (some ⟨mb,k,none⟩)):=own_idx (by omega)
     have ix2 : yindexAddr none 1 (.slice (some ⟨ab,0,none⟩) (grp T+1) (grp T+1)) (I (i : Nat))=some (.pointer (some ⟨ab,i,none⟩)):=own_idx (by omega)
     have hva : (al.map I)[i]?=some (I (al.getD i 0)):=by
      rw[List.getElem?_map,List.getElem?_eq_getElem (by omega),gd (by omega)]
      rfl
     obtain⟨ri',ro',hq,hq2⟩:=h.r.at (show i<T.Rt.length by omega)
     obtain⟨hq3,_⟩:=hq2 Y0 ps.g
     have lx:=ps.x.1
     have hAi:=hA' i
     have hpd:=pd_in hv ws k (all:=al) (show i<T.Rt.length by omega) (show pbd k≤1000000 by omega) hAi
     obtain⟨z1,z2,z3,_⟩:=dd_in (r:=T.Rt[i]) (x:=max 0 (al.getD i 0)) (hv.2.2.2.2.2.2.1 _ (List.getElem_mem (show i<T.Rt.length by omega))) (by omega) (by omega)
     have emx : (if al.getD i 0 > 0 then al.getD i 0 else 0)=max 0 (al.getD i 0):=by split<;>omega
     refine zS ?_
     refine V.draw ?_
     have zf:=And.intro ps.t.2<|And.intro ps.x.2<|And.intro @ix1<|And.intro @ix2<|And.intro @mb5<|And.intro @hvx<|And.intro @ab5<|And.intro @hva<|And.intro @hq<|And.intro @hq3<|@emx
     refine VD.nz 9 ?_
     simp only[ds]
     have zf:=And.intro ps.t.2<|And.intro ps.x.2<|And.intro @ix1<|And.intro @ix2<|And.intro @mb5<|And.intro @hvx<|And.intro @ab5<|And.intro @hva<|And.intro @hq<|And.intro @hq3<|@emx
     refine VD.nz 7 ?_
     simp only[ds]
     refine VD.callA zA (f71_ok (max 0 (al.getD i 0)) T.Rt[i] Y0) zA (fun Y1' gy1'=>?_)
     have psy1:=ps.grow gy1'
     refine VD.n0 6 ?_
     simp only[ds]
     refine VD.callA zA (f92_ok (hw.grow psy1.g) (a:=5*(k : Int)+i+11) (k:=5*k+i+11) (by omega)) zA (fun Y3 gy3=>?_)
     refine VD.callA zA (f91_ok z2 (by omega) (by omega) (wd_bd hw.bd (5*k+i+11)) Y3) zA (fun Y4 gy4=>?_)
     have psy3:=psy1.grow gy3
     have psy4:=psy3.grow gy4
     have m1:=gy1'.1
     have m3:=gy3.1
     have m4:=gy4.1
     have gy34:=(gy1'.trans gy3).trans gy4
     have epd : pk (dd (max 0 (al.getD i 0)) T.Rt[i]) (wd ws (5*k+i+11))=pd T ws k al i:=by unfold pd;rw[gd (l:=T.Rt) (by omega)]
     rw[epd]
     have hoc4:=hoc.grow gy34
     obtain⟨yb,rfl,yb1,yb2,yb3,yset,s7⟩:=hoc4.set1 (i:=i) (x:=I (pd T ws k al i)) (by simp[il,hrw];omega)
     have eln : (il (dri T ws k al i)).1=grp T+1:=hrw
     have ix3 : yindexAddr none 1 (.slice (some ⟨yb,0,none⟩) (il (dri T ws k al i)).1 (il (dri T ws k al i)).1) (I (i : Nat))=some (.pointer (some ⟨yb,i,none⟩)):=own_idx (by omega)
     have lil : i<(il (dri T ws k al i)).2.length:=by simp[il,hrw];omega
     have mbA:=(gy1'.cells mb2).trans mb5
     have mbB:=(gy3.cells (Nat.lt_of_lt_of_le mb2 m1)).trans mbA
     have mbC:=(gy4.cells (Nat.lt_of_lt_of_le mb2 (Nat.le_trans m1 m3))).trans mbB
     have zf:=And.intro @ix3<|And.intro @yb3<|@lil
     refine VD.dz ?_ ?_ rfl ?_
     ·exact zM
     ·simp only[dcAll,dcOk,wantD,List.cons_append,List.nil_append,true_and,and_true]
      have zf:=And.intro ps.x.2<|And.intro psy1.x.2<|And.intro psy3.x.2<|And.intro psy4.x.2<|And.intro @mb5<|And.intro @mbA<|And.intro @mbB<|And.intro @mbC<|@hvx
      exact⟨zR,zR⟩
     refine zS ?_
     refine V.l0 ?_
     refine V.nil (Or.inl ⟨rfl,grp T+1-(i+1),by omega,?_⟩)
     have hup:=psy4.p.dr.upd (k:=k) s7 (fun j hj=>by show ¬ (_=_);omega) yset
     rw[il_put hlD,← dri_s,set_same hvx] at hup
     have ybx : yb≠H.next∧yb≠H.next+1∧yb≠H.next+2:=⟨by omega,by omega,by omega⟩
     refine⟨i+1,hi,rfl,rfl,((((oall.grow gy1').grow gy3).grow gy4).st s7 (by show ¬ (_=_);omega)),⟨psy4.g.set (by omega) _,by simp only[Heap.next_set];exact psy4.nx,psy4.t.set (Ne.symm ybx.1) _,psy4.r.set (Ne.symm ybx.2.1) _,psy4.x.set (Ne.symm ybx.2.2) _,psy4.p.f.st s7 (by show ¬ (_=_);omega),psy4.p.b.st s7 (by show ¬ (_=_);omega),psy4.p.d.st s7 (by show ¬ (_=_);omega),hup,psy4.p.m.st s7 (by show ¬ (_=_);omega),psy4.p.mr.st s7 (fun j _=>by show ¬ (_=_);omega)⟩,zF,zK⟩
    ·obtain rfl : i=grp T+1:=by omega
     refine V.exit ?_
     refine zX ?_
     refine V.nil (Or.inr ⟨by simp,?_⟩)
     refine zX ?_
     have eD : pD T ws k++[dri T ws k al (grp T+1)]=pD T ws (k+1):=by
      rw[dri_e,← hpA]
      rfl
     rw[eD] at ps
     refine zS ?_
     refine V.l0 ?_
     refine V.nil (Or.inl ⟨rfl,T.B.length-(k+1),by omega,?_⟩)
     exact⟨k+1,col,_,_,_,_,vd,vm,hk',rfl,rfl,ps.g,ps.nx,ps.t,ps.r,ps.x,ps.p,zF,zK⟩
  ·obtain rfl : k=T.B.length:=by omega
   have lx:=xX.1
   have lr:=rX.1
   obtain⟨⟨fp,fn,fc,rfl⟩,⟨bp,bn,bc,rfl⟩,⟨dp,dn,dc,rfl⟩,⟨mp,mn,mc,rfl⟩⟩:=px.sl
   refine V.exit ?_
   refine zX ?_
   refine V.nil (Or.inr ⟨by simp,?_⟩)
   refine zX ?_
   refine zS ?_
   have zf:=And.intro xX.2<|rX.2
   refine V.lz ?_
   refine zS ?_
   refine V.ret (V.rets rfl (Lv.retF (by simp +contextual (disch:=first|omega|simp only[nx];omega) only[D1,cells_alloc_at,cells_alloc_ne,cells_set_at,cells_set_ne,yres,yres1,yresL,qA,qB,qC,D5,hF,hA,↓reduceIte,qD,qE,cells_set];rfl) ?_))
   refine⟨hg.set (by omega) _,_,_,_,_,rfl,?_⟩
   exact fun Y hn hk=>((px.put (by omega) _).loc hn (fun i hi hx=>hk i (by omega) hx)).xv (H0:=H) (by omega)
end Go.Xe.TFX
