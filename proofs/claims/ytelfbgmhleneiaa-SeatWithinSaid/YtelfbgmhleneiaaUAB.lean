/- What the functions of the layer seat come to: SeatWithin. Conditions: none. -/
import Derived.Test.YtelfbgmhleneiaaUAA
-- MOD TV
namespace Go.Xe.TVX
open Go Go.Xe Go.Proofs
open Nat renaming reduceLeDiff → qA, reduceSub → qB, reduceAdd → qC, reduceEqDiff → qD, reduceLT → qE
open Int renaming reduceNegSucc → qF, reduceEq → qG
open Go.Xe.V renaming seq → sA, block → sB, scope → sC, skip → sD, close → sE
open Go.Xe renaming pth → P
open Go.Xe.Sea
set_option maxRecDepth 100000
set_option maxHeartbeats 3200000
set_option linter.unusedSimpArgs false
noncomputable def d52 : FCode:=(.seq (.run (.go (.move (.con (.int .i64 (.ofNat 0)))) (P 4)::
[])) (.seq (.seq (.run (.go (.move (tm 0)) (P 5)::
.go (.len 0 (tm 5)) (P 6)::
.go (.bin .eql 3 (tm 6) (.con (.int .i64 (.ofNat 0)))) (P 7)::
[])) (.cond (tm 7) (.seq (.run (.go (.move (.con (.int .i64 (.ofNat 0)))) (P 4)::
[])) .ret) .skip)) (.seq (.run (.go (.move (tm 0)) (P 8)::
.go (.move (tm 1)) (P 9)::
.go (.move (tm 0)) (P 10)::
.go (.len 0 (tm 10)) (P 11)::
.go (.bin .rem 3 (tm 9) (tm 11)) (P 12)::
.go (.indexAddr none 1 (tm 8) (tm 12)) (P 13)::
.go (.load1 (tm 13)) (P 14)::
.go (.conv .i64 (tm 14)) (P 15)::
.go (.move (tm 15)) (P 4)::
[])) .ret)))
theorem de52 : @compF Try.prog (Gl.none Try.prog) Try.f52 2=.mk d52 (mkTT 16) [(P 0),(P 1)] [.tmp (P 4)]:=by kernel_rfl
theorem dg52 : Try.prog.funcs[52]?=some Try.f52:=Try.func52
theorem do52 : okF Try.prog Try.f52=true:=by kernel_rfl
noncomputable def d12 : FCode:=(.seq (.run (.go (.box 23 (tm 0)) (P 3)::
.go (.move (.con (.bool false))) (P 6)::
[])) (.seq (.seq (.run (.go (.move (tm 1)) (P 22)::
.go (.len 0 (tm 22)) (P 23)::
.go (.bin .gtr 3 (tm 23) (.con (.int .i64 (.ofNat 8)))) (P 24)::
.go (.move (tm 24)) (P 25)::
.gd (P 25) false (.loadN 3 (tm 3)) (P 26)::
.gd (P 25) false (.call (.con (.func (.func 51) ⟨[]⟩ ⟨[]⟩)) [tm 26]) (P 27)::
.gd (P 25) false (.un .not (tm 27)) (P 28)::
.go (.pick (tm 25) (.con (.bool true)) (tm 28)) (P 29)::
.go (.move (tm 29)) (P 30)::
.gd (P 30) false (.fieldAddr 0 (tm 3)) (P 31)::
.gd (P 30) false (.load1 (tm 31)) (P 32)::
.gd (P 30) false (.bin .eql 5 (tm 32) (.con (.int .u8 (.ofNat 5)))) (P 33)::
.go (.pick (tm 30) (.con (.bool true)) (tm 33)) (P 34)::
[])) (.cond (tm 34) (.seq (.run (.go (.call (.con (.func (.func 20) ⟨[]⟩ ⟨[]⟩)) []) (P 35)::
.go (.move (tm 35)) (P 6)::
[])) .ret) .skip)) (.seq (.run (.go (.move (.con (.slice none 0 0))) (P 7)::
[])) (.seq (.seq (.run (.go (.move (.con (.int .i64 (.ofNat 0)))) (P 8)::
[])) (.block 0 (.loop (.seq (.seq (.run (.go (.move (tm 8)) (P 36)::
.go (.move (tm 1)) (P 37)::
.go (.len 0 (tm 37)) (P 38)::
.go (.bin .lss 3 (tm 36) (tm 38)) (P 39)::
[])) (.cond (tm 39) .skip (.exit 0))) (.seq (.block 1 (.seq (.run (.go (.move (tm 1)) (P 42)::
.go (.move (tm 8)) (P 43)::
.go (.indexAddr none 2 (tm 42) (tm 43)) (P 44)::
.go (.loadN 2 (tm 44)) (P 45)::
.go (.alloc 52 [(.int .i64 (.ofNat 0)),(.int .i64 (.ofNat 0))]) (P 9)::
.un (.store 2 (tm 9) (tm 45))::
[])) (.seq (.seq (.run (.go (.fieldAddr 0 (tm 9)) (P 46)::
.go (.load1 (tm 46)) (P 47)::
.go (.fieldAddr 1 (tm 9)) (P 48)::
.go (.load1 (tm 48)) (P 49)::
.go (.call (.con (.func (.func 38) ⟨[]⟩ ⟨[]⟩)) [(tm 47),(.con (.int .i64 (.ofNat 0))),(tm 49)]) (P 50)::
.go (.un .not (tm 50)) (P 51)::
.go (.move (tm 51)) (P 52)::
.gd (P 52) false (.fieldAddr 1 (tm 9)) (P 53)::
.gd (P 52) false (.load1 (tm 53)) (P 54)::
.gd (P 52) false (.bin .gtr 3 (tm 54) (.con (.int .i64 (.ofNat 10000)))) (P 55)::
.go (.pick (tm 52) (.con (.bool true)) (tm 55)) (P 56)::
[])) (.cond (tm 56) (.seq (.run (.go (.call (.con (.func (.func 20) ⟨[]⟩ ⟨[]⟩)) []) (P 57)::
.go (.move (tm 57)) (P 6)::
[])) .ret) .skip)) (.draw 17 (.go (.move (tm 7)) (P 58)::
.go (.fieldAddr 0 (tm 9)) (P 59)::
.go (.load1 (tm 59)) (P 60)::
.go (.move (tm 2)) (P 61)::
.go (.move (tm 8)) (P 62)::
.go (.call (.con (.func (.func 52) ⟨[]⟩ ⟨[]⟩)) [(tm 61),(tm 62)]) (P 63)::
.go (.fieldAddr 1 (tm 9)) (P 64)::
.go (.load1 (tm 64)) (P 65)::
.go (.fieldAddr 0 (tm 9)) (P 66)::
.go (.load1 (tm 66)) (P 67)::
.go (.bin .sub 3 (tm 65) (tm 67)) (P 68)::
.go (.bin .add 3 (tm 68) (.con (.int .i64 (.ofNat 1)))) (P 69)::
.go (.bin .rem 3 (tm 63) (tm 69)) (P 70)::
.go (.bin .add 3 (tm 60) (tm 70)) (P 71)::
.go (.buildSlice 3 1 [(.int .i64 (.ofNat 0))] [(0,1,(tm 71))]) (P 72)::
.go (.append 3 1 8 (tm 58) (tm 72)) (P 73)::
.go (.move (tm 73)) (P 7)::
[]) [.ok,.ok,.rd none (.load1 (tm 59)) (some (P 60)) [6],.ok,.ok,.ok,.ok,.rd none (.load1 (tm 64)) (some (P 65)) [0],.ok,.rd none (.load1 (tm 66)) (some (P 67)) [0],.ok,.ok,.ok,.ok,.ok,.ok,.ok])))) (.run (.go (.move (tm 8)) (P 40)::
.go (.bin .add 3 (tm 40) (.con (.int .i64 (.ofNat 1)))) (P 41)::
.go (.move (tm 41)) (P 8)::
[]))))))) (.seq (.run (.go (.loadN 3 (tm 3)) (P 75)::
.go (.call (.con (.func (.func 22) ⟨[]⟩ ⟨[]⟩)) [tm 75]) (P 76)::
.go (.move (tm 1)) (P 77)::
.go (.call (.con (.func (.func 41) ⟨[]⟩ ⟨[]⟩)) [tm 77]) (P 78)::
.go (.call (.con (.func (.func 40) ⟨[]⟩ ⟨[]⟩)) [(tm 76),(tm 78)]) (P 79)::
.go (.move (tm 79)) (P 74)::
.go (.extract (tm 74) 0) (P 80)::
.go (.extract (tm 74) 1) (P 81)::
.go (.move (tm 80)) (P 10)::
.go (.move (tm 81)) (P 11)::
[])) (.seq (.seq (.run (.go (.move (tm 11)) (P 82)::
.go (.bin .neq 26 (tm 82) (.con (.int .i64 (.ofNat 0)))) (P 83)::
.go (.move (tm 83)) (P 84)::
.gd (P 84) false (.move (tm 10)) (P 85)::
.gd (P 84) false (.len 0 (tm 85)) (P 86)::
.gd (P 84) false (.move (tm 1)) (P 87)::
.gd (P 84) false (.len 0 (tm 87)) (P 88)::
.gd (P 84) false (.bin .neq 3 (tm 86) (tm 88)) (P 89)::
.go (.pick (tm 84) (.con (.bool true)) (tm 89)) (P 90)::
[])) (.cond (tm 90) (.seq (.run (.go (.move (.con (.bool false))) (P 6)::
[])) .ret) .skip)) (.seq (.run (.go (.loadN 3 (tm 3)) (P 92)::
.go (.move (tm 7)) (P 93)::
.go (.call (.con (.func (.func 42) ⟨[]⟩ ⟨[]⟩)) [(tm 92),(tm 93)]) (P 94)::
.go (.move (tm 94)) (P 91)::
.go (.extract (tm 91) 0) (P 95)::
.go (.extract (tm 91) 1) (P 96)::
.go (.move (tm 95)) (P 12)::
.go (.move (tm 96)) (P 13)::
[])) (.seq (.seq (.run (.go (.move (.con (.int .i64 (.ofNat 0)))) (P 14)::
[])) (.block 2 (.loop (.seq (.seq (.run (.go (.move (tm 14)) (P 97)::
.go (.move (tm 7)) (P 98)::
.go (.len 0 (tm 98)) (P 99)::
.go (.bin .lss 3 (tm 97) (tm 99)) (P 100)::
[])) (.cond (tm 100) .skip (.exit 2))) (.seq (.block 3 (.seq (.seq (.draw 22 (.go (.move (tm 12)) (P 103)::
.go (.move (tm 14)) (P 104)::
.go (.indexAddr none 1 (tm 103) (tm 104)) (P 105)::
.go (.load1 (tm 105)) (P 106)::
.go (.move (tm 10)) (P 107)::
.go (.move (tm 14)) (P 108)::
.go (.indexAddr none 2 (tm 107) (tm 108)) (P 109)::
.go (.fieldAddr 0 (tm 109)) (P 110)::
.go (.load1 (tm 110)) (P 111)::
.go (.bin .lss 3 (tm 106) (tm 111)) (P 112)::
.go (.move (tm 112)) (P 113)::
.gd (P 113) false (.move (tm 13)) (P 114)::
.gd (P 113) false (.move (tm 14)) (P 115)::
.gd (P 113) false (.indexAddr none 1 (tm 114) (tm 115)) (P 116)::
.gd (P 113) false (.load1 (tm 116)) (P 117)::
.gd (P 113) false (.move (tm 10)) (P 118)::
.gd (P 113) false (.move (tm 14)) (P 119)::
.gd (P 113) false (.indexAddr none 2 (tm 118) (tm 119)) (P 120)::
.gd (P 113) false (.fieldAddr 1 (tm 120)) (P 121)::
.gd (P 113) false (.load1 (tm 121)) (P 122)::
.gd (P 113) false (.bin .gtr 3 (tm 117) (tm 122)) (P 123)::
.go (.pick (tm 113) (.con (.bool true)) (tm 123)) (P 124)::
[]) [.ok,.ok,.ok,.ok,.ok,.ok,.ok,.ok,.ok,.ok,.ok,.ok,.ok,.ok,.ok,.ok,.ok,.ok,.ok,.ok,.ok,.ok]) (.cond (tm 124) (.seq (.run (.go (.move (.con (.bool false))) (P 6)::
[])) .ret) .skip)) (.seq (.run (.go (.buildSlice 3 0 [] []) (P 125)::
.go (.move (tm 7)) (P 126)::
.go (.append 3 1 8 (tm 125) (tm 126)) (P 127)::
.go (.buildSlice 3 0 [] []) (P 128)::
.go (.move (tm 7)) (P 129)::
.go (.append 3 1 8 (tm 128) (tm 129)) (P 130)::
.go (.move (tm 127)) (P 15)::
.go (.move (tm 130)) (P 16)::
[])) (.seq (.seq (.run (.go (.move (.con (.int .i64 (.ofNat 0)))) (P 17)::
[])) (.block 4 (.loop (.seq (.seq (.run (.go (.move (tm 17)) (P 131)::
.go (.move (tm 7)) (P 132)::
.go (.len 0 (tm 132)) (P 133)::
.go (.bin .lss 3 (tm 131) (tm 133)) (P 134)::
[])) (.cond (tm 134) .skip (.exit 4))) (.seq (.block 5 (.draw 18 (.go (.move (tm 15)) (P 137)::
.go (.move (tm 17)) (P 138)::
.go (.move (tm 16)) (P 139)::
.go (.move (tm 17)) (P 140)::
.go (.move (tm 1)) (P 141)::
.go (.move (tm 17)) (P 142)::
.go (.indexAddr none 2 (tm 141) (tm 142)) (P 143)::
.go (.fieldAddr 1 (tm 143)) (P 144)::
.go (.load1 (tm 144)) (P 145)::
.go (.move (tm 1)) (P 146)::
.go (.move (tm 17)) (P 147)::
.go (.indexAddr none 2 (tm 146) (tm 147)) (P 148)::
.go (.fieldAddr 0 (tm 148)) (P 149)::
.go (.load1 (tm 149)) (P 150)::
.go (.indexAddr none 1 (tm 137) (tm 138)) (P 151)::
.un (.store 1 (tm 151) (tm 145))::
.go (.indexAddr none 1 (tm 139) (tm 140)) (P 152)::
.un (.store 1 (tm 152) (tm 150))::
[]) [.ok,.ok,.ok,.ok,.ok,.ok,.ok,.ok,.ok,.ok,.ok,.ok,.ok,.ok,.ok,.ok,.ok,.ok])) (.run (.go (.move (tm 17)) (P 135)::
.go (.bin .add 3 (tm 135) (.con (.int .i64 (.ofNat 1)))) (P 136)::
.go (.move (tm 136)) (P 17)::
[]))))))) (.seq (.draw 18 (.go (.move (tm 15)) (P 153)::
.go (.move (tm 14)) (P 154)::
.go (.move (tm 16)) (P 155)::
.go (.move (tm 14)) (P 156)::
.go (.move (tm 1)) (P 157)::
.go (.move (tm 14)) (P 158)::
.go (.indexAddr none 2 (tm 157) (tm 158)) (P 159)::
.go (.fieldAddr 0 (tm 159)) (P 160)::
.go (.load1 (tm 160)) (P 161)::
.go (.move (tm 1)) (P 162)::
.go (.move (tm 14)) (P 163)::
.go (.indexAddr none 2 (tm 162) (tm 163)) (P 164)::
.go (.fieldAddr 1 (tm 164)) (P 165)::
.go (.load1 (tm 165)) (P 166)::
.go (.indexAddr none 1 (tm 153) (tm 154)) (P 167)::
.un (.store 1 (tm 167) (tm 161))::
.go (.indexAddr none 1 (tm 155) (tm 156)) (P 168)::
.un (.store 1 (tm 168) (tm 166))::
[]) [.ok,.ok,.ok,.ok,.ok,.ok,.ok,.ok,.ok,.ok,.ok,.ok,.ok,.ok,.ok,.ok,.ok,.ok]) (.seq (.run (.go (.loadN 3 (tm 3)) (P 170)::
.go (.move (tm 15)) (P 171)::
.go (.call (.con (.func (.func 42) ⟨[]⟩ ⟨[]⟩)) [(tm 170),(tm 171)]) (P 172)::
.go (.move (tm 172)) (P 169)::
.go (.extract (tm 169) 0) (P 173)::
.go (.extract (tm 169) 1) (P 174)::
.go (.move (tm 173)) (P 18)::
.go (.move (tm 174)) (P 19)::
[])) (.seq (.run (.go (.loadN 3 (tm 3)) (P 176)::
.go (.move (tm 16)) (P 177)::
.go (.call (.con (.func (.func 42) ⟨[]⟩ ⟨[]⟩)) [(tm 176),(tm 177)]) (P 178)::
.go (.move (tm 178)) (P 175)::
.go (.extract (tm 175) 0) (P 179)::
.go (.extract (tm 175) 1) (P 180)::
.go (.move (tm 179)) (P 20)::
.go (.move (tm 180)) (P 21)::
[])) (.seq (.draw 22 (.go (.move (tm 18)) (P 181)::
.go (.move (tm 14)) (P 182)::
.go (.indexAddr none 1 (tm 181) (tm 182)) (P 183)::
.go (.load1 (tm 183)) (P 184)::
.go (.move (tm 10)) (P 185)::
.go (.move (tm 14)) (P 186)::
.go (.indexAddr none 2 (tm 185) (tm 186)) (P 187)::
.go (.fieldAddr 0 (tm 187)) (P 188)::
.go (.load1 (tm 188)) (P 189)::
.go (.bin .neq 3 (tm 184) (tm 189)) (P 190)::
.go (.move (tm 190)) (P 191)::
.gd (P 191) false (.move (tm 21)) (P 192)::
.gd (P 191) false (.move (tm 14)) (P 193)::
.gd (P 191) false (.indexAddr none 1 (tm 192) (tm 193)) (P 194)::
.gd (P 191) false (.load1 (tm 194)) (P 195)::
.gd (P 191) false (.move (tm 10)) (P 196)::
.gd (P 191) false (.move (tm 14)) (P 197)::
.gd (P 191) false (.indexAddr none 2 (tm 196) (tm 197)) (P 198)::
.gd (P 191) false (.fieldAddr 1 (tm 198)) (P 199)::
.gd (P 191) false (.load1 (tm 199)) (P 200)::
.gd (P 191) false (.bin .neq 3 (tm 195) (tm 200)) (P 201)::
.go (.pick (tm 191) (.con (.bool true)) (tm 201)) (P 202)::
[]) [.ok,.ok,.ok,.ok,.ok,.ok,.ok,.ok,.ok,.ok,.ok,.ok,.ok,.ok,.ok,.ok,.ok,.ok,.ok,.ok,.ok,.ok]) (.cond (tm 202) (.seq (.run (.go (.move (.con (.bool false))) (P 6)::
[])) .ret) .skip))))))))) (.run (.go (.move (tm 14)) (P 101)::
.go (.bin .add 3 (tm 101) (.con (.int .i64 (.ofNat 1)))) (P 102)::
.go (.move (tm 102)) (P 14)::
[]))))))) (.seq (.run (.go (.call (.con (.func (.func 20) ⟨[]⟩ ⟨[]⟩)) []) (P 203)::
.go (.move (tm 203)) (P 6)::
[])) .ret)))))))))
theorem de12 : @compF Try.prog (Gl.none Try.prog) Try.f12 3=.mk d12 (mkTT 204) [(P 0),(P 1),(P 2)] [.tmp (P 6)]:=by kernel_rfl
theorem dg12 : Try.prog.funcs[12]?=some Try.f12:=Try.func12
theorem do12 : okF Try.prog Try.f12=true:=by kernel_rfl
theorem fl_upd {n j : Nat} {f : Nat→Int} {y : Int} : (fl n f).set j y=fl n (fun i=>if i=j then y else f i):=by
 apply List.ext_getElem
 ·rw[List.length_set,fl_len,fl_len]
 ·intro i h1 h2
  rw[List.getElem_set,fl_at,fl_at]
  by_cases e : j=i
  ·rw[if_pos e,if_pos e.symm]
  ·rw[if_neg e,if_neg (fun k=>e k.symm)]
theorem fl_gl {l : List Int} : fl l.length (gl0 l)=l:=by
 apply List.ext_getElem
 ·rw[fl_len]
 ·intro i h1 h2
  rw[fl_at,gl0_at h2]
theorem fl_cong {n : Nat} {f g : Nat→Int} (h : ∀ i,i<n→f i=g i) : fl n f=fl n g:=fl_eq.2 h
theorem within {m S L : Int} {R : List R2} {l : List Int} (h5 : m≠5) (hS : 0≤S∧S≤60) (hR8 : R.length≤8) (hR : ∀ r∈R,rok r) (hlen : l.length=R.length) (hb : ∀ q,q<R.length→gl0 (R.map (·.1)) q≤gl0 l q∧gl0 l q≤gl0 (R.map (·.2)) q) {p : Nat} (hp : p<R.length) :
  bLo m S L R p≤(otc m S (vl L l)).1 p∧(otc m S (vl L l)).2 p≤bHi m S L R p:=by
 have hS' : 0≤S∧S≤61:=by omega
 have lo : ∀ q,q<R.length→0≤gl0 (R.map (·.1)) q:=fun q hq=>by rw[gl0_map hq];exact (hR _ (List.getElem_mem hq)).2.1.1
 have hi : ∀ q,q<R.length→gl0 (R.map (·.2)) q≤10000:=fun q hq=>by rw[gl0_map hq];exact (hR _ (List.getElem_mem hq)).2.2.2
 have bdl : ∀ v∈l,0≤v∧v≤10000:=fun v hv=>by
  obtain⟨i,h1,rfl⟩:=List.mem_iff_getElem.1 hv
  have h2:=hb i (by omega)
  have h3:=lo i (by omega)
  have h4:=hi i (by omega)
  rw[gl0_at h1] at h2
  omega
 have bd1 : ∀ v∈(R.map (·.2)).set p (gl0 (R.map (·.1)) p),0≤v∧v≤10000:=fun v hv=>by
  rcases List.mem_or_eq_of_mem_set hv with hv|rfl
  ·obtain⟨r,hr,rfl⟩:=List.mem_map.1 hv
   exact (hR r hr).2.2
  ·rw[gl0_map hp];exact (hR _ (List.getElem_mem hp)).2.1
 have bd2 : ∀ v∈(R.map (·.1)).set p (gl0 (R.map (·.2)) p),0≤v∧v≤10000:=fun v hv=>by
  rcases List.mem_or_eq_of_mem_set hv with hv|rfl
  ·obtain⟨r,hr,rfl⟩:=List.mem_map.1 hv
   exact (hR r hr).2.1
  ·rw[gl0_map hp];exact (hR _ (List.getElem_mem hp)).2.2
 have le0:=vl_ok (L:=L) bdl
 have le1:=vl_ok (L:=L) bd1
 have le2:=vl_ok (L:=L) bd2
 have w0:=vl_8 (L:=L) (l:=l) (by omega)
 have w1:=vl_8 (L:=L) (l:=(R.map (·.2)).set p (gl0 (R.map (·.1)) p)) (by rw[List.length_set,List.length_map];exact hR8)
 have w2:=vl_8 (L:=L) (l:=(R.map (·.1)).set p (gl0 (R.map (·.2)) p)) (by rw[List.length_set,List.length_map];exact hR8)
 have p1 : p<(R.map (·.1)).length:=by rw[List.length_map];exact hp
 have p2 : p<(R.map (·.2)).length:=by rw[List.length_map];exact hp
 have vle : ∀ {a b : List Int} {q : Nat},gl0 a q≤gl0 b q→0≤gl0 b q→vl L a q≤vl L b q:=fun {a b q} h h0=>by
  unfold vl vts
  exact adm_le h h0
 have z : ∀ {a : List Int} {q : Nat},a.length=R.length→¬ q<R.length→vl L a q=0:=fun {a q} ha hq=>vl_out (by omega)
 have hpb:=hb p hp
 have hlp:=lo p hp
 constructor
 ·refine (mono h5 le0 le1 hS' w0 w1 (k:=p) (by omega) ?_ (fun q hq=>?_)).1
  ·refine vle ?_ (by omega)
   rw[gl0_set p2,if_pos rfl]
   omega
  ·by_cases hql : q<R.length
   ·have h1:=hb q hql
    have h2:=lo q hql
    refine vle ?_ ?_<;>rw[gl0_set p2,if_neg hq]<;>omega
   ·rw[z hlen hql,z (by rw[List.length_set,List.length_map]) hql];omega
 ·refine (mono h5 le2 le0 hS' w2 w0 (k:=p) (by omega) ?_ (fun q hq=>?_)).2
  ·refine vle ?_ ?_<;>rw[gl0_set p1,if_pos rfl]<;>omega
  ·by_cases hql : q<R.length
   ·have h1:=hb q hql
    have h2:=lo q hql
    refine vle ?_ ?_
    ·rw[gl0_set p1,if_neg hq];omega
    ·omega
   ·rw[z hlen hql,z (by rw[List.length_set,List.length_map]) hql];omega
structure WS (H : Heap) (x : Value) (ws : List Int) : Prop where
 sl : Sl H x (ws.map fun v=>.int .u16 v)
 bd : ∀ v∈ws,0≤v∧v≤65535
theorem WS.grow {A B : Heap} (g : Grow A B) {x : Value} {ws : List Int} (h : WS A x ws) : WS B x ws:=⟨h.sl.grow g,h.bd⟩
def wd (ws : List Int) (k : Nat) : Int:=ws.getD (k%ws.length) 0
theorem wd_bd {ws : List Int} (h : ∀ v∈ws,0≤v∧v≤65535) (k : Nat) : 0≤wd ws k∧wd ws k≤65535:=by
 unfold wd
 by_cases hk : k%ws.length<ws.length
 ·rw[List.getD_eq_getElem?_getD,List.getElem?_eq_getElem hk]
  exact h _ (List.getElem_mem hk)
 ·rw[List.getD_eq_getElem?_getD,List.getElem?_eq_none (by omega)]
  simp
theorem f52_ok {H : Heap} {x : Value} {ws : List Int} (h : WS H x ws) {k : Nat} : Gives Try.prog 52 [x,I k] H (I (wd ws k)):=by
 have hl:=h.sl.len
 rw[List.length_map] at hl
 refine F.entryL rfl dg52 do52 de52 rfl (by kernel_rfl) ?_
 simp only[sets]
 refine V.re [(0,x),(1,I k)] (N:=16) zE zY ?_
 intro t hF hA
 simp only[Kn,and_true] at hA
 refine zS ?_
 refine V.l0 ?_
 refine zS ?_
 have zf:=@hl
 refine V.lz ?_
 refine zS ?_
 refine V.condP zP (fun h0=>?_) (fun h0=>?_)
 ·refine zS ?_
  refine V.l0 ?_
  refine zS ?_
  refine V.ret (V.rets rfl (Lv.retG (by simp +contextual (disch:=first|omega|simp only[nx];omega) only[D1,cells_alloc_at,cells_alloc_ne,cells_set_at,cells_set_ne,yres,yres1,yresL,qA,qB,qC,D5,hF,hA,↓reduceIte,qD,qE];rfl) ?_ ?_))
  ·exact zW
  ·have e : ws=[]:=List.length_eq_zero_iff.1 (by omega)
   subst e
   rfl
 ·have hlt : k%ws.length<ws.length:=Nat.mod_lt _ (by omega)
  have he : ((k : Int)).tmod (ws.length : Int)=((k%ws.length : Nat) : Int):=by
   rw[Int.tmod_eq_emod_of_nonneg (by omega)];rfl
  have hne : ¬ (ws.length : Int)=0:=h0
  obtain⟨p,p1,p2⟩:=h.sl.get (n:=((k%ws.length : Nat) : Int)) (k:=k%ws.length) (x:=.int .u16 ws[k%ws.length]) (kd:=.i64) (by rw[List.getElem?_map,List.getElem?_eq_getElem hlt];rfl) rfl
  have p3:=p2 H (.refl _)
  have hb:=h.bd _ (List.getElem_mem hlt)
  have hw : IntKind.i64.wrap ws[k%ws.length]=ws[k%ws.length]:=wrap_i64 (by omega) (by omega)
  refine zS ?_
  have zf:=And.intro @hl<|And.intro @hne<|And.intro @he<|And.intro @p1<|And.intro @p3<|@hw
  refine V.lz ?_
  refine zS ?_
  refine V.ret (V.rets rfl (Lv.retG (by simp +contextual (disch:=first|omega|simp only[nx];omega) only[D1,cells_alloc_at,cells_alloc_ne,cells_set_at,cells_set_ne,yres,yres1,yresL,qA,qB,qC,D5,hF,hA,↓reduceIte,qD,qE];rfl) ?_ ?_))
  ·exact zW
  ·unfold wd
   rw[List.getD_eq_getElem?_getD,List.getElem?_eq_getElem hlt]
   rfl
def cw (R : List R2) (ws : List Int) (p : Nat) : Int:=gl0 (R.map (·.1)) p+wd ws p%(gl0 (R.map (·.2)) p-gl0 (R.map (·.1)) p+1)
theorem cw_in {R : List R2} {ws : List Int} {p : Nat} (h : gl0 (R.map (·.1)) p≤gl0 (R.map (·.2)) p) : gl0 (R.map (·.1)) p≤cw R ws p∧cw R ws p≤gl0 (R.map (·.2)) p:=by
 unfold cw
 have h1:=Int.emod_nonneg (wd ws p) (show gl0 (R.map (·.2)) p-gl0 (R.map (·.1)) p+1≠0 by omega)
 have h2:=Int.emod_lt_of_pos (wd ws p) (show 0<gl0 (R.map (·.2)) p-gl0 (R.map (·.1)) p+1 by omega)
 omega
theorem f12_all {H : Heap} {m S L : Int} {x y : Value} {R : List R2} {ws : List Int} (hx : RS H x R) (hy : Sl H y (ws.map fun v=>.int .u16 v)) (hwb : ∀ v∈ws,0≤v∧v≤65535) : F Try.prog 12 ⟨[.agg ⟨A3 m S L⟩,x,y]⟩ H (fun w _=>w=.bool true):=by
 have h:=hx
 have hw : WS H y ws:=⟨hy,hwb⟩
 have hl:=h.len
 obtain⟨px,nx',cx,rfl⟩:=h.isS
 obtain⟨py,ny',cy,rfl⟩:=hy.isS
 refine F.entryL rfl dg12 do12 de12 rfl (by kernel_rfl) ?_
 simp only[sets]
 refine V.re [(0,.agg ⟨A3 m S L⟩),(1,.slice px nx' cx),(2,.slice py ny' cy)] (N:=204) zE zY ?_
 intro t hF hA
 simp only[Kn,and_true] at hA
 refine zS ?_
 refine V.l0 ?_
 refine V.heap (fun X=>Grow H X∧Bx X H.next (A3 m S L) 23) ⟨?_,?_⟩ ?_
 ·exact zW
 ·exact zB
 rintro H1 ⟨g1,b1⟩
 refine zS ?_
 refine V.run ?_
 have zf:=And.intro @hl<|b1.2
 refine VI.sz 5 ?_
 simp only[ds]
 first|refine VI.callGt zG (fun hc=>zI) (fun hc=>f51_ok m S L _) (fun hc=>zI) (fun H2 g2=>?_)|refine VI.callGf zG (fun hc=>zI) (fun hc=>f51_ok m S L _) (fun hc=>zI) (fun H2 g2=>?_)
 have b2:=b1.grow g2
 have g12:=g1.trans g2
 have zf:=b2.2
 refine VI.lz ?_
 refine zS ?_
 refine V.condP zP (fun h0=>?_) (fun h0=>?_)
 ·refine zS ?_
  refine V.run ?_
  refine VI.callA rfl (f20_ok _) zA (fun H3 g3=>?_)
  refine VI.l0 ?_
  refine zS ?_
  refine V.ret (V.rets rfl (Lv.retF (by simp +contextual (disch:=first|omega|simp only[nx];omega) only[D1,cells_alloc_at,cells_alloc_ne,cells_set_at,cells_set_ne,yres,yres1,yresL,qA,qB,qC,D5,hF,hA,↓reduceIte,qD,qE];rfl) ?_))
  rfl
 have h00 : R.length≤8∧rvalid m S L∧m≠5:=by
  refine⟨?_,?_,?_⟩
  ·exact Decidable.by_contra fun hh=>h0 (by first|exact .inl (.inl (by omega))|exact .inl (by omega))
  ·exact Decidable.by_contra fun hh=>h0 (by simp[hh])
  ·exact fun hh=>h0 (by simp[hh])
 clear h0
 obtain⟨hR8,hr,h5⟩:=h00
 have hS : 0≤S∧S≤60:=⟨hr.2.2.1,hr.2.2.2.1⟩
 have hm : 1≤m∧m≤5:=⟨hr.1,hr.2.1⟩
 refine zS ?_
 refine V.l0 ?_
 refine zS ?_
 refine V.l0 ?_
 refine zS ?_
 refine V.loop (fun z t mm X=>∃ (k : Nat) (w : Value),k≤R.length∧z=R.length-k∧mm=[]∧Grow H2 X∧(∀ r∈R.take k,rok r)∧Ow H2 X 3 w (Li (fl k (cw R ws)))∧Full 204 t∧Kn [(1,.slice px nx' cx),(2,.slice py ny' cy),(3,PT H.next),(7,w),(8,I k)] t) R.length ?_ ?_
 ·exact⟨0,_,by omega,by omega,rfl,.refl _,by simp,.nil,zF,zK⟩
 clear hF hA
 rintro z t mm X ⟨k,w,hk,rfl,rfl,hg,hall,ow,hF,hA⟩
 simp only[Kn,and_true] at hA
 refine zS ?_
 have zf:=@hl
 refine V.lz ?_
 refine zS ?_
 refine V.condP zP (fun hlt=>?_) (fun hlt=>?_)
 ·have hlt' : k<R.length:=by omega
  obtain⟨i,o,h1,h2⟩:=h.at hlt'
  have h3:=(h2 X (g12.trans hg)).1
  obtain⟨a,ha⟩ : ∃ a,a=R[k].1:=⟨_,rfl⟩
  obtain⟨b,hb⟩ : ∃ b,b=R[k].2:=⟨_,rfl⟩
  rw[← ha,← hb] at h3
  refine zS ?_
  have zf:=And.intro @h1<|@h3
  refine V.lz ?_
  refine V.heap (fun Y=>Grow X Y∧Bx Y X.next (A2 a b) 52) ⟨?_,?_⟩ ?_
  ·exact zW
  ·exact zB
  rintro X1 ⟨gx,bx⟩
  refine zS ?_
  refine V.run ?_
  have zf:=bx.2
  refine VI.sz 4 ?_
  simp only[ds]
  refine VI.callA rfl (f38_ok a 0 b X1) zA (fun X2 g2'=>?_)
  have bx2:=bx.grow g2'
  have zf:=bx2.2
  refine VI.lz ?_
  refine zS ?_
  refine V.condP zP (fun hbad=>?_) (fun hbad=>?_)
  ·refine zS ?_
   refine V.run ?_
   refine VI.callA rfl (f20_ok _) zA (fun H3 g3=>?_)
   refine VI.l0 ?_
   refine zS ?_
   refine V.ret (V.rets rfl (Or.inr ⟨by simp,V.rets rfl (Lv.retF (by simp +contextual (disch:=first|omega|simp only[nx];omega) only[D1,cells_alloc_at,cells_alloc_ne,cells_set_at,cells_set_ne,yres,yres1,yresL,qA,qB,qC,D5,hF,hA,↓reduceIte,qD,qE];rfl) ?_)⟩))
   rfl
  have hrok : rok R[k]:=by
   have hin : 0≤a∧a≤b:=Decidable.by_contra fun hh=>hbad (.inl hh)
   have hle : b≤10000:=Decidable.by_contra fun hh=>hbad (.inr (by omega))
   rw[ha,hb] at hin
   rw[hb] at hle
   unfold rok
   omega
  have hab : 0≤a∧a≤b∧b≤10000:=by
   have:=hrok
   unfold rok at this
   rw[ha,hb]
   omega
  have hw0:=wd_bd hwb k
  have hrem : (wd ws k).tmod (b-a+1)=wd ws k%(b-a+1):=Int.tmod_eq_emod_of_nonneg hw0.1
  have hne : ¬ (b-a+1=0):=by omega
  have e1:=Int.emod_nonneg (wd ws k) hne
  have e2:=Int.emod_lt_of_pos (wd ws k) (show 0<b-a+1 by omega)
  have ec : cw R ws k=a+wd ws k%(b-a+1):=by unfold cw;rw[gl0_map hlt',gl0_map hlt',ha,hb]
  have gX2:=(hg.trans gx).trans g2'
  refine zS ?_
  refine V.draw ?_
  have zf:=bx2.2
  refine VD.nz 5 ?_
  simp only[ds]
  refine VD.callA zA (f52_ok (k:=k) (hw.grow (g12.trans gX2))) zA (fun X3 g3=>?_)
  have bx3:=bx2.grow g3
  have m3:=g3.1
  have gX3:=gX2.trans g3
  have ow3:=ow.keep ((gx.trans g2').trans g3)
  obtain⟨u,Y,a1,a2,a3,a4,a5,_,a7,_⟩:=ow3.push (bytes:=8) (r:=[I (cw R ws k)]) gX3 rfl (by simp) (by rw[Li_len,fl_len];simp;omega) (by rw[Li_len,fl_len];simp;omega)
  replace a1 : yappend 3 1 8 (X3.alloc (.cells ⟨[I (cw R ws k)]⟩ 3 true)) w (.slice (some ⟨X3.next,0,none⟩) 1 1)=some (u,Y):=a1
  rw[ec] at a1
  have m5:=a4.1
  have zf:=And.intro bx3.2<|And.intro @hrem<|And.intro @hne<|@a1
  refine VD.dz ?_ ?_ rfl ?_
  ·exact zM
  ·simp only[dcAll,dcOk,wantD,List.cons_append,List.nil_append,true_and,and_true]
   have zf:=And.intro bx2.2<|bx3.2
   exact⟨zR,zR,zR⟩
  refine zS ?_
  refine V.l0 ?_
  refine V.nil (Or.inl ⟨rfl,R.length-(k+1),by omega,?_⟩)
  refine⟨k+1,u,hlt',rfl,rfl,a3,?_,?_,zF,zK⟩
  ·intro r hr'
   rw[tk1 hlt'] at hr'
   rcases List.mem_append.1 hr' with hv|hv
   ·exact hall r hv
   ·rw[List.mem_singleton.1 hv];exact hrok
  ·have e : Li (fl (k+1) (cw R ws))=Li (fl k (cw R ws))++[I (cw R ws k)]:=by simp[fl,Li,List.range_succ]
   rw[e]
   exact a2
 obtain rfl : k=R.length:=by omega
 rw[List.take_length] at hall
 have hR:=hall
 have bX:=b2.grow hg
 have gX:=g12.trans hg
 have q7:=ow_ls ow
 clear ow
 obtain⟨l,hl0⟩ : ∃ l,l=fl R.length (cw R ws):=⟨_,rfl⟩
 rw[← hl0] at q7
 have hll : l.length=R.length:=by rw[hl0,fl_len]
 have lh : ∀ q,q<R.length→gl0 (R.map (·.1)) q≤gl0 (R.map (·.2)) q:=fun q hq=>by
  rw[gl0_map hq,gl0_map hq]
  exact (hR _ (List.getElem_mem hq)).1
 have hin : ∀ q,q<R.length→gl0 (R.map (·.1)) q≤gl0 l q∧gl0 l q≤gl0 (R.map (·.2)) q:=fun q hq=>by
  have e : gl0 l q=cw R ws q:=by rw[gl0_at (by omega)];simp only[hl0];rw[fl_at]
  rw[e]
  exact cw_in (lh q hq)
 have hlb : ∀ v∈l,0≤v∧v≤10000:=fun v hv=>by
  obtain⟨i,h1,rfl⟩:=List.mem_iff_getElem.1 hv
  have h2:=hin i (by omega)
  have h3:=(hR _ (List.getElem_mem (show i<R.length by omega))).2
  rw[gl0_at h1,gl0_map (by omega),gl0_map (by omega)] at h2
  omega
 have hflr : flr m S L R=0:=flr_0.2 ⟨hr,hR8,hR⟩
 have hS' : 0≤S∧S≤61:=by omega
 obtain⟨p7,n7,c7,rfl⟩:=q7.s.isS
 have ql7:=q7.len
 rw[hll] at ql7
 refine V.exit ?_
 refine zX ?_
 refine V.nil (Or.inr ⟨by simp,?_⟩)
 refine zX ?_
 refine zS ?_
 refine V.run ?_
 have zf:=bX.2
 refine VI.sz 1 ?_
 simp only[ds]
 refine VI.callA rfl (f22_ok m S L _) zA (fun H3 g3=>?_)
 refine VI.s0 1 ?_
 simp only[ds]
 refine VI.callR zA (f41_ok (h.grow (gX.trans g3)) (by omega)) zA (fun w4 H4 ⟨g4,o4⟩=>?_)
 refine VI.callR zA (f40_ok (m:=m) (S:=S) (L:=L) (R:=R) ⟨o4.sw q2_w⟩) zA (fun w5 H5 ⟨g5,yb,eb,hw5,k5⟩=>?_)
 subst hw5
 have g35:=(g3.trans g4).trans g5
 have b5:=bX.grow g35
 have gH5:=gX.trans g35
 rcases k5 with⟨k,_⟩|⟨_,k,_⟩|⟨_,_,rfl,ob⟩
 ·exact absurd hflr k
 ·exact absurd k h5
 have qb : RS H5 yb (bnd m S L R R.length):=⟨ob.sw q2_w⟩
 have qbl:=qb.len
 rw[bnd_len] at qbl
 have hee : ((R.length : Int)=R.length)=True:=eq_self _
 refine VI.l0 ?_
 refine zS ?_
 refine V.line' (by simp +contextual (disch:=first|omega|simp only[nx];omega) only[D4,qF,qG,qA,qB,qC,D5,hF,hA,↓reduceIte,qD,qE,hl,qbl,hee,not_true_eq_false];with_reducible rfl) ?_
 refine zS ?_
 refine V.condF zA ?_
 refine zS ?_
 refine V.run ?_
 have zf:=b5.2
 refine VI.sz 2 ?_
 simp only[ds]
 refine VI.callR zA (f42_any (m:=m) (S:=S) (L:=L) (q7.grow g35) ⟨hm,hS',by omega,hlb⟩) zA (fun w6 H6 ⟨g6,y1,y2,hw6,q1,q2⟩=>?_)
 subst hw6
 have b6:=b5.grow g6
 have gH6:=gH5.trans g6
 have qb6:=qb.grow g6
 have q76:=q7.grow (g35.trans g6)
 rw[hll] at q1 q2
 refine VI.l0 ?_
 refine zS ?_
 refine V.l0 ?_
 refine zS ?_
 refine V.loop (fun z t mm X=>∃ (p : Nat),p≤R.length∧z=R.length-p∧mm=[]∧Grow H6 X∧Full 204 t∧Kn [(1,.slice px nx' cx),(3,PT H.next),(7,.slice p7 n7 c7),(10,yb),(12,y1),(13,y2),(14,I p)] t) R.length ?_ ?_
 ·exact⟨0,by omega,by omega,rfl,.refl _,zF,zK⟩
 clear hF hA
 rintro z t mm Y ⟨p,hp,rfl,rfl,gY,hF,hA⟩
 simp only[Kn,and_true] at hA
 refine zS ?_
 have zf:=@ql7
 refine V.lz ?_
 refine zS ?_
 refine V.condP zP (fun hlp=>?_) (fun hlp=>?_)
 ·have hp' : p<R.length:=by omega
  have hwi:=within (L:=L) h5 hS hR8 hR hll hin hp'
  obtain⟨A,hA0⟩ : ∃ A,A=(otc m S (vl L l)).1:=⟨_,rfl⟩
  obtain⟨B,hB0⟩ : ∃ B,B=(otc m S (vl L l)).2:=⟨_,rfl⟩
  rw[← hA0] at q1 hwi
  rw[← hB0] at q2 hwi
  obtain⟨pa,pa1,pa2⟩:=q1.at (k:=p) (by rw[fl_len];exact hp')
  obtain⟨pb,pb1,pb2⟩:=q2.at (k:=p) (by rw[fl_len];exact hp')
  rw[fl_at] at pa2 pb2
  have pa3:=pa2 Y gY
  have pb3:=pb2 Y gY
  obtain⟨ib,ob',r1,r2⟩:=qb6.at (k:=p) (by rw[bnd_len];exact hp')
  have eb : (bnd m S L R R.length)[p]'(by rw[bnd_len];exact hp')=(bLo m S L R p,bHi m S L R p):=by simp[bnd]
  rw[eb] at r2
  obtain⟨_,r4,r5⟩:=r2 Y gY
  have d1 : (A p<bLo m S L R p)=False:=eq_false (by omega)
  have d2 : (bHi m S L R p<B p)=False:=eq_false (by omega)
  refine zS ?_
  have zf:=And.intro @pa1<|And.intro @pa3<|And.intro @pb1<|And.intro @pb3<|And.intro @r1<|And.intro @r4<|And.intro @r5<|And.intro @d1<|@d2
  refine V.dz ?_ ?_ rfl ?_
  ·exact zM
  ·simp only[dcAll,dcOk,wantD,List.cons_append,List.nil_append,true_and,and_true]
  refine zS ?_
  refine V.condF zA ?_
  -- the ends
  have hLl : Li l≠[]:=fun e=>by
   have:=congrArg List.length e
   rw[Li_len,List.length_nil] at this
   omega
  have q7Y:=q76.grow gY
  have gh : Grow Y (Y.alloc (.cells ⟨[]⟩ 3 true)):=(Grow.refl Y).alloc _
  obtain⟨w15,Y1,k1,k2,k3,_⟩:=Ow.append (H0:=Y) (e:=3) (bytes:=8) (s:=.slice (some ⟨Y.next,0,none⟩) 0 0) (l:=[]) gh (.inr ⟨Y.next,Nat.le_refl _,Nat.lt_succ_self _,rfl,cells_alloc _ _ _ _⟩) (q7Y.s.grow gh) (Li_ok l) (by simp[Li_len];omega) (by simp[Li_len];omega)
  have gh1 : Grow Y1 (Y1.alloc (.cells ⟨[]⟩ 3 true)):=(Grow.refl Y1).alloc _
  obtain⟨w16,Y2,j1,j2,j3,_⟩:=Ow.append (H0:=Y1) (e:=3) (bytes:=8) (s:=.slice (some ⟨Y1.next,0,none⟩) 0 0) (l:=[]) gh1 (.inr ⟨Y1.next,Nat.le_refl _,Nat.lt_succ_self _,rfl,cells_alloc _ _ _ _⟩) ((q7Y.grow k3).s.grow gh1) (Li_ok l) (by simp[Li_len];omega) (by simp[Li_len];omega)
  rw[List.nil_append] at k2 j2
  refine zS ?_
  have zf:=And.intro @k1<|@j1
  refine V.lz ?_
  rcases k2 with⟨_,e⟩|⟨i1,i11,i12,rfl,i13⟩
  ·exact absurd e hLl
  rcases j2 with⟨_,e⟩|⟨i2,i21,i22,rfl,i23⟩
  ·exact absurd e hLl
  rw[Li_len,hll]
  have hi12 : i1<i2:=by omega
  have gY2:=k3.trans j3
  have c1 : Bx Y2 i1 (Li (fl R.length (gl0 l))) 3:=by
   rw[← hll,fl_gl]
   exact (Bx.grow j3 ⟨i12,i13⟩)
  have c2 : Bx Y2 i2 (Li (fl R.length (gl0 l))) 3:=by
   rw[← hll,fl_gl]
   exact⟨i22,i23⟩
  clear k1 j1 i13 i23
  refine zS ?_
  refine V.l0 ?_
  refine zS ?_
  refine V.loop (fun z t mm X=>∃ (j : Nat),j≤R.length∧z=R.length-j∧mm=[]∧Grow Y X∧Bx X i1 (Li (fl R.length fun i=>if i<j then gl0 (R.map (·.2)) i else gl0 l i)) 3∧Bx X i2 (Li (fl R.length fun i=>if i<j then gl0 (R.map (·.1)) i else gl0 l i)) 3∧Full 204 t∧Kn [(1,.slice px nx' cx),(3,PT H.next),(7,.slice p7 n7 c7),(10,yb),(12,y1),(13,y2),(14,I p),(15,.slice (some ⟨i1,0,none⟩) R.length R.length),(16,.slice (some ⟨i2,0,none⟩) R.length R.length),(17,I j)] t) R.length ?_ ?_
  ·exact⟨0,by omega,by omega,rfl,gY2,c1,c2,zF,zK⟩
  clear hF hA c1 c2
  rintro z t mm Z ⟨j,hj,rfl,rfl,gZ,c1,c2,hF,hA⟩
  simp only[Kn,and_true] at hA
  refine zS ?_
  have zf:=@ql7
  refine V.lz ?_
  refine zS ?_
  refine V.condP zP (fun hlj=>?_) (fun hlj=>?_)
  ·have hj' : j<R.length:=by omega
   obtain⟨ia,oa,s1,s2⟩:=h.at hj'
   obtain⟨_,s4,s5⟩:=s2 Z ((gH6.trans gY).trans gZ)
   rw[← gl0_map (R:=R) (f:=(·.1)) hj'] at s4
   rw[← gl0_map (R:=R) (f:=(·.2)) hj'] at s5
   have o1:=own_idx (y:=i1) (c:=R.length) hj'
   have o2:=own_idx (y:=i2) (c:=R.length) hj'
   have e1 : (Li (fl R.length fun i=>if i<j then gl0 (R.map (·.2)) i else gl0 l i)).set j (I (gl0 (R.map (·.2)) j))=Li (fl R.length fun i=>if i<j+1 then gl0 (R.map (·.2)) i else gl0 l i):=by
    rw[Li_set,fl_upd]
    congr 1
    refine fl_cong fun i _=>?_
    by_cases e : i=j
    ·subst e;rw[if_pos rfl,if_pos (by omega)]
    ·rw[if_neg e];by_cases e2 : i<j
     ·rw[if_pos e2,if_pos (by omega)]
     ·rw[if_neg e2,if_neg (by omega)]
   have e2 : (Li (fl R.length fun i=>if i<j then gl0 (R.map (·.1)) i else gl0 l i)).set j (I (gl0 (R.map (·.1)) j))=Li (fl R.length fun i=>if i<j+1 then gl0 (R.map (·.1)) i else gl0 l i):=by
    rw[Li_set,fl_upd]
    congr 1
    refine fl_cong fun i _=>?_
    by_cases e : i=j
    ·subst e;rw[if_pos rfl,if_pos (by omega)]
    ·rw[if_neg e];by_cases e2 : i<j
     ·rw[if_pos e2,if_pos (by omega)]
     ·rw[if_neg e2,if_neg (by omega)]
   obtain⟨F1,hF1⟩ : ∃ F1,F1=Li (fl R.length fun i=>if i<j then gl0 (R.map (·.2)) i else gl0 l i):=⟨_,rfl⟩
   obtain⟨F2,hF2⟩ : ∃ F2,F2=Li (fl R.length fun i=>if i<j then gl0 (R.map (·.1)) i else gl0 l i):=⟨_,rfl⟩
   have lF1 : F1.length=R.length:=by rw[hF1,Li_len,fl_len]
   have lF2 : F2.length=R.length:=by rw[hF2,Li_len,fl_len]
   rw[← hF1] at c1 e1
   rw[← hF2] at c2 e2
   have n1:=c1.1
   have n2:=c2.1
   refine zS ?_
   have zf:=And.intro @s1<|And.intro @s4<|And.intro @s5<|And.intro @o1<|And.intro @o2<|And.intro c1.2<|And.intro c2.2<|And.intro @lF1<|And.intro @lF2<|And.intro @hj'<|And.intro @e1<|@e2
   refine V.dz ?_ ?_ rfl ?_
   ·exact zM
   ·simp only[dcAll,dcOk,wantD,List.cons_append,List.nil_append,true_and,and_true]
   refine zS ?_
   refine V.l0 ?_
   refine V.nil (Or.inl ⟨rfl,R.length-(j+1),by omega,?_⟩)
   refine⟨j+1,by omega,rfl,rfl,?_,?_,?_,zF,zK⟩
   ·exact (gZ.set (by omega) _).set (by omega) _
   ·exact (Bx.put c1.1 _ _).set (by omega) _
   ·exact Bx.put (by simp only[Heap.next_set];exact c2.1) _ _
  obtain rfl : j=R.length:=by omega
  have z1 : (fl R.length fun i=>if i<R.length then gl0 (R.map (·.2)) i else gl0 l i)=R.map (·.2):=by
   rw[fl_cong (g:=gl0 (R.map (·.2))) (fun i hi=>if_pos hi)]
   have:=fl_gl (l:=R.map (·.2))
   rw[List.length_map] at this
   exact this
  have z2 : (fl R.length fun i=>if i<R.length then gl0 (R.map (·.1)) i else gl0 l i)=R.map (·.1):=by
   rw[fl_cong (g:=gl0 (R.map (·.1))) (fun i hi=>if_pos hi)]
   have:=fl_gl (l:=R.map (·.1))
   rw[List.length_map] at this
   exact this
  rw[z1] at c1
  rw[z2] at c2
  have gHZ:=(gH6.trans gY).trans gZ
  obtain⟨ia,oa,s1,s2⟩:=h.at hp'
  obtain⟨_,s4,s5⟩:=s2 Z gHZ
  rw[← gl0_map (R:=R) (f:=(·.1)) hp'] at s4
  rw[← gl0_map (R:=R) (f:=(·.2)) hp'] at s5
  have o1:=own_idx (y:=i1) (c:=R.length) hp'
  have o2:=own_idx (y:=i2) (c:=R.length) hp'
  obtain⟨l1,hl1⟩ : ∃ l1,l1=(R.map (·.2)).set p (gl0 (R.map (·.1)) p):=⟨_,rfl⟩
  obtain⟨l2,hl2⟩ : ∃ l2,l2=(R.map (·.1)).set p (gl0 (R.map (·.2)) p):=⟨_,rfl⟩
  have e1 : (Li (R.map (·.2))).set p (I (gl0 (R.map (·.1)) p))=Li l1:=by rw[Li_set,hl1]
  have e2 : (Li (R.map (·.1))).set p (I (gl0 (R.map (·.2)) p))=Li l2:=by rw[Li_set,hl2]
  have b1' : ∀ v∈l1,0≤v∧v≤10000:=fun v hv=>by
   rw[hl1] at hv
   rcases List.mem_or_eq_of_mem_set hv with hv|rfl
   ·obtain⟨r,hr,rfl⟩:=List.mem_map.1 hv
    exact (hR r hr).2.2
   ·rw[gl0_map hp'];exact (hR _ (List.getElem_mem hp')).2.1
  have b2' : ∀ v∈l2,0≤v∧v≤10000:=fun v hv=>by
   rw[hl2] at hv
   rcases List.mem_or_eq_of_mem_set hv with hv|rfl
   ·obtain⟨r,hr,rfl⟩:=List.mem_map.1 hv
    exact (hR r hr).2.1
   ·rw[gl0_map hp'];exact (hR _ (List.getElem_mem hp')).2.2
  have ll1 : l1.length=R.length:=by rw[hl1,List.length_set,List.length_map]
  have ll2 : l2.length=R.length:=by rw[hl2,List.length_set,List.length_map]
  have eLo : bLo m S L R p=(otc m S (vl L l1)).1 p:=by unfold bLo;rw[hl1]
  have eHi : bHi m S L R p=(otc m S (vl L l2)).2 p:=by unfold bHi;rw[hl2]
  obtain⟨F1,hF1⟩ : ∃ F1,F1=Li (R.map (·.2)):=⟨_,rfl⟩
  obtain⟨F2,hF2⟩ : ∃ F2,F2=Li (R.map (·.1)):=⟨_,rfl⟩
  have lF1 : F1.length=R.length:=by rw[hF1,Li_len,List.length_map]
  have lF2 : F2.length=R.length:=by rw[hF2,Li_len,List.length_map]
  rw[← hF1] at c1 e1
  rw[← hF2] at c2 e2
  have n1:=c1.1
  have n2:=c2.1
  have nZ:=gZ.1
  refine V.exit ?_
  refine zX ?_
  refine V.nil (Or.inr ⟨by simp,?_⟩)
  refine zX ?_
  refine zS ?_
  have zf:=And.intro @s1<|And.intro @s4<|And.intro @s5<|And.intro @o1<|And.intro @o2<|And.intro c1.2<|And.intro c2.2<|And.intro @lF1<|And.intro @lF2<|And.intro @hp'<|And.intro @e1<|@e2
  refine V.dz ?_ ?_ rfl ?_
  ·exact zM
  ·simp only[dcAll,dcOk,wantD,List.cons_append,List.nil_append,true_and,and_true]
  refine V.heap (fun X=>Grow Y X∧Bx X i1 (Li l1) 3∧Bx X i2 (Li l2) 3) ⟨?_,?_,?_⟩ ?_
  ·exact (gZ.set (by omega) _).set (by omega) _
  ·exact (Bx.put c1.1 _ _).set (by omega) _
  ·exact Bx.put (by simp only[Heap.next_set];exact c2.1) _ _
  rintro Za ⟨ga,c1,c2⟩
  have bZ:=b6.grow (gY.trans ga)
  refine zS ?_
  refine V.run ?_
  have zf:=bZ.2
  refine VI.sz 2 ?_
  simp only[ds]
  refine VI.callR zA (f42_any (m:=m) (S:=S) (L:=L) (ls_box c1 ll1) ⟨hm,hS',by omega,b1'⟩) zA (fun wb Zb ⟨gb,u1,u2,hwb',v1,v2⟩=>?_)
  subst hwb'
  have bb:=bZ.grow gb
  rw[ll1] at v1
  refine VI.l0 ?_
  refine zS ?_
  refine V.run ?_
  have zf:=bb.2
  refine VI.sz 2 ?_
  simp only[ds]
  refine VI.callR zA (f42_any (m:=m) (S:=S) (L:=L) (ls_box (c2.grow gb) ll2) ⟨hm,hS',by omega,b2'⟩) zA (fun wc Zc ⟨gc,u3,u4,hwc,v3,v4⟩=>?_)
  subst hwc
  rw[ll2] at v4
  have gYc:=(ga.trans gb).trans gc
  obtain⟨pc',pc1,pc2⟩:=v1.at (k:=p) (by rw[fl_len];exact hp')
  obtain⟨pd,pd1,pd2⟩:=v4.at (k:=p) (by rw[fl_len];exact hp')
  rw[fl_at,← eLo] at pc2
  rw[fl_at,← eHi] at pd2
  have pc3:=pc2 Zc gc
  have pd3:=pd2 Zc (.refl _)
  obtain⟨_,r4,r5⟩:=r2 Zc (gY.trans gYc)
  have d1 : (bLo m S L R p=bLo m S L R p)=True:=eq_self _
  have d2 : (bHi m S L R p=bHi m S L R p)=True:=eq_self _
  refine VI.l0 ?_
  refine zS ?_
  refine V.lineD' (by simp +contextual (disch:=first|omega|simp only[nx];omega) only[D4,qF,qG,qA,qB,qC,D5,hF,hA,↓reduceIte,qD,qE,pc1,pc3,pd1,pd3,r1,r4,r5,d1,d2,not_true_eq_false];with_reducible rfl) ?_ ?_ rfl ?_
  ·exact zM
  ·simp only[dcAll,dcOk,wantD,List.cons_append,List.nil_append,true_and,and_true]
  refine zS ?_
  refine V.condF zA ?_
  refine zS ?_
  refine V.l0 ?_
  refine V.nil (Or.inl ⟨rfl,R.length-(p+1),by omega,?_⟩)
  exact⟨p+1,by omega,rfl,rfl,gY.trans gYc,zF,zK⟩
 ·refine V.exit ?_
  refine zX ?_
  refine V.nil (Or.inr ⟨by simp,?_⟩)
  refine zX ?_
  refine zS ?_
  refine V.run ?_
  refine VI.callA rfl (f20_ok _) zA (fun Ha ga=>?_)
  refine VI.l0 ?_
  refine zS ?_
  refine V.ret (V.rets rfl (Lv.retF (by simp +contextual (disch:=first|omega|simp only[nx];omega) only[D1,cells_alloc_at,cells_alloc_ne,cells_set_at,cells_set_ne,yres,yres1,yresL,qA,qB,qC,D5,hF,hA,↓reduceIte,qD,qE];rfl) ?_))
  rfl
end Go.Xe.TVX
