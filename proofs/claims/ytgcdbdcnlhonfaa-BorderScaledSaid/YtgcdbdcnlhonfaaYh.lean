/- BorderScaled: streets that weigh more by one factor. Conditions: none. -/
import Derived.Test.YtgcdbdcnlhonfaaTCK
import Derived.Test.YtgcdbdcnlhonfaaZm
import Derived.WideShapes
import Derived.ChangeSame
import Derived.Below
-- MOD TB
namespace Go.Xe.TBX
open Go Go.Xe Go.Proofs
open Nat renaming reduceLeDiff → qA, reduceSub → qB, reduceAdd → qC, reduceEqDiff → qD, reduceLT → qE
open Int renaming reduceNegSucc → qF, reduceEq → qG
open Go.Xe.V renaming seq → sA, block → sB, scope → sC, skip → sD, close → sE
open Go.Xe renaming pth → P
open Go.Xe.Rnd
open Go.Xe.Sea (adl adl_1 adl_at mem_adl pix pix_at pix_adl adl_len)
set_option maxRecDepth 100000
set_option maxHeartbeats 3200000
set_option linter.unusedSimpArgs false
noncomputable def d15 : FCode:=(.seq (.run (.go (.box 26 (tm 0)) (P 2)::
.go (.move (.con (.bool false))) (P 4)::
[])) (.seq (.seq (.run (.go (.loadN 4 (tm 2)) (P 20)::
.go (.call (.con (.func (.func 16) ⟨[]⟩ ⟨[]⟩)) [tm 20]) (P 21)::
.go (.un .not (tm 21)) (P 22)::
.go (.move (tm 22)) (P 23)::
.gd (P 23) false (.loadN 4 (tm 2)) (P 24)::
.gd (P 23) false (.call (.con (.func (.func 21) ⟨[]⟩ ⟨[]⟩)) [tm 24]) (P 25)::
.gd (P 23) false (.bin .neq 29 (tm 25) (.con (.int .i64 (.ofNat 0)))) (P 26)::
.go (.pick (tm 23) (.con (.bool true)) (tm 26)) (P 27)::
[])) (.cond (tm 27) (.seq (.run (.go (.call (.con (.func (.func 17) ⟨[]⟩ ⟨[]⟩)) []) (P 28)::
.go (.move (tm 28)) (P 4)::
[])) .ret) .skip)) (.seq (.run (.go (.move (tm 1)) (P 29)::
.go (.conv .i64 (tm 29)) (P 30)::
.go (.bin .rem 3 (tm 30) (.con (.int .i64 (.ofNat 4)))) (P 31)::
.go (.bin .add 3 (.con (.int .i64 (.ofNat 2))) (tm 31)) (P 32)::
.go (.move (tm 32)) (P 5)::
[])) (.seq (.run (.go (.loadN 4 (tm 2)) (P 33)::
.go (.alloc 26 [(.slice none 0 0),(.int .i64 (.ofNat 0)),(.slice none 0 0),(.slice none 0 0)]) (P 6)::
.un (.store 4 (tm 6) (tm 33))::
[])) (.seq (.run (.go (.buildSlice 54 0 [] []) (P 34)::
.go (.fieldAddr 2 (tm 2)) (P 35)::
.go (.load1 (tm 35)) (P 36)::
.go (.append 54 5 40 (tm 34) (tm 36)) (P 37)::
.go (.fieldAddr 2 (tm 6)) (P 38)::
.un (.store 1 (tm 38) (tm 37))::
[])) (.seq (.seq (.run (.go (.move (.con (.int .i64 (.ofNat 0)))) (P 7)::
[])) (.block 0 (.loop (.seq (.seq (.run (.go (.move (tm 7)) (P 39)::
.go (.fieldAddr 2 (tm 6)) (P 40)::
.go (.load1 (tm 40)) (P 41)::
.go (.len 0 (tm 41)) (P 42)::
.go (.bin .lss 3 (tm 39) (tm 42)) (P 43)::
[])) (.cond (tm 43) .skip (.exit 0))) (.seq (.block 1 (.run (.go (.fieldAddr 2 (tm 6)) (P 46)::
.go (.load1 (tm 46)) (P 47)::
.go (.move (tm 7)) (P 48)::
.go (.indexAddr none 5 (tm 47) (tm 48)) (P 49)::
.go (.fieldAddr 2 (tm 49)) (P 50)::
.go (.load1 (tm 50)) (P 51)::
.go (.move (tm 5)) (P 52)::
.go (.bin .mul 3 (tm 51) (tm 52)) (P 53)::
.go (.indexAddr none 5 (tm 47) (tm 48)) (P 54)::
.go (.fieldAddr 2 (tm 54)) (P 55)::
.un (.store 1 (tm 55) (tm 53))::
[]))) (.run (.go (.move (tm 7)) (P 44)::
.go (.bin .add 3 (tm 44) (.con (.int .i64 (.ofNat 1)))) (P 45)::
.go (.move (tm 45)) (P 7)::
[]))))))) (.seq (.run (.go (.loadN 4 (tm 2)) (P 57)::
.go (.call (.con (.func (.func 19) ⟨[]⟩ ⟨[]⟩)) [tm 57]) (P 58)::
.go (.call (.con (.func (.func 20) ⟨[]⟩ ⟨[]⟩)) [tm 58]) (P 59)::
.go (.move (tm 59)) (P 56)::
.go (.extract (tm 56) 0) (P 60)::
.go (.extract (tm 56) 1) (P 61)::
.go (.extract (tm 56) 2) (P 62)::
.go (.move (tm 60)) (P 8)::
.go (.move (tm 61)) (P 9)::
.go (.move (tm 62)) (P 10)::
[])) (.seq (.seq (.run (.go (.move (tm 10)) (P 63)::
.go (.bin .neq 29 (tm 63) (.con (.int .i64 (.ofNat 0)))) (P 64)::
.go (.move (tm 64)) (P 65)::
.gd (P 65) false (.move (tm 8)) (P 66)::
.gd (P 65) false (.len 0 (tm 66)) (P 67)::
.gd (P 65) false (.fieldAddr 2 (tm 2)) (P 68)::
.gd (P 65) false (.load1 (tm 68)) (P 69)::
.gd (P 65) false (.len 0 (tm 69)) (P 70)::
.gd (P 65) false (.bin .neq 3 (tm 67) (tm 70)) (P 71)::
.go (.pick (tm 65) (.con (.bool true)) (tm 71)) (P 72)::
[])) (.cond (tm 72) (.seq (.run (.go (.move (.con (.bool false))) (P 4)::
[])) .ret) .skip)) (.seq (.seq (.run (.go (.move (.con (.int .i64 (.ofNat 0)))) (P 11)::
[])) (.block 2 (.loop (.seq (.seq (.run (.go (.move (tm 11)) (P 73)::
.go (.fieldAddr 0 (tm 2)) (P 74)::
.go (.load1 (tm 74)) (P 75)::
.go (.len 0 (tm 75)) (P 76)::
.go (.bin .lss 3 (tm 73) (tm 76)) (P 77)::
[])) (.cond (tm 77) .skip (.exit 2))) (.seq (.block 3 (.seq (.run (.go (.move (.con (.slice none 0 0))) (P 12)::
.go (.move (.con (.slice none 0 0))) (P 13)::
[])) (.seq (.seq (.run (.go (.move (.con (.int .i64 (.ofNat 0)))) (P 14)::
[])) (.block 4 (.loop (.seq (.seq (.run (.go (.move (tm 14)) (P 80)::
.go (.fieldAddr 2 (tm 2)) (P 81)::
.go (.load1 (tm 81)) (P 82)::
.go (.len 0 (tm 82)) (P 83)::
.go (.bin .lss 3 (tm 80) (tm 83)) (P 84)::
[])) (.cond (tm 84) .skip (.exit 4))) (.seq (.block 5 (.seq (.run (.go (.fieldAddr 2 (tm 2)) (P 87)::
.go (.load1 (tm 87)) (P 88)::
.go (.move (tm 14)) (P 89)::
.go (.indexAddr none 5 (tm 88) (tm 89)) (P 90)::
.go (.fieldAddr 0 (tm 90)) (P 91)::
.go (.load1 (tm 91)) (P 92)::
.go (.move (tm 11)) (P 93)::
.go (.bin .eql 3 (tm 92) (tm 93)) (P 94)::
[])) (.cond (tm 94) (.draw 18 (.go (.move (tm 12)) (P 95)::
.go (.fieldAddr 2 (tm 2)) (P 96)::
.go (.load1 (tm 96)) (P 97)::
.go (.move (tm 14)) (P 98)::
.go (.indexAddr none 5 (tm 97) (tm 98)) (P 99)::
.go (.fieldAddr 2 (tm 99)) (P 100)::
.go (.load1 (tm 100)) (P 101)::
.go (.buildSlice 3 1 [(.int .i64 (.ofNat 0))] [(0,1,(tm 101))]) (P 102)::
.go (.append 3 1 8 (tm 95) (tm 102)) (P 103)::
.go (.move (tm 13)) (P 104)::
.go (.move (tm 8)) (P 105)::
.go (.move (tm 14)) (P 106)::
.go (.indexAddr none 1 (tm 105) (tm 106)) (P 107)::
.go (.load1 (tm 107)) (P 108)::
.go (.buildSlice 3 1 [(.int .i64 (.ofNat 0))] [(0,1,(tm 108))]) (P 109)::
.go (.append 3 1 8 (tm 104) (tm 109)) (P 110)::
.go (.move (tm 103)) (P 12)::
.go (.move (tm 110)) (P 13)::
[]) [.ok,.ok,.ok,.ok,.ok,.ok,.ok,.nw none (some (P 102)) 7 true,.ok,.ok,.ok,.ok,.ok,.rd none (.load1 (tm 107)) (some (P 108)) [0],.nw none (some (P 109)) 14 true,.ok,.ok,.ok]) .skip))) (.run (.go (.move (tm 14)) (P 85)::
.go (.bin .add 3 (tm 85) (.con (.int .i64 (.ofNat 1)))) (P 86)::
.go (.move (tm 86)) (P 14)::
[]))))))) (.seq (.run (.go (.move (tm 12)) (P 112)::
.go (.fieldAddr 0 (tm 2)) (P 113)::
.go (.load1 (tm 113)) (P 114)::
.go (.move (tm 11)) (P 115)::
.go (.indexAddr none 1 (tm 114) (tm 115)) (P 116)::
.go (.load1 (tm 116)) (P 117)::
.go (.call (.con (.func (.func 54) ⟨[]⟩ ⟨[]⟩)) [(tm 112),(tm 117)]) (P 118)::
.go (.move (tm 118)) (P 111)::
.go (.extract (tm 111) 0) (P 119)::
.go (.extract (tm 111) 1) (P 120)::
.go (.move (tm 119)) (P 15)::
.go (.move (tm 120)) (P 16)::
[])) (.seq (.run (.go (.move (tm 16)) (P 121)::
.go (.bin .neq 29 (tm 121) (.con (.int .i64 (.ofNat 0)))) (P 122)::
.go (.move (tm 122)) (P 123)::
.gd (P 123) false (.move (tm 15)) (P 124)::
.gd (P 123) false (.move (tm 13)) (P 125)::
.gd (P 123) false (.call (.con (.func (.func 23) ⟨[]⟩ ⟨[]⟩)) [(tm 124),(tm 125)]) (P 126)::
.gd (P 123) false (.un .not (tm 126)) (P 127)::
.go (.pick (tm 123) (.con (.bool true)) (tm 127)) (P 128)::
[])) (.cond (tm 128) (.seq (.run (.go (.move (.con (.bool false))) (P 4)::
[])) .ret) .skip)))))) (.run (.go (.move (tm 11)) (P 78)::
.go (.bin .add 3 (tm 78) (.con (.int .i64 (.ofNat 1)))) (P 79)::
.go (.move (tm 79)) (P 11)::
[]))))))) (.seq (.seq (.run (.go (.loadN 4 (tm 6)) (P 129)::
.go (.call (.con (.func (.func 21) ⟨[]⟩ ⟨[]⟩)) [tm 129]) (P 130)::
.go (.bin .neq 29 (tm 130) (.con (.int .i64 (.ofNat 0)))) (P 131)::
[])) (.cond (tm 131) (.seq (.run (.go (.call (.con (.func (.func 17) ⟨[]⟩ ⟨[]⟩)) []) (P 132)::
.go (.move (tm 132)) (P 4)::
[])) .ret) .skip)) (.seq (.run (.go (.loadN 4 (tm 6)) (P 134)::
.go (.call (.con (.func (.func 19) ⟨[]⟩ ⟨[]⟩)) [tm 134]) (P 135)::
.go (.call (.con (.func (.func 20) ⟨[]⟩ ⟨[]⟩)) [tm 135]) (P 136)::
.go (.move (tm 136)) (P 133)::
.go (.extract (tm 133) 0) (P 137)::
.go (.extract (tm 133) 1) (P 138)::
.go (.extract (tm 133) 2) (P 139)::
.go (.move (tm 137)) (P 17)::
.go (.move (tm 138)) (P 18)::
.go (.move (tm 139)) (P 19)::
[])) (.seq (.run (.go (.move (tm 19)) (P 140)::
.go (.bin .eql 29 (tm 140) (.con (.int .i64 (.ofNat 0)))) (P 141)::
.go (.move (tm 141)) (P 142)::
.gd (P 142) true (.move (tm 8)) (P 143)::
.gd (P 142) true (.move (tm 17)) (P 144)::
.gd (P 142) true (.call (.con (.func (.func 23) ⟨[]⟩ ⟨[]⟩)) [(tm 143),(tm 144)]) (P 145)::
.go (.pick (tm 142) (tm 145) (.con (.bool false))) (P 146)::
.go (.move (tm 146)) (P 147)::
.gd (P 147) true (.move (tm 9)) (P 148)::
.gd (P 147) true (.move (tm 18)) (P 149)::
.gd (P 147) true (.call (.con (.func (.func 23) ⟨[]⟩ ⟨[]⟩)) [(tm 148),(tm 149)]) (P 150)::
.go (.pick (tm 147) (tm 150) (.con (.bool false))) (P 151)::
.go (.move (tm 151)) (P 152)::
.gd (P 152) true (.call (.con (.func (.func 17) ⟨[]⟩ ⟨[]⟩)) []) (P 153)::
.go (.pick (tm 152) (tm 153) (.con (.bool false))) (P 154)::
.go (.move (tm 154)) (P 4)::
[])) .ret))))))))))))
theorem de15 : @compF Try.prog (Gl.none Try.prog) Try.f15 2=.mk d15 (mkTT 155) [(P 0),(P 1)] [.tmp (P 4)]:=by kernel_rfl
theorem dg15 : Try.prog.funcs[15]?=some Try.f15:=Try.func15
theorem do15 : okF Try.prog Try.f15=true:=by kernel_rfl
def scl (c : Int) (s : St) : St:={ s with w:=s.w*c }
def scS (c : Int) (k : Nat) (S : List St) : List St:=S.mapIdx fun i s=>if i<k then scl c s else s
theorem scS_len {c : Int} {k : Nat} {S : List St} : (scS c k S).length=S.length:=by simp[scS]
theorem scS_0 {c : Int} {S : List St} : scS c 0 S=S:=by
 apply List.ext_getElem
 ·simp[scS]
 ·intro i h1 h2
  simp[scS]
theorem scS_end {c : Int} {S : List St} : scS c S.length S=S.map (scl c):=by
 apply List.ext_getElem
 ·simp[scS]
 ·intro i h1 h2
  have : i<S.length:=by simpa using h2
  simp[scS,this]
theorem scS_at {c : Int} {k : Nat} {S : List St} (h : k<S.length) : (scS c k S)[k]'(by rw[scS_len];exact h)=S[k]:=by
 simp[scS]
theorem scS_1 {c : Int} {k : Nat} {S : List St} (h : k<S.length) : (scS c k S).set k (scl c S[k])=scS c (k+1) S:=by
 apply List.ext_getElem
 ·simp[scS]
 ·intro i h1 h2
  have hi : i<S.length:=by simpa [scS] using h2
  rw[List.getElem_set]
  split
  ·rename_i e
   subst e
   simp[scS]
  ·rename_i e
   simp only[scS,List.getElem_mapIdx]
   by_cases c1 : i<k
   ·rw[if_pos c1,if_pos (by omega)]
   ·rw[if_neg c1,if_neg (by omega)]
theorem flat_set1 {w c : Nat} {x : Value} (hc : c<w) : ∀ {l : List (List Value)} {g : Nat} (hg : g<l.length),(∀ y∈l,y.length=w)→l.flatten.set (g*w+c) x=(l.set g (l[g].set c x)).flatten
 | [],_,h,_=>absurd h (by simp)
 | a::l,0,_,hl=>by
  have ha:=hl a (by simp)
  simp only[List.flatten_cons,Nat.zero_mul,Nat.zero_add,List.set_cons_zero,List.getElem_cons_zero]
  rw[List.set_append_left _ _ (by omega)]
 | a::l,g+1,h,hl=>by
  have ha:=hl a (by simp)
  have e : (g+1)*w+c=a.length+(g*w+c):=by rw[Nat.succ_mul,ha];omega
  simp only[List.flatten_cons,List.set_cons_succ,List.getElem_cons_succ]
  rw[List.set_append_right _ _ (by omega),e,Nat.add_sub_cancel_left,flat_set1 hc (by simpa using h) (fun y hy=>hl y (by simp[hy]))]
theorem own_idx5 {y n c g : Nat} (h : g<n) : yindexAddr none 5 (.slice (some ⟨y,0,none⟩) n c) (I (g : Nat))=some (.pointer (some ⟨y,g*5,none⟩)):=by
 simp only[yindexAddr]
 rw[if_pos ⟨by omega,by omega⟩]
 simp
theorem flat_len5 {l : List (List Value)} (h : ∀ x∈l,x.length=5) : l.flatten.length=l.length*5:=by
 induction l with
 | nil=>rfl
 | cons a l ih=>
  simp only[List.flatten_cons,List.length_append,List.length_cons]
  rw[ih (fun x hx=>h x (by simp[hx])),h a (by simp)]
  omega
theorem flat_get5 {l : List (List Value)} {g c : Nat} (h : ∀ x∈l,x.length=5) (hg : g<l.length) (hc : c<5) : l.flatten[g*5+c]?=l[g][c]?:=by
 induction l generalizing g with
 | nil=>exact absurd hg (by simp)
 | cons a l ih=>
  have ha:=h a (by simp)
  cases g with
  | zero=>
   simp only[List.flatten_cons,Nat.zero_mul,Nat.zero_add,List.getElem_cons_zero]
   rw[List.getElem?_append_left (by omega)]
  | succ g=>
   simp only[List.flatten_cons,List.getElem_cons_succ]
   rw[List.getElem?_append_right (by omega),ha]
   have e : (g+1)*5+c-5=g*5+c:=by omega
   rw[e]
   exact ih (fun x hx=>h x (by simp[hx])) (by simpa using hg)
def scM (c : Int) (M : BM) : BM:={ M with S:=M.S.map (scl c) }
section
variable {c : Int} {M : BM}
theorem sc_old : oldF (scM c M)=oldF M:=by
 funext i
 unfold oldF scM
 simp only[List.getElem?_map]
 cases M.S[i]?<;>rfl
theorem sc_new : newF (scM c M)=newF M:=by
 funext i
 unfold newF scM
 simp only[List.getElem?_map]
 cases M.S[i]?<;>rfl
theorem sc_w : wF (scM c M)=fun i=>c*wF M i:=by
 funext i
 unfold wF scM
 simp only[List.getElem?_map]
 cases M.S[i]? with
 | none=>simp
 | some s=>simp[scl,Int.mul_comm]
theorem sc_len : (scM c M).S.length=M.S.length:=by simp[scM]
theorem sc_vd {d : Nat} : vd (scM c M) d=vd M d:=by unfold vd;rw[sc_len,sc_old]
theorem sc_dsh (hc : 0<c) {d : Nat} : dsh (scM c M) d=dsh M d:=by
 unfold dsh
 have e : wsa (scM c M) d=(wsa M d).map (c*·):=by
  unfold wsa
  rw[sc_vd,sc_w,List.map_map]
  rfl
 rw[e,dv_mul hc]
 rfl
theorem sc_shr (hc : 0<c) : shr (scM c M)=shr M:=by
 funext i
 unfold shr
 rw[sc_dsh hc,sc_old,sc_vd]
end
theorem s5_scl {c : Int} {s : St} : (s5 s).set 2 (I (s.w*c))=s5 (scl c s):=rfl
def owd (M : BM) (v : Nat→Int) (k : Nat) : List Int:=(adl v k).map (shr M)
theorem owd_1 {M : BM} {v : Nat→Int} {k : Nat} : owd M v (k+1)=if 0<v k then owd M v k++[shr M k] else owd M v k:=by
 unfold owd
 rw[adl_1]
 split
 ·simp
 ·rfl
theorem owd_end {M : BM} (G : VM M) {d : Nat} (hd : d<M.O.length) : owd M (vd M d) M.S.length=dsh M d:=by
 unfold owd
 rw[← adl_8 G.s8]
 apply List.ext_getElem
 ·rw[List.length_map,G.dsh_len hd]
 ·intro k h1 h2
  have hk : k<(adl (vd M d) 8).length:=by simpa using h1
  rw[List.getElem_map,(pix_at hk).1,shr_pix hk]
  simp[h2]
theorem f15_all {H : Heap} {o s j : Value} {M : BM} {b : Int} (h : MV H o s j M) (hb : 0≤b∧b≤255) : F Try.prog 15 ⟨[.agg ⟨mc o s j M.N⟩,.int .u8 b]⟩ H (fun w _=>w=.bool true):=by
 have hl:=h.s.len
 have hlo:=h.o.len
 obtain⟨po,no,co,rfl⟩:=h.o.s.isS
 obtain⟨ps,ns,cs,rfl⟩:=h.s.isS
 obtain⟨pj,nj,cj,rfl⟩:=h.j.isS
 obtain⟨tm4,htm⟩ : ∃ m,b.tmod 4=m:=⟨_,rfl⟩
 have htb : 0≤tm4∧tm4<4:=by rw[← htm];exact⟨Int.tmod_nonneg _ hb.1,Int.tmod_lt_of_pos _ (by omega)⟩
 refine F.entryL rfl dg15 do15 de15 rfl (by kernel_rfl) ?_
 simp only[sets]
 refine V.re [(0,.agg ⟨mc (.slice po no co) (.slice ps ns cs) (.slice pj nj cj) M.N⟩),(1,.int .u8 b)] (N:=155) zE zY ?_
 intro t hF hA
 simp only[Kn,and_true] at hA
 refine zS ?_
 refine V.l0 ?_
 refine V.heap (fun X=>Grow H X∧Bx X H.next (mc (.slice po no co) (.slice ps ns cs) (.slice pj nj cj) M.N) 26) ⟨?_,?_⟩ ?_
 ·exact zW
 ·exact zB
 rintro H1 ⟨g1,b1⟩
 refine zS ?_
 refine V.run ?_
 have zf:=b1.2
 refine VI.sz 1 ?_
 simp only[ds]
 refine VI.callA rfl (f16_ok (h.grow g1)) zA (fun H2 g2=>?_)
 have b2:=b1.grow g2
 have g12:=g1.trans g2
 have zf:=b2.2
 refine VI.sz 3 ?_
 simp only[ds]
 first|refine VI.callGt zG (fun hc=>zI) (fun hc=>f21_ok (h.grow g12)) (fun hc=>zI) (fun H3 g3=>?_)|refine VI.callGf zG (fun hc=>zI) (fun hc=>f21_ok (h.grow g12)) (fun hc=>zI) (fun H3 g3=>?_)
 refine VI.l0 ?_
 have b3:=b2.grow g3
 have g13:=g12.trans g3
 refine zS ?_
 refine V.condP zP (fun hno=>?_) (fun hno=>?_)
 ·refine zS ?_
  refine V.run ?_
  refine VI.callA rfl (f17_ok _) zA (fun H4 g4=>?_)
  refine VI.l0 ?_
  refine zS ?_
  refine V.ret (V.rets rfl (Lv.retF (by simp +contextual (disch:=first|omega|simp only[nx];omega) only[D1,cells_alloc_at,cells_alloc_ne,cells_set_at,cells_set_ne,yres,yres1,yresL,qA,qB,qC,D5,hF,hA,↓reduceIte,qD,qE];rfl) ?_))
  rfl
 have hth : thin M:=by
  apply Decidable.by_contra
  intro hh
  exact hno (.inl hh)
 have h0 : fltM M=0:=by
  apply Decidable.by_contra
  intro hh
  exact hno (.inr hh)
 obtain⟨hf1,hf2⟩:=fltM_0.1 h0
 have G:=VM.of hf1 hf2
 have hS8:=G.s8
 have hO4:=G.o4
 have hS0:=G.s0
 have hN4:=G.n
 obtain⟨c,hc⟩ : ∃ c,2+tm4=c:=⟨_,rfl⟩
 have hcb : 2≤c∧c≤5:=by omega
 refine zS ?_
 have zf:=And.intro @htm<|@hc
 refine V.lz ?_
 have n3:=g13.1
 have nb3:=b3.1
 refine zS ?_
 have zf:=b3.2
 refine V.lz ?_
 refine V.heap (fun X=>Grow H X∧Bx X H.next (mc (.slice po no co) (.slice ps ns cs) (.slice pj nj cj) M.N) 26∧Bx X H3.next (mc (.slice po no co) (.slice ps ns cs) (.slice pj nj cj) M.N) 26) ⟨?_,?_,?_⟩ ?_
 ·exact (g13.alloc _).set (by omega) _
 ·exact (b3.alloc _).set (by omega) _
 ·exact Bx.put (by simp only[Heap.next_alloc];omega) _ _
 rintro H4 ⟨g4,b4,c4⟩
 have n4:=c4.1
 obtain⟨u,H5,a1,a2,a3,a4⟩:=OwW.append (H0:=H4) (H:=H4.alloc (.cells ⟨[]⟩ 54 true)) (w:=5) (e:=54) (bytes:=40) (s:=.slice (some ⟨H4.next,0,none⟩) 0 0) (l:=[]) (x:=.slice ps ns cs) (r:=M.S.map s5) (by decide) ((Grow.refl H4).alloc _) (.inr ⟨H4.next,Nat.le_refl _,Nat.lt_succ_self _,rfl,cells_alloc _ _ _ _⟩) (by simp) ((h.s.grow (g4.trans ((Grow.refl H4).alloc _))).s) s5_w (by
  rw[List.all_flatten,List.all_map]
  exact List.all_eq_true.2 (fun x _=>rfl)) (by simp;omega) (by simp;omega)
 rw[List.nil_append] at a2
 rcases a2 with⟨_,a2⟩|⟨bk,k1,k2,rfl,k4⟩
 ·have : M.S=[]:=by simpa using a2
  rw[this] at hS0
  exact absurd hS0 (by simp)
 rw[List.length_map] at a1
 have g45:=a3
 have b5:=b4.grow g45
 have c5:=c4.grow g45
 refine zS ?_
 have zf:=And.intro b4.2<|And.intro @a1<|And.intro b5.2<|c5.2
 refine V.lz ?_
 refine V.heap (fun X=>Grow H X∧Bx X H.next (mc (.slice po no co) (.slice ps ns cs) (.slice pj nj cj) M.N) 26∧Bx X H3.next (mc (.slice po no co) (.slice (some ⟨bk,0,none⟩) M.S.length M.S.length) (.slice pj nj cj) M.N) 26∧Bx X bk ((scS c 0 M.S).map s5).flatten 54) ⟨?_,?_,?_,?_⟩ ?_
 ·exact (g4.trans g45).set (by omega) _
 ·exact b5.set (by omega) _
 ·exact Bx.put c5.1 _ _
 ·rw[scS_0]
  exact Bx.set (j:=H3.next) ⟨k2,k4⟩ (by omega) _
 rintro H6 ⟨g6,b6,c6,d6⟩
 refine zS ?_
 refine V.l0 ?_
 refine zS ?_
 refine V.loop (fun z t mm X=>∃ (k : Nat),k≤M.S.length∧z=M.S.length-k∧mm=[]∧Grow H X∧Bx X H.next (mc (.slice po no co) (.slice ps ns cs) (.slice pj nj cj) M.N) 26∧Bx X H3.next (mc (.slice po no co) (.slice (some ⟨bk,0,none⟩) M.S.length M.S.length) (.slice pj nj cj) M.N) 26∧Bx X bk ((scS c k M.S).map s5).flatten 54∧Full 155 t∧Kn [(2,PT H.next),(5,I c),(6,PT H3.next),(7,I k)] t) M.S.length ?_ ?_
 ·exact⟨0,by omega,by omega,rfl,g6,b6,c6,d6,zF,zK⟩
 clear hF hA g6 b6 c6 d6
 rintro z t mm X ⟨k,hk,rfl,rfl,gX,bX,cX,dX,hF,hA⟩
 simp only[Kn,and_true] at hA
 have hbl : ∀ X,ylen 0 X (.slice (some ⟨bk,0,none⟩) M.S.length M.S.length)=some (I M.S.length):=fun _=>rfl
 refine zS ?_
 have zf:=And.intro cX.2<|@hbl
 refine V.lz ?_
 refine zS ?_
 refine V.condP zP (fun hlt=>?_) (fun hlt=>?_)
 ·have hlt' : k<M.S.length:=by omega
  have ix:=own_idx5 (y:=bk) (n:=M.S.length) (c:=M.S.length) hlt'
  obtain⟨st,hst⟩ : ∃ st,st=M.S[k]:=⟨_,rfl⟩
  have hsk:=G.s _ (List.getElem_mem hlt')
  rw[← hst] at hsk
  have hw:=hsk.2.2.1
  have hm1 : 0≤st.w*c∧st.w*c≤5000:=by
   have h1 : 0≤st.w*c:=Int.mul_nonneg hw.1 (by omega)
   have h2 : st.w*c≤1000*c:=Int.mul_le_mul_of_nonneg_right hw.2 (by omega)
   omega
  have hlk : k<((scS c k M.S).map s5).length:=by rw[List.length_map,scS_len];exact hlt'
  have erow : ((scS c k M.S).map s5)[k]=s5 st:=by rw[List.getElem_map,scS_at hlt',hst]
  have e1 : ((scS c k M.S).map s5).flatten[k*5+2]?=some (I st.w):=by
   rw[flat_get5 s5_w hlk (by decide),erow];rfl
  have e2 : ((scS c k M.S).map s5).flatten.set (k*5+2) (I (st.w*c))=((scS c (k+1) M.S).map s5).flatten:=by
   rw[flat_set1 (by decide) hlk s5_w,erow,s5_scl,← scS_1 hlt',List.map_set,hst]
  have e3 : k*5+2<((scS c k M.S).map s5).flatten.length:=by
   rw[flat_len5 s5_w,List.length_map,scS_len];omega
  have nd:=dX.1
  refine zS ?_
  have zf:=And.intro cX.2<|And.intro @ix<|And.intro dX.2<|And.intro @e1<|And.intro @e2<|@e3
  refine V.lz ?_
  refine zS ?_
  refine V.l0 ?_
  refine V.nil (Or.inl ⟨rfl,M.S.length-(k+1),by omega,?_⟩)
  refine⟨k+1,hlt',rfl,rfl,gX.set (by omega) _,bX.set (by omega) _,cX.set (by omega) _,Bx.put dX.1 _ _,zF,zK⟩
 obtain rfl : k=M.S.length:=by omega
 rw[scS_end] at dX
 have mS : SS X (.slice (some ⟨bk,0,none⟩) M.S.length M.S.length) (scM c M).S:=⟨by
  have q : OwW 5 H X 54 (.slice (some ⟨bk,0,none⟩) M.S.length M.S.length) ((scM c M).S.map s5):=.inr ⟨bk,by omega,dX.1,by rw[List.length_map,sc_len],dX.2⟩
  exact q.sw s5_w⟩
 have mM : MV X (.slice po no co) (.slice (some ⟨bk,0,none⟩) M.S.length M.S.length) (.slice pj nj cj) (scM c M):=⟨h.o.grow gX,mS,h.j.grow gX⟩
 have thM : thin (scM c M):=by
  unfold thin at hth ⊢
  rw[sc_len]
  exact hth
 refine V.exit ?_
 refine zX ?_
 refine V.nil (Or.inr ⟨by simp,?_⟩)
 refine zX ?_
 refine zS ?_
 refine V.run ?_
 have zf:=bX.2
 refine VI.sz 1 ?_
 simp only[ds]
 refine VI.callR zA (f19_ok (h.grow gX) hth) zA (fun w7 H7 ⟨g7,o7,s7,j7,hw7,m7⟩=>?_)
 subst hw7
 refine VI.callR zA (f20_ok m7) zA (fun w8 H8 ⟨g8,q8⟩=>?_)
 rcases q8 with⟨k,_⟩|⟨_,_,y1,y2,hw8,r1,r2⟩
 ·exact absurd h0 k
 subst hw8
 have i1:=r1.s.isS
 have i2:=r2.s.isS
 obtain⟨p1,n1',c1,rfl⟩:=i1
 obtain⟨p2,n2',c2,rfl⟩:=i2
 have l1:=r1.len
 rw[fl_len] at l1
 have b8:=(bX.grow g7).grow g8
 have c8:=(cX.grow g7).grow g8
 have mM8:=(mM.grow g7).grow g8
 have gH8:=(gX.trans g7).trans g8
 refine VI.l0 ?_
 refine zS ?_
 have zf:=And.intro @l1<|And.intro b8.2<|@hl
 refine V.lz ?_
 refine zS ?_
 refine V.condP zP (fun hbad=>?_) (fun hbad=>?_)
 ·exact absurd hbad (by simp)
 refine zS ?_
 refine V.l0 ?_
 refine zS ?_
 refine V.loop (fun z t mm X=>∃ (d : Nat),d≤M.O.length∧z=M.O.length-d∧mm=[]∧Grow H8 X∧Full 155 t∧Kn [(2,PT H.next),(6,PT H3.next),(8,.slice p1 n1' c1),(9,.slice p2 n2' c2),(11,I d)] t) M.O.length ?_ ?_
 ·exact⟨0,by omega,by omega,rfl,.refl _,zF,zK⟩
 clear hF hA
 rintro z t mm X ⟨d,hd,rfl,rfl,gX8,hF,hA⟩
 simp only[Kn,and_true] at hA
 have bX:=b8.grow gX8
 have cX:=c8.grow gX8
 refine zS ?_
 have zf:=And.intro bX.2<|@hlo
 refine V.lz ?_
 refine zS ?_
 refine V.condP zP (fun hlt=>?_) (fun hlt=>?_)
 ·have hlt' : d<M.O.length:=by omega
  obtain⟨lp,lp1,lp2⟩:=h.o.at hlt'
  have ot:=G.ot hlt'
  have hdE:=G.dshE hlt'
  have hde:=G.de0 hlt'
  obtain⟨tt,htt⟩ : ∃ tt,tt=M.O[d]:=⟨_,rfl⟩
  rw[← htt] at hdE hde
  refine zS ?_
  refine V.l0 ?_
  refine zS ?_
  refine V.l0 ?_
  refine zS ?_
  refine V.loop (fun z t mm Y=>∃ (k : Nat) (col : Nat→Nat) (vp vg : Value),k≤M.S.length∧z=M.S.length-k∧mm=[]∧Grow X Y∧isS vp∧isS vg∧OL X.next col 0 Y vp (wsd M (vd M d) k)∧OL X.next col 1 Y vg (owd M (vd M d) k)∧Full 155 t∧Kn [(2,PT H.next),(6,PT H3.next),(8,.slice p1 n1' c1),(9,.slice p2 n2' c2),(11,I d),(12,vp),(13,vg),(14,I k)] t) M.S.length ?_ ?_
  ·exact⟨0,fun _=>0,.slice none 0 0,.slice none 0 0,by omega,by omega,rfl,.refl _,⟨_,_,_,rfl⟩,⟨_,_,_,rfl⟩,.nil,.nil,zF,zK⟩
  clear hF hA
  rintro z t mm Y ⟨k,col,vp,vg,hk,rfl,rfl,gY,hvp,hvg,op,og,hF,hA⟩
  obtain⟨pp,np,cp,rfl⟩:=hvp
  obtain⟨pg,ng,cg,rfl⟩:=hvg
  simp only[Kn,and_true] at hA
  have bY:=bX.grow gY
  refine zS ?_
  have zf:=And.intro bY.2<|@hl
  refine V.lz ?_
  refine zS ?_
  refine V.condP zP (fun hlk=>?_) (fun hlk=>?_)
  ·have hk' : k<M.S.length:=by omega
   obtain⟨si,so',h1,h2⟩:=h.s.at hk'
   have gHY:=(gH8.trans gX8).trans gY
   have h3:=(h2 Y gHY).2.1
   have h4:=(h2 Y gHY).2.2.2.1
   rw[← oldF_at hk'] at h3
   rw[← wF_at hk'] at h4
   have hvk:=vd_pos (M:=M) (d:=d) (i:=k)
   obtain⟨q1,q2,q3⟩:=r1.at (k:=k) (by rw[fl_len];exact hk')
   simp only[fl_at] at q3
   refine zS ?_
   have zf:=And.intro bY.2<|And.intro @h1<|@h3
   refine V.lz ?_
   refine zS ?_
   refine V.condP zP (fun he=>?_) (fun he=>?_)
   ·have hv : 0<vd M d k:=hvk.2 ⟨hk',he⟩
    have hn1:=gY.1
    have hal:=adl_len (v:=vd M d) k
    have lp : (wsd M (vd M d) k).length≤1048576:=by unfold wsd;rw[List.length_map];omega
    have lg : (owd M (vd M d) k).length≤1048576:=by unfold owd;rw[List.length_map];omega
    obtain⟨u,X1,a1,col1,a2,a3,a4,a5⟩:=OL.push op hn1 lp (wF M k)
    have og1:=Oc.st og a3 (by decide)
    have hn2 : X.next≤X1.next:=by omega
    obtain⟨u',X2,c1,col2,c2,c3,c4,c5⟩:=OL.push (l:=owd M (vd M d) k) og1 hn2 lg (shr M k)
    have op2:=Oc.st a2 c3 (by decide)
    have gX1:=a4.grow gY (Nat.le_refl _)
    have gX2:=c4.grow gX1 (Nat.le_refl _)
    obtain⟨pu,nu,cu,rfl⟩:=Oc.slice op2
    obtain⟨pu',nu',cu',rfl⟩:=Oc.slice c2
    have v1:=q3 X1 (gX8.trans gX1)
    have v0:=q3 Y (gX8.trans gY)
    have v0a:=q3 (Y.alloc (.cells ⟨[I (wF M k)]⟩ 3 true)) ((gX8.trans gY).alloc _)
    have v1a:=q3 (X1.alloc (.cells ⟨[I (shr M k)]⟩ 3 true)) ((gX8.trans gX1).alloc _)
    have v2:=q3 X2 (gX8.trans gX2)
    refine zS ?_
    have zf:=And.intro bY.2<|And.intro @h1<|And.intro @h4<|And.intro @a1<|And.intro @q2<|And.intro @v1<|@c1
    refine V.dz ?_ ?_ rfl ?_
    ·exact zM
    ·simp only[dcAll,dcOk,wantD,List.cons_append,List.nil_append,true_and,and_true]
     have zf:=And.intro @v0<|And.intro @v0a<|And.intro @v1<|And.intro @v1a<|@v2
     exact⟨fun _=>⟨_,_,_,rfl,rfl,rfl,(by simp only[D5,hF,hA,↓reduceIte,qD,qE];simp[inBound]),fun _=>⟨_,_,_,cells_alloc _ _ _ _,(by first|exact An_inb|rfl)⟩⟩,zR,fun _=>⟨_,_,_,rfl,rfl,rfl,(by simp only[D5,hF,hA,↓reduceIte,qD,qE];simp[inBound]),fun _=>⟨_,_,_,cells_alloc _ _ _ _,(by first|exact An_inb|rfl)⟩⟩⟩
    refine zS ?_
    refine V.l0 ?_
    refine V.nil (Or.inl ⟨rfl,M.S.length-(k+1),by omega,?_⟩)
    refine⟨k+1,col2,_,_,hk',rfl,rfl,gX2,⟨_,_,_,rfl⟩,⟨_,_,_,rfl⟩,?_,?_,zF,zK⟩
    ·rw[wsd_1,if_pos hv];exact op2
    ·rw[owd_1,if_pos hv];exact c2
   ·have hv : ¬ 0<vd M d k:=fun hh=>he (hvk.1 hh).2
    refine zS ?_
    refine V.l0 ?_
    refine V.nil (Or.inl ⟨rfl,M.S.length-(k+1),by omega,?_⟩)
    refine⟨k+1,col,_,_,hk',rfl,rfl,gY,⟨_,_,_,rfl⟩,⟨_,_,_,rfl⟩,?_,?_,zF,zK⟩
    ·rw[wsd_1,if_neg hv];exact op
    ·rw[owd_1,if_neg hv];exact og
  obtain rfl : k=M.S.length:=by omega
  have ew : wsd M (vd M d) M.S.length=wsa M d:=by unfold wsd wsa;rw[adl_8 hS8]
  rw[ew] at op
  rw[owd_end G hlt'] at og
  have lp3:=lp2 Y ((gH8.trans gX8).trans gY)
  rw[← htt] at lp3
  have hwl8:=VM.wl (M:=M) (d:=d)
  have hdl:=G.dsh_len hlt'
  refine V.exit ?_
  refine zX ?_
  refine V.nil (Or.inr ⟨by simp,?_⟩)
  refine zX ?_
  refine zS ?_
  refine V.run ?_
  have zf:=And.intro bY.2<|And.intro @lp1<|@lp3
  refine VI.sz 6 ?_
  simp only[ds]
  refine VI.callR zA (f54_ok tt (OL.ls op) (by omega)) zA (fun w9 H9 ⟨g9,q9⟩=>?_)
  rcases q9 with⟨q9,_⟩|⟨_,v9,hw9,q9⟩
  ·exact absurd hde q9
  subst hw9
  obtain⟨p9,n9,c9,rfl⟩:=q9.slice
  rw[hdE] at q9
  refine VI.l0 ?_
  refine zS ?_
  refine V.run ?_
  have hal:=adl_len (v:=vd M d) 8
  refine VI.s0 5 ?_
  simp only[ds]
  first|refine VI.callGt zG (fun hc=>zI) (fun hc=>f23_ok (ow_ls q9) ((OL.ls og).grow g9) (by omega)) (fun hc=>zI) (fun Ha ga=>?_)|refine VI.callGf zG (fun hc=>zI) (fun hc=>f23_ok (ow_ls q9) ((OL.ls og).grow g9) (by omega)) (fun hc=>zI) (fun Ha ga=>?_)
  refine VI.l0 ?_
  refine zS ?_
  refine V.condP zP (fun hbd=>?_) (fun hbd=>?_)
  ·exact absurd hbd (by simp)
  refine zS ?_
  refine V.l0 ?_
  refine V.nil (Or.inl ⟨rfl,M.O.length-(d+1),by omega,?_⟩)
  exact⟨d+1,hlt',rfl,rfl,((gX8.trans gY).trans g9).trans ga,zF,zK⟩
 obtain rfl : d=M.O.length:=by omega
 refine V.exit ?_
 refine zX ?_
 refine V.nil (Or.inr ⟨by simp,?_⟩)
 refine zX ?_
 have mX:=mM8.grow gX8
 have f21':=f21_ok mX
 obtain⟨e,he⟩ : ∃ e,e=fltM (scM c M):=⟨_,rfl⟩
 rw[← he] at f21'
 refine zS ?_
 refine V.run ?_
 have zf:=cX.2
 refine VI.sz 1 ?_
 simp only[ds]
 refine VI.callA rfl (f21') zA (fun Ha ga=>?_)
 have ca:=cX.grow ga
 refine VI.l0 ?_
 refine zS ?_
 refine V.condP zP (fun hne=>?_) (fun hne=>?_)
 ·refine zS ?_
  refine V.run ?_
  refine VI.callA rfl (f17_ok _) zA (fun Hb gb=>?_)
  refine VI.l0 ?_
  refine zS ?_
  refine V.ret (V.rets rfl (Lv.retF (by simp +contextual (disch:=first|omega|simp only[nx];omega) only[D1,cells_alloc_at,cells_alloc_ne,cells_set_at,cells_set_ne,yres,yres1,yresL,qA,qB,qC,D5,hF,hA,↓reduceIte,qD,qE];rfl) ?_))
  rfl
 have he0 : fltM (scM c M)=0:=by rw[← he];exact Decidable.not_not.1 hne
 refine zS ?_
 refine V.run ?_
 have zf:=ca.2
 refine VI.sz 1 ?_
 simp only[ds]
 refine VI.callR zA (f19_ok (mX.grow ga) thM) zA (fun wb Hb ⟨gb,ob,sb,jb,hwb,mb⟩=>?_)
 subst hwb
 refine VI.callR zA (f20_ok mb) zA (fun wc Hc ⟨gc,qc⟩=>?_)
 rcases qc with⟨k,_⟩|⟨_,G',z1,z2,hwc,t1,t2⟩
 ·exact absurd he0 k
 subst hwc
 have i1:=t1.s.isS
 have i2:=t2.s.isS
 obtain⟨p3,n3',c3,rfl⟩:=i1
 obtain⟨p4,n4',c4',rfl⟩:=i2
 rw[sc_len,sc_shr (by omega)] at t1 t2
 rw[sc_new] at t2
 have t2 : LS Hc (.slice p4 n4' c4') (fl M.N.toNat fun k : Nat=>sF M.S.length (newF M) (shr M) (k : Int)):=t2
 have gXc:=(gX8.trans ga).trans (gb.trans gc)
 have f23a:=f23_ok (r1.grow gXc) t1 (by rw[fl_len];omega)
 rw[decide_eq_true rfl] at f23a
 refine VI.l0 ?_
 refine zS ?_
 have h00 : ((0 : Int)=0)=True:=eq_self _
 refine V.run ?_
 have zf:=@h00
 refine VI.sz 5 ?_
 simp only[ds]
 refine VI.callAT zG rfl (f23a) zA (fun Hd gd=>?_)
 have f23b:=f23_ok ((r2.grow gXc).grow gd) (t2.grow gd) (by rw[fl_len];have : (scM c M).N=M.N:=rfl;omega)
 rw[decide_eq_true rfl] at f23b
 refine VI.s0 4 ?_
 simp only[ds]
 refine VI.callAT zG rfl (f23b) zA (fun He ge=>?_)
 refine VI.s0 2 ?_
 simp only[ds]
 refine VI.callAT zG rfl (f17_ok _) zA (fun Hf gf=>?_)
 refine VI.l0 ?_
 refine zS ?_
 refine V.ret (V.rets rfl (Lv.retF (by simp +contextual (disch:=first|omega|simp only[nx];omega) only[D1,cells_alloc_at,cells_alloc_ne,cells_set_at,cells_set_ne,yres,yres1,yresL,qA,qB,qC,D5,hF,hA,↓reduceIte,qD,qE];rfl) ?_))
 rfl
end Go.Xe.TBX
/- Rules of reasoning over the executable reading of the model's code (part Z16): arguments, by what their types allow. Conditions: none; for every program. -/
namespace Go.Xe
open Go Go.RowKit Go.ChangeShapes Go.WideShapes
theorem okWide_agg {P : Program} {w : World} {r : Reach} {base : Nat} {t : TypeId} {v : Value} {fs : Array Field} (ht : P.underlying t=some (.struct fs)) (h : Value.okWide P w r base t v) : ∃ cs,v=.agg cs:=by
 unfold Value.okWide at h
 rw[ht] at h
 obtain⟨cs,h,_⟩:=h
 exact⟨cs,h⟩
end Go.Xe
/- The end of a call that has changed nothing of what was there: what a statement asks of the memory behind it. Conditions: as post_of_same's, but that new memory may be frozen. -/
namespace Go.Xe
open Go Go.RowKit Go.ChangeShapes Go.WideShapes
variable {H : Type} {enc : TypeId×Value→H} {P : Program}
theorem post_of_old {f : Func} {s : ChangeSpec} {apart fresh handsOn again : Bool} {W W' : World} {args : Array Value} {v : Value} {ds gs : List (DataW H)} {before pa pv : List MemPlace}
  (hW : DataW.Whole enc P f.params.toList s.vars apart W args.toList ds gs before)
  (hres : ∀ (b : Nat) (sp : Nat→Bool) (hd : Bool),DataW.TrodAll enc P W' b sp hd f.resultTypes.toList (v.resultList f.resultTypes.size) (s.fn H (ds++gs)).results [])
  (hargs : ∀ sp : Nat→Bool,(∀ p∈before,sp p.block=true)→DataW.TrodAll enc P W' 0 sp true f.params.toList args.toList (s.fn H (ds++gs)).args pa)
  (hvars : ∀ sp : Nat→Bool,(∀ p∈before,sp p.block=true)→DataW.TrodVars enc P W' sp s.vars (s.fn H (ds++gs)).vars pv)
  (hps : before=pa++pv) (hk : W.keptBut W' (·∈before)) (hfz : ∀ a : Addr,a.block<W.heap.size→W'.frozen? a=W.frozen? a)
  (hok : ∀ (j : Nat) (t : TypeId) (r : Value),f.resultTypes[j]?=some t→(v.resultList f.resultTypes.size)[j]?=some r→Value.okWide P W' .any 0 t r) :
  s.post enc P f apart fresh handsOn again W args v W':=by
 have old : ∀ p∈before,p.block<W.heap.size:=fun p hp=>hW.lt p hp
 have hold : ∀ p∈before,(fun b=>decide (b<W.heap.size)) p.block=true:=fun p hp=>by simpa using old p hp
 subst hps
 refine⟨ds,gs,_,[],pa,pv,hW,hres _ _ _,hargs _ hold,hvars _ hold,World.keptBut_mono (fun p hp=>⟨hp,.inr (List.mem_append.1 hp)⟩) hk,fun _=>?_⟩
 obtain⟨_,_,_,_,_,hz,hn⟩:=hW
 refine⟨hok,_,_,([]++pa)++pv,⟨[]++pa,pv,trodAll_append (hargs _ (fun _ _=>rfl)) (hres _ _ _),hvars _ (fun _ _=>rfl),rfl,?_,?_⟩,?_⟩
 ·intro b off hp
  have hp' : MemPlace.cell b off∈pa++pv:=by simpa using hp
  rw[hfz _ (old _ hp')]
  exact hz b off hp'
 ·intro ha
  simpa using hn ha
 ·intro p hp _
  simpa using hp
end Go.Xe
