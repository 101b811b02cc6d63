/- What the statement FlowPlays comes to. Conditions: none. -/
import Derived.Test.YtbbdafmehaohkaaTGI
import Derived.Test.YtbbdafmehaohkaaTKG
-- MOD TF
namespace Go.Xe.TFX
open Go Go.Xe Go.Proofs
open Nat renaming reduceLeDiff → qA, reduceSub → qB, reduceAdd → qC, reduceEqDiff → qD, reduceLT → qE
open Int renaming reduceNegSucc → qF, reduceEq → qG
open Go.Xe.V renaming seq → sA, block → sB, scope → sC, skip → sD, close → sE
open Go.Xe renaming pth → P
open Go.Xe.Flw
set_option maxRecDepth 100000
set_option maxHeartbeats 6400000
set_option linter.unusedSimpArgs false
noncomputable def d3 : FCode:=(.seq (.run (.go (.box 25 (tm 0)) (P 2)::
.go (.box 29 (tm 1)) (P 3)::
.go (.move (.con (.bool false))) (P 4)::
[])) (.seq (.seq (.run (.go (.loadN 4 (tm 2)) (P 13)::
.go (.call (.con (.func (.func 18) ⟨[]⟩ ⟨[]⟩)) [tm 13]) (P 14)::
.go (.un .not (tm 14)) (P 15)::
.go (.move (tm 15)) (P 16)::
.gd (P 16) false (.loadN 4 (tm 3)) (P 17)::
.gd (P 16) false (.call (.con (.func (.func 19) ⟨[]⟩ ⟨[]⟩)) [tm 17]) (P 18)::
.gd (P 16) false (.un .not (tm 18)) (P 19)::
.go (.pick (tm 16) (.con (.bool true)) (tm 19)) (P 20)::
[])) (.cond (tm 20) (.seq (.run (.go (.call (.con (.func (.func 20) ⟨[]⟩ ⟨[]⟩)) []) (P 21)::
.go (.move (tm 21)) (P 4)::
[])) .ret) .skip)) (.seq (.run (.go (.loadN 4 (tm 2)) (P 22)::
.go (.call (.con (.func (.func 22) ⟨[]⟩ ⟨[]⟩)) [tm 22]) (P 23)::
.go (.call (.con (.func (.func 21) ⟨[]⟩ ⟨[]⟩)) [tm 23]) (P 24)::
.go (.move (tm 24)) (P 5)::
[])) (.seq (.draw 12 (.go (.loadN 4 (tm 2)) (P 26)::
.go (.call (.con (.func (.func 22) ⟨[]⟩ ⟨[]⟩)) [tm 26]) (P 27)::
.go (.loadN 4 (tm 3)) (P 28)::
.go (.call (.con (.func (.func 24) ⟨[]⟩ ⟨[]⟩)) [tm 28]) (P 29)::
.go (.call (.con (.func (.func 23) ⟨[]⟩ ⟨[]⟩)) [(tm 27),(tm 29)]) (P 30)::
.go (.move (tm 30)) (P 25)::
.go (.extract (tm 25) 0) (P 31)::
.go (.extract (tm 25) 1) (P 32)::
.go (.extract (tm 25) 2) (P 33)::
.go (.move (tm 31)) (P 6)::
.go (.move (tm 32)) (P 7)::
.go (.move (tm 33)) (P 8)::
[]) [.ok,.ok,.rd none (.loadN 4 (tm 3)) (some (P 28)) [0],.ok,.ok,.ok,.ok,.ok,.ok,.ok,.ok,.ok]) (.seq (.draw 6 (.go (.loadN 4 (tm 2)) (P 34)::
.go (.call (.con (.func (.func 22) ⟨[]⟩ ⟨[]⟩)) [tm 34]) (P 35)::
.go (.loadN 4 (tm 3)) (P 36)::
.go (.call (.con (.func (.func 24) ⟨[]⟩ ⟨[]⟩)) [tm 36]) (P 37)::
.go (.call (.con (.func (.func 25) ⟨[]⟩ ⟨[]⟩)) [(tm 35),(tm 37)]) (P 38)::
.go (.move (tm 38)) (P 9)::
[]) [.ok,.ok,.rd none (.loadN 4 (tm 3)) (some (P 36)) [0],.ok,.ok,.ok]) (.seq (.run (.go (.loadN 4 (tm 2)) (P 39)::
.go (.call (.con (.func (.func 26) ⟨[]⟩ ⟨[]⟩)) [tm 39]) (P 40)::
.go (.move (tm 40)) (P 10)::
[])) (.seq (.seq (.run (.go (.move (tm 5)) (P 41)::
.go (.move (tm 10)) (P 42)::
.go (.bin .neq 33 (tm 41) (tm 42)) (P 43)::
[])) (.cond (tm 43) (.seq (.run (.go (.move (.con (.bool false))) (P 4)::
[])) .ret) .skip)) (.seq (.seq (.run (.go (.move (tm 10)) (P 44)::
.go (.bin .eql 33 (tm 44) (.con (.int .i64 (.ofNat 0)))) (P 45)::
.go (.move (tm 45)) (P 46)::
.gd (P 46) true (.loadN 4 (tm 2)) (P 47)::
.gd (P 46) true (.loadN 4 (tm 3)) (P 48)::
.gd (P 46) true (.call (.con (.func (.func 27) ⟨[]⟩ ⟨[]⟩)) [(tm 47),(tm 48)]) (P 49)::
.gd (P 46) true (.un .not (tm 49)) (P 50)::
.go (.pick (tm 46) (tm 50) (.con (.bool false))) (P 51)::
[])) (.cond (tm 51) (.run (.go (.move (.con (.int .i64 (.ofNat 2)))) (P 10)::
[])) .skip)) (.seq (.seq (.run (.go (.move (tm 10)) (P 52)::
.go (.bin .neq 33 (tm 52) (.con (.int .i64 (.ofNat 0)))) (P 53)::
[])) (.cond (tm 53) (.seq (.run (.go (.move (tm 8)) (P 54)::
.go (.move (tm 10)) (P 55)::
.go (.bin .eql 33 (tm 54) (tm 55)) (P 56)::
.go (.move (tm 56)) (P 57)::
.gd (P 57) true (.move (tm 6)) (P 58)::
.gd (P 57) true (.len 0 (tm 58)) (P 59)::
.gd (P 57) true (.bin .eql 3 (tm 59) (.con (.int .i64 (.ofNat 0)))) (P 60)::
.go (.pick (tm 57) (tm 60) (.con (.bool false))) (P 61)::
.go (.move (tm 61)) (P 62)::
.gd (P 62) true (.move (tm 7)) (P 63)::
.gd (P 62) true (.un .not (tm 63)) (P 64)::
.go (.pick (tm 62) (tm 64) (.con (.bool false))) (P 65)::
.go (.move (tm 65)) (P 66)::
.gd (P 66) true (.move (tm 9)) (P 67)::
.gd (P 66) true (.un .not (tm 67)) (P 68)::
.go (.pick (tm 66) (tm 68) (.con (.bool false))) (P 69)::
.go (.move (tm 69)) (P 70)::
.gd (P 70) true (.call (.con (.func (.func 20) ⟨[]⟩ ⟨[]⟩)) []) (P 71)::
.go (.pick (tm 70) (tm 71) (.con (.bool false))) (P 72)::
.go (.move (tm 72)) (P 4)::
[])) .ret) .skip)) (.seq (.run (.go (.loadN 4 (tm 2)) (P 74)::
.go (.loadN 4 (tm 3)) (P 75)::
.go (.call (.con (.func (.func 28) ⟨[]⟩ ⟨[]⟩)) [(tm 74),(tm 75)]) (P 76)::
.go (.move (tm 76)) (P 73)::
.go (.extract (tm 73) 0) (P 77)::
.go (.extract (tm 73) 1) (P 78)::
.go (.move (tm 77)) (P 11)::
.go (.move (tm 78)) (P 12)::
[])) (.seq (.run (.go (.move (tm 8)) (P 79)::
.go (.bin .eql 33 (tm 79) (.con (.int .i64 (.ofNat 0)))) (P 80)::
.go (.move (tm 80)) (P 81)::
.gd (P 81) true (.move (tm 6)) (P 82)::
.gd (P 81) true (.move (tm 11)) (P 83)::
.gd (P 81) true (.call (.con (.func (.func 29) ⟨[]⟩ ⟨[]⟩)) [(tm 82),(tm 83)]) (P 84)::
.go (.pick (tm 81) (tm 84) (.con (.bool false))) (P 85)::
.go (.move (tm 85)) (P 86)::
.gd (P 86) true (.move (tm 7)) (P 87)::
.gd (P 86) true (.move (tm 12)) (P 88)::
.gd (P 86) true (.bin .eql 4 (tm 87) (tm 88)) (P 89)::
.go (.pick (tm 86) (tm 89) (.con (.bool false))) (P 90)::
.go (.move (tm 90)) (P 91)::
.gd (P 91) true (.move (tm 9)) (P 92)::
.gd (P 91) true (.move (tm 12)) (P 93)::
.gd (P 91) true (.move (tm 93)) (P 94)::
.gd (P 94) true (.loadN 4 (tm 2)) (P 95)::
.gd (P 94) true (.move (tm 11)) (P 96)::
.gd (P 94) true (.build [(.bool false),(.bool false),(.bool false),(.bool false),(.bool false),(.bool false),(.bool false),(.bool false),(.bool false),(.bool false),(.bool false),(.bool false),(.bool false),(.bool false),(.bool false),(.bool false)] []) (P 97)::
.gd (P 94) true (.call (.con (.func (.func 30) ⟨[]⟩ ⟨[]⟩)) [(tm 95),(tm 96),(tm 97)]) (P 98)::
.gd (P 91) true (.pick (tm 94) (tm 98) (.con (.bool false))) (P 99)::
.gd (P 91) true (.bin .eql 4 (tm 92) (tm 99)) (P 100)::
.go (.pick (tm 91) (tm 100) (.con (.bool false))) (P 101)::
.go (.move (tm 101)) (P 102)::
.gd (P 102) true (.call (.con (.func (.func 20) ⟨[]⟩ ⟨[]⟩)) []) (P 103)::
.go (.pick (tm 102) (tm 103) (.con (.bool false))) (P 104)::
.go (.move (tm 104)) (P 4)::
[])) .ret)))))))))))
theorem vEq4 {a b c d : Value} (ha : ∃ p n k,a=.slice p n k) (hb : ∃ p n k,b=.slice p n k) (hc : ∃ p n k,c=.slice p n k) (hd : ∃ p n k,d=.slice p n k) : vEq 3 (.agg ⟨[a,b,c,d]⟩) (.agg ⟨[a,b,c,d]⟩)=true:=by
 obtain⟨_,_,_,rfl⟩:=ha
 obtain⟨_,_,_,rfl⟩:=hb
 obtain⟨_,_,_,rfl⟩:=hc
 obtain⟨_,_,_,rfl⟩:=hd
 simp[vEq,vEq0,all2]
end Go.Xe.TFX
/- Counts around a truth that is picked: the program of the statements. Conditions: none. -/
-- MOD TF
namespace Go.Xe.TFX
open Go Go.Xe Go.Proofs
open Nat renaming reduceLeDiff → qA, reduceSub → qB, reduceAdd → qC, reduceEqDiff → qD, reduceLT → qE
open Int renaming reduceNegSucc → qF, reduceEq → qG
open Go.Xe.V renaming seq → sA, block → sB, scope → sC, skip → sD, close → sE
open Go.Xe renaming pth → P
open Go.Xe.Flw
set_option maxRecDepth 100000
set_option maxHeartbeats 3200000
set_option linter.unusedSimpArgs false
noncomputable def d53 : FCode:=(.seq (.run (.go (.box 25 (tm 0)) (P 3)::
.go (.alloc 25 [(.slice none 0 0),(.slice none 0 0),(.slice none 0 0),(.slice none 0 0)]) (P 6)::
.go (.alloc 29 [(.slice none 0 0),(.slice none 0 0),(.slice none 0 0),(.slice none 0 0)]) (P 7)::
.go (.move (.con (.slice none 0 0))) (P 8)::
.go (.move (.con (.bool false))) (P 9)::
[])) (.seq (.seq (.run (.go (.loadN 4 (tm 3)) (P 14)::
.go (.call (.con (.func (.func 18) ⟨[]⟩ ⟨[]⟩)) [tm 14]) (P 15)::
.go (.un .not (tm 15)) (P 16)::
.go (.move (tm 16)) (P 17)::
.gd (P 17) false (.loadN 4 (tm 3)) (P 18)::
.gd (P 17) false (.call (.con (.func (.func 26) ⟨[]⟩ ⟨[]⟩)) [tm 18]) (P 19)::
.gd (P 17) false (.bin .neq 33 (tm 19) (.con (.int .i64 (.ofNat 0)))) (P 20)::
.go (.pick (tm 17) (.con (.bool true)) (tm 20)) (P 21)::
[])) (.cond (tm 21) (.seq (.run (.go (.loadN 4 (tm 3)) (P 22)::
.go (.build [(.slice none 0 0),(.slice none 0 0),(.slice none 0 0),(.slice none 0 0)] []) (P 23)::
.un (.store 4 (tm 6) (tm 22))::
.un (.store 4 (tm 7) (tm 23))::
.go (.move (.con (.slice none 0 0))) (P 8)::
.go (.move (.con (.bool false))) (P 9)::
[])) .ret) .skip)) (.seq (.run (.go (.loadN 4 (tm 3)) (P 24)::
.go (.move (tm 1)) (P 25)::
.go (.call (.con (.func (.func 54) ⟨[]⟩ ⟨[]⟩)) [(tm 24),(tm 25)]) (P 26)::
.go (.alloc 29 [(.slice none 0 0),(.slice none 0 0),(.slice none 0 0),(.slice none 0 0)]) (P 10)::
.un (.store 4 (tm 10) (tm 26))::
[])) (.seq (.run (.go (.loadN 4 (tm 3)) (P 28)::
.go (.loadN 4 (tm 10)) (P 29)::
.go (.call (.con (.func (.func 28) ⟨[]⟩ ⟨[]⟩)) [(tm 28),(tm 29)]) (P 30)::
.go (.move (tm 30)) (P 27)::
.go (.extract (tm 27) 0) (P 31)::
.go (.extract (tm 27) 1) (P 32)::
.go (.move (tm 31)) (P 11)::
.go (.move (tm 32)) (P 12)::
[])) (.seq (.seq (.run (.go (.move (tm 12)) (P 33)::
.go (.un .not (tm 33)) (P 34)::
[])) (.cond (tm 34) (.seq (.draw 7 (.go (.loadN 4 (tm 3)) (P 35)::
.go (.loadN 4 (tm 10)) (P 36)::
.go (.move (tm 11)) (P 37)::
.un (.store 4 (tm 6) (tm 35))::
.un (.store 4 (tm 7) (tm 36))::
.go (.move (tm 37)) (P 8)::
.go (.move (.con (.bool false))) (P 9)::
[]) [.ok,.rd none (.loadN 4 (tm 10)) (some (P 36)) [4],.ok,.ok,.ok,.ok,.ok]) .ret) .skip)) (.seq (.run (.go (.loadN 4 (tm 3)) (P 38)::
.go (.move (tm 11)) (P 39)::
.go (.move (tm 1)) (P 40)::
.go (.move (tm 2)) (P 41)::
.go (.call (.con (.func (.func 90) ⟨[]⟩ ⟨[]⟩)) [(tm 38),(tm 39),(tm 40),(tm 41)]) (P 42)::
.go (.alloc 25 [(.slice none 0 0),(.slice none 0 0),(.slice none 0 0),(.slice none 0 0)]) (P 13)::
.un (.store 4 (tm 13) (tm 42))::
[])) (.seq (.draw 10 (.go (.loadN 4 (tm 13)) (P 43)::
.go (.loadN 4 (tm 10)) (P 44)::
.go (.move (tm 11)) (P 45)::
.go (.loadN 4 (tm 13)) (P 46)::
.go (.call (.con (.func (.func 26) ⟨[]⟩ ⟨[]⟩)) [tm 46]) (P 47)::
.go (.bin .eql 33 (tm 47) (.con (.int .i64 (.ofNat 0)))) (P 48)::
.un (.store 4 (tm 6) (tm 43))::
.un (.store 4 (tm 7) (tm 44))::
.go (.move (tm 45)) (P 8)::
.go (.move (tm 48)) (P 9)::
[]) [.rd none (.loadN 4 (tm 13)) (some (P 43)) [5],.rd none (.loadN 4 (tm 10)) (some (P 44)) [5,7],.ok,.ok,.ok,.ok,.ok,.ok,.ok,.ok]) .ret)))))))
theorem de53 : @compF Try.prog (Gl.none Try.prog) Try.f53 3=.mk d53 (mkTT 49) [(P 0),(P 1),(P 2)] [.many (P 6) 4,.many (P 7) 4,.tmp (P 8),.tmp (P 9)]:=by kernel_rfl
theorem dg53 : Try.prog.funcs[53]?=some Try.f53:=Try.func53
theorem do53 : okF Try.prog Try.f53=true:=by kernel_rfl
def isS (v : Value) : Prop:=∃ p n c,v=.slice p n c
def lT (T : Tb) (ws : List Int) (bits : Int) : Tb:=cT T (szs (pT T ws) (T.B.length+1)) ws bits
def lv (T : Tb) (ws : List Int) (bits : Int) : Prop:=(thin T∧flt T=0)∧cn T (pT T ws) T.B.length∧flt (lT T ws bits)=0
instance (T : Tb) (ws : List Int) (bits : Int) : Decidable (lv T ws bits):=by unfold lv;infer_instance
theorem pT_bd {T : Tb} {ws : List Int} (hf : fit T) (hv : val T) {c : Nat} (hc : c≤T.B.length) : rw (pT T ws) c=rw (pX T ws (pD T ws c) c) c∧(rw (pT T ws) c).length=grp T∧∀ g,-pbd c≤(rw (pT T ws) c).getD g 0∧(rw (pT T ws) c).getD g 0≤pbd c:=by
 have e : rw (pT T ws) c=rw (pX T ws (pD T ws c) c) c:=rw_p hc (fun j hj=>pD_pre T ws hc j hj)
 rw[e]
 exact⟨rfl,rw_bd hf hv hc⟩
theorem pT_hld {T : Tb} (hv : val T) (ws : List Int) : hld T (pT T ws):=hld_p hv rfl (Nat.le_refl _) (List.take_length).symm rfl rfl (pD_len ..) (pD_row T ws _)
theorem szs_bd {T : Tb} {ws : List Int} (hf : fit T) (hv : val T) (k g : Nat) : -2000000≤((szs (pT T ws) (T.B.length+1)).getD k []).getD g 0∧((szs (pT T ws) (T.B.length+1)).getD k []).getD g 0≤2000000:=by
 have hf1:=hf.1
 have hvB:=hv.2.1
 by_cases hk : k<T.B.length+1
 ·unfold szs
  rw[getD_map_range hk]
  have h1:=(pT_bd (ws:=ws) hf hv (c:=k) (by omega)).2.2 g
  have h2:=pbd_4 (show k<4 by omega)
  omega
 ·rw[List.getD_eq_getElem?_getD (l:=szs _ _),List.getElem?_eq_none (by rw[szs_len];omega)]
  simp
theorem szs_rows {T : Tb} {ws : List Int} (hf : fit T) (hv : val T) : ∀ row∈szs (pT T ws) (T.B.length+1),row.length=grp T:=by
 intro row hr
 obtain⟨c,hc,rfl⟩:=List.mem_map.1 hr
 exact (pT_bd hf hv (by have:=List.mem_range.1 hc;omega)).2.1
theorem f53_ok {H A : Heap} {c b r n x : Value} {T : Tb} {ws : List Int} {bits : Int} (hR : Ro A) (hAc : Nest RS A c T.C) (hAb : RS A b T.B) (gA : Grow A H) (h : TV H c b r n T) (hw : WS H x ws) : F Try.prog 53 ⟨[.agg ⟨[c,b,r,n]⟩,x,.int .u16 bits]⟩ H (fun w X=>Grow H X∧∃ c' b' r' n' f' e' d' o' s,w=.tuple ⟨[.agg ⟨[c',b',r',n']⟩,.agg ⟨[f',e',d',o']⟩,s,.bool (decide (lv T ws bits))]⟩∧(isS c'∧isS b'∧isS r'∧isS n')∧(isS f'∧isS e'∧isS d'∧isS o')∧isS s∧(lv T ws bits→TV X c' b' r' n' (lT T ws bits)∧XV X f' e' d' o' (pT T ws)∧Nest RI X s (szs (pT T ws) (T.B.length+1)))):=by
 have k1:=(sl1 h.c.isS).1
 have k2:=(sl1 (rp.sl h.b)).1
 have k3:=(sl1 (rp.sl h.r)).1
 have k4:=(sl1 (rp.sl h.n)).1
 have i1:=h.c.isS
 have i2:=rp.sl h.b
 have i3:=rp.sl h.r
 have i4:=rp.sl h.n
 have vT:=vEq4 i1 i2 i3 i4
 refine F.entryL rfl dg53 do53 de53 rfl (by kernel_rfl) ?_
 simp only[sets]
 refine V.re [(0,.agg ⟨[c,b,r,n]⟩),(1,x),(2,.int .u16 bits)] (N:=49) zE zY ?_
 intro t hF hA
 simp only[Kn,and_true] at hA
 refine zS ?_
 refine V.l0 ?_
 refine V.heap (fun X=>Grow H X∧Bx X H.next [c,b,r,n] 25∧Bx X (H.next+1) [.slice none 0 0,.slice none 0 0,.slice none 0 0,.slice none 0 0] 25∧Bx X (H.next+2) [.slice none 0 0,.slice none 0 0,.slice none 0 0,.slice none 0 0] 29) ⟨?_,?_,?_,?_⟩ ?_
 ·exact zW
 ·exact zB
 ·exact zB
 ·exact zB
 rintro H1 ⟨g1,b1,c1,d1⟩
 refine zS ?_
 refine V.run ?_
 have zf:=b1.2
 refine VI.sz 1 ?_
 simp only[ds]
 refine VI.callA rfl (f18_ok (h.grow g1)) zA (fun H2 g2=>?_)
 have b2:=b1.grow g2
 have g12:=g1.trans g2
 have zf:=b2.2
 refine VI.sz 3 ?_
 simp only[ds]
 first|refine VI.callGt zG (fun hc=>zI) (fun hc=>f26_ok (h.grow g12)) (fun hc=>zI) (fun H3 g3=>?_)|refine VI.callGf zG (fun hc=>zI) (fun hc=>f26_ok (h.grow g12)) (fun hc=>zI) (fun H3 g3=>?_)
 have b3:=b2.grow g3
 have c3:=(c1.grow g2).grow g3
 have d3:=(d1.grow g2).grow g3
 have g13:=g12.trans g3
 have lb3:=b3.1
 have lc3:=c3.1
 have ld3:=d3.1
 refine VI.l0 ?_
 refine zS ?_
 refine V.condP zP (fun ht=>?_) (fun ht=>?_)
 ·have hnl : ¬ lv T ws bits:=by
   intro hl
   obtain⟨⟨q1,q2⟩,_⟩:=hl
   simp[q1,q2] at ht
  refine zS ?_
  have zf:=And.intro b3.2<|And.intro c3.2<|And.intro d3.2<|And.intro @k1<|And.intro @k2<|And.intro @k3<|@k4
  refine V.lz ?_
  refine zS ?_
  refine V.ret (V.rets rfl (Lv.retF (by simp +contextual (disch:=first|omega|simp only[nx];omega) only[D1,cells_alloc_at,cells_alloc_ne,cells_set_at,cells_set_ne,yres,yres1,yresL,qA,qB,qC,D5,hF,hA,↓reduceIte,qD,qE,cells_set];rfl) ?_))
  refine⟨?_,c,b,r,n,.slice none 0 0,.slice none 0 0,.slice none 0 0,.slice none 0 0,.slice none 0 0,?_,⟨i1,i2,i3,i4⟩,⟨⟨_,_,_,rfl⟩,⟨_,_,_,rfl⟩,⟨_,_,_,rfl⟩,_,_,_,rfl⟩,⟨_,_,_,rfl⟩,fun hl=>absurd hl hnl⟩
  ·exact zW
  ·rw[decide_eq_false hnl]
 have hthin : thin T:=by
  by_cases hh : thin T
  ·exact hh
  ·exact absurd (by simp[hh]) ht
 have hflt : flt T=0:=by
  by_cases hh : flt T=0
  ·exact hh
  ·exact absurd (by simp[hh,hthin]) ht
 have hs:=thin_sh hthin
 obtain⟨hf,hv⟩:=flt_0.1 hflt
 clear ht
 refine zS ?_
 refine V.run ?_
 have zf:=b3.2
 refine VI.sz 2 ?_
 simp only[ds]
 refine VI.callR zA (f54_ok hR hAc hAb (gA.trans g13) (h.grow g13) (hw.grow g13) hf hv) zA (fun w4 H4 ⟨g4,f',e',d',o',hw4,xl4⟩=>?_)
 subst hw4
 have xv4:=xl4.here
 have b4:=b3.grow g4
 have c4:=c3.grow g4
 have d4:=d3.grow g4
 have g14:=g13.trans g4
 have m4:=g4.1
 have j1:=xv4.f.isS
 have j2:=xv4.b.isS
 have j3:=xv4.d.isS
 have j4:=xv4.m.isS
 have o1:=(sl1 j1).1
 have o2:=(sl1 j2).1
 have o3:=(sl1 j3).1
 have o4:=(sl1 j4).1
 have zf:=And.intro @o1<|And.intro @o2<|And.intro @o3<|@o4
 refine VI.lz ?_
 refine V.heap (fun X=>Grow H4 X∧Bx X H4.next [f',e',d',o'] 29) ⟨?_,?_⟩ ?_
 ·exact zW
 ·exact zB
 rintro H5 ⟨g5,x5⟩
 have b5:=b4.grow g5
 have c5:=c4.grow g5
 have d5:=d4.grow g5
 have g15:=g14.trans g5
 have xv5:=xv4.grow g5
 refine zS ?_
 refine V.run ?_
 have zf:=And.intro b5.2<|x5.2
 refine VI.sz 2 ?_
 simp only[ds]
 refine VI.callR zA (f28_own (h.grow g15) xv5 hf hv (pT_hld hv ws)) zA (fun w6 H6 ⟨g6,s,B6,hB6,hw6,so6⟩=>?_)
 subst hw6
 have s6 : Nest RI H6 s (szs (pT T ws) (T.B.length+1)):=so6.nest.weak (fun _ _ h=>h.1)
 have b6:=b5.grow g6
 have c6:=c5.grow g6
 have d6:=d5.grow g6
 have x6:=x5.grow g6
 have g16:=g15.trans g6
 have xv6:=xv5.grow g6
 have m6:=x6.1
 have lb6:=b6.1
 have lc6:=c6.1
 have ld6:=d6.1
 obtain⟨sp,sn,sc,rfl⟩:=s6.isS
 have vX:=vEq4 j1 j2 j3 j4
 refine VI.l0 ?_
 refine zS ?_
 refine V.l0 ?_
 refine zS ?_
 refine V.condP zP (fun hcn=>?_) (fun hcn=>?_)
 ·have hcn' : ¬ cn T (pT T ws) T.B.length:=hcn
  have hnl : ¬ lv T ws bits:=fun hl=>hcn' hl.2.1
  refine zS ?_
  have zf:=And.intro b6.2<|And.intro c6.2<|And.intro d6.2<|And.intro x6.2<|And.intro @k1<|And.intro @k2<|And.intro @k3<|And.intro @k4<|And.intro @o1<|And.intro @o2<|And.intro @o3<|@o4
  refine V.dz ?_ ?_ rfl ?_
  ·exact zM
  ·simp only[dcAll,dcOk,wantD,List.cons_append,List.nil_append,true_and,and_true]
   have zf:=x6.2
   exact zR
  refine zS ?_
  refine V.ret (V.rets rfl (Lv.retF (by simp +contextual (disch:=first|omega|simp only[nx];omega) only[D1,cells_alloc_at,cells_alloc_ne,cells_set_at,cells_set_ne,yres,yres1,yresL,qA,qB,qC,D5,hF,hA,↓reduceIte,qD,qE,cells_set];rfl) ?_))
  refine⟨?_,c,b,r,n,f',e',d',o',.slice sp sn sc,?_,⟨i1,i2,i3,i4⟩,⟨j1,j2,j3,j4⟩,⟨_,_,_,rfl⟩,fun hl=>absurd hl hnl⟩
  ·exact zW
  ·rw[decide_eq_false hnl]
 have hcn' : cn T (pT T ws) T.B.length:=Decidable.not_not.1 hcn
 have hf1:=hf.1
 have hf2:=hf.2
 have hvB:=hv.2.1
 refine zS ?_
 refine V.run ?_
 have zf:=b6.2
 refine VI.sz 4 ?_
 simp only[ds]
 refine VI.callR zA (f90_ok (bits:=bits) (h.grow g16) s6 (hw.grow g16) hf1 hf2 (by rw[szs_len];omega) (szs_rows hf hv) (szs_bd hf hv)) zA (fun w7 H7 ⟨g7,cc,hw7,tl7⟩=>?_)
 subst hw7
 have h7:=h.grow (g16.trans g7)
 have tv7 : TV H7 cc b r n (lT T ws bits):=⟨tl7.here,h7.b,h7.r,h7.n⟩
 have b7:=b6.grow g7
 have c7:=c6.grow g7
 have d7:=d6.grow g7
 have x7:=x6.grow g7
 have g17:=g16.trans g7
 have m7:=g7.1
 have j0:=tv7.c.isS
 have o0:=(sl1 j0).1
 have zf:=And.intro @o0<|And.intro @k2<|And.intro @k3<|@k4
 refine VI.lz ?_
 refine V.heap (fun X=>Grow H7 X∧Bx X H7.next [cc,b,r,n] 25) ⟨?_,?_⟩ ?_
 ·exact zW
 ·exact zB
 rintro H8 ⟨g8,y8⟩
 have c8:=c7.grow g8
 have d8:=d7.grow g8
 have x8:=x7.grow g8
 have g18:=g17.trans g8
 have tv8:=tv7.grow g8
 have ly8:=y8.1
 have vY:=vEq4 j0 i2 i3 i4
 refine zS ?_
 refine V.draw ?_
 have zf:=And.intro y8.2<|x8.2
 refine VD.nz 4 ?_
 simp only[ds]
 refine VD.callA zA (f26_ok tv8) zA (fun H9 g9=>?_)
 have c9:=c8.grow g9
 have d9:=d8.grow g9
 have x9:=x8.grow g9
 have y9:=y8.grow g9
 have g19:=g18.trans g9
 have m9:=g9.1
 have lc9:=c9.1
 have ld9:=d9.1
 have lx9:=x9.1
 have ly9:=y9.1
 have zf:=And.intro c9.2<|And.intro d9.2<|And.intro @o0<|And.intro @k2<|And.intro @k3<|And.intro @k4<|And.intro @o1<|And.intro @o2<|And.intro @o3<|@o4
 refine VD.dz ?_ ?_ rfl ?_
 ·exact zM
 ·simp only[dcAll,dcOk,wantD,List.cons_append,List.nil_append,true_and,and_true]
  have zf:=And.intro y8.2<|And.intro y9.2<|And.intro x8.2<|x9.2
  exact⟨zR,zR⟩
 refine zS ?_
 refine V.ret (V.rets rfl (Lv.retF (by simp +contextual (disch:=first|omega|simp only[nx];omega) only[D1,cells_alloc_at,cells_alloc_ne,cells_set_at,cells_set_ne,yres,yres1,yresL,qA,qB,qC,D5,hF,hA,↓reduceIte,qD,qE,cells_set];rfl) ?_))
 have elv : lv T ws bits↔flt (lT T ws bits)=0:=⟨fun hl=>hl.2.2,fun hl=>⟨⟨hthin,hflt⟩,hcn',hl⟩⟩
 refine⟨?_,cc,b,r,n,f',e',d',o',.slice sp sn sc,?_,⟨j0,i2,i3,i4⟩,⟨j1,j2,j3,j4⟩,⟨_,_,_,rfl⟩,fun hl=>⟨?_,?_,?_⟩⟩
 ·exact zW
 ·rw[decide_eq_decide.2 elv]
 ·have g0 : Grow H ((H9.set (H.next+1) (.cells ⟨[cc,b,r,n]⟩ 25 true)).set (H.next+2) (.cells ⟨[f',e',d',o']⟩ 29 true)):=by
   exact zW
  have h':=h.grow g0
  have n68:=g8.1
  have n8:=g7.1
  refine⟨tl7 _ ?_ ?_,h'.b,h'.r,h'.n⟩
  ·simp only[Heap.next_set];omega
  ·intro i q1 q2
   rw[Heap.get_set,if_neg (by omega),Heap.get_set,if_neg (by omega),g9.2 i (by omega),g8.2 i q2]
 ·have n68:=g8.1
  have n8:=g7.1
  have n6:=g6.1
  have n5:=g5.1
  refine xl4 _ ?_ ?_
  ·simp only[Heap.next_set];omega
  ·intro i q1 q2
   have n3:=g3.1
   have n1:=d1.1
   have n2:=g2.1
   rw[Heap.get_set,if_neg (by omega),Heap.get_set,if_neg (by omega),g9.2 i (by omega),g8.2 i (by omega),g7.2 i (by omega),g6.2 i (by omega),g5.2 i q2]
 ·have n68:=g8.1
  have n8:=g7.1
  have n5:=d5.1
  refine so6.locP ri _ ?_ ?_
  ·simp only[Heap.next_set];omega
  ·intro i q1 q2
   rw[Heap.get_set,if_neg (by omega),Heap.get_set,if_neg (by omega),g9.2 i (by omega),g8.2 i (by omega),g7.2 i q2]
end Go.Xe.TFX
