/- The statement RoundShares: the function. Conditions: none. -/
import Derived.Test.YthgjooibimphiaaRN
import Derived.Test.YthgjooibimphiaaZl
import Derived.WideShapes
import Derived.ChangeSame
import Derived.Below
-- MOD TR
namespace Go.Xe.TRX
open Go Go.Xe Go.Proofs
open Nat renaming reduceLeDiff → qA, reduceSub → qB, reduceAdd → qC, reduceEqDiff → qD, reduceLT → qE
open Int renaming reduceNegSucc → qF, reduceEq → qG
open Go.Xe.V renaming seq → sA, block → sB, scope → sC, skip → sD, close → sE
open Go.Xe renaming pth → P
open Go.Xe.Rnd
set_option maxRecDepth 100000
set_option maxHeartbeats 3200000
set_option linter.unusedSimpArgs false
noncomputable def d13 : FCode:=(.seq (.run (.go (.move (.con (.bool false))) (P 6)::
[])) (.seq (.seq (.run (.go (.move (tm 0)) (P 21)::
.go (.len 0 (tm 21)) (P 22)::
.go (.bin .gtr 3 (tm 22) (.con (.int .i64 (.ofNat 12)))) (P 23)::
[])) (.cond (tm 23) (.seq (.run (.go (.call (.con (.func (.func 17) ⟨[]⟩ ⟨[]⟩)) []) (P 24)::
.go (.move (tm 24)) (P 6)::
[])) .ret) .skip)) (.seq (.run (.go (.move (tm 2)) (P 25)::
.go (.conv .i64 (tm 25)) (P 26)::
.go (.bin .rem 3 (tm 26) (.con (.int .i64 (.ofNat 5)))) (P 27)::
.go (.bin .add 3 (.con (.int .i64 (.ofNat 1))) (tm 27)) (P 28)::
.go (.move (tm 28)) (P 7)::
.go (.move (.con (.int .i64 (.ofNat 0)))) (P 8)::
[])) (.seq (.run (.go (.move (.con (.slice none 0 0))) (P 9)::
.go (.move (.con (.slice none 0 0))) (P 10)::
[])) (.seq (.seq (.run (.go (.move (.con (.int .i64 (.ofNat 0)))) (P 11)::
[])) (.block 0 (.loop (.seq (.seq (.run (.go (.move (tm 11)) (P 29)::
.go (.move (tm 0)) (P 30)::
.go (.len 0 (tm 30)) (P 31)::
.go (.bin .lss 3 (tm 29) (tm 31)) (P 32)::
[])) (.cond (tm 32) .skip (.exit 0))) (.seq (.block 1 (.seq (.run (.go (.move (tm 0)) (P 35)::
.go (.move (tm 11)) (P 36)::
.go (.indexAddr none 1 (tm 35) (tm 36)) (P 37)::
.go (.load1 (tm 37)) (P 38)::
.go (.conv .i64 (tm 38)) (P 39)::
.go (.bin .rem 3 (tm 39) (.con (.int .i64 (.ofNat 2001)))) (P 40)::
.go (.move (tm 40)) (P 12)::
[])) (.run (.go (.move (tm 9)) (P 41)::
.go (.move (tm 12)) (P 42)::
.go (.buildSlice 3 1 [(.int .i64 (.ofNat 0))] [(0,1,(tm 42))]) (P 43)::
.go (.append 3 1 8 (tm 41) (tm 43)) (P 44)::
.go (.move (tm 10)) (P 45)::
.go (.move (tm 7)) (P 46)::
.go (.move (tm 12)) (P 47)::
.go (.bin .mul 3 (tm 46) (tm 47)) (P 48)::
.go (.buildSlice 3 1 [(.int .i64 (.ofNat 0))] [(0,1,(tm 48))]) (P 49)::
.go (.append 3 1 8 (tm 45) (tm 49)) (P 50)::
.go (.move (tm 8)) (P 51)::
.go (.move (tm 12)) (P 52)::
.go (.bin .add 3 (tm 51) (tm 52)) (P 53)::
.go (.move (tm 44)) (P 9)::
.go (.move (tm 50)) (P 10)::
.go (.move (tm 53)) (P 8)::
[])))) (.run (.go (.move (tm 11)) (P 33)::
.go (.bin .add 3 (tm 33) (.con (.int .i64 (.ofNat 1)))) (P 34)::
.go (.move (tm 34)) (P 11)::
[]))))))) (.seq (.seq (.run (.go (.move (tm 8)) (P 54)::
.go (.bin .eql 3 (tm 54) (.con (.int .i64 (.ofNat 0)))) (P 55)::
[])) (.cond (tm 55) (.seq (.run (.go (.call (.con (.func (.func 17) ⟨[]⟩ ⟨[]⟩)) []) (P 56)::
.go (.move (tm 56)) (P 6)::
[])) .ret) .skip)) (.seq (.run (.go (.move (tm 9)) (P 58)::
.go (.call (.con (.func (.func 38) ⟨[]⟩ ⟨[]⟩)) [tm 58]) (P 59)::
.go (.move (tm 1)) (P 60)::
.go (.conv .i64 (tm 60)) (P 61)::
.go (.call (.con (.func (.func 37) ⟨[]⟩ ⟨[]⟩)) [(tm 59),(tm 61)]) (P 62)::
.go (.move (tm 62)) (P 57)::
.go (.extract (tm 57) 0) (P 63)::
.go (.extract (tm 57) 1) (P 64)::
.go (.move (tm 63)) (P 13)::
.go (.move (tm 64)) (P 14)::
[])) (.seq (.run (.go (.move (tm 10)) (P 66)::
.go (.move (tm 1)) (P 67)::
.go (.conv .i64 (tm 67)) (P 68)::
.go (.call (.con (.func (.func 37) ⟨[]⟩ ⟨[]⟩)) [(tm 66),(tm 68)]) (P 69)::
.go (.move (tm 69)) (P 65)::
.go (.extract (tm 65) 0) (P 70)::
.go (.extract (tm 65) 1) (P 71)::
.go (.move (tm 70)) (P 15)::
.go (.move (tm 71)) (P 16)::
[])) (.seq (.seq (.run (.go (.move (tm 14)) (P 72)::
.go (.bin .neq 29 (tm 72) (.con (.int .i64 (.ofNat 0)))) (P 73)::
.go (.move (tm 73)) (P 74)::
.gd (P 74) false (.move (tm 16)) (P 75)::
.gd (P 74) false (.bin .neq 29 (tm 75) (.con (.int .i64 (.ofNat 0)))) (P 76)::
.go (.pick (tm 74) (.con (.bool true)) (tm 76)) (P 77)::
.go (.move (tm 77)) (P 78)::
.gd (P 78) false (.move (tm 13)) (P 79)::
.gd (P 78) false (.move (tm 15)) (P 80)::
.gd (P 78) false (.call (.con (.func (.func 39) ⟨[]⟩ ⟨[]⟩)) [(tm 79),(tm 80)]) (P 81)::
.gd (P 78) false (.un .not (tm 81)) (P 82)::
.go (.pick (tm 78) (.con (.bool true)) (tm 82)) (P 83)::
.go (.move (tm 83)) (P 84)::
.gd (P 84) false (.move (tm 13)) (P 85)::
.gd (P 84) false (.len 0 (tm 85)) (P 86)::
.gd (P 84) false (.move (tm 9)) (P 87)::
.gd (P 84) false (.len 0 (tm 87)) (P 88)::
.gd (P 84) false (.bin .neq 3 (tm 86) (tm 88)) (P 89)::
.go (.pick (tm 84) (.con (.bool true)) (tm 89)) (P 90)::
[])) (.cond (tm 90) (.seq (.run (.go (.move (.con (.bool false))) (P 6)::
[])) .ret) .skip)) (.seq (.run (.go (.move (.con (.int .i64 (.ofNat 0)))) (P 17)::
[])) (.seq (.seq (.run (.go (.move (.con (.int .i64 (.ofNat 0)))) (P 18)::
[])) (.block 2 (.loop (.seq (.seq (.run (.go (.move (tm 18)) (P 91)::
.go (.move (tm 13)) (P 92)::
.go (.len 0 (tm 92)) (P 93)::
.go (.bin .lss 3 (tm 91) (tm 93)) (P 94)::
[])) (.cond (tm 94) .skip (.exit 2))) (.seq (.block 3 (.seq (.run (.go (.move (tm 17)) (P 97)::
.go (.move (tm 13)) (P 98)::
.go (.move (tm 18)) (P 99)::
.go (.indexAddr none 1 (tm 98) (tm 99)) (P 100)::
.go (.load1 (tm 100)) (P 101)::
.go (.bin .add 3 (tm 97) (tm 101)) (P 102)::
.go (.move (tm 102)) (P 17)::
[])) (.seq (.seq (.draw 15 (.go (.move (tm 13)) (P 103)::
.go (.move (tm 18)) (P 104)::
.go (.indexAddr none 1 (tm 103) (tm 104)) (P 105)::
.go (.load1 (tm 105)) (P 106)::
.go (.move (tm 8)) (P 107)::
.go (.bin .mul 3 (tm 106) (tm 107)) (P 108)::
.go (.move (tm 1)) (P 109)::
.go (.conv .i64 (tm 109)) (P 110)::
.go (.move (tm 9)) (P 111)::
.go (.move (tm 18)) (P 112)::
.go (.indexAddr none 1 (tm 111) (tm 112)) (P 113)::
.go (.load1 (tm 113)) (P 114)::
.go (.bin .mul 3 (tm 110) (tm 114)) (P 115)::
.go (.bin .sub 3 (tm 108) (tm 115)) (P 116)::
.go (.move (tm 116)) (P 19)::
[]) [.ok,.ok,.ok,.ok,.ok,.ok,.ok,.ok,.ok,.ok,.ok,.ok,.ok,.ok,.ok]) (.seq (.run (.go (.move (tm 19)) (P 117)::
.go (.move (tm 8)) (P 118)::
.go (.un .neg (tm 118)) (P 119)::
.go (.bin .leq 3 (tm 117) (tm 119)) (P 120)::
.go (.move (tm 120)) (P 121)::
.gd (P 121) false (.move (tm 19)) (P 122)::
.gd (P 121) false (.move (tm 8)) (P 123)::
.gd (P 121) false (.bin .geq 3 (tm 122) (tm 123)) (P 124)::
.go (.pick (tm 121) (.con (.bool true)) (tm 124)) (P 125)::
[])) (.cond (tm 125) (.seq (.run (.go (.move (.con (.bool false))) (P 6)::
[])) .ret) .skip))) (.seq (.run (.go (.move (.con (.int .i64 (.ofNat 0)))) (P 20)::
[])) (.block 4 (.loop (.seq (.seq (.run (.go (.move (tm 20)) (P 126)::
.go (.move (tm 13)) (P 127)::
.go (.len 0 (tm 127)) (P 128)::
.go (.bin .lss 3 (tm 126) (tm 128)) (P 129)::
[])) (.cond (tm 129) .skip (.exit 4))) (.seq (.block 5 (.seq (.draw 20 (.go (.move (tm 9)) (P 132)::
.go (.move (tm 18)) (P 133)::
.go (.indexAddr none 1 (tm 132) (tm 133)) (P 134)::
.go (.load1 (tm 134)) (P 135)::
.go (.move (tm 9)) (P 136)::
.go (.move (tm 20)) (P 137)::
.go (.indexAddr none 1 (tm 136) (tm 137)) (P 138)::
.go (.load1 (tm 138)) (P 139)::
.go (.bin .gtr 3 (tm 135) (tm 139)) (P 140)::
.go (.move (tm 140)) (P 141)::
.gd (P 141) true (.move (tm 13)) (P 142)::
.gd (P 141) true (.move (tm 18)) (P 143)::
.gd (P 141) true (.indexAddr none 1 (tm 142) (tm 143)) (P 144)::
.gd (P 141) true (.load1 (tm 144)) (P 145)::
.gd (P 141) true (.move (tm 13)) (P 146)::
.gd (P 141) true (.move (tm 20)) (P 147)::
.gd (P 141) true (.indexAddr none 1 (tm 146) (tm 147)) (P 148)::
.gd (P 141) true (.load1 (tm 148)) (P 149)::
.gd (P 141) true (.bin .lss 3 (tm 145) (tm 149)) (P 150)::
.go (.pick (tm 141) (tm 150) (.con (.bool false))) (P 151)::
[]) [.ok,.ok,.ok,.ok,.ok,.ok,.ok,.ok,.ok,.ok,.ok,.ok,.ok,.ok,.ok,.ok,.ok,.ok,.ok,.ok]) (.cond (tm 151) (.seq (.run (.go (.move (.con (.bool false))) (P 6)::
[])) .ret) .skip))) (.run (.go (.move (tm 20)) (P 130)::
.go (.bin .add 3 (tm 130) (.con (.int .i64 (.ofNat 1)))) (P 131)::
.go (.move (tm 131)) (P 20)::
[])))))))))) (.run (.go (.move (tm 18)) (P 95)::
.go (.bin .add 3 (tm 95) (.con (.int .i64 (.ofNat 1)))) (P 96)::
.go (.move (tm 96)) (P 18)::
[]))))))) (.seq (.run (.go (.move (tm 17)) (P 152)::
.go (.move (tm 1)) (P 153)::
.go (.conv .i64 (tm 153)) (P 154)::
.go (.bin .eql 3 (tm 152) (tm 154)) (P 155)::
.go (.move (tm 155)) (P 156)::
.gd (P 156) true (.call (.con (.func (.func 17) ⟨[]⟩ ⟨[]⟩)) []) (P 157)::
.go (.pick (tm 156) (tm 157) (.con (.bool false))) (P 158)::
.go (.move (tm 158)) (P 6)::
[])) .ret))))))))))))
theorem de13 : @compF Try.prog (Gl.none Try.prog) Try.f13 3=.mk d13 (mkTT 159) [(P 0),(P 1),(P 2)] [.tmp (P 6)]:=by kernel_rfl
theorem dg13 : Try.prog.funcs[13]?=some Try.f13:=Try.func13
theorem do13 : okF Try.prog Try.f13=true:=by kernel_rfl
def wts (ws : List Int) : List Int:=ws.map fun v=>v.tmod 2001
theorem wts_len (ws : List Int) : (wts ws).length=ws.length:=by simp[wts]
theorem wts_take {ws : List Int} {k : Nat} (h : k<ws.length) : wts (ws.take (k+1))=wts (ws.take k)++[ws[k].tmod 2001]:=by
 unfold wts;rw[tk1 h,List.map_append];rfl
theorem tmod_bd {a b : Int} (ha : 0≤a) (hb : 0<b) : 0≤a.tmod b∧a.tmod b<b:=by
 rw[Int.tmod_eq_emod_of_nonneg ha]
 exact⟨Int.emod_nonneg _ (by omega),Int.emod_lt_of_pos _ hb⟩
theorem wts_bd {ws : List Int} (h : ∀ v∈ws,0≤v∧v≤65535) : ∀ w∈wts ws,0≤w∧w≤2000:=by
 intro w hw
 obtain⟨v,hv,rfl⟩:=List.mem_map.1 hw
 have:=tmod_bd (a:=v) (b:=2001) (h v hv).1 (by decide)
 omega
theorem f13_ok {H : Heap} {x : Value} {ws : List Int} {tt q : Int} (hs : Sl H x (ws.map fun v=>.int .u16 v)) (hwb : ∀ v∈ws,0≤v∧v≤65535) (ht : 0≤tt∧tt≤65535) (hq : 0≤q∧q≤255) : F Try.prog 13 ⟨[x,.int .u16 tt,.int .u8 q]⟩ H (fun w _=>w=.bool true):=by
 have hl : ∀ X,ylen 0 X x=some (I ws.length):=by
  intro X
  have:=hs.len
  rw[List.length_map] at this
  obtain⟨p,n,c,rfl⟩:=hs.isS
  exact this
 have hat : ∀ k (hk : k<ws.length),∃ p,yindexAddr none 1 x (I k)=some p∧∀ H',Grow H H'→yload1 H' p=some (.int .u16 ws[k]):=fun k hk=>hs.get (k:=k) (by simp[hk]) rfl
 obtain⟨n1,n2⟩:=tmod_bd (a:=q) (b:=5) hq.1 (by decide)
 have e64 : ∀ z : Int,0≤z→z≤65535→IntKind.i64.wrap z=z:=fun z h1 h2=>wrap_i64 (by omega) (by omega)
 have eq64:=e64 q hq.1 (by omega)
 have et64:=e64 tt ht.1 ht.2
 obtain⟨n,hn⟩ : ∃ n : Int,1+q.tmod 5=n:=⟨_,rfl⟩
 have hn1 : 1≤n∧n≤5:=by omega
 refine F.entryL rfl dg13 do13 de13 rfl (by kernel_rfl) ?_
 simp only[sets]
 refine V.re [(0,x),(1,.int .u16 tt),(2,.int .u8 q)] (N:=159) zE zY ?_
 intro t hF hA
 simp only[Kn,and_true] at hA
 refine zS ?_
 refine V.l0 ?_
 refine zS ?_
 have zf:=@hl
 refine V.lz ?_
 refine zS ?_
 refine V.condP zP (fun h12=>?_) (fun h12=>?_)
 ·refine zS ?_
  refine V.run ?_
  refine VI.callA rfl (f17_ok _) zA (fun Hf gf=>?_)
  refine VI.l0 ?_
  refine zS ?_
  refine V.ret (V.rets rfl (Lv.retF (by simp +contextual (disch:=first|omega|simp only[nx];omega) only[D1,cells_alloc_at,cells_alloc_ne,cells_set_at,cells_set_ne,yres,yres1,yresL,qA,qB,qC,D5,hF,hA,↓reduceIte,qD,qE];rfl) ?_))
  rfl
 have hwl : ws.length≤12:=by omega
 refine zS ?_
 have zf:=And.intro @eq64<|@hn
 refine V.lz ?_
 refine zS ?_
 refine V.l0 ?_
 refine zS ?_
 refine V.l0 ?_
 refine zS ?_
 refine V.loop (fun z t m X=>∃ (k : Nat) (col : Nat→Nat) (va vb : Value),k≤ws.length∧z=ws.length-k∧m=[]∧Grow H X∧OL H.next col 0 X va (wts (ws.take k))∧OL H.next col 1 X vb ((wts (ws.take k)).map (n*·))∧Full 159 t∧Kn [(0,x),(1,.int .u16 tt),(7,I n),(8,I (sm (wts (ws.take k)))),(9,va),(10,vb),(11,I k)] t) ws.length ?_ ?_
 ·exact⟨0,fun _=>0,.slice none 0 0,.slice none 0 0,by omega,by omega,rfl,.refl _,.nil,.nil,zF,zK⟩
 clear hF hA
 rintro z t m X ⟨k,col,va,vb,hk,rfl,rfl,hg,oa,ob,hF,hA⟩
 simp only[Kn,and_true] at hA
 refine zS ?_
 have zf:=@hl
 refine V.lz ?_
 refine zS ?_
 refine V.condP zP (fun hlt=>?_) (fun hlt=>?_)
 ·have hk' : k<ws.length:=by omega
  obtain⟨p,hp,hx⟩:=hat k hk'
  have hx1:=hx X hg
  have hwk:=hwb _ (List.getElem_mem hk')
  have ewk:=e64 _ hwk.1 hwk.2
  obtain⟨w1,w2⟩:=tmod_bd (a:=ws[k]) (b:=2001) hwk.1 (by decide)
  have hnx:=hg.1
  have lA : (wts (ws.take k)).length=k:=by rw[wts_len,List.length_take];omega
  obtain⟨u,X1,a1,col1,a2,a3,a4,a5⟩:=OL.push oa hnx (by omega) (ws[k].tmod 2001)
  have ob1:=Oc.st ob a3 (by decide)
  have hnx1 : H.next≤X1.next:=by omega
  have hpb : 0≤n*ws[k].tmod 2001∧n*ws[k].tmod 2001≤5*2000:=⟨Int.mul_nonneg (by omega) w1,Int.mul_le_mul hn1.2 (by omega) w1 (by decide)⟩
  obtain⟨u',X2,c1,col2,c2,c3,c4,c5⟩:=OL.push (l:=(wts (ws.take k)).map (n*·)) ob1 hnx1 (by rw[List.length_map];omega) (n*ws[k].tmod 2001)
  have oa2:=Oc.st a2 c3 (by decide)
  have eb : (wts (ws.take k)).map (n*·)++[n*ws[k].tmod 2001]=(wts (ws.take (k+1))).map (n*·):=by rw[wts_take hk',List.map_append];rfl
  rw[eb] at c2
  rw[← wts_take hk'] at oa2
  have hsm : sm (wts (ws.take (k+1)))=sm (wts (ws.take k))+ws[k].tmod 2001:=by rw[wts_take hk',sm_app];simp[sm]
  have hsb:=sm_bound (wts_bd (ws:=ws.take k) (fun v hv=>hwb v (List.mem_of_mem_take hv)))
  rw[lA] at hsb
  refine zS ?_
  have zf:=And.intro @hp<|And.intro @hx1<|@ewk
  refine V.lz ?_
  refine zS ?_
  have zf:=And.intro @a1<|@c1
  refine V.lz ?_
  rw[← hsm]
  refine zS ?_
  refine V.l0 ?_
  refine V.nil (Or.inl ⟨rfl,ws.length-(k+1),by omega,?_⟩)
  exact⟨k+1,col2,u,u',hk',rfl,rfl,c4.grow (a4.grow hg (Nat.le_refl _)) (Nat.le_refl _),oa2,c2,zF,zK⟩
 obtain rfl : k=ws.length:=by omega
 rw[List.take_length] at oa ob hA
 have hbA:=wts_bd hwb
 have hlA:=wts_len ws
 generalize wts ws=A at *
 have hbS:=sm_bound hbA
 refine V.exit ?_
 refine zX ?_
 refine V.nil (Or.inr ⟨by simp,?_⟩)
 refine zX ?_
 refine zS ?_
 refine V.l0 ?_
 refine zS ?_
 refine V.condP zP (fun h0=>?_) (fun h0=>?_)
 ·refine zS ?_
  refine V.run ?_
  refine VI.callA rfl (f17_ok _) zA (fun Hf gf=>?_)
  refine VI.l0 ?_
  refine zS ?_
  refine V.ret (V.rets rfl (Lv.retF (by simp +contextual (disch:=first|omega|simp only[nx];omega) only[D1,cells_alloc_at,cells_alloc_ne,cells_set_at,cells_set_ne,yres,yres1,yresL,qA,qB,qC,D5,hF,hA,↓reduceIte,qD,qE];rfl) ?_))
  rfl
 have hS : 0<sm A:=by omega
 have hbB : ∀ w∈A.map (n*·),0≤w∧w≤10000:=by
  intro w hw
  obtain⟨v,hv,rfl⟩:=List.mem_map.1 hw
  have h1:=hbA v hv
  have h2 : n*v≤5*2000:=Int.mul_le_mul hn1.2 h1.2 h1.1 (by decide)
  have h3 : 0≤n*v:=Int.mul_nonneg (by omega) h1.1
  exact⟨h3,by omega⟩
 have hSB : 0<sm (A.map (n*·)):=by rw[sm_map_mul];exact Int.mul_pos (by omega) hS
 have dA0 : de A tt=0:=de_0.2 ⟨by omega,fun v hv=>by have:=hbA v hv;omega,by omega,hS⟩
 have dB0 : de (A.map (n*·)) tt=0:=de_0.2 ⟨by rw[List.length_map];omega,hbB,by omega,hSB⟩
 obtain⟨dl,dsm,db,dd,dm⟩:=dv_shares ht.1 (fun w hw=>(hbA w hw).1) hS
 refine zS ?_
 refine V.run ?_
 refine VI.s0 1 ?_
 simp only[ds]
 refine VI.callR zA (f38_ok oa.ls (by omega)) zA (fun v2 H2 ⟨g2,h2⟩=>?_)
 have zf:=@et64
 refine VI.sz 2 ?_
 simp only[ds]
 refine VI.callR zA (f37_ok tt h2 (by omega)) zA (fun w3 H3 ⟨g3,hw3⟩=>?_)
 obtain⟨v3,rfl,l3⟩ : ∃ v,w3=.tuple ⟨[v,I 0]⟩∧LS H3 v (dv A tt):=by
  rcases hw3 with⟨a,_⟩|⟨_,v,b,c⟩
  ·exact absurd dA0 a
  ·exact⟨v,b,c⟩
 have g23:=g2.trans g3
 have oa3:=Oc.grow oa g23
 have ob3:=Oc.grow ob g23
 refine VI.l0 ?_
 refine zS ?_
 refine V.run ?_
 have zf:=@et64
 refine VI.sz 3 ?_
 simp only[ds]
 refine VI.callR zA (f37_ok tt (OL.ls ob3) (by rw[List.length_map];omega)) zA (fun w4 H4 ⟨g4,hw4⟩=>?_)
 obtain⟨v4,rfl,l4⟩ : ∃ v,w4=.tuple ⟨[v,I 0]⟩∧LS H4 v (dv A tt):=by
  rcases hw4 with⟨a,_⟩|⟨_,v,b,c⟩
  ·exact absurd dB0 a
  ·rw[dv_mul (by omega)] at c;exact⟨v,b,c⟩
 have l34:=l3.grow g4
 have oa4:=Oc.grow oa3 g4
 have hl3:=l34.len
 have hlA':=(OL.ls oa4).len
 refine VI.l0 ?_
 refine zS ?_
 refine V.run ?_
 refine VI.steps' 9 (by simp +contextual (disch:=first|omega|simp only[nx];omega) only[D4,qF,qG,qA,qB,qC,D5,hF,hA,↓reduceIte,qD,qE,ne_eq,eq_self,not_true_eq_false];with_reducible rfl) ?_
 simp only[ds]
 have f39' : Gives Try.prog 39 [v3,v4] H4 (.bool true):=by
  have:=f39_ok l34.s l4.s (by omega)
  rwa [decide_eq_true rfl] at this
 have hl3' : ∀ X,ylen 0 X v3=some (I A.length):=fun X=>by rw[← dl];exact hl3 X
 refine VI.callAT zG rfl (f39') zA (fun H5 g5=>?_)
 have l35:=l34.grow g5
 have oa5:=Oc.grow oa4 g5
 refine VI.line' (by simp +contextual (disch:=first|omega|simp only[nx];omega) only[D4,qF,qG,qA,qB,qC,D5,hF,hA,↓reduceIte,qD,qE,hl3',hlA',ne_eq,eq_self,not_true_eq_false,Bool.not_true];with_reducible rfl) ?_
 refine zS ?_
 refine V.condF zA ?_
 refine zS ?_
 refine V.l0 ?_
 refine zS ?_
 refine V.l0 ?_
 refine zS ?_
 refine V.loop (fun z t m X=>∃ (i : Nat),i≤A.length∧z=A.length-i∧m=[]∧X=H5∧Full 159 t∧Kn [(1,.int .u16 tt),(8,I (sm A)),(9,va),(13,v3),(17,I (sm ((dv A tt).take i))),(18,I i)] t) A.length ?_ ?_
 ·exact⟨0,by omega,by omega,rfl,rfl,zF,zK⟩
 clear hF hA
 rintro z t m X ⟨i,hi,rfl,rfl,rfl,hF,hA⟩
 simp only[Kn,and_true] at hA
 refine zS ?_
 have zf:=@hl3'
 refine V.lz ?_
 refine zS ?_
 refine V.condP zP (fun hlt2=>?_) (fun hlt2=>?_)
 ·have hi' : i<A.length:=by omega
  have hiL : i<(dv A tt).length:=by omega
  obtain⟨p,hp,hx⟩:=l35.at hiL
  obtain⟨p',hp',hx'⟩:=(OL.ls oa5).at hi'
  have hx1:=hx X (.refl _)
  have hx1':=hx' X (.refl _)
  have hss:=sm_take hiL
  have hLi:=db _ (List.getElem_mem hiL)
  have hAi:=hbA _ (List.getElem_mem hi')
  have hti:=sm_bound (c:=65535) (l:=(dv A tt).take i) (fun y hy=>by have:=db y (List.mem_of_mem_take hy);omega)
  have hlk : ((dv A tt).take i).length=i:=by rw[List.length_take];omega
  rw[hlk] at hti
  have hm1 : 0≤(dv A tt)[i]*sm A∧(dv A tt)[i]*sm A≤65535*24000:=⟨Int.mul_nonneg hLi.1 (by omega),Int.mul_le_mul (by omega) (by omega) (by omega) (by decide)⟩
  have hm2 : 0≤tt*A[i]∧tt*A[i]≤65535*2000:=⟨Int.mul_nonneg ht.1 hAi.1,Int.mul_le_mul ht.2 hAi.2 hAi.1 (by decide)⟩
  have hdi:=dd i hi'
  rw[← gD hi',← gD hiL] at hdi
  refine zS ?_
  have zf:=And.intro @hp<|@hx1
  refine V.lz ?_
  rw[← hss]
  refine zS ?_
  have zf:=And.intro @hp<|And.intro @hx1<|And.intro @hp'<|And.intro @hx1'<|@et64
  refine V.dz ?_ ?_ rfl ?_
  ·exact zM
  ·simp only[dcAll,dcOk,wantD,List.cons_append,List.nil_append,true_and,and_true]
  refine zS ?_
  refine V.l0 ?_
  refine zS ?_
  refine V.condP zP (fun c1=>?_) (fun c1=>?_)
  ·exact absurd c1 (by omega)
  refine zS ?_
  refine V.l0 ?_
  refine zS ?_
  refine V.loop (fun z t m Y=>∃ (k : Nat),k≤A.length∧z=A.length-k∧m=[]∧Y=X∧Full 159 t∧Kn [(1,.int .u16 tt),(8,I (sm A)),(9,va),(13,v3),(17,I (sm ((dv A tt).take (i+1)))),(18,I i),(20,I k)] t) A.length ?_ ?_
  ·exact⟨0,by omega,by omega,rfl,rfl,zF,zK⟩
  clear hF hA
  rintro z t m Y ⟨k,hk,rfl,rfl,rfl,hF,hA⟩
  simp only[Kn,and_true] at hA
  refine zS ?_
  have zf:=@hl3'
  refine V.lz ?_
  refine zS ?_
  refine V.condP zP (fun hlt3=>?_) (fun hlt3=>?_)
  ·have hk' : k<A.length:=by omega
   have hkL : k<(dv A tt).length:=by omega
   obtain⟨q,hq,hy⟩:=l35.at hkL
   obtain⟨q',hq',hy'⟩:=(OL.ls oa5).at hk'
   have hy1:=hy Y (.refl _)
   have hy1':=hy' Y (.refl _)
   have hmk:=dm i k hi' hk'
   rw[← gD hi',← gD hiL,← gD hk',← gD hkL] at hmk
   refine zS ?_
   have zf:=And.intro @hp<|And.intro @hx1<|And.intro @hp'<|And.intro @hx1'<|And.intro @hq<|And.intro @hy1<|And.intro @hq'<|@hy1'
   refine V.dz ?_ ?_ rfl ?_
   ·exact zM
   ·simp only[dcAll,dcOk,wantD,List.cons_append,List.nil_append,true_and,and_true]
   refine zS ?_
   refine V.condP zP (fun c2=>?_) (fun c2=>?_)
   ·exact absurd c2 (by omega)
   refine zS ?_
   refine V.l0 ?_
   refine V.nil (Or.inl ⟨rfl,A.length-(k+1),by omega,?_⟩)
   exact⟨k+1,hk',rfl,rfl,rfl,zF,zK⟩
  ·refine V.exit ?_
   refine zX ?_
   refine V.nil (Or.inr ⟨by simp,?_⟩)
   refine zX ?_
   refine zS ?_
   refine V.l0 ?_
   refine V.nil (Or.inl ⟨rfl,A.length-(i+1),by omega,?_⟩)
   exact⟨i+1,hi',rfl,rfl,rfl,zF,zK⟩
 ·obtain rfl : i=A.length:=by omega
  have hfin : sm ((dv A tt).take A.length)=tt:=by rw[← dl,List.take_length];exact dsm
  rw[hfin] at hA
  refine V.exit ?_
  refine zX ?_
  refine V.nil (Or.inr ⟨by simp,?_⟩)
  refine zX ?_
  refine zS ?_
  refine V.run ?_
  refine VI.steps' 5 (by simp +contextual (disch:=first|omega|simp only[nx];omega) only[D4,qF,qG,qA,qB,qC,D5,hF,hA,↓reduceIte,qD,qE,et64,eq_self];with_reducible rfl) ?_
  simp only[ds]
  refine VI.callAT zG rfl (f17_ok _) zA (fun Hf gf=>?_)
  refine VI.l0 ?_
  refine zS ?_
  refine V.ret (V.rets rfl (Lv.retF (by simp +contextual (disch:=first|omega|simp only[nx];omega) only[D1,cells_alloc_at,cells_alloc_ne,cells_set_at,cells_set_ne,yres,yres1,yresL,qA,qB,qC,D5,hF,hA,↓reduceIte,qD,qE];rfl) ?_))
  rfl
end Go.Xe.TRX
/- Rules of reasoning over the executable reading of the model's code (part Z16): arguments, by what their types allow. Conditions: none; for every program. -/
namespace Go.Xe
open Go Go.RowKit Go.ChangeShapes Go.WideShapes
end Go.Xe
/- The end of a call that has changed nothing of what was there: what a statement asks of the memory behind it. Conditions: as post_of_same's, but that new memory may be frozen. -/
namespace Go.Xe
open Go Go.RowKit Go.ChangeShapes Go.WideShapes
variable {H : Type} {enc : TypeId×Value→H} {P : Program}
theorem post_of_old {f : Func} {s : ChangeSpec} {apart fresh handsOn again : Bool} {W W' : World} {args : Array Value} {v : Value} {ds gs : List (DataW H)} {before pa pv : List MemPlace}
  (hW : DataW.Whole enc P f.params.toList s.vars apart W args.toList ds gs before)
  (hres : ∀ (b : Nat) (sp : Nat→Bool) (hd : Bool),DataW.TrodAll enc P W' b sp hd f.resultTypes.toList (v.resultList f.resultTypes.size) (s.fn H (ds++gs)).results [])
  (hargs : ∀ sp : Nat→Bool,(∀ p∈before,sp p.block=true)→DataW.TrodAll enc P W' 0 sp true f.params.toList args.toList (s.fn H (ds++gs)).args pa)
  (hvars : ∀ sp : Nat→Bool,(∀ p∈before,sp p.block=true)→DataW.TrodVars enc P W' sp s.vars (s.fn H (ds++gs)).vars pv)
  (hps : before=pa++pv) (hk : W.keptBut W' (·∈before)) (hfz : ∀ a : Addr,a.block<W.heap.size→W'.frozen? a=W.frozen? a)
  (hok : ∀ (j : Nat) (t : TypeId) (r : Value),f.resultTypes[j]?=some t→(v.resultList f.resultTypes.size)[j]?=some r→Value.okWide P W' .any 0 t r) :
  s.post enc P f apart fresh handsOn again W args v W':=by
 have old : ∀ p∈before,p.block<W.heap.size:=fun p hp=>hW.lt p hp
 have hold : ∀ p∈before,(fun b=>decide (b<W.heap.size)) p.block=true:=fun p hp=>by simpa using old p hp
 subst hps
 refine⟨ds,gs,_,[],pa,pv,hW,hres _ _ _,hargs _ hold,hvars _ hold,World.keptBut_mono (fun p hp=>⟨hp,.inr (List.mem_append.1 hp)⟩) hk,fun _=>?_⟩
 obtain⟨_,_,_,_,_,hz,hn⟩:=hW
 refine⟨hok,_,_,([]++pa)++pv,⟨[]++pa,pv,trodAll_append (hargs _ (fun _ _=>rfl)) (hres _ _ _),hvars _ (fun _ _=>rfl),rfl,?_,?_⟩,?_⟩
 ·intro b off hp
  have hp' : MemPlace.cell b off∈pa++pv:=by simpa using hp
  rw[hfz _ (old _ hp')]
  exact hz b off hp'
 ·intro ha
  simpa using hn ha
 ·intro p hp _
  simpa using hp
end Go.Xe
