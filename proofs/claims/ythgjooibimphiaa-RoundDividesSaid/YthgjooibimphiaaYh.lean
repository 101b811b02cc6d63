/- Rules of reasoning over the executable reading of the model's code (part Z28): guarded calls of functions that change memory. Conditions: none; for every program. -/
import Derived.Test.YthgjooibimphiaaWa
import Derived.Test.YthgjooibimphiaaTSD
import Derived.Test.YthgjooibimphiaaZl
import Derived.WideShapes
import Derived.ChangeSame
import Derived.Below
namespace Go.Xe
open Go
section
variable {P : Program} [Gl P] [Orc P] {rnd : Option Nat} {Q : FQ} {K : List FFr} {t : TT} {m : List Nat} {H : Heap} {is : List FI} {p d : Pth} {w : Bool} {fa : FA} {args : List FA} {g : FuncId} {a b l : List Value} {S : Value→Heap→Prop} {pre : List Heap} {R : TT→List Heap→Prop}
theorem VI.callRT (hp : gt p t=.bool w) (hf : dA t fa=.func (.func g) ⟨a⟩ ⟨b⟩) (hs : F P g ⟨l⟩ H S) (hl : a++args.map (dA t)++b=l) (k : ∀ v H',S v H'→VI P rnd Q K m is (st v d t) H') : VI P rnd Q K m (.gd p w (.call fa args) d::is) t H:=by
 subst hl
 refine .callT hp hf ?_
 rw[arr_app,arr_app]
 exact hs.mono k
theorem VD.callRT (hp : gt p t=.bool w) (hf : dA t fa=.func (.func g) ⟨a⟩ ⟨b⟩) (hs : F P g ⟨l⟩ H S) (hl : a++args.map (dA t)++b=l) (k : ∀ v H',S v H'→VD P is (st v d t) H' (pre++[H]) R) : VD P (.gd p w (.call fa args) d::is) t H pre R:=by
 subst hl
 refine .callT hp hf ?_
 rw[arr_app,arr_app]
 exact hs.mono k
theorem V.join {x : FCode} (S : TT→List Nat→Heap→Prop) (h : V P rnd (fun e t' m' H'=>(e=.normal∧S t' m' H')∨(e≠.normal∧V P rnd Q K e t' m' H')) [.seq x] .normal t m H) (k : ∀ t' m' H',S t' m' H'→V P rnd Q K .normal t' m' H') : V P rnd Q (.seq x::K) .normal t m H:=by
 intro c tm hc ht
 obtain⟨e,tm1,m1,H1,t1,h1,h2,h3⟩:=h c tm hc ht
 refine⟨e,tm1,m1,H1,t1,h1,h2,?_⟩
 rcases h3 with⟨rfl,hS⟩|⟨_,h3⟩
 ·exact k _ _ _ hS
 ·exact h3
end
end Go.Xe
/- The statement RoundDivides: the function. Conditions: none. -/
-- MOD TR
namespace Go.Xe.TRX
open Go Go.Xe Go.Proofs
open Nat renaming reduceLeDiff → qA, reduceSub → qB, reduceAdd → qC, reduceEqDiff → qD, reduceLT → qE
open Int renaming reduceNegSucc → qF, reduceEq → qG
open Go.Xe.V renaming seq → sA, block → sB, scope → sC, skip → sD, close → sE
open Go.Xe renaming pth → P
open Go.Xe.Rnd
set_option maxRecDepth 100000
set_option maxHeartbeats 3200000
set_option linter.unusedSimpArgs false
noncomputable def d6 : FCode:=(.seq (.run (.go (.move (.con (.bool false))) (P 4)::
[])) (.seq (.seq (.run (.go (.move (tm 0)) (P 10)::
.go (.len 0 (tm 10)) (P 11)::
.go (.bin .gtr 3 (tm 11) (.con (.int .i64 (.ofNat 15)))) (P 12)::
[])) (.cond (tm 12) (.seq (.run (.go (.call (.con (.func (.func 17) ⟨[]⟩ ⟨[]⟩)) []) (P 13)::
.go (.move (tm 13)) (P 4)::
[])) .ret) .skip)) (.seq (.run (.go (.move (tm 0)) (P 15)::
.go (.call (.con (.func (.func 38) ⟨[]⟩ ⟨[]⟩)) [tm 15]) (P 16)::
.go (.move (tm 1)) (P 17)::
.go (.call (.con (.func (.func 37) ⟨[]⟩ ⟨[]⟩)) [(tm 16),(tm 17)]) (P 18)::
.go (.move (tm 18)) (P 14)::
.go (.extract (tm 14) 0) (P 19)::
.go (.extract (tm 14) 1) (P 20)::
.go (.move (tm 19)) (P 5)::
.go (.move (tm 20)) (P 6)::
[])) (.seq (.run (.go (.move (.con (.int .i64 (.ofNat 0)))) (P 7)::
.go (.move (.con (.int .i64 (.ofNat 0)))) (P 8)::
[])) (.seq (.seq (.run (.go (.move (tm 0)) (P 21)::
.go (.len 0 (tm 21)) (P 22)::
.go (.bin .gtr 3 (tm 22) (.con (.int .i64 (.ofNat 12)))) (P 23)::
[])) (.cond (tm 23) (.run (.go (.move (.con (.int .i64 (.ofNat 3)))) (P 7)::
[])) .skip)) (.seq (.seq (.run (.go (.move (.con (.int .i64 (.ofNat 0)))) (P 9)::
[])) (.block 0 (.loop (.seq (.seq (.run (.go (.move (tm 9)) (P 24)::
.go (.move (tm 0)) (P 25)::
.go (.len 0 (tm 25)) (P 26)::
.go (.bin .lss 3 (tm 24) (tm 26)) (P 27)::
.go (.move (tm 27)) (P 28)::
.gd (P 28) true (.move (tm 7)) (P 29)::
.gd (P 28) true (.bin .eql 29 (tm 29) (.con (.int .i64 (.ofNat 0)))) (P 30)::
.go (.pick (tm 28) (tm 30) (.con (.bool false))) (P 31)::
[])) (.cond (tm 31) .skip (.exit 0))) (.seq (.block 1 (.seq (.run (.go (.move (tm 0)) (P 34)::
.go (.move (tm 9)) (P 35)::
.go (.indexAddr none 1 (tm 34) (tm 35)) (P 36)::
.go (.load1 (tm 36)) (P 37)::
.go (.call (.con (.func (.func 25) ⟨[]⟩ ⟨[]⟩)) [(tm 37),(.con (.int .i64 (.ofNat 0))),(.con (.int .i64 (.ofNat 10000)))]) (P 38)::
.go (.un .not (tm 38)) (P 39)::
[])) (.cond (tm 39) (.run (.go (.move (.con (.int .i64 (.ofNat 2)))) (P 7)::
[])) (.run (.go (.move (tm 8)) (P 40)::
.go (.move (tm 0)) (P 41)::
.go (.move (tm 9)) (P 42)::
.go (.indexAddr none 1 (tm 41) (tm 42)) (P 43)::
.go (.load1 (tm 43)) (P 44)::
.go (.bin .add 3 (tm 40) (tm 44)) (P 45)::
.go (.move (tm 45)) (P 8)::
[]))))) (.run (.go (.move (tm 9)) (P 32)::
.go (.bin .add 3 (tm 32) (.con (.int .i64 (.ofNat 1)))) (P 33)::
.go (.move (tm 33)) (P 9)::
[]))))))) (.seq (.seq (.run (.go (.move (tm 7)) (P 46)::
.go (.bin .eql 29 (tm 46) (.con (.int .i64 (.ofNat 0)))) (P 47)::
.go (.move (tm 47)) (P 48)::
.gd (P 48) true (.move (tm 1)) (P 49)::
.gd (P 48) true (.call (.con (.func (.func 25) ⟨[]⟩ ⟨[]⟩)) [(tm 49),(.con (.int .i64 (.ofNat 0))),(.con (.int .i64 (.ofNat 100000)))]) (P 50)::
.gd (P 48) true (.un .not (tm 50)) (P 51)::
.go (.pick (tm 48) (tm 51) (.con (.bool false))) (P 52)::
[])) (.cond (tm 52) (.run (.go (.move (.con (.int .i64 (.ofNat 2)))) (P 7)::
[])) .skip)) (.seq (.seq (.run (.go (.move (tm 7)) (P 53)::
.go (.bin .eql 29 (tm 53) (.con (.int .i64 (.ofNat 0)))) (P 54)::
.go (.move (tm 54)) (P 55)::
.gd (P 55) true (.move (tm 8)) (P 56)::
.gd (P 55) true (.bin .eql 3 (tm 56) (.con (.int .i64 (.ofNat 0)))) (P 57)::
.go (.pick (tm 55) (tm 57) (.con (.bool false))) (P 58)::
[])) (.cond (tm 58) (.run (.go (.move (.con (.int .i64 (.ofNat 7)))) (P 7)::
[])) .skip)) (.seq (.seq (.run (.go (.move (tm 7)) (P 59)::
.go (.bin .neq 29 (tm 59) (.con (.int .i64 (.ofNat 0)))) (P 60)::
[])) (.cond (tm 60) (.seq (.run (.go (.move (tm 6)) (P 61)::
.go (.move (tm 7)) (P 62)::
.go (.bin .eql 29 (tm 61) (tm 62)) (P 63)::
.go (.move (tm 63)) (P 64)::
.gd (P 64) true (.move (tm 5)) (P 65)::
.gd (P 64) true (.len 0 (tm 65)) (P 66)::
.gd (P 64) true (.bin .eql 3 (tm 66) (.con (.int .i64 (.ofNat 0)))) (P 67)::
.go (.pick (tm 64) (tm 67) (.con (.bool false))) (P 68)::
.go (.move (tm 68)) (P 69)::
.gd (P 69) true (.call (.con (.func (.func 17) ⟨[]⟩ ⟨[]⟩)) []) (P 70)::
.go (.pick (tm 69) (tm 70) (.con (.bool false))) (P 71)::
.go (.move (tm 71)) (P 4)::
[])) .ret) .skip)) (.seq (.run (.go (.move (tm 6)) (P 72)::
.go (.bin .eql 29 (tm 72) (.con (.int .i64 (.ofNat 0)))) (P 73)::
.go (.move (tm 73)) (P 74)::
.gd (P 74) true (.move (tm 5)) (P 75)::
.gd (P 74) true (.move (tm 0)) (P 76)::
.gd (P 74) true (.move (tm 1)) (P 77)::
.gd (P 74) true (.call (.con (.func (.func 40) ⟨[]⟩ ⟨[]⟩)) [(tm 76),(tm 77)]) (P 78)::
.gd (P 74) true (.call (.con (.func (.func 39) ⟨[]⟩ ⟨[]⟩)) [(tm 75),(tm 78)]) (P 79)::
.go (.pick (tm 74) (tm 79) (.con (.bool false))) (P 80)::
.go (.move (tm 80)) (P 81)::
.gd (P 81) true (.call (.con (.func (.func 17) ⟨[]⟩ ⟨[]⟩)) []) (P 82)::
.go (.pick (tm 81) (tm 82) (.con (.bool false))) (P 83)::
.go (.move (tm 83)) (P 4)::
[])) .ret))))))))))
theorem de6 : @compF Try.prog (Gl.none Try.prog) Try.f6 2=.mk d6 (mkTT 84) [(P 0),(P 1)] [.tmp (P 4)]:=by kernel_rfl
theorem dg6 : Try.prog.funcs[6]?=some Try.f6:=Try.func6
theorem do6 : okF Try.prog Try.f6=true:=by kernel_rfl
theorem de_3 {l : List Int} {tt : Int} (h : 12<l.length) : de l tt=3:=by unfold de;rw[if_pos h]
theorem de_2 {l : List Int} {tt : Int} (h : ¬ 12<l.length) (h2 : ¬ (∀ v∈l,0≤v∧v≤10000)∨¬ (0≤tt∧tt≤100000)) : de l tt=2:=by unfold de;rw[if_neg h,if_pos h2]
theorem de_7 {l : List Int} {tt : Int} (h : ¬ 12<l.length) (h2 : ∀ v∈l,0≤v∧v≤10000) (h3 : 0≤tt∧tt≤100000) (h4 : sm l=0) : de l tt=7:=by
 unfold de
 rw[if_neg h,if_neg (by rintro (hh|hh);exact hh h2;exact hh h3),if_pos h4]
theorem dvn_len (S : Int) : ∀ (n : Nat) (o g : List Int),(dvn S n o g).length=o.length
 | 0,_,_=>rfl
 | n+1,o,g=>by simp only[dvn];rw[dvn_len S n,List.length_set]
theorem dv_len (l : List Int) (t : Int) : (dv l t).length=l.length:=by unfold dv;rw[dvn_len,par_len]
def J (l : List Int) (k : Nat) (W s : Int) : Prop:=(W=0∧¬ 12<l.length∧(∀ v∈l.take k,0≤v∧v≤10000)∧s=sm (l.take k))∨(W=2∧¬ 12<l.length∧¬ (∀ v∈l,0≤v∧v≤10000))∨(W=3∧12<l.length)
theorem f6_ok {H : Heap} {x : Value} {l : List Int} {tt : Int} (hs : Sl H x (l.map I)) : F Try.prog 6 ⟨[x,I tt]⟩ H (fun w _=>w=.bool true):=by
 have h : LS H x l:=⟨hs⟩
 have hl:=h.len
 have hl0 : ∀ X,ylen 0 X (.slice none 0 0)=some (I 0):=fun _=>rfl
 refine F.entryL rfl dg6 do6 de6 rfl (by kernel_rfl) ?_
 simp only[sets]
 refine V.re [(0,x),(1,I tt)] (N:=84) zE zY ?_
 intro t hF hA
 simp only[Kn,and_true] at hA
 refine zS ?_
 refine V.l0 ?_
 refine zS ?_
 have zf:=@hl
 refine V.lz ?_
 refine zS ?_
 refine V.condP zP (fun h15=>?_) (fun h15=>?_)
 ·refine zS ?_
  refine V.run ?_
  refine VI.callA rfl (f17_ok _) zA (fun Hf gf=>?_)
  refine VI.l0 ?_
  refine zS ?_
  refine V.ret (V.rets rfl (Lv.retF (by simp +contextual (disch:=first|omega|simp only[nx];omega) only[D1,cells_alloc_at,cells_alloc_ne,cells_set_at,cells_set_ne,yres,yres1,yresL,qA,qB,qC,D5,hF,hA,↓reduceIte,qD,qE];rfl) ?_))
  rfl
 refine zS ?_
 refine V.run ?_
 refine VI.s0 1 ?_
 simp only[ds]
 refine VI.callR zA (f38_ok h (by omega)) zA (fun v2 H2 ⟨g2,h2⟩=>?_)
 refine VI.s0 1 ?_
 simp only[ds]
 refine VI.callR zA (f37_ok tt h2 (by omega)) zA (fun w3 H3 ⟨g3,hw⟩=>?_)
 obtain⟨v,e,rfl,hq⟩ : ∃ v e,w3=.tuple ⟨[v,I e]⟩∧e=de l tt∧((de l tt≠0∧v=.slice none 0 0)∨(de l tt=0∧LS H3 v (dv l tt))):=by
  rcases hw with⟨a,rfl⟩|⟨a,v,rfl,b⟩
  ·exact⟨_,_,rfl,rfl,.inl ⟨a,rfl⟩⟩
  ·exact⟨_,_,rfl,a.symm,.inr ⟨a,b⟩⟩
 clear hw
 obtain⟨he,hw⟩:=hq
 have g3:=g2.trans g3
 refine VI.l0 ?_
 refine zS ?_
 refine V.l0 ?_
 refine zS ?_
 have zf:=@hl
 refine V.lz ?_
 refine zS ?_
 refine V.join (fun t m X=>∃ W : Int,J l 0 W 0∧m=[]∧X=H3∧Full 84 t∧Kn [(0,x),(1,I tt),(5,v),(6,I e),(7,I W),(8,I 0)] t) ?_ ?_
 ·refine V.condP zP (fun h12=>?_) (fun h12=>?_)
  ·refine zS ?_
   refine V.l0 ?_
   refine V.nil (Or.inl ⟨rfl,3,.inr (.inr ⟨rfl,by omega⟩),rfl,rfl,zF,zK⟩)
  ·refine zS ?_
   refine V.nil (Or.inl ⟨rfl,0,.inl ⟨rfl,by omega,by simp,by simp[sm]⟩,rfl,rfl,zF,zK⟩)
 clear hF hA
 rintro t _ X ⟨W,hJ,rfl,hX,hF,hA⟩
 obtain rfl : H3=X:=hX.symm
 simp only[Kn,and_true] at hA
 refine zS ?_
 refine V.l0 ?_
 refine zS ?_
 refine V.loop (fun z t m X=>∃ (k : Nat) (W s : Int),k≤l.length∧z=l.length-k∧m=[]∧Grow H3 X∧J l k W s∧Full 84 t∧Kn [(0,x),(1,I tt),(5,v),(6,I e),(7,I W),(8,I s),(9,I k)] t) l.length ?_ ?_
 ·exact⟨0,W,0,by omega,by omega,rfl,.refl _,hJ,zF,zK⟩
 clear hF hA hJ
 rintro z t m X ⟨k,W,s,hk,rfl,rfl,hg,hJ,hF,hA⟩
 simp only[Kn,and_true] at hA
 refine zS ?_
 have zf:=@hl
 refine V.lz ?_
 refine zS ?_
 refine V.condP zP (fun hlt=>?_) (fun hlt=>?_)
 ·have hk' : k<l.length:=by omega
  obtain⟨h12,hall,hsm⟩ : ¬ 12<l.length∧(∀ v∈l.take k,0≤v∧v≤10000)∧s=sm (l.take k):=by
   rcases hJ with⟨_,a,b,c⟩|⟨a,_⟩|⟨a,_⟩
   ·exact⟨a,b,c⟩
   ·omega
   ·omega
  obtain⟨p,hp,hx⟩:=h.at hk'
  have gX:=g3.trans hg
  have hx1:=hx X gX
  refine zS ?_
  refine V.run ?_
  have zf:=And.intro @hp<|@hx1
  refine VI.sz 4 ?_
  simp only[ds]
  refine VI.callA rfl (f25_ok l[k] 0 10000 _) zA (fun X2 gx2=>?_)
  refine VI.l0 ?_
  refine zS ?_
  refine V.condP zP (fun hin=>?_) (fun hin=>?_)
  ·refine zS ?_
   refine V.l0 ?_
   refine zS ?_
   refine V.l0 ?_
   refine V.nil (Or.inl ⟨rfl,l.length-(k+1),by omega,?_⟩)
   refine⟨k+1,2,s,hk',rfl,rfl,hg.trans gx2,.inr (.inl ⟨rfl,h12,fun hh=>?_⟩),zF,zK⟩
   have:=hh _ (List.getElem_mem hk')
   omega
  ·have hin' : 0≤l[k]∧l[k]≤10000:=by omega
   have hx2:=hx X2 (gX.trans gx2)
   have hbt:=sm_bound hall
   have hlk : (l.take k).length=k:=by rw[List.length_take];omega
   rw[hlk] at hbt
   have hss:=sm_take hk'
   refine zS ?_
   have zf:=And.intro @hp<|@hx2
   refine V.lz ?_
   refine zS ?_
   refine V.l0 ?_
   refine V.nil (Or.inl ⟨rfl,l.length-(k+1),by omega,?_⟩)
   refine⟨k+1,W,s+l[k],hk',rfl,rfl,hg.trans gx2,.inl ⟨by omega,h12,fun v hv=>?_,by omega⟩,zF,zK⟩
   rw[tk1 hk'] at hv
   rcases List.mem_append.1 hv with hv|hv
   ·exact hall v hv
   ·rw[List.mem_singleton.1 hv];omega
 have gX:=g3.trans hg
 refine V.exit ?_
 refine zX ?_
 refine V.nil (Or.inr ⟨by simp,?_⟩)
 refine zX ?_
 refine zS ?_
 have hend : (W=0∧¬ 12<l.length∧(∀ v∈l,0≤v∧v≤10000)∧s=sm l)∨(W=de l tt∧W≠0):=by
  rcases hJ with⟨a,b,c,d⟩|⟨a,b,c⟩|⟨a,b⟩
  ·have : k=l.length:=by omega
   subst this
   rw[List.take_length] at c d
   exact .inl ⟨a,b,c,d⟩
  ·exact .inr ⟨by rw[a,de_2 b (.inl c)],by omega⟩
  ·exact .inr ⟨by rw[a,de_3 b],by omega⟩
 clear hJ
 refine V.run ?_
 refine VI.s0 4 ?_
 simp only[ds]
 first|refine VI.callGt zG (fun hc=>zI) (fun hc=>f25_ok tt 0 100000 _) (fun hc=>zI) (fun X2 gx2=>?_)|refine VI.callGf zG (fun hc=>zI) (fun hc=>f25_ok tt 0 100000 _) (fun hc=>zI) (fun X2 gx2=>?_)
 refine VI.l0 ?_
 refine zS ?_
 refine V.join (fun t m Y=>∃ W : Int,((W=0∧¬ 12<l.length∧(∀ v∈l,0≤v∧v≤10000)∧(0≤tt∧tt≤100000)∧s=sm l)∨(W=de l tt∧W≠0))∧m=[]∧Y=X2∧Full 84 t∧Kn [(0,x),(1,I tt),(5,v),(6,I e),(7,I W),(8,I s)] t) ?_ ?_
 ·refine V.condP zP (fun c1=>?_) (fun c1=>?_)
  ·refine zS ?_
   refine V.l0 ?_
   refine V.nil (Or.inl ⟨rfl,2,.inr ⟨?_,by omega⟩,rfl,rfl,zF,zK⟩)
   rcases hend with⟨a,b,c,d⟩|⟨a,b⟩
   ·rw[de_2 b (.inr c1.2)]
   ·exact absurd c1.1 b
  ·refine zS ?_
   refine V.nil (Or.inl ⟨rfl,W,?_,rfl,rfl,zF,zK⟩)
   rcases hend with⟨a,b,c,d⟩|h'
   ·exact .inl ⟨a,b,c,Decidable.not_not.1 (fun hh=>c1 ⟨a,hh⟩),d⟩
   ·exact .inr h'
 clear hF hA hend
 rintro t _ Y ⟨W,hend,rfl,hX,hF,hA⟩
 obtain rfl : X2=Y:=hX.symm
 simp only[Kn,and_true] at hA
 refine zS ?_
 refine V.l0 ?_
 refine zS ?_
 refine V.join (fun t m Y=>∃ W : Int,W=de l tt∧m=[]∧Y=X2∧Full 84 t∧Kn [(0,x),(1,I tt),(5,v),(6,I e),(7,I W)] t) ?_ ?_
 ·refine V.condP zP (fun c1=>?_) (fun c1=>?_)
  ·refine zS ?_
   refine V.l0 ?_
   refine V.nil (Or.inl ⟨rfl,7,?_,rfl,rfl,zF,zK⟩)
   rcases hend with⟨a,b,c,d,f⟩|⟨a,b⟩
   ·rw[de_7 b c d (by omega)]
   ·exact absurd c1.1 b
  ·refine zS ?_
   refine V.nil (Or.inl ⟨rfl,W,?_,rfl,rfl,zF,zK⟩)
   rcases hend with⟨a,b,c,d,f⟩|h'
   ·rw[a]
    exact (de_0.2 ⟨by omega,c,d,by have:=(sm_bound c).1;omega⟩).symm
   ·exact h'.1
 clear hF hA hend
 rintro t _ Y ⟨W,hW,rfl,hX,hF,hA⟩
 obtain rfl : X2=Y:=hX.symm
 simp only[Kn,and_true] at hA
 rw[← hW] at he hw
 subst he
 have gX2:=gX.trans gx2
 refine zS ?_
 refine V.l0 ?_
 refine zS ?_
 rcases hw with⟨h0,rfl⟩|⟨h0,hv⟩
 ·refine V.condP zP (fun c1=>?_) (fun c1=>?_)
  ·refine zS ?_
   refine V.run ?_
   refine VI.steps' 9 (by simp +contextual (disch:=first|omega|simp only[nx];omega) only[D4,qF,qG,qA,qB,qC,D5,hF,hA,↓reduceIte,qD,qE,hl0,eq_self];with_reducible rfl) ?_
   simp only[ds]
   refine VI.callAT zG rfl (f17_ok _) zA (fun Hf gf=>?_)
   refine VI.l0 ?_
   refine zS ?_
   refine V.ret (V.rets rfl (Lv.retF (by simp +contextual (disch:=first|omega|simp only[nx];omega) only[D1,cells_alloc_at,cells_alloc_ne,cells_set_at,cells_set_ne,yres,yres1,yresL,qA,qB,qC,D5,hF,hA,↓reduceIte,qD,qE];rfl) ?_))
   rfl
  ·exact absurd h0 c1
 ·subst h0
  refine V.condF zA ?_
  have ⟨d1,d2,d3,d4⟩:=de_0.1 hW.symm
  refine zS ?_
  refine V.run ?_
  refine VI.steps' 6 (by simp +contextual (disch:=first|omega|simp only[nx];omega) only[D4,qF,qG,qA,qB,qC,D5,hF,hA,↓reduceIte,qD,qE,eq_self];with_reducible rfl) ?_
  simp only[ds]
  refine VI.callRT zG zA (f40_ok (h.grow gX2) d1 d2 d3 d4) zA (fun r Z ⟨gz,hr⟩=>?_)
  have hvZ:=hv.grow ((hg.trans gx2).trans gz)
  refine VI.callAT zG rfl (f39_ok hvZ.s hr.s (by rw[dv_len];omega)) zA (fun Z2 gz2=>?_)
  refine VI.steps' 2 (by simp +contextual (disch:=first|omega|simp only[nx];omega) only[D4,qF,qG,qA,qB,qC,D5,hF,hA,↓reduceIte,qD,qE,eq_self];with_reducible rfl) ?_
  simp only[ds]
  refine VI.callAT zG rfl (f17_ok _) zA (fun Hf gf=>?_)
  refine VI.l0 ?_
  refine zS ?_
  refine V.ret (V.rets rfl (Lv.retF (by simp +contextual (disch:=first|omega|simp only[nx];omega) only[D1,cells_alloc_at,cells_alloc_ne,cells_set_at,cells_set_ne,yres,yres1,yresL,qA,qB,qC,D5,hF,hA,↓reduceIte,qD,qE];rfl) ?_))
  rfl
end Go.Xe.TRX
/- Rules of reasoning over the executable reading of the model's code (part Z16): arguments, by what their types allow. Conditions: none; for every program. -/
namespace Go.Xe
open Go Go.RowKit Go.ChangeShapes Go.WideShapes
end Go.Xe
/- The end of a call that has changed nothing of what was there: what a statement asks of the memory behind it. Conditions: as post_of_same's, but that new memory may be frozen. -/
namespace Go.Xe
open Go Go.RowKit Go.ChangeShapes Go.WideShapes
variable {H : Type} {enc : TypeId×Value→H} {P : Program}
theorem post_of_old {f : Func} {s : ChangeSpec} {apart fresh handsOn again : Bool} {W W' : World} {args : Array Value} {v : Value} {ds gs : List (DataW H)} {before pa pv : List MemPlace}
  (hW : DataW.Whole enc P f.params.toList s.vars apart W args.toList ds gs before)
  (hres : ∀ (b : Nat) (sp : Nat→Bool) (hd : Bool),DataW.TrodAll enc P W' b sp hd f.resultTypes.toList (v.resultList f.resultTypes.size) (s.fn H (ds++gs)).results [])
  (hargs : ∀ sp : Nat→Bool,(∀ p∈before,sp p.block=true)→DataW.TrodAll enc P W' 0 sp true f.params.toList args.toList (s.fn H (ds++gs)).args pa)
  (hvars : ∀ sp : Nat→Bool,(∀ p∈before,sp p.block=true)→DataW.TrodVars enc P W' sp s.vars (s.fn H (ds++gs)).vars pv)
  (hps : before=pa++pv) (hk : W.keptBut W' (·∈before)) (hfz : ∀ a : Addr,a.block<W.heap.size→W'.frozen? a=W.frozen? a)
  (hok : ∀ (j : Nat) (t : TypeId) (r : Value),f.resultTypes[j]?=some t→(v.resultList f.resultTypes.size)[j]?=some r→Value.okWide P W' .any 0 t r) :
  s.post enc P f apart fresh handsOn again W args v W':=by
 have old : ∀ p∈before,p.block<W.heap.size:=fun p hp=>hW.lt p hp
 have hold : ∀ p∈before,(fun b=>decide (b<W.heap.size)) p.block=true:=fun p hp=>by simpa using old p hp
 subst hps
 refine⟨ds,gs,_,[],pa,pv,hW,hres _ _ _,hargs _ hold,hvars _ hold,World.keptBut_mono (fun p hp=>⟨hp,.inr (List.mem_append.1 hp)⟩) hk,fun _=>?_⟩
 obtain⟨_,_,_,_,_,hz,hn⟩:=hW
 refine⟨hok,_,_,([]++pa)++pv,⟨[]++pa,pv,trodAll_append (hargs _ (fun _ _=>rfl)) (hres _ _ _),hvars _ (fun _ _=>rfl),rfl,?_,?_⟩,?_⟩
 ·intro b off hp
  have hp' : MemPlace.cell b off∈pa++pv:=by simpa using hp
  rw[hfz _ (old _ hp')]
  exact hz b off hp'
 ·intro ha
  simpa using hn ha
 ·intro p hp _
  simpa using hp
end Go.Xe
