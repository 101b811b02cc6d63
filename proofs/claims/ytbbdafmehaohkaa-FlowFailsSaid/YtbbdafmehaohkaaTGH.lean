/- What the functions of the layer flow come to: the tables that fail. Conditions: none. -/
import Derived.Test.YtbbdafmehaohkaaTKB
import Derived.Test.YtbbdafmehaohkaaZx
-- MOD TF
namespace Go.Xe.TFX
open Go Go.Xe Go.Proofs
open Nat renaming reduceLeDiff → qA, reduceSub → qB, reduceAdd → qC, reduceEqDiff → qD, reduceLT → qE
open Int renaming reduceNegSucc → qF, reduceEq → qG
open Go.Xe.V renaming seq → sA, block → sB, scope → sC, skip → sD, close → sE
open Go.Xe renaming pth → P
open Go.Xe.Flw
set_option maxRecDepth 100000
set_option maxHeartbeats 3200000
set_option linter.unusedSimpArgs false
noncomputable def d32 : FCode:=(.seq (.run (.go (.move (.con (.slice none 0 0))) (P 2)::
.go (.move (.con (.int .i64 (.ofNat 0)))) (P 3)::
[])) (.seq (.seq (.run (.go (.move (tm 0)) (P 10)::
.go (.len 0 (tm 10)) (P 11)::
.go (.bin .gtr 3 (tm 11) (.con (.int .i64 (.ofNat 10)))) (P 12)::
[])) (.cond (tm 12) (.seq (.run (.go (.move (.con (.slice none 0 0))) (P 2)::
.go (.move (.con (.int .i64 (.ofNat 3)))) (P 3)::
[])) .ret) .skip)) (.seq (.seq (.run (.go (.move (tm 0)) (P 13)::
.go (.len 0 (tm 13)) (P 14)::
.go (.move (.con (.int .i64 (.ofNat 0)))) (P 15)::
[])) (.block 0 (.loop (.seq (.run (.go (.bin .lss 3 (tm 15) (tm 14)) (P 16)::
[])) (.seq (.cond (tm 16) .skip (.exit 0)) (.seq (.block 1 (.seq (.run (.go (.indexAddr none 4 (tm 13) (tm 15)) (P 17)::
.go (.loadN 4 (tm 17)) (P 18)::
.go (.alloc 38 [(.slice none 0 0),(.slice none 0 0),(.slice none 0 0),(.slice none 0 0)]) (P 5)::
.un (.store 4 (tm 5) (tm 18))::
[])) (.seq (.run (.go (.loadN 4 (tm 5)) (P 19)::
.go (.call (.con (.func (.func 21) ⟨[]⟩ ⟨[]⟩)) [tm 19]) (P 20)::
.go (.move (tm 20)) (P 6)::
[])) (.seq (.run (.go (.move (tm 6)) (P 21)::
.go (.bin .neq 33 (tm 21) (.con (.int .i64 (.ofNat 0)))) (P 22)::
[])) (.cond (tm 22) (.seq (.run (.go (.move (tm 6)) (P 23)::
.go (.move (.con (.slice none 0 0))) (P 2)::
.go (.move (tm 23)) (P 3)::
[])) .ret) .skip))))) (.run (.go (.bin .add 3 (tm 15) (.con (.int .i64 (.ofNat 1)))) (P 24)::
.go (.move (tm 24)) (P 15)::
[])))))))) (.seq (.run (.go (.move (.con (.slice none 0 0))) (P 7)::
[])) (.seq (.seq (.run (.go (.move (tm 0)) (P 25)::
.go (.len 0 (tm 25)) (P 26)::
.go (.move (.con (.int .i64 (.ofNat 0)))) (P 27)::
[])) (.block 2 (.loop (.seq (.run (.go (.bin .lss 3 (tm 27) (tm 26)) (P 28)::
[])) (.seq (.cond (tm 28) .skip (.exit 2)) (.seq (.block 3 (.seq (.run (.go (.move (tm 27)) (P 29)::
.go (.indexAddr none 4 (tm 25) (tm 27)) (P 30)::
.go (.loadN 4 (tm 30)) (P 31)::
.go (.alloc 38 [(.slice none 0 0),(.slice none 0 0),(.slice none 0 0),(.slice none 0 0)]) (P 9)::
.go (.move (tm 29)) (P 8)::
.un (.store 4 (tm 9) (tm 31))::
[])) (.seq (.run (.go (.loadN 4 (tm 9)) (P 32)::
.go (.call (.con (.func (.func 75) ⟨[]⟩ ⟨[]⟩)) [tm 32]) (P 33)::
.go (.call (.con (.func (.func 76) ⟨[]⟩ ⟨[]⟩)) [tm 33]) (P 34)::
.go (.un .not (tm 34)) (P 35)::
[])) (.cond (tm 35) (.run (.go (.move (tm 7)) (P 36)::
.go (.move (tm 8)) (P 37)::
.go (.buildSlice 3 1 [(.int .i64 (.ofNat 0))] [(0,1,(tm 37))]) (P 38)::
.go (.append 3 1 8 (tm 36) (tm 38)) (P 39)::
.go (.move (tm 39)) (P 7)::
[])) .skip)))) (.run (.go (.bin .add 3 (tm 27) (.con (.int .i64 (.ofNat 1)))) (P 40)::
.go (.move (tm 40)) (P 27)::
[])))))))) (.seq (.run (.go (.move (tm 7)) (P 41)::
.go (.move (tm 41)) (P 2)::
.go (.move (.con (.int .i64 (.ofNat 0)))) (P 3)::
[])) .ret))))))
theorem de32 : @compF Try.prog (Gl.none Try.prog) Try.f32 1=.mk d32 (mkTT 42) [(P 0)] [.tmp (P 2),.tmp (P 3)]:=by kernel_rfl
theorem dg32 : Try.prog.funcs[32]?=some Try.f32:=Try.func32
theorem do32 : okF Try.prog Try.f32=true:=by kernel_rfl
def TL (H : Heap) (x : Value) (Ts : List Tb) : Prop:=∃ cs : List (List Value),Sw 4 H x cs∧cs.length=Ts.length∧∀ (k : Nat) (l : List Value) (T : Tb),cs[k]?=some l→Ts[k]?=some T→∃ c b r n,l=[c,b,r,n]∧TV H c b r n T
theorem TL.grow {A B : Heap} (g : Grow A B) {x : Value} {Ts : List Tb} (h : TL A x Ts) : TL B x Ts:=by
 obtain⟨cs,h1,h2,h3⟩:=h
 refine⟨cs,h1.grow g,h2,fun k l T hl hT=>?_⟩
 obtain⟨c,b,r,n,q1,q2⟩:=h3 k l T hl hT
 exact⟨c,b,r,n,q1,q2.grow g⟩
theorem TL.len {H : Heap} {x : Value} {Ts : List Tb} (h : TL H x Ts) : ylen 0 H x=some (I Ts.length):=by
 obtain⟨cs,h1,h2,_⟩:=h
 rw[← h2]
 exact h1.len
theorem TL.at {H : Heap} {x : Value} {Ts : List Tb} (h : TL H x Ts) {k : Nat} (hk : k<Ts.length) : ∃ p c b r n,yindexAddr none 4 x (I k)=some p∧(∀ X,Grow H X→yloadN 4 X p=some (.agg ⟨[c,b,r,n]⟩))∧TV H c b r n Ts[k]:=by
 obtain⟨cs,h1,h2,h3⟩:=h
 have e : cs[k]?=some (cs[k]'(by omega)):=by simp[h2,hk]
 obtain⟨c,b,r,n,q1,q2⟩:=h3 k _ Ts[k] e (by simp[hk])
 obtain⟨p,k1,k2⟩:=h1.get (w:=4) (by decide) e rfl (kd:=.i64)
 rw[q1] at k2
 exact⟨p,c,b,r,n,k1,k2,q2⟩
def bads (Ts : List Tb) : Nat→List Int
 | 0=>[]
 | k+1=>if ok (Ts.getD k ⟨[],[],[],[]⟩) u0 then bads Ts k else bads Ts k++[(k : Int)]
theorem bads_len (Ts : List Tb) : ∀ k,(bads Ts k).length≤k
 | 0=>Nat.le_refl _
 | k+1=>by
  have:=bads_len Ts k
  unfold bads
  split
  ·omega
  ·simp only[List.length_append,List.length_singleton];omega
theorem f32_ok {H : Heap} {x : Value} {Ts : List Tb} (h : TL H x Ts) (hl : Ts.length≤10) (hs : ∀ T∈Ts,sh T) : F Try.prog 32 ⟨[x]⟩ H (fun w X=>Grow H X∧((∃ k,∃ hk : k<Ts.length,flt Ts[k]≠0∧w=.tuple ⟨[.slice none 0 0,I (flt Ts[k])]⟩)∨((∀ T∈Ts,flt T=0)∧∃ s,w=.tuple ⟨[s,I 0]⟩∧Ow H X 3 s ((bads Ts Ts.length).map I)))):=by
 have hl0:=h.len
 refine F.entryL rfl dg32 do32 de32 rfl (by kernel_rfl) ?_
 simp only[sets]
 refine V.re [(0,x)] (N:=42) zE zY ?_
 intro t hF hA
 simp only[Kn,and_true] at hA
 refine zS ?_
 refine V.l0 ?_
 refine zS ?_
 have zf:=@hl0
 refine V.lz ?_
 refine zS ?_
 refine V.condP zP (fun hlt=>?_) (fun hlt=>?_)
 ·exact absurd hlt (by omega)
 refine zS ?_
 have zf:=@hl0
 refine V.lz ?_
 refine zS ?_
 refine V.loop (fun w t m X=>∃ (k : Nat),k≤Ts.length∧w=Ts.length-k∧m=[]∧Grow H X∧(∀ j (hj : j<Ts.length),j<k→flt Ts[j]=0)∧Full 42 t∧Kn [(0,x),(13,x),(14,I Ts.length),(15,I k)] t) Ts.length ?_ ?_
 ·exact⟨0,by omega,by omega,rfl,.refl _,fun j _ hj=>absurd hj (Nat.not_lt_zero _),zF,zK⟩
 clear hF hA
 rintro w t m X ⟨k,hk,rfl,rfl,hg,hz,hF,hA⟩
 simp only[Kn,and_true] at hA
 refine zS ?_
 refine V.l0 ?_
 refine zS ?_
 refine V.condP zP (fun hlt=>?_) (fun hlt=>?_)
 ·have hk' : k<Ts.length:=by omega
  obtain⟨p,c,b,r,n,p1,p2,p3⟩:=h.at hk'
  have p4:=p2 X hg
  have k1:=(sl1 p3.c.isS).1
  have k2:=(sl1 (rp.sl p3.b)).1
  have k3:=(sl1 (rp.sl p3.r)).1
  have k4:=(sl1 (rp.sl p3.n)).1
  refine zS ?_
  have zf:=And.intro @p1<|And.intro @p4<|And.intro @k1<|And.intro @k2<|And.intro @k3<|@k4
  refine V.lz ?_
  refine V.heap (fun Y=>Grow X Y∧Bx Y X.next [c,b,r,n] 38) ⟨?_,?_⟩ ?_
  ·exact zW
  ·exact zB
  rintro Y ⟨gy,y5⟩
  have gHY:=hg.trans gy
  refine zS ?_
  refine V.run ?_
  have zf:=y5.2
  refine VI.sz 1 ?_
  simp only[ds]
  refine VI.callA rfl (f21_ok (p3.grow gHY) (hs _ (List.getElem_mem hk'))) zA (fun Z gz=>?_)
  refine VI.l0 ?_
  refine zS ?_
  refine V.l0 ?_
  refine zS ?_
  refine V.condP zP (fun h0=>?_) (fun h0=>?_)
  ·refine zS ?_
   refine V.l0 ?_
   refine zS ?_
   refine V.ret (V.rets rfl (Or.inr ⟨by simp,V.rets rfl (Lv.retF (by simp +contextual (disch:=first|omega|simp only[nx];omega) only[D1,cells_alloc_at,cells_alloc_ne,cells_set_at,cells_set_ne,yres,yres1,yresL,qA,qB,qC,D5,hF,hA,↓reduceIte,qD,qE];rfl) ?_)⟩))
   refine⟨gHY.trans gz,.inl ⟨k,hk',h0,rfl⟩⟩
  ·refine zS ?_
   refine V.l0 ?_
   refine V.nil (Or.inl ⟨rfl,Ts.length-(k+1),by omega,?_⟩)
   refine⟨k+1,hk',rfl,rfl,gHY.trans gz,fun j hj hjk=>?_,zF,zK⟩
   by_cases hjk' : j=k
   ·subst hjk';omega
   ·exact hz j hj (by omega)
 ·obtain rfl : k=Ts.length:=by omega
  have hall : ∀ T∈Ts,flt T=0:=fun T hT=>by
   obtain⟨j,hj,rfl⟩:=List.mem_iff_getElem.1 hT
   exact hz j hj hj
  refine V.exit ?_
  refine zX ?_
  refine V.nil (Or.inr ⟨by simp,?_⟩)
  refine zX ?_
  clear hz
  have hl1:=(h.grow hg).len
  refine zS ?_
  refine V.l0 ?_
  refine zS ?_
  have zf:=@hl1
  refine V.lz ?_
  refine zS ?_
  refine V.loop (fun w t m Y=>∃ (k : Nat) (s : Value),k≤Ts.length∧w=Ts.length-k∧m=[]∧Grow H Y∧Ow H Y 3 s ((bads Ts k).map I)∧Full 42 t∧Kn [(7,s),(25,x),(26,I Ts.length),(27,I k)] t) Ts.length ?_ ?_
  ·exact⟨0,_,by omega,by omega,rfl,hg,.nil,zF,zK⟩
  clear hF hA
  rintro w t m Y ⟨k,s,hk,rfl,rfl,hg,ho,hF,hA⟩
  simp only[Kn,and_true] at hA
  refine zS ?_
  refine V.l0 ?_
  refine zS ?_
  refine V.condP zP (fun hlt=>?_) (fun hlt=>?_)
  ·have hk' : k<Ts.length:=by omega
   obtain⟨p,c,b,r,n,p1,p2,p3⟩:=h.at hk'
   have p4:=p2 Y hg
   have k1:=(sl1 p3.c.isS).1
   have k2:=(sl1 (rp.sl p3.b)).1
   have k3:=(sl1 (rp.sl p3.r)).1
   have k4:=(sl1 (rp.sl p3.n)).1
   refine zS ?_
   have zf:=And.intro @p1<|And.intro @p4<|And.intro @k1<|And.intro @k2<|And.intro @k3<|@k4
   refine V.lz ?_
   refine V.heap (fun Z=>Grow Y Z∧Bx Z Y.next [c,b,r,n] 38) ⟨?_,?_⟩ ?_
   ·exact zW
   ·exact zB
   rintro Z ⟨gz,z5⟩
   have gHZ:=hg.trans gz
   have h0:=hall _ (List.getElem_mem hk')
   obtain⟨hf,hv⟩:=flt_0.1 h0
   refine zS ?_
   refine V.run ?_
   have zf:=z5.2
   refine VI.sz 1 ?_
   simp only[ds]
   refine VI.callA rfl (f75_ok (p3.grow gHZ)) zA (fun Z2 gz2=>?_)
   refine VI.callA rfl (f76_ok (u:=u0) (p3.grow (gHZ.trans gz2)) hf hv) zA (fun Z3 gz3=>?_)
   have gY3:=(gz.trans gz2).trans gz3
   have gH3:=hg.trans gY3
   have ho3:=ho.keep gY3
   have hbl:=bads_len Ts k
   have hgd : Ts.getD k ⟨[],[],[],[]⟩=Ts[k]:=gd hk'
   refine VI.l0 ?_
   refine zS ?_
   refine V.condP zP (fun hb=>?_) (fun hb=>?_)
   ·obtain⟨w',X3,a1,a2,a3,a4,a5,a6,a7,a8⟩:=Ow.push (bytes:=8) (r:=[I k]) gH3 ho3 (by simp[ok1_int]) (by simp) (by simp only[List.length_map,List.length_cons,List.length_nil];omega) (by simp only[List.length_map,List.length_cons,List.length_nil];omega)
    simp only[List.length_singleton] at a1
    refine zS ?_
    have zf:=@a1
    refine V.lz ?_
    refine zS ?_
    refine V.l0 ?_
    refine V.nil (Or.inl ⟨rfl,Ts.length-(k+1),by omega,?_⟩)
    refine⟨k+1,w',hk',rfl,rfl,a3,?_,zF,zK⟩
    have : bads Ts (k+1)=bads Ts k++[(k : Int)]:=by
     show (if _ then _ else _)=_
     rw[hgd,if_neg hb]
    rw[this,List.map_append]
    exact a2
   ·have hb' : ok Ts[k] u0:=Decidable.not_not.1 hb
    refine zS ?_
    refine V.l0 ?_
    refine V.nil (Or.inl ⟨rfl,Ts.length-(k+1),by omega,?_⟩)
    refine⟨k+1,s,hk',rfl,rfl,gH3,?_,zF,zK⟩
    have : bads Ts (k+1)=bads Ts k:=by
     show (if _ then _ else _)=_
     rw[hgd,if_pos hb']
    rw[this]
    exact ho3
  ·obtain rfl : k=Ts.length:=by omega
   refine V.exit ?_
   refine zX ?_
   refine V.nil (Or.inr ⟨by simp,?_⟩)
   refine zX ?_
   refine zS ?_
   refine V.l0 ?_
   refine zS ?_
   refine V.ret (V.rets rfl (Lv.retF (by simp +contextual (disch:=first|omega|simp only[nx];omega) only[D1,cells_alloc_at,cells_alloc_ne,cells_set_at,cells_set_ne,yres,yres1,yresL,qA,qB,qC,D5,hF,hA,↓reduceIte,qD,qE];rfl) ?_))
   exact⟨hg,.inr ⟨hall,s,rfl,ho⟩⟩
end Go.Xe.TFX
/- What the functions of the layer flow come to: words, and numbers that are picked by them. Conditions: none. -/
-- MOD TF
namespace Go.Xe.TFX
open Go Go.Xe Go.Proofs
open Nat renaming reduceLeDiff → qA, reduceSub → qB, reduceAdd → qC, reduceEqDiff → qD, reduceLT → qE
open Int renaming reduceNegSucc → qF, reduceEq → qG
open Go.Xe.V renaming seq → sA, block → sB, scope → sC, skip → sD, close → sE
open Go.Xe renaming pth → P
open Go.Xe.Flw
set_option maxRecDepth 100000
set_option maxHeartbeats 3200000
set_option linter.unusedSimpArgs false
noncomputable def d92 : FCode:=(.seq (.run (.go (.move (.con (.int .i64 (.ofNat 0)))) (P 4)::
[])) (.seq (.seq (.run (.go (.move (tm 0)) (P 5)::
.go (.len 0 (tm 5)) (P 6)::
.go (.bin .eql 3 (tm 6) (.con (.int .i64 (.ofNat 0)))) (P 7)::
[])) (.cond (tm 7) (.seq (.run (.go (.move (.con (.int .i64 (.ofNat 0)))) (P 4)::
[])) .ret) .skip)) (.seq (.run (.go (.move (tm 0)) (P 8)::
.go (.move (tm 1)) (P 9)::
.go (.move (tm 0)) (P 10)::
.go (.len 0 (tm 10)) (P 11)::
.go (.bin .rem 3 (tm 9) (tm 11)) (P 12)::
.go (.indexAddr none 1 (tm 8) (tm 12)) (P 13)::
.go (.load1 (tm 13)) (P 14)::
.go (.conv .i64 (tm 14)) (P 15)::
.go (.move (tm 15)) (P 4)::
[])) .ret)))
theorem de92 : @compF Try.prog (Gl.none Try.prog) Try.f92 2=.mk d92 (mkTT 16) [(P 0),(P 1)] [.tmp (P 4)]:=by kernel_rfl
theorem dg92 : Try.prog.funcs[92]?=some Try.f92:=Try.func92
theorem do92 : okF Try.prog Try.f92=true:=by kernel_rfl
noncomputable def d91 : FCode:=(.seq (.run (.go (.box 62 (tm 0)) (P 2)::
.go (.move (.con (.int .i64 (.ofNat 0)))) (P 4)::
[])) (.seq (.seq (.run (.go (.move (tm 1)) (P 5)::
.go (.bin .rem 3 (tm 5) (.con (.int .i64 (.ofNat 4)))) (P 6)::
[])) (.block 0 (.seq (.run (.go (.bin .eql 3 (tm 6) (.con (.int .i64 (.ofNat 0)))) (P 8)::
.go (.move (tm 8)) (P 7)::
[])) (.cond (tm 7) (.seq (.run (.go (.fieldAddr 0 (tm 2)) (P 9)::
.go (.load1 (tm 9)) (P 10)::
.go (.move (tm 10)) (P 4)::
[])) .ret) (.seq (.run (.go (.bin .eql 3 (tm 6) (.con (.int .i64 (.ofNat 1)))) (P 12)::
.go (.move (tm 12)) (P 11)::
[])) (.cond (tm 11) (.seq (.run (.go (.fieldAddr 1 (tm 2)) (P 13)::
.go (.load1 (tm 13)) (P 14)::
.go (.move (tm 14)) (P 4)::
[])) .ret) .skip)))))) (.seq (.draw 13 (.go (.fieldAddr 0 (tm 2)) (P 15)::
.go (.load1 (tm 15)) (P 16)::
.go (.move (tm 1)) (P 17)::
.go (.bin .quo 3 (tm 17) (.con (.int .i64 (.ofNat 4)))) (P 18)::
.go (.fieldAddr 1 (tm 2)) (P 19)::
.go (.load1 (tm 19)) (P 20)::
.go (.fieldAddr 0 (tm 2)) (P 21)::
.go (.load1 (tm 21)) (P 22)::
.go (.bin .sub 3 (tm 20) (tm 22)) (P 23)::
.go (.bin .add 3 (tm 23) (.con (.int .i64 (.ofNat 1)))) (P 24)::
.go (.bin .rem 3 (tm 18) (tm 24)) (P 25)::
.go (.bin .add 3 (tm 16) (tm 25)) (P 26)::
.go (.move (tm 26)) (P 4)::
[]) [.ok,.ok,.ok,.ok,.ok,.ok,.ok,.ok,.ok,.ok,.ok,.ok,.ok]) .ret)))
theorem de91 : @compF Try.prog (Gl.none Try.prog) Try.f91 2=.mk d91 (mkTT 27) [(P 0),(P 1)] [.tmp (P 4)]:=by kernel_rfl
theorem dg91 : Try.prog.funcs[91]?=some Try.f91:=Try.func91
theorem do91 : okF Try.prog Try.f91=true:=by kernel_rfl
structure WS (H : Heap) (x : Value) (ws : List Int) : Prop where
 sl : Sl H x (ws.map fun v=>.int .u16 v)
 bd : ∀ v∈ws,0≤v∧v<65536
theorem WS.grow {A B : Heap} (g : Grow A B) {x : Value} {ws : List Int} (h : WS A x ws) : WS B x ws:=⟨h.sl.grow g,h.bd⟩
def wd (ws : List Int) (k : Nat) : Int:=ws.getD (k%ws.length) 0
theorem wd_bd {ws : List Int} (h : ∀ v∈ws,0≤v∧v<65536) (k : Nat) : 0≤wd ws k∧wd ws k<65536:=by
 unfold wd
 by_cases hk : k%ws.length<ws.length
 ·rw[gd hk]
  exact h _ (List.getElem_mem hk)
 ·rw[List.getD_eq_getElem?_getD,List.getElem?_eq_none (by omega)]
  simp
theorem f92_ok {H : Heap} {x : Value} {ws : List Int} (h : WS H x ws) {a : Int} {k : Nat} (ha : a=(k : Int)) : Gives Try.prog 92 [x,I a] H (I (wd ws k)):=by
 subst ha
 have hl:=h.sl.len
 rw[List.length_map] at hl
 refine F.entryL rfl dg92 do92 de92 rfl (by kernel_rfl) ?_
 simp only[sets]
 refine V.re [(0,x),(1,I k)] (N:=16) zE zY ?_
 intro t hF hA
 simp only[Kn,and_true] at hA
 refine zS ?_
 refine V.l0 ?_
 refine zS ?_
 have zf:=@hl
 refine V.lz ?_
 refine zS ?_
 refine V.condP zP (fun h0=>?_) (fun h0=>?_)
 ·refine zS ?_
  refine V.l0 ?_
  refine zS ?_
  refine V.ret (V.rets rfl (Lv.retG (by simp +contextual (disch:=first|omega|simp only[nx];omega) only[D1,cells_alloc_at,cells_alloc_ne,cells_set_at,cells_set_ne,yres,yres1,yresL,qA,qB,qC,D5,hF,hA,↓reduceIte,qD,qE];rfl) ?_ ?_))
  ·exact zW
  ·have e : ws=[]:=List.length_eq_zero_iff.1 (by omega)
   subst e
   rfl
 ·have hlt : k%ws.length<ws.length:=Nat.mod_lt _ (by omega)
  have he : ((k : Int)).tmod (ws.length : Int)=((k%ws.length : Nat) : Int):=by
   rw[Int.tmod_eq_emod_of_nonneg (by omega)];rfl
  have hne : ¬ (ws.length : Int)=0:=h0
  obtain⟨p,p1,p2⟩:=h.sl.get (n:=((k%ws.length : Nat) : Int)) (k:=k%ws.length) (x:=.int .u16 ws[k%ws.length]) (kd:=.i64) (by rw[List.getElem?_map,List.getElem?_eq_getElem hlt];rfl) rfl
  have p3:=p2 H (.refl _)
  have hb:=h.bd _ (List.getElem_mem hlt)
  have hw : IntKind.i64.wrap ws[k%ws.length]=ws[k%ws.length]:=wrap_i64 (by omega) (by omega)
  refine zS ?_
  have zf:=And.intro @hl<|And.intro @hne<|And.intro @he<|And.intro @p1<|And.intro @p3<|@hw
  refine V.lz ?_
  refine zS ?_
  refine V.ret (V.rets rfl (Lv.retG (by simp +contextual (disch:=first|omega|simp only[nx];omega) only[D1,cells_alloc_at,cells_alloc_ne,cells_set_at,cells_set_ne,yres,yres1,yresL,qA,qB,qC,D5,hF,hA,↓reduceIte,qD,qE];rfl) ?_ ?_))
  ·exact zW
  ·unfold wd
   rw[gd hlt]
def pk (r : R2) (w : Int) : Int:=if w%4=0 then r.1 else if w%4=1 then r.2 else r.1+w/4%(r.2-r.1+1)
theorem pk_in {r : R2} {w : Int} (h : r.1≤r.2) : r.1≤pk r w∧pk r w≤r.2:=by
 unfold pk
 split
 ·omega
 ·split
  ·omega
  ·have h1:=Int.emod_nonneg (w/4) (show r.2-r.1+1≠0 by omega)
   have h2:=Int.emod_lt_of_pos (w/4) (show 0<r.2-r.1+1 by omega)
   omega
theorem f91_ok {r : R2} {w : Int} (hr : r.1≤r.2) (h1 : -1000000000≤r.1) (h2 : r.2≤1000000000) (hw : 0≤w∧w<65536) (H : Heap) : Gives Try.prog 91 [.agg ⟨r2 r⟩,I w] H (I (pk r w)):=by
 have hp:=pk_in (w:=w) hr
 obtain⟨a,b⟩:=r
 simp only at hr h1 h2 hp
 have e1 : w.tmod 4=w%4:=Int.tmod_eq_emod_of_nonneg hw.1
 have e2 : w.tdiv 4=w/4:=Int.tdiv_eq_ediv_of_nonneg hw.1
 have e3 : IntKind.i64.wrap (w/4)=w/4:=wrap_i64 (by omega) (by omega)
 have e4 : IntKind.i64.wrap (b-a)=b-a:=wrap_i64 (by omega) (by omega)
 have e5 : IntKind.i64.wrap (b-a+1)=b-a+1:=wrap_i64 (by omega) (by omega)
 have e6 : (w/4).tmod (b-a+1)=w/4%(b-a+1):=Int.tmod_eq_emod_of_nonneg (by omega)
 have e7 : ¬ b-a+1=0:=by omega
 have e8:=Int.emod_nonneg (w/4) (show b-a+1≠0 by omega)
 have e9:=Int.emod_lt_of_pos (w/4) (show 0<b-a+1 by omega)
 have e10 : IntKind.i64.wrap (a+w/4%(b-a+1))=a+w/4%(b-a+1):=wrap_i64 (by omega) (by omega)
 refine F.entryL rfl dg91 do91 de91 rfl (by kernel_rfl) ?_
 simp only[sets]
 refine V.re [(0,.agg ⟨A2 a b⟩),(1,I w)] (N:=27) zE zY ?_
 intro t hF hA
 simp only[Kn,and_true] at hA
 refine zS ?_
 refine V.l0 ?_
 refine V.heap (fun X=>Grow H X∧Bx X H.next (A2 a b) 62) ⟨?_,?_⟩ ?_
 ·exact zW
 ·exact zB
 rintro H1 ⟨g1,b1⟩
 refine zS ?_
 have zf:=@e1
 refine V.lz ?_
 refine zS ?_
 refine V.l0 ?_
 refine zS ?_
 refine V.condP zP (fun hq=>?_) (fun hq=>?_)
 ·refine zS ?_
  have zf:=b1.2
  refine V.lz ?_
  refine zS ?_
  refine V.ret (V.rets rfl (Lv.retG (by simp +contextual (disch:=first|omega|simp only[nx];omega) only[D1,cells_alloc_at,cells_alloc_ne,cells_set_at,cells_set_ne,yres,yres1,yresL,qA,qB,qC,D5,hF,hA,↓reduceIte,qD,qE];rfl) ?_ ?_))
  ·exact g1
  ·unfold pk;rw[if_pos hq]
 ·refine zS ?_
  refine V.l0 ?_
  refine zS ?_
  refine V.condP zP (fun hq2=>?_) (fun hq2=>?_)
  ·refine zS ?_
   have zf:=b1.2
   refine V.lz ?_
   refine zS ?_
   refine V.ret (V.rets rfl (Lv.retG (by simp +contextual (disch:=first|omega|simp only[nx];omega) only[D1,cells_alloc_at,cells_alloc_ne,cells_set_at,cells_set_ne,yres,yres1,yresL,qA,qB,qC,D5,hF,hA,↓reduceIte,qD,qE];rfl) ?_ ?_))
   ·exact g1
   ·unfold pk;rw[if_neg hq,if_pos hq2]
  ·refine zS ?_
   have zf:=And.intro b1.2<|And.intro @e2<|And.intro @e3<|And.intro @e4<|And.intro @e5<|And.intro @e6<|And.intro @e7<|@e10
   refine V.dz ?_ ?_ rfl ?_
   ·exact zM
   ·simp only[dcAll,dcOk,wantD,List.cons_append,List.nil_append,true_and,and_true]
   refine zS ?_
   refine V.ret (V.rets rfl (Lv.retG (by simp +contextual (disch:=first|omega|simp only[nx];omega) only[D1,cells_alloc_at,cells_alloc_ne,cells_set_at,cells_set_ne,yres,yres1,yresL,qA,qB,qC,D5,hF,hA,↓reduceIte,qD,qE];rfl) ?_ ?_))
   ·exact g1
   ·unfold pk;rw[if_neg hq,if_neg hq2]
end Go.Xe.TFX
/- What the functions of the layer flow come to: whether a truth is one, as the statements have it. Conditions: none. -/
-- MOD TF
namespace Go.Xe.TFX
open Go Go.Xe Go.Proofs
open Nat renaming reduceLeDiff → qA, reduceSub → qB, reduceAdd → qC, reduceEqDiff → qD, reduceLT → qE
open Int renaming reduceNegSucc → qF, reduceEq → qG
open Go.Xe.V renaming seq → sA, block → sB, scope → sC, skip → sD, close → sE
open Go.Xe renaming pth → P
open Go.Xe.Flw
set_option maxRecDepth 100000
set_option maxHeartbeats 6400000
set_option linter.unusedSimpArgs false
def one (T : Tb) (X : Tr) (k : Nat) : Prop:=((T.B.getD k (0,0)).1≤X.B.getD k 0∧X.B.getD k 0≤(T.B.getD k (0,0)).2)∧(X.D.getD k []).length=grp T+1∧alI T.N (X.M.getD k [])
end Go.Xe.TFX
