/- BorderBounds: the bounds are those of the reference. Conditions: none. -/
import Derived.Test.YtgcdbdcnlhonfaaTCT
import Derived.Test.YtgcdbdcnlhonfaaZm
import Derived.WideShapes
import Derived.ChangeSame
import Derived.Below
-- MOD TB
namespace Go.Xe.TBX
open Go Go.Xe Go.Proofs
open Nat renaming reduceLeDiff → qA, reduceSub → qB, reduceAdd → qC, reduceEqDiff → qD, reduceLT → qE
open Int renaming reduceNegSucc → qF, reduceEq → qG
open Go.Xe.V renaming seq → sA, block → sB, scope → sC, skip → sD, close → sE
open Go.Xe renaming pth → P
open Go.Xe.Rnd
open Go.Xe.Sea (adl adl_1 adl_at mem_adl pix pix_at pix_adl adl_len)
set_option maxRecDepth 100000
set_option maxHeartbeats 3200000
set_option linter.unusedSimpArgs false
noncomputable def d4 : FCode:=(.seq (.run (.go (.box 26 (tm 0)) (P 2)::
.go (.move (.con (.bool false))) (P 4)::
[])) (.seq (.seq (.run (.go (.loadN 4 (tm 2)) (P 15)::
.go (.call (.con (.func (.func 16) ⟨[]⟩ ⟨[]⟩)) [tm 15]) (P 16)::
.go (.un .not (tm 16)) (P 17)::
.go (.move (tm 17)) (P 18)::
.gd (P 18) false (.move (tm 1)) (P 19)::
.gd (P 18) false (.len 0 (tm 19)) (P 20)::
.gd (P 18) false (.bin .gtr 3 (tm 20) (.con (.int .i64 (.ofNat 12)))) (P 21)::
.go (.pick (tm 18) (.con (.bool true)) (tm 21)) (P 22)::
[])) (.cond (tm 22) (.seq (.run (.go (.call (.con (.func (.func 17) ⟨[]⟩ ⟨[]⟩)) []) (P 23)::
.go (.move (tm 23)) (P 4)::
[])) .ret) .skip)) (.seq (.run (.go (.loadN 4 (tm 2)) (P 25)::
.go (.call (.con (.func (.func 19) ⟨[]⟩ ⟨[]⟩)) [tm 25]) (P 26)::
.go (.call (.con (.func (.func 26) ⟨[]⟩ ⟨[]⟩)) [tm 26]) (P 27)::
.go (.move (tm 27)) (P 24)::
.go (.extract (tm 24) 0) (P 28)::
.go (.extract (tm 24) 1) (P 29)::
.go (.move (tm 28)) (P 5)::
.go (.move (tm 29)) (P 6)::
[])) (.seq (.run (.go (.loadN 4 (tm 2)) (P 31)::
.go (.call (.con (.func (.func 19) ⟨[]⟩ ⟨[]⟩)) [tm 31]) (P 32)::
.go (.call (.con (.func (.func 27) ⟨[]⟩ ⟨[]⟩)) [tm 32]) (P 33)::
.go (.move (tm 33)) (P 30)::
.go (.extract (tm 30) 0) (P 34)::
.go (.extract (tm 30) 1) (P 35)::
.go (.move (tm 34)) (P 7)::
.go (.move (tm 35)) (P 8)::
[])) (.seq (.run (.go (.loadN 4 (tm 2)) (P 36)::
.go (.call (.con (.func (.func 19) ⟨[]⟩ ⟨[]⟩)) [tm 36]) (P 37)::
.go (.move (tm 1)) (P 38)::
.go (.call (.con (.func (.func 29) ⟨[]⟩ ⟨[]⟩)) [tm 38]) (P 39)::
.go (.call (.con (.func (.func 28) ⟨[]⟩ ⟨[]⟩)) [(tm 37),(tm 39)]) (P 40)::
.go (.move (tm 40)) (P 9)::
[])) (.seq (.seq (.run (.go (.move (tm 9)) (P 41)::
.go (.loadN 4 (tm 2)) (P 42)::
.go (.call (.con (.func (.func 21) ⟨[]⟩ ⟨[]⟩)) [tm 42]) (P 43)::
.go (.bin .eql 29 (tm 43) (.con (.int .i64 (.ofNat 0)))) (P 44)::
.go (.move (tm 44)) (P 45)::
.gd (P 45) true (.loadN 4 (tm 2)) (P 46)::
.gd (P 45) true (.move (tm 1)) (P 47)::
.gd (P 45) true (.call (.con (.func (.func 30) ⟨[]⟩ ⟨[]⟩)) [(tm 46),(tm 47)]) (P 48)::
.go (.pick (tm 45) (tm 48) (.con (.bool false))) (P 49)::
.go (.bin .neq 4 (tm 41) (tm 49)) (P 50)::
[])) (.cond (tm 50) (.seq (.run (.go (.move (.con (.bool false))) (P 4)::
[])) .ret) .skip)) (.seq (.seq (.run (.go (.loadN 4 (tm 2)) (P 51)::
.go (.call (.con (.func (.func 31) ⟨[]⟩ ⟨[]⟩)) [tm 51]) (P 52)::
.go (.move (tm 52)) (P 10)::
[])) (.seq (.run (.go (.move (tm 10)) (P 53)::
.go (.bin .neq 29 (tm 53) (.con (.int .i64 (.ofNat 0)))) (P 54)::
[])) (.cond (tm 54) (.seq (.run (.go (.move (tm 6)) (P 55)::
.go (.move (tm 10)) (P 56)::
.go (.bin .eql 29 (tm 55) (tm 56)) (P 57)::
.go (.move (tm 57)) (P 58)::
.gd (P 58) true (.move (tm 8)) (P 59)::
.gd (P 58) true (.move (tm 10)) (P 60)::
.gd (P 58) true (.bin .eql 29 (tm 59) (tm 60)) (P 61)::
.go (.pick (tm 58) (tm 61) (.con (.bool false))) (P 62)::
.go (.move (tm 62)) (P 63)::
.gd (P 63) true (.move (tm 5)) (P 64)::
.gd (P 63) true (.len 0 (tm 64)) (P 65)::
.gd (P 63) true (.move (tm 7)) (P 66)::
.gd (P 63) true (.len 0 (tm 66)) (P 67)::
.gd (P 63) true (.bin .add 3 (tm 65) (tm 67)) (P 68)::
.gd (P 63) true (.bin .eql 3 (tm 68) (.con (.int .i64 (.ofNat 0)))) (P 69)::
.go (.pick (tm 63) (tm 69) (.con (.bool false))) (P 70)::
.go (.move (tm 70)) (P 71)::
.gd (P 71) true (.call (.con (.func (.func 17) ⟨[]⟩ ⟨[]⟩)) []) (P 72)::
.go (.pick (tm 71) (tm 72) (.con (.bool false))) (P 73)::
.go (.move (tm 73)) (P 4)::
[])) .ret) .skip))) (.seq (.run (.go (.move (.con (.slice none 0 0))) (P 11)::
.go (.move (.con (.slice none 0 0))) (P 12)::
[])) (.seq (.seq (.run (.go (.move (.con (.int .i64 (.ofNat 0)))) (P 13)::
[])) (.block 0 (.loop (.seq (.seq (.run (.go (.move (tm 13)) (P 74)::
.go (.fieldAddr 2 (tm 2)) (P 75)::
.go (.load1 (tm 75)) (P 76)::
.go (.len 0 (tm 76)) (P 77)::
.go (.bin .lss 3 (tm 74) (tm 77)) (P 78)::
[])) (.cond (tm 78) .skip (.exit 0))) (.seq (.block 1 (.draw 15 (.go (.move (tm 11)) (P 81)::
.go (.loadN 4 (tm 2)) (P 82)::
.go (.loadN 4 (tm 2)) (P 83)::
.go (.move (tm 13)) (P 84)::
.go (.call (.con (.func (.func 33) ⟨[]⟩ ⟨[]⟩)) [(tm 83),(tm 84)]) (P 85)::
.go (.fieldAddr 2 (tm 2)) (P 86)::
.go (.load1 (tm 86)) (P 87)::
.go (.move (tm 13)) (P 88)::
.go (.indexAddr none 5 (tm 87) (tm 88)) (P 89)::
.go (.fieldAddr 0 (tm 89)) (P 90)::
.go (.load1 (tm 90)) (P 91)::
.go (.call (.con (.func (.func 32) ⟨[]⟩ ⟨[]⟩)) [(tm 82),(tm 85),(tm 91),(.con (.int .i64 (.ofNat 1)))]) (P 92)::
.go (.buildSlice 50 1 [(.int .i64 (.ofNat 0)),(.int .i64 (.ofNat 0))] [(0,2,(tm 92))]) (P 93)::
.go (.append 50 2 16 (tm 81) (tm 93)) (P 94)::
.go (.move (tm 94)) (P 11)::
[]) [.ok,.rd none (.loadN 4 (tm 2)) (some (P 82)) [5],.ok,.ok,.ok,.ok,.rd none (.load1 (tm 86)) (some (P 87)) [0],.ok,.ok,.ok,.rd none (.load1 (tm 90)) (some (P 91)) [0],.ok,.ok,.ok,.ok])) (.run (.go (.move (tm 13)) (P 79)::
.go (.bin .add 3 (tm 79) (.con (.int .i64 (.ofNat 1)))) (P 80)::
.go (.move (tm 80)) (P 13)::
[]))))))) (.seq (.seq (.run (.go (.move (.con (.int .i64 (.ofNat 0)))) (P 14)::
[])) (.block 2 (.loop (.seq (.seq (.run (.go (.move (tm 14)) (P 95)::
.go (.fieldAddr 1 (tm 2)) (P 96)::
.go (.load1 (tm 96)) (P 97)::
.go (.bin .lss 3 (tm 95) (tm 97)) (P 98)::
[])) (.cond (tm 98) .skip (.exit 2))) (.seq (.block 3 (.draw 9 (.go (.move (tm 12)) (P 101)::
.go (.loadN 4 (tm 2)) (P 102)::
.go (.loadN 4 (tm 2)) (P 103)::
.go (.call (.con (.func (.func 25) ⟨[]⟩ ⟨[]⟩)) [tm 103]) (P 104)::
.go (.move (tm 14)) (P 105)::
.go (.call (.con (.func (.func 34) ⟨[]⟩ ⟨[]⟩)) [(tm 102),(tm 104),(tm 105)]) (P 106)::
.go (.buildSlice 50 1 [(.int .i64 (.ofNat 0)),(.int .i64 (.ofNat 0))] [(0,2,(tm 106))]) (P 107)::
.go (.append 50 2 16 (tm 101) (tm 107)) (P 108)::
.go (.move (tm 108)) (P 12)::
[]) [.ok,.rd none (.loadN 4 (tm 2)) (some (P 102)) [4],.ok,.ok,.ok,.ok,.ok,.ok,.ok])) (.run (.go (.move (tm 14)) (P 99)::
.go (.bin .add 3 (tm 99) (.con (.int .i64 (.ofNat 1)))) (P 100)::
.go (.move (tm 100)) (P 14)::
[]))))))) (.seq (.run (.go (.move (tm 6)) (P 109)::
.go (.bin .eql 29 (tm 109) (.con (.int .i64 (.ofNat 0)))) (P 110)::
.go (.move (tm 110)) (P 111)::
.gd (P 111) true (.move (tm 5)) (P 112)::
.gd (P 111) true (.move (tm 11)) (P 113)::
.gd (P 111) true (.call (.con (.func (.func 35) ⟨[]⟩ ⟨[]⟩)) [(tm 112),(tm 113)]) (P 114)::
.go (.pick (tm 111) (tm 114) (.con (.bool false))) (P 115)::
.go (.move (tm 115)) (P 116)::
.gd (P 116) true (.move (tm 8)) (P 117)::
.gd (P 116) true (.bin .eql 29 (tm 117) (.con (.int .i64 (.ofNat 0)))) (P 118)::
.go (.pick (tm 116) (tm 118) (.con (.bool false))) (P 119)::
.go (.move (tm 119)) (P 120)::
.gd (P 120) true (.move (tm 7)) (P 121)::
.gd (P 120) true (.move (tm 12)) (P 122)::
.gd (P 120) true (.call (.con (.func (.func 35) ⟨[]⟩ ⟨[]⟩)) [(tm 121),(tm 122)]) (P 123)::
.go (.pick (tm 120) (tm 123) (.con (.bool false))) (P 124)::
.go (.move (tm 124)) (P 125)::
.gd (P 125) true (.call (.con (.func (.func 17) ⟨[]⟩ ⟨[]⟩)) []) (P 126)::
.go (.pick (tm 125) (tm 126) (.con (.bool false))) (P 127)::
.go (.move (tm 127)) (P 4)::
[])) .ret)))))))))))
theorem de4 : @compF Try.prog (Gl.none Try.prog) Try.f4 2=.mk d4 (mkTT 128) [(P 0),(P 1)] [.tmp (P 4)]:=by kernel_rfl
theorem dg4 : Try.prog.funcs[4]?=some Try.f4:=Try.func4
theorem do4 : okF Try.prog Try.f4=true:=by kernel_rfl
theorem neqb4 {x y : Bool} (h : x=y) : xbinOp Try.prog .neq 4 (.bool x) (.bool y)=some (.bool false):=by subst h;cases x<;>kernel_rfl
theorem f26_u {H : Heap} {o s j : Value} {M : BM} (h : MV H o s j M) : F Try.prog 26 ⟨[.agg ⟨mc o s j M.N⟩]⟩ H (fun w X=>Grow H X∧∃ p n c,w=.tuple ⟨[.slice p n c,I (bE M)]⟩∧(bE M≠0→p=none∧n=0∧c=0)∧(bE M=0→RS X (.slice p n c) (ows M M.S.length))):=
 (f26_ok h).mono fun w X ⟨g,q⟩=>⟨g,by
  rcases q with⟨q,e⟩|⟨q,y,e,r⟩
  ·exact⟨none,0,0,e,fun _=>⟨rfl,rfl,rfl⟩,fun k=>absurd k q⟩
  ·obtain⟨p,n,c,rfl⟩:=r.isS
   exact⟨p,n,c,by rw[q];exact e,fun k=>absurd q k,fun _=>r⟩⟩
theorem f27_u {H : Heap} {o s j : Value} {M : BM} (h : MV H o s j M) : F Try.prog 27 ⟨[.agg ⟨mc o s j M.N⟩]⟩ H (fun w X=>Grow H X∧∃ p n c,w=.tuple ⟨[.slice p n c,I (bE M)]⟩∧(bE M≠0→p=none∧n=0∧c=0)∧(bE M=0→RS X (.slice p n c) (nws M M.N.toNat))):=
 (f27_ok h).mono fun w X ⟨g,q⟩=>⟨g,by
  rcases q with⟨q,e⟩|⟨q,y,e,r⟩
  ·exact⟨none,0,0,e,fun _=>⟨rfl,rfl,rfl⟩,fun k=>absurd k q⟩
  ·obtain⟨p,n,c,rfl⟩:=r.isS
   exact⟨p,n,c,by rw[q];exact e,fun k=>absurd q k,fun _=>r⟩⟩
theorem ows_bd {M : BM} (G : VM M) : ∀ r∈ows M M.S.length,(-1000000≤r.1∧r.1≤1000000)∧-1000000≤r.2∧r.2≤1000000:=by
 intro r hr
 obtain⟨i,hi,rfl⟩:=List.mem_map.1 hr
 have ho:=G.old (List.mem_range.1 hi)
 have:=rg_bd G (d:=(oldF M i).toNat) (P:=fun k=>(k : Int)=(i : Nat)) (by omega)
 dsimp only
 omega
theorem nws_bd {M : BM} (G : VM M) {n : Nat} : ∀ r∈nws M n,(-1000000≤r.1∧r.1≤1000000)∧-1000000≤r.2∧r.2≤1000000:=by
 intro r hr
 obtain⟨q,hq,rfl⟩:=List.mem_map.1 hr
 have:=nk_bd G (q:=q) M.O.length (Nat.le_refl _)
 have e1 : nkL M q M.O.length=nwL M q:=rfl
 have e2 : nkH M q M.O.length=nwH M q:=rfl
 have:=G.o4
 dsimp only
 omega
theorem f4_all {H : Heap} {o s j x : Value} {M : BM} {l : List Int} (h : MV H o s j M) (hx0 : Sl H x (l.map I)) : F Try.prog 4 ⟨[.agg ⟨mc o s j M.N⟩,x]⟩ H (fun w _=>w=.bool true):=by
 have hx : LS H x l:=⟨hx0⟩
 have hl:=h.s.len
 have hlx:=hx.len
 obtain⟨po,no,co,rfl⟩:=h.o.s.isS
 obtain⟨ps,ns,cs,rfl⟩:=h.s.isS
 obtain⟨pj,nj,cj,rfl⟩:=h.j.isS
 obtain⟨px,nx',cx,rfl⟩:=hx.s.isS
 refine F.entryL rfl dg4 do4 de4 rfl (by kernel_rfl) ?_
 simp only[sets]
 refine V.re [(0,.agg ⟨mc (.slice po no co) (.slice ps ns cs) (.slice pj nj cj) M.N⟩),(1,.slice px nx' cx)] (N:=128) zE zY ?_
 intro t hF hA
 simp only[Kn,and_true] at hA
 refine zS ?_
 refine V.l0 ?_
 refine V.heap (fun X=>Grow H X∧Bx X H.next (mc (.slice po no co) (.slice ps ns cs) (.slice pj nj cj) M.N) 26) ⟨?_,?_⟩ ?_
 ·exact zW
 ·exact zB
 rintro H1 ⟨g1,b1⟩
 refine zS ?_
 refine V.run ?_
 have zf:=b1.2
 refine VI.sz 1 ?_
 simp only[ds]
 refine VI.callA rfl (f16_ok (h.grow g1)) zA (fun H2 g2=>?_)
 have b2:=b1.grow g2
 have g12:=g1.trans g2
 have zf:=@hlx
 refine VI.lz ?_
 refine zS ?_
 refine V.condP zP (fun hno=>?_) (fun hno=>?_)
 ·refine zS ?_
  refine V.run ?_
  refine VI.callA rfl (f17_ok _) zA (fun H3 g3=>?_)
  refine VI.l0 ?_
  refine zS ?_
  refine V.ret (V.rets rfl (Lv.retF (by simp +contextual (disch:=first|omega|simp only[nx];omega) only[D1,cells_alloc_at,cells_alloc_ne,cells_set_at,cells_set_ne,yres,yres1,yresL,qA,qB,qC,D5,hF,hA,↓reduceIte,qD,qE];rfl) ?_))
  rfl
 have hth : thin M:=by
  apply Decidable.by_contra
  intro hh
  exact hno (.inl hh)
 have hl12 : (l.length : Int)≤12:=by
  apply Decidable.by_contra
  intro hh
  exact hno (.inr (by omega))
 clear hno
 obtain⟨e,he⟩ : ∃ e,e=bE M:=⟨_,rfl⟩
 refine zS ?_
 refine V.run ?_
 have zf:=b2.2
 refine VI.sz 1 ?_
 simp only[ds]
 refine VI.callR zA (f19_ok (h.grow g12) hth) zA (fun w3 H3 ⟨g3,o3,s3,j3,hw3,m3⟩=>?_)
 subst hw3
 refine VI.callR zA (f26_u m3) zA (fun w4 H4 ⟨g4,p4,n4,c4,hw4,q4a,q4b⟩=>?_)
 subst hw4
 have b4:=b2.grow (g3.trans g4)
 have g14:=g12.trans (g3.trans g4)
 rw[← he] at q4a q4b ⊢
 refine VI.l0 ?_
 refine zS ?_
 refine V.run ?_
 have zf:=b4.2
 refine VI.sz 1 ?_
 simp only[ds]
 refine VI.callR zA (f19_ok (h.grow g14) hth) zA (fun w5 H5 ⟨g5,o5,s5',j5,hw5,m5⟩=>?_)
 subst hw5
 refine VI.callR zA (f27_u m5) zA (fun w6 H6 ⟨g6,p6,n6,c6,hw6,q6a,q6b⟩=>?_)
 subst hw6
 have b6:=b4.grow (g5.trans g6)
 have g16:=g14.trans (g5.trans g6)
 rw[← he] at q6a q6b ⊢
 have q4b:=fun k=>((q4b k).grow g5).grow g6
 refine VI.l0 ?_
 refine zS ?_
 refine V.run ?_
 have zf:=b6.2
 refine VI.sz 1 ?_
 simp only[ds]
 refine VI.callR zA (f19_ok (h.grow g16) hth) zA (fun w7 H7 ⟨g7,o7,s7,j7,hw7,m7⟩=>?_)
 subst hw7
 refine VI.s0 1 ?_
 simp only[ds]
 refine VI.callR zA (f29_ok (hx.grow (g16.trans g7)) (by omega)) zA (fun w8 H8 ⟨g8,x8⟩=>?_)
 have k8:=x8.s.isS
 obtain⟨p8,n8',c8,rfl⟩:=k8
 obtain⟨D,hD⟩ : ∃ D,D=decide ((fltM M=0∧(l.length : Int)=(M.S.length : Int))∧gvn M l):=⟨_,rfl⟩
 have f28':=f28_ok (m7.grow g8) x8
 rw[← hD] at f28'
 refine VI.callA rfl (f28') zA (fun H9 g9=>?_)
 have g79:=(g7.trans g8).trans g9
 have b9:=b6.grow g79
 have g19:=g16.trans g79
 have q4b:=fun k=>(q4b k).grow g79
 have q6b:=fun k=>(q6b k).grow g79
 refine VI.l0 ?_
 have f21':=f21_ok (h.grow g19)
 obtain⟨f,hf⟩ : ∃ f,f=fltM M:=⟨_,rfl⟩
 rw[← hf] at f21' hD
 refine zS ?_
 refine V.join (fun t mm X=>mm=[]∧Grow H9 X∧Full 128 t∧Kn [(1,.slice px nx' cx),(2,PT H.next),(5,.slice p4 n4 c4),(6,I e),(7,.slice p6 n6 c6),(8,I e),(50,.bool false)] t) ?_ ?_
 ·refine V.run ?_
  have zf:=b9.2
  refine VI.sz 2 ?_
  simp only[ds]
  refine VI.callA rfl (f21') zA (fun Ha ga=>?_)
  have ba:=b9.grow ga
  by_cases hf0 : f=0
  ·have hflt : fltM M=0:=by rw[← hf];exact hf0
   obtain⟨hf1,hf2⟩:=fltM_0.1 hflt
   have G:=VM.of hf1 hf2
   subst hf0
   have h00 : ((0 : Int)=0)=True:=eq_self _
   have f30':=f30_ok (h.grow (g19.trans ga)) G (hx.grow (g19.trans ga))
   have hDD : D=decide ((l.length : Int)=(M.S.length : Int)∧gvn M l):=by
    rw[hD,decide_eq_decide]
    exact⟨fun k=>⟨k.1.2,k.2⟩,fun k=>⟨⟨rfl,k.1⟩,k.2⟩⟩
   rw[← hDD] at f30'
   have hnq:=neqb4 (x:=D) (y:=D) rfl
   have zf:=And.intro @h00<|ba.2
   refine VI.sz 4 ?_
   simp only[ds]
   refine VI.callAT zG rfl (f30') zA (fun Hb gb=>?_)
   have zf:=@hnq
   refine VI.lz ?_
   refine zS ?_
   refine V.nil (Or.inl ⟨rfl,rfl,ga.trans gb,zF,zK⟩)
  ·have hff : (f=0)=False:=eq_false hf0
   have hDD : D=false:=by rw[hD];exact decide_eq_false (fun k=>hf0 k.1.1)
   subst hDD
   have hnq:=neqb4 (x:=false) (y:=false) rfl
   have zf:=And.intro @hff<|ba.2
   refine VI.sz 4 ?_
   simp only[ds]
   refine VI.gdF zG ?_
   have zf:=@hnq
   refine VI.lz ?_
   refine zS ?_
   refine V.nil (Or.inl ⟨rfl,rfl,ga,zF,zK⟩)
 clear hF hA
 rintro t mm X ⟨rfl,gX,hF,hA⟩
 simp only[Kn,and_true] at hA
 have bX:=b9.grow gX
 have gHX:=g19.trans gX
 have q4b:=fun k=>(q4b k).grow gX
 have q6b:=fun k=>(q6b k).grow gX
 refine zS ?_
 refine V.condF zA ?_
 have f31':=f31_ok (h.grow gHX)
 rw[← he] at f31'
 refine zS ?_
 refine V.run ?_
 have zf:=bX.2
 refine VI.sz 1 ?_
 simp only[ds]
 refine VI.callA rfl (f31') zA (fun Hc gc=>?_)
 have bc:=bX.grow gc
 have gHc:=gHX.trans gc
 have q4b:=fun k=>(q4b k).grow gc
 have q6b:=fun k=>(q6b k).grow gc
 refine VI.l0 ?_
 refine zS ?_
 refine V.l0 ?_
 refine zS ?_
 refine V.condP zP (fun hne=>?_) (fun hne=>?_)
 ·obtain⟨rfl,rfl,rfl⟩:=q4a hne
  obtain⟨rfl,rfl,rfl⟩:=q6a hne
  have l0 : ∀ X,ylen 0 X (.slice none 0 0)=some (I 0):=fun _=>rfl
  have hee : (e=e)=True:=eq_self _
  refine zS ?_
  refine V.run ?_
  have zf:=And.intro @l0<|@hee
  refine VI.sz 9 ?_
  simp only[ds]
  have zf:=And.intro @l0<|@hee
  refine VI.sz 8 ?_
  simp only[ds]
  refine VI.callAT zG rfl (f17_ok _) zA (fun Hd gd=>?_)
  refine VI.l0 ?_
  refine zS ?_
  refine V.ret (V.rets rfl (Lv.retF (by simp +contextual (disch:=first|omega|simp only[nx];omega) only[D1,cells_alloc_at,cells_alloc_ne,cells_set_at,cells_set_ne,yres,yres1,yresL,qA,qB,qC,D5,hF,hA,↓reduceIte,qD,qE];rfl) ?_))
  rfl
 have e0 : e=0:=Decidable.not_not.1 hne
 have r4:=q4b e0
 have r6:=q6b e0
 have G:=bE_VM (he ▸ e0)
 subst e0
 have hS8:=G.s8
 have hO4:=G.o4
 have hN4:=G.n
 obtain⟨Nn,hNn⟩ : ∃ Nn : Nat,M.N=Nn:=⟨M.N.toNat,by omega⟩
 have eN : M.N.toNat=Nn:=by omega
 rw[eN] at r6
 refine zS ?_
 refine V.l0 ?_
 refine zS ?_
 refine V.l0 ?_
 refine zS ?_
 refine V.loop (fun z t mm Y=>∃ (k : Nat) (w : Value),k≤M.S.length∧z=M.S.length-k∧mm=[]∧Grow Hc Y∧isS w∧OwW 2 Hc Y 50 w ((ows M k).map q2)∧Full 128 t∧Kn [(2,PT H.next),(5,.slice p4 n4 c4),(6,I 0),(7,.slice p6 n6 c6),(8,I 0),(11,w),(12,.slice none 0 0),(13,I k)] t) M.S.length ?_ ?_
 ·exact⟨0,.slice none 0 0,by omega,by omega,rfl,.refl _,⟨_,_,_,rfl⟩,.nil,zF,zK⟩
 clear hF hA
 rintro z t mm Y ⟨k,w,hk,rfl,rfl,gY,hw,ow,hF,hA⟩
 obtain⟨pw,nw',cw,rfl⟩:=hw
 simp only[Kn,and_true] at hA
 have bY:=bc.grow gY
 have gHY:=gHc.trans gY
 refine zS ?_
 have zf:=And.intro bY.2<|@hl
 refine V.lz ?_
 refine zS ?_
 refine V.condP zP (fun hlt=>?_) (fun hlt=>?_)
 ·have hlt' : k<M.S.length:=by omega
  obtain⟨si,so',s1,s2⟩:=h.s.at hlt'
  have ho:=G.old hlt'
  obtain⟨dn,hdn⟩ : ∃ dn : Nat,oldF M k=dn:=⟨(oldF M k).toNat,by omega⟩
  have edn : (oldF M k).toNat=dn:=by omega
  have s3 : ∀ Z,Grow H Z→yload1 Z (.pointer (some ⟨si,so',none⟩))=some (I dn):=fun Z g=>by
   have:=(s2 Z g).2.1
   rw[← oldF_at hlt',hdn] at this
   exact this
  refine zS ?_
  refine V.draw ?_
  have zf:=bY.2
  refine VD.nz 4 ?_
  simp only[ds]
  refine VD.callR zA (f33_ok (h.grow gHY) hS8 hlt') zA (fun wa Ya ⟨ga,la⟩=>?_)
  have ka:=la.s.isS
  obtain⟨pa,na,ca,rfl⟩:=ka
  have bYa:=bY.grow ga
  have gHa:=gHY.trans ga
  have sa:=s3 Ya gHa
  have zf:=And.intro bYa.2<|And.intro @s1<|@sa
  refine VD.nz 6 ?_
  simp only[ds]
  have f32':=f32_ok (want:=1) (h.grow gHa) G la (fl_len _ _) (show dn<M.O.length by omega)
  have rc:=rg_cong (M:=M) (d:=dn) (P:=pk (fl M.S.length fun q=>if q=k then 1 else 0) 1) (Q:=fun i=>(i : Int)=(k : Nat)) (fun i hi=>by
   unfold pk
   rw[fl_gD hi]
   constructor
   ·intro hh
    by_cases c : i=k
    ·omega
    ·rw[if_neg c] at hh;omega
   ·intro hh
    rw[if_pos (by omega)])
  rw[rc.1,rc.2] at f32'
  refine VD.callA zA (f32') zA (fun Yb gb=>?_)
  have bYb:=bYa.grow gb
  have gab:=ga.trans gb
  have gHb:=gHY.trans gab
  obtain⟨u,Z,a1,a2,a3,a4⟩:=OwW.push (bytes:=16) (x:=q2 (rgL M dn (fun i=>(i : Int)=(k : Nat)),rgH M dn (fun i=>(i : Int)=(k : Nat)))) (by decide) (gY.trans gab) (ow.keep gab) q2_w rfl rfl (by rw[List.length_map,ows_len];omega) (by rw[List.length_map,ows_len];omega)
  obtain⟨pu,nu,cu,rfl⟩:=a2.isS
  have bYz:=bc.grow a3
  have s0:=s3 Y gHY
  have sb:=s3 Yb gHb
  have sc':=s3 (Yb.alloc (.cells ⟨A2 (rgL M dn (fun i=>(i : Int)=(k : Nat))) (rgH M dn (fun i=>(i : Int)=(k : Nat)))⟩ 50 true)) (gHb.alloc _)
  have sz:=s3 Z (gHc.trans a3)
  have m1:=ga.1
  have m2:=gb.1
  have m3:=a4.1
  have nb:=bYb.1
  have zf:=@a1
  refine VD.dz ?_ ?_ rfl ?_
  ·exact zM
  ·simp only[dcAll,dcOk,wantD,List.cons_append,List.nil_append,true_and,and_true]
   have zf:=And.intro bY.2<|And.intro bYa.2<|And.intro bYb.2<|And.intro bYz.2<|And.intro @s0<|And.intro @sa<|And.intro @sb<|And.intro @sc'<|@sz
   exact⟨zR,zR,zR⟩
  refine zS ?_
  refine V.l0 ?_
  refine V.nil (Or.inl ⟨rfl,M.S.length-(k+1),by omega,?_⟩)
  refine⟨k+1,_,hlt',rfl,rfl,a3,⟨_,_,_,rfl⟩,?_,zF,zK⟩
  rw[ows_1,List.map_append,edn]
  exact a2
 obtain rfl : k=M.S.length:=by omega
 have ro : RS Y (.slice pw nw' cw) (ows M M.S.length):=⟨ow.sw q2_w⟩
 have r4:=r4.grow gY
 have r6:=r6.grow gY
 refine V.exit ?_
 refine zX ?_
 refine V.nil (Or.inr ⟨by simp,?_⟩)
 refine zX ?_
 refine zS ?_
 refine V.l0 ?_
 refine zS ?_
 refine V.loop (fun z t mm Z=>∃ (q : Nat) (v : Value),q≤Nn∧z=Nn-q∧mm=[]∧Grow Y Z∧isS v∧OwW 2 Y Z 50 v ((nws M q).map q2)∧Full 128 t∧Kn [(2,PT H.next),(5,.slice p4 n4 c4),(6,I 0),(7,.slice p6 n6 c6),(8,I 0),(11,.slice pw nw' cw),(12,v),(14,I q)] t) Nn ?_ ?_
 ·exact⟨0,.slice none 0 0,by omega,by omega,rfl,.refl _,⟨_,_,_,rfl⟩,.nil,zF,zK⟩
 clear hF hA
 rintro z t mm Z ⟨q,v,hq,rfl,rfl,gZ,hv,ov,hF,hA⟩
 obtain⟨pv,nv,cv,rfl⟩:=hv
 simp only[Kn,and_true] at hA
 have bZ:=bY.grow gZ
 have gHZ:=gHY.trans gZ
 refine zS ?_
 have zf:=And.intro bZ.2<|@hNn
 refine V.lz ?_
 refine zS ?_
 refine V.condP zP (fun hlt=>?_) (fun hlt=>?_)
 ·have hlt' : q<Nn:=by omega
  refine zS ?_
  refine V.draw ?_
  have zf:=bZ.2
  refine VD.nz 3 ?_
  simp only[ds]
  refine VD.callR zA (f25_ok (h.grow gHZ) (by omega)) zA (fun wa Za ⟨ga,la⟩=>?_)
  have ka:=la.s.isS
  obtain⟨pa,na,ca,rfl⟩:=ka
  have bZa:=bZ.grow ga
  refine VD.n0 1 ?_
  simp only[ds]
  refine VD.callA zA (f34_ok (q:=q) (h.grow (gHZ.trans ga)) G la) zA (fun Zb gb=>?_)
  have bZb:=bZa.grow gb
  have gab:=ga.trans gb
  obtain⟨u,W,a1,a2,a3,a4⟩:=OwW.push (bytes:=16) (x:=q2 (nwL M q,nwH M q)) (by decide) (gZ.trans gab) (ov.keep gab) q2_w rfl rfl (by rw[List.length_map,nws_len];omega) (by rw[List.length_map,nws_len];omega)
  obtain⟨pu,nu,cu,rfl⟩:=a2.isS
  have bW:=bY.grow a3
  have m1:=ga.1
  have m2:=gb.1
  have m3:=a4.1
  have nb:=bZb.1
  have zf:=@a1
  refine VD.dz ?_ ?_ rfl ?_
  ·exact zM
  ·simp only[dcAll,dcOk,wantD,List.cons_append,List.nil_append,true_and,and_true]
   have zf:=And.intro bZ.2<|And.intro bZa.2<|And.intro bZb.2<|bW.2
   exact zR
  refine zS ?_
  refine V.l0 ?_
  refine V.nil (Or.inl ⟨rfl,Nn-(q+1),by omega,?_⟩)
  refine⟨q+1,_,hlt',rfl,rfl,a3,⟨_,_,_,rfl⟩,?_,zF,zK⟩
  rw[nws_1,List.map_append]
  exact a2
 ·obtain rfl : q=Nn:=by omega
  have rn : RS Z (.slice pv nv cv) (nws M q):=⟨ov.sw q2_w⟩
  have f35a:=f35_ok (r4.grow gZ) (ro.grow gZ) (by rw[ows_len];omega) (ows_bd G)
  have h00 : ((0 : Int)=0)=True:=eq_self _
  refine V.exit ?_
  refine zX ?_
  refine V.nil (Or.inr ⟨by simp,?_⟩)
  refine zX ?_
  refine zS ?_
  refine V.run ?_
  have zf:=@h00
  refine VI.sz 5 ?_
  simp only[ds]
  refine VI.callAT zG rfl (f35a) zA (fun Hd gd=>?_)
  have f35b:=f35_ok ((r6.grow gZ).grow gd) (rn.grow gd) (by rw[nws_len];omega) (nws_bd G)
  have zf:=@h00
  refine VI.sz 8 ?_
  simp only[ds]
  refine VI.callAT zG rfl (f35b) zA (fun He ge=>?_)
  refine VI.s0 2 ?_
  simp only[ds]
  refine VI.callAT zG rfl (f17_ok _) zA (fun Hf gf=>?_)
  refine VI.l0 ?_
  refine zS ?_
  refine V.ret (V.rets rfl (Lv.retF (by simp +contextual (disch:=first|omega|simp only[nx];omega) only[D1,cells_alloc_at,cells_alloc_ne,cells_set_at,cells_set_ne,yres,yres1,yresL,qA,qB,qC,D5,hF,hA,↓reduceIte,qD,qE];rfl) ?_))
  rfl
end Go.Xe.TBX
/- Rules of reasoning over the executable reading of the model's code (part Z16): arguments, by what their types allow. Conditions: none; for every program. -/
namespace Go.Xe
open Go Go.RowKit Go.ChangeShapes Go.WideShapes
theorem okWide_agg {P : Program} {w : World} {r : Reach} {base : Nat} {t : TypeId} {v : Value} {fs : Array Field} (ht : P.underlying t=some (.struct fs)) (h : Value.okWide P w r base t v) : ∃ cs,v=.agg cs:=by
 unfold Value.okWide at h
 rw[ht] at h
 obtain⟨cs,h,_⟩:=h
 exact⟨cs,h⟩
end Go.Xe
/- The end of a call that has changed nothing of what was there: what a statement asks of the memory behind it. Conditions: as post_of_same's, but that new memory may be frozen. -/
namespace Go.Xe
open Go Go.RowKit Go.ChangeShapes Go.WideShapes
variable {H : Type} {enc : TypeId×Value→H} {P : Program}
theorem post_of_old {f : Func} {s : ChangeSpec} {apart fresh handsOn again : Bool} {W W' : World} {args : Array Value} {v : Value} {ds gs : List (DataW H)} {before pa pv : List MemPlace}
  (hW : DataW.Whole enc P f.params.toList s.vars apart W args.toList ds gs before)
  (hres : ∀ (b : Nat) (sp : Nat→Bool) (hd : Bool),DataW.TrodAll enc P W' b sp hd f.resultTypes.toList (v.resultList f.resultTypes.size) (s.fn H (ds++gs)).results [])
  (hargs : ∀ sp : Nat→Bool,(∀ p∈before,sp p.block=true)→DataW.TrodAll enc P W' 0 sp true f.params.toList args.toList (s.fn H (ds++gs)).args pa)
  (hvars : ∀ sp : Nat→Bool,(∀ p∈before,sp p.block=true)→DataW.TrodVars enc P W' sp s.vars (s.fn H (ds++gs)).vars pv)
  (hps : before=pa++pv) (hk : W.keptBut W' (·∈before)) (hfz : ∀ a : Addr,a.block<W.heap.size→W'.frozen? a=W.frozen? a)
  (hok : ∀ (j : Nat) (t : TypeId) (r : Value),f.resultTypes[j]?=some t→(v.resultList f.resultTypes.size)[j]?=some r→Value.okWide P W' .any 0 t r) :
  s.post enc P f apart fresh handsOn again W args v W':=by
 have old : ∀ p∈before,p.block<W.heap.size:=fun p hp=>hW.lt p hp
 have hold : ∀ p∈before,(fun b=>decide (b<W.heap.size)) p.block=true:=fun p hp=>by simpa using old p hp
 subst hps
 refine⟨ds,gs,_,[],pa,pv,hW,hres _ _ _,hargs _ hold,hvars _ hold,World.keptBut_mono (fun p hp=>⟨hp,.inr (List.mem_append.1 hp)⟩) hk,fun _=>?_⟩
 obtain⟨_,_,_,_,_,hz,hn⟩:=hW
 refine⟨hok,_,_,([]++pa)++pv,⟨[]++pa,pv,trodAll_append (hargs _ (fun _ _=>rfl)) (hres _ _ _),hvars _ (fun _ _=>rfl),rfl,?_,?_⟩,?_⟩
 ·intro b off hp
  have hp' : MemPlace.cell b off∈pa++pv:=by simpa using hp
  rw[hfz _ (old _ hp')]
  exact hz b off hp'
 ·intro ha
  simpa using hn ha
 ·intro p hp _
  simpa using hp
end Go.Xe
