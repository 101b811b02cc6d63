/- What the functions of the layer seat come to: SeatVotes. Conditions: none. -/
import Derived.Test.YtlfikodljmdekaaTVL
import Derived.Test.YtlfikodljmdekaaZl
import Derived.WideShapes
import Derived.ChangeSame
import Derived.Below
-- MOD TV
namespace Go.Xe.TVX
open Go Go.Xe Go.Proofs
open Nat renaming reduceLeDiff → qA, reduceSub → qB, reduceAdd → qC, reduceEqDiff → qD, reduceLT → qE
open Int renaming reduceNegSucc → qF, reduceEq → qG
open Go.Xe.V renaming seq → sA, block → sB, scope → sC, skip → sD, close → sE
open Go.Xe renaming pth → P
open Go.Xe.Sea
set_option maxRecDepth 100000
set_option maxHeartbeats 3200000
set_option linter.unusedSimpArgs false
noncomputable def d14 : FCode:=(.seq (.run (.go (.box 23 (tm 0)) (P 4)::
.go (.move (.con (.bool false))) (P 8)::
[])) (.seq (.seq (.run (.go (.loadN 3 (tm 4)) (P 17)::
.go (.move (tm 1)) (P 18)::
.go (.call (.con (.func (.func 48) ⟨[]⟩ ⟨[]⟩)) [(tm 17),(tm 18)]) (P 19)::
.go (.un .not (tm 19)) (P 20)::
.go (.move (tm 20)) (P 21)::
.gd (P 21) false (.fieldAddr 0 (tm 4)) (P 22)::
.gd (P 21) false (.load1 (tm 22)) (P 23)::
.gd (P 21) false (.bin .eql 5 (tm 23) (.con (.int .u8 (.ofNat 5)))) (P 24)::
.go (.pick (tm 21) (.con (.bool true)) (tm 24)) (P 25)::
.go (.move (tm 25)) (P 26)::
.gd (P 26) false (.move (tm 1)) (P 27)::
.gd (P 26) false (.len 0 (tm 27)) (P 28)::
.gd (P 26) false (.bin .eql 3 (tm 28) (.con (.int .i64 (.ofNat 0)))) (P 29)::
.go (.pick (tm 26) (.con (.bool true)) (tm 29)) (P 30)::
[])) (.cond (tm 30) (.seq (.run (.go (.call (.con (.func (.func 20) ⟨[]⟩ ⟨[]⟩)) []) (P 31)::
.go (.move (tm 31)) (P 8)::
[])) .ret) .skip)) (.seq (.run (.go (.move (tm 2)) (P 32)::
.go (.conv .i64 (tm 32)) (P 33)::
.go (.move (tm 1)) (P 34)::
.go (.len 0 (tm 34)) (P 35)::
.go (.bin .rem 3 (tm 33) (tm 35)) (P 36)::
.go (.move (tm 36)) (P 9)::
[])) (.seq (.run (.go (.move (tm 1)) (P 37)::
.go (.call (.con (.func (.func 24) ⟨[]⟩ ⟨[]⟩)) [tm 37]) (P 38)::
.go (.move (tm 38)) (P 10)::
[])) (.seq (.run (.go (.move (tm 10)) (P 39)::
.go (.move (tm 9)) (P 40)::
.go (.move (tm 10)) (P 41)::
.go (.move (tm 9)) (P 42)::
.go (.indexAddr none 1 (tm 41) (tm 42)) (P 43)::
.go (.load1 (tm 43)) (P 44)::
.go (.move (tm 3)) (P 45)::
.go (.conv .i64 (tm 45)) (P 46)::
.go (.bin .add 3 (tm 44) (tm 46)) (P 47)::
.go (.mm false [(.con (.int .i64 (.ofNat 10000))),(tm 47)]) (P 48)::
.go (.indexAddr none 1 (tm 39) (tm 40)) (P 49)::
.un (.store 1 (tm 49) (tm 48))::
[])) (.seq (.run (.go (.loadN 3 (tm 4)) (P 51)::
.go (.call (.con (.func (.func 22) ⟨[]⟩ ⟨[]⟩)) [tm 51]) (P 52)::
.go (.move (tm 1)) (P 53)::
.go (.call (.con (.func (.func 24) ⟨[]⟩ ⟨[]⟩)) [tm 53]) (P 54)::
.go (.call (.con (.func (.func 23) ⟨[]⟩ ⟨[]⟩)) [(tm 52),(tm 54)]) (P 55)::
.go (.move (tm 55)) (P 50)::
.go (.extract (tm 50) 0) (P 56)::
.go (.extract (tm 50) 1) (P 57)::
.go (.move (tm 56)) (P 11)::
.go (.move (tm 57)) (P 12)::
[])) (.seq (.run (.go (.loadN 3 (tm 4)) (P 59)::
.go (.call (.con (.func (.func 22) ⟨[]⟩ ⟨[]⟩)) [tm 59]) (P 60)::
.go (.move (tm 10)) (P 61)::
.go (.call (.con (.func (.func 24) ⟨[]⟩ ⟨[]⟩)) [tm 61]) (P 62)::
.go (.call (.con (.func (.func 23) ⟨[]⟩ ⟨[]⟩)) [(tm 60),(tm 62)]) (P 63)::
.go (.move (tm 63)) (P 58)::
.go (.extract (tm 58) 0) (P 64)::
.go (.extract (tm 58) 1) (P 65)::
.go (.move (tm 64)) (P 13)::
.go (.move (tm 65)) (P 14)::
[])) (.seq (.seq (.run (.go (.move (tm 12)) (P 66)::
.go (.bin .neq 26 (tm 66) (.con (.int .i64 (.ofNat 0)))) (P 67)::
.go (.move (tm 67)) (P 68)::
.gd (P 68) false (.move (tm 14)) (P 69)::
.gd (P 68) false (.bin .neq 26 (tm 69) (.con (.int .i64 (.ofNat 0)))) (P 70)::
.go (.pick (tm 68) (.con (.bool true)) (tm 70)) (P 71)::
[])) (.cond (tm 71) (.seq (.run (.go (.move (tm 12)) (P 72)::
.go (.bin .eql 26 (tm 72) (.con (.int .i64 (.ofNat 0)))) (P 73)::
.go (.move (tm 73)) (P 74)::
.gd (P 74) false (.move (tm 12)) (P 75)::
.gd (P 74) false (.bin .eql 26 (tm 75) (.con (.int .i64 (.ofNat 10)))) (P 76)::
.go (.pick (tm 74) (.con (.bool true)) (tm 76)) (P 77)::
.go (.move (tm 77)) (P 78)::
.gd (P 78) true (.move (tm 14)) (P 79)::
.gd (P 78) true (.bin .eql 26 (tm 79) (.con (.int .i64 (.ofNat 0)))) (P 80)::
.gd (P 78) true (.move (tm 80)) (P 81)::
.gd (P 81) false (.move (tm 14)) (P 82)::
.gd (P 81) false (.bin .eql 26 (tm 82) (.con (.int .i64 (.ofNat 10)))) (P 83)::
.gd (P 78) true (.pick (tm 81) (.con (.bool true)) (tm 83)) (P 84)::
.go (.pick (tm 78) (tm 84) (.con (.bool false))) (P 85)::
.go (.move (tm 85)) (P 86)::
.gd (P 86) true (.call (.con (.func (.func 20) ⟨[]⟩ ⟨[]⟩)) []) (P 87)::
.go (.pick (tm 86) (tm 87) (.con (.bool false))) (P 88)::
.go (.move (tm 88)) (P 8)::
[])) .ret) .skip)) (.seq (.run (.go (.loadN 3 (tm 4)) (P 89)::
.go (.move (tm 1)) (P 90)::
.go (.call (.con (.func (.func 34) ⟨[]⟩ ⟨[]⟩)) [(tm 89),(tm 90)]) (P 91)::
.go (.move (tm 91)) (P 15)::
[])) (.seq (.seq (.run (.go (.move (.con (.int .i64 (.ofNat 0)))) (P 16)::
[])) (.block 0 (.loop (.seq (.seq (.run (.go (.move (tm 16)) (P 92)::
.go (.move (tm 11)) (P 93)::
.go (.len 0 (tm 93)) (P 94)::
.go (.bin .lss 3 (tm 92) (tm 94)) (P 95)::
[])) (.cond (tm 95) .skip (.exit 0))) (.seq (.block 1 (.seq (.draw 33 (.go (.move (tm 16)) (P 98)::
.go (.move (tm 9)) (P 99)::
.go (.bin .eql 3 (tm 98) (tm 99)) (P 100)::
.go (.move (tm 100)) (P 101)::
.gd (P 101) true (.move (tm 13)) (P 102)::
.gd (P 101) true (.move (tm 16)) (P 103)::
.gd (P 101) true (.indexAddr none 1 (tm 102) (tm 103)) (P 104)::
.gd (P 101) true (.load1 (tm 104)) (P 105)::
.gd (P 101) true (.move (tm 11)) (P 106)::
.gd (P 101) true (.move (tm 16)) (P 107)::
.gd (P 101) true (.indexAddr none 1 (tm 106) (tm 107)) (P 108)::
.gd (P 101) true (.load1 (tm 108)) (P 109)::
.gd (P 101) true (.bin .lss 3 (tm 105) (tm 109)) (P 110)::
.go (.pick (tm 101) (tm 110) (.con (.bool false))) (P 111)::
.go (.move (tm 111)) (P 112)::
.gd (P 112) false (.move (tm 16)) (P 113)::
.gd (P 112) false (.move (tm 9)) (P 114)::
.gd (P 112) false (.bin .neq 3 (tm 113) (tm 114)) (P 115)::
.gd (P 112) false (.move (tm 115)) (P 116)::
.gd (P 116) true (.move (tm 13)) (P 117)::
.gd (P 116) true (.move (tm 16)) (P 118)::
.gd (P 116) true (.indexAddr none 1 (tm 117) (tm 118)) (P 119)::
.gd (P 116) true (.load1 (tm 119)) (P 120)::
.gd (P 116) true (.move (tm 11)) (P 121)::
.gd (P 116) true (.move (tm 16)) (P 122)::
.gd (P 116) true (.indexAddr none 1 (tm 121) (tm 122)) (P 123)::
.gd (P 116) true (.load1 (tm 123)) (P 124)::
.gd (P 116) true (.bin .gtr 3 (tm 120) (tm 124)) (P 125)::
.gd (P 112) false (.pick (tm 116) (tm 125) (.con (.bool false))) (P 126)::
.gd (P 112) false (.move (tm 126)) (P 127)::
.gd (P 127) true (.move (tm 15)) (P 128)::
.gd (P 112) false (.pick (tm 127) (tm 128) (.con (.bool false))) (P 129)::
.go (.pick (tm 112) (.con (.bool true)) (tm 129)) (P 130)::
[]) [.ok,.ok,.ok,.ok,.ok,.ok,.ok,.ok,.ok,.ok,.ok,.ok,.ok,.ok,.ok,.ok,.ok,.ok,.ok,.ok,.ok,.ok,.ok,.ok,.ok,.ok,.ok,.ok,.ok,.ok,.ok,.ok,.ok]) (.cond (tm 130) (.seq (.run (.go (.move (.con (.bool false))) (P 8)::
[])) .ret) .skip))) (.run (.go (.move (tm 16)) (P 96)::
.go (.bin .add 3 (tm 96) (.con (.int .i64 (.ofNat 1)))) (P 97)::
.go (.move (tm 97)) (P 16)::
[]))))))) (.seq (.run (.go (.call (.con (.func (.func 20) ⟨[]⟩ ⟨[]⟩)) []) (P 131)::
.go (.move (tm 131)) (P 8)::
[])) .ret)))))))))))
theorem de14 : @compF Try.prog (Gl.none Try.prog) Try.f14 4=.mk d14 (mkTT 132) [(P 0),(P 1),(P 2),(P 3)] [.tmp (P 8)]:=by kernel_rfl
theorem dg14 : Try.prog.funcs[14]?=some Try.f14:=Try.func14
theorem do14 : okF Try.prog Try.f14=true:=by kernel_rfl
theorem own_idx {y n c g : Nat} (h : g<n) : yindexAddr none 1 (.slice (some ⟨y,0,none⟩) n c) (I (g : Nat))=some (.pointer (some ⟨y,g,none⟩)):=by
 simp only[yindexAddr]
 rw[if_pos ⟨by omega,by omega⟩]
 simp
theorem Li_set (l : List Int) (k : Nat) (y : Int) : (Li l).set k (I y)=Li (l.set k y):=by simp[Li,List.map_set]
theorem gl0_set {l : List Int} {k : Nat} (hk : k<l.length) (y : Int) (q : Nat) : gl0 (l.set k y) q=if q=k then y else gl0 l q:=by
 unfold gl0
 rw[List.getD_eq_getElem?_getD,List.getElem?_set]
 by_cases h : k=q
 ·subst h;rw[if_pos rfl,if_pos hk,if_pos rfl];rfl
 ·rw[if_neg h,if_neg (fun e=>h e.symm),List.getD_eq_getElem?_getD]
theorem adm_le {L a b : Int} (h : a≤b) (hb : 0≤b) : (if adm L a then a else 0)≤if adm L b then b else 0:=by
 by_cases h1 : adm L a
 ·have h2 : adm L b:=⟨by have:=h1.1;omega,by have:=h1.2;omega⟩
  rw[if_pos h1,if_pos h2];exact h
 ·rw[if_neg h1]
  split<;>omega
theorem two_e {m S L m' S' L' : Int} {l l' : List Int} {X Y : Heap} {y1 y2 : Value} {e1 e2 : Int} (k1 : (¬ sure m S (vl L l)∧y1=.slice none 0 0∧e1=10)∨(sure m S (vl L l)∧e1=0∧LS X y1 (fl l.length (otc m S (vl L l)).1))) (k2 : (¬ sure m' S' (vl L' l')∧y2=.slice none 0 0∧e2=10)∨(sure m' S' (vl L' l')∧e2=0∧LS Y y2 (fl l'.length (otc m' S' (vl L' l')).1))) :
  (((e1=0∨e1=10)∧(e2=0∨e2=10))∧¬ (e1=0∧e2=0))∨(e1=0∧e2=0∧(sure m S (vl L l)∧LS X y1 (fl l.length (otc m S (vl L l)).1))∧sure m' S' (vl L' l')∧LS Y y2 (fl l'.length (otc m' S' (vl L' l')).1)):=by
 rcases k1 with⟨_,_,rfl⟩|⟨a1,rfl,a2⟩<;>rcases k2 with⟨_,_,rfl⟩|⟨b1,rfl,b2⟩
 ·exact .inl ⟨⟨.inr rfl,.inr rfl⟩,by decide⟩
 ·exact .inl ⟨⟨.inr rfl,.inl rfl⟩,by decide⟩
 ·exact .inl ⟨⟨.inl rfl,.inr rfl⟩,by decide⟩
 ·exact .inr ⟨rfl,rfl,⟨a1,a2⟩,b1,b2⟩
theorem f14_all {H : Heap} {m S L wh by' : Int} {x : Value} {l : List Int} (hx : Sl H x (l.map I)) (hw : 0≤wh∧wh≤255) (hby : 0≤by'∧by'≤65535) : F Try.prog 14 ⟨[.agg ⟨A3 m S L⟩,x,.int .u8 wh,.int .u16 by']⟩ H (fun w _=>w=.bool true):=by
 have h : LS H x l:=⟨hx⟩
 have hl:=h.len
 obtain⟨px,nx',cx,rfl⟩:=h.s.isS
 refine F.entryL rfl dg14 do14 de14 rfl (by kernel_rfl) ?_
 simp only[sets]
 refine V.re [(0,.agg ⟨A3 m S L⟩),(1,.slice px nx' cx),(2,.int .u8 wh),(3,.int .u16 by')] (N:=132) zE zY ?_
 intro t hF hA
 simp only[Kn,and_true] at hA
 refine zS ?_
 refine V.l0 ?_
 refine V.heap (fun X=>Grow H X∧Bx X H.next (A3 m S L) 23) ⟨?_,?_⟩ ?_
 ·exact zW
 ·exact zB
 rintro H1 ⟨g1,b1⟩
 refine zS ?_
 refine V.run ?_
 have zf:=b1.2
 refine VI.sz 2 ?_
 simp only[ds]
 refine VI.callA rfl (f48_ok (m:=m) (S:=S) (L:=L) (h.grow g1)) zA (fun H2 g2=>?_)
 have b2:=b1.grow g2
 have g12:=g1.trans g2
 have zf:=And.intro b2.2<|@hl
 refine VI.lz ?_
 refine zS ?_
 refine V.condP zP (fun h0=>?_) (fun h0=>?_)
 ·refine zS ?_
  refine V.run ?_
  refine VI.callA rfl (f20_ok _) zA (fun H3 g3=>?_)
  refine VI.l0 ?_
  refine zS ?_
  refine V.ret (V.rets rfl (Lv.retF (by simp +contextual (disch:=first|omega|simp only[nx];omega) only[D1,cells_alloc_at,cells_alloc_ne,cells_set_at,cells_set_ne,yres,yres1,yresL,qA,qB,qC,D5,hF,hA,↓reduceIte,qD,qE];rfl) ?_))
  rfl
 have h00 : flt m S L l=0∧¬ m=5∧¬ l.length=0:=by
  refine⟨?_,?_,?_⟩
  ·exact Decidable.by_contra fun hh=>h0 (by simp[hh])
  ·exact fun hh=>h0 (by simp[hh])
  ·exact fun hh=>h0 (by simp[hh])
 clear h0
 obtain⟨h0,hm5,hn0⟩:=h00
 obtain⟨hr,hl8,hb⟩:=flt_0.1 h0
 have hvk:=vl_ok (L:=L) hb
 have hv8:=vl_8 (L:=L) hl8
 have hS : 0≤S∧S≤61:=⟨hr.2.2.1,by have:=hr.2.2.2.1;omega⟩
 have hm4 : 1≤m∧m≤4:=⟨hr.1,by have:=hr.2.1;omega⟩
 have hnz : ¬ (l.length : Int)=0:=by omega
 have htm:=tmod_bd (a:=wh) (b:=l.length) hw.1 (by omega)
 obtain⟨k,hk⟩ : ∃ k : Nat,wh.tmod l.length=k:=⟨(wh.tmod l.length).toNat,by omega⟩
 have hkl : k<l.length:=by omega
 refine zS ?_
 have zf:=And.intro @hl<|And.intro @hnz<|@hk
 refine V.lz ?_
 refine zS ?_
 refine V.run ?_
 refine VI.s0 1 ?_
 simp only[ds]
 refine VI.callR zA (f24_ok (h.grow g12) (by omega)) zA (fun w3 H3 ⟨g3,o3⟩=>?_)
 have b3:=b2.grow g3
 have g13:=g12.trans g3
 have hLl : Li l≠[]:=fun e=>hn0 (by rw[← Li_len,e];rfl)
 rcases o3 with⟨_,e⟩|⟨ix,ix1,ix2,rfl,ix3⟩
 ·exact absurd e hLl
 rw[Li_len]
 have oi:=own_idx (y:=ix) (c:=l.length) hkl
 have hbk:=hb _ (List.getElem_mem hkl)
 have hLk:=Li_at hkl
 have n2:=b2.1
 refine VI.l0 ?_
 refine zS ?_
 obtain⟨y,hy⟩ : ∃ y,y=(if l[k]+by'<10000 then l[k]+by' else 10000):=⟨_,rfl⟩
 have hyb : l[k]≤y∧y≤10000:=by rw[hy];split<;>omega
 have hLs:=Li_set l k y
 rw[hy] at hLs
 have zf:=And.intro @oi<|And.intro @ix3<|And.intro @hLk<|And.intro @Li_len<|And.intro @hkl<|@hLs
 refine V.lz ?_
 rw[← hy]
 refine V.heap (fun X=>Grow H X∧Bx X H.next (A3 m S L) 23∧Ow H X 3 (.slice (some ⟨ix,0,none⟩) l.length l.length) (Li (l.set k y))) ⟨?_,?_,?_⟩ ?_
 ·have:=g12.1
  exact zW
 ·exact b3.set (by have:=g12.1;omega) _
 ·refine .inr ⟨ix,Nat.le_trans g12.1 ix1,ix2,by rw[Li_len,List.length_set],cells_set _ _ _ _ _⟩
 rintro H4 ⟨g4,b4,o4⟩
 have hset : (l.set k y).length=l.length:=List.length_set
 have hb' : ∀ v∈l.set k y,0≤v∧v≤10000:=by
  intro v hv
  rcases List.mem_or_eq_of_mem_set hv with hv|rfl
  ·exact hb v hv
  ·omega
 have h0' : flt m S L (l.set k y)=0:=flt_0.2 ⟨hr,by omega,hb'⟩
 have hvk':=vl_ok (L:=L) hb'
 have hv8':=vl_8 (L:=L) (l:=l.set k y) (by omega)
 have hvk1 : vl L l k≤vl L (l.set k y) k:=by
  unfold vl vts
  rw[gl0_set hkl,if_pos rfl,gl0_at hkl]
  exact adm_le hyb.1 (by omega)
 have hvk2 : ∀ p,p≠k→vl L (l.set k y) p=vl L l p:=by
  intro p hp
  unfold vl vts
  rw[gl0_set hkl,if_neg hp]
 refine zS ?_
 refine V.run ?_
 have zf:=b4.2
 refine VI.sz 1 ?_
 simp only[ds]
 refine VI.callA rfl (f22_ok m S L _) zA (fun H5 g5=>?_)
 refine VI.s0 1 ?_
 simp only[ds]
 refine VI.callR zA (f24_ok (h.grow (g4.trans g5)) (by omega)) zA (fun w6 H6 ⟨g6,o6⟩=>?_)
 refine VI.callR zA (f23_ok (m:=m) (S:=S) (L:=L) (ow_ls o6) hS) zA (fun w7 H7 ⟨g7,s7⟩=>?_)
 have g47:=(g5.trans g6).trans g7
 have b7:=b4.grow g47
 have o7:=o4.keep g47
 obtain⟨y1,e1,rfl,k1⟩:=s7.ok h0
 refine VI.l0 ?_
 refine zS ?_
 refine V.run ?_
 have zf:=b7.2
 refine VI.sz 1 ?_
 simp only[ds]
 refine VI.callA rfl (f22_ok m S L _) zA (fun H8 g8=>?_)
 refine VI.s0 1 ?_
 simp only[ds]
 refine VI.callR zA (f24_ok ((ow_ls o7).grow g8) (by omega)) zA (fun w9 H9 ⟨g9,o9⟩=>?_)
 refine VI.callR zA (f23_ok (m:=m) (S:=S) (L:=L) (ow_ls o9) hS) zA (fun w10 H10 ⟨g10,s10⟩=>?_)
 have g7a:=(g8.trans g9).trans g10
 have gHa:=(g4.trans g47).trans g7a
 have b10:=b7.grow g7a
 obtain⟨y2,e2,rfl,k2⟩:=s10.ok h0'
 have two:=two_e k1 k2
 clear k1 k2 s7 s10
 refine VI.l0 ?_
 refine zS ?_
 refine V.l0 ?_
 refine zS ?_
 rcases two with⟨hee,hne⟩|⟨rfl,rfl,⟨f1,q1⟩,f2,q2⟩
 ·rcases hee with⟨rfl|rfl,rfl|rfl⟩
  ·exact absurd ⟨rfl,rfl⟩ hne
  all_goals
   refine V.condP zP (fun hcc=>?_) (fun hcc=>?_)
   ·refine zS ?_
    refine V.run ?_
    refine VI.s0 9 ?_
    simp only[ds]
    refine VI.s0 6 ?_
    simp only[ds]
    refine VI.callAT zG rfl (f20_ok _) zA (fun Hb gb=>?_)
    refine VI.l0 ?_
    refine zS ?_
    refine V.ret (V.rets rfl (Lv.retF (by simp +contextual (disch:=first|omega|simp only[nx];omega) only[D1,cells_alloc_at,cells_alloc_ne,cells_set_at,cells_set_ne,yres,yres1,yresL,qA,qB,qC,D5,hF,hA,↓reduceIte,qD,qE];rfl) ?_))
    rfl
   ·exact absurd (by simp) hcc
 refine V.condP zP (fun hcc=>?_) (fun hcc=>?_)
 ·exact absurd hcc (by simp)
 have ql1:=q1.len
 have ql2:=q2.len
 rw[fl_len] at ql1 ql2
 rw[hset] at ql2 q2
 have hvo:=votes_ok hm4 hvk hvk' hS hv8 hv8' f1 f2 (show k<8 by omega) hvk1 hvk2
 refine zS ?_
 refine V.run ?_
 have zf:=b10.2
 refine VI.sz 2 ?_
 simp only[ds]
 refine VI.callA rfl (f34_ok (m:=m) (S:=S) (L:=L) (h.grow gHa) hl8 hb) zA (fun Hb gb=>?_)
 have q1b:=fun i (hi : i<(fl l.length (otc m S (vl L l)).1).length)=>q1.at hi
 refine VI.l0 ?_
 refine zS ?_
 refine V.l0 ?_
 refine zS ?_
 refine V.loop (fun z t mm X=>∃ (p : Nat),p≤l.length∧z=l.length-p∧mm=[]∧X=Hb∧Full 132 t∧Kn [(9,I k),(11,y1),(13,y2),(15,.bool (decide (0<sm (vl L l) 8))),(16,I p)] t) l.length ?_ ?_
 ·exact⟨0,by omega,by omega,rfl,rfl,zF,zK⟩
 clear hF hA
 rintro z t mm X ⟨p,hp,rfl,rfl,hX,hF,hA⟩
 obtain rfl : Hb=X:=hX.symm
 simp only[Kn,and_true] at hA
 refine zS ?_
 have zf:=@ql1
 refine V.lz ?_
 refine zS ?_
 refine V.condP zP (fun hlt=>?_) (fun hlt=>?_)
 ·have hlt' : p<l.length:=by omega
  obtain⟨ap,ap1,ap2⟩:=q1.at (k:=p) (by rw[fl_len];exact hlt')
  have ap3:=ap2 _ (g7a.trans gb)
  obtain⟨bp,bp1,bp2⟩:=q2.at (k:=p) (by rw[fl_len];exact hlt')
  have bp3:=bp2 _ gb
  rw[fl_at] at ap3 bp3
  obtain⟨V1,V2⟩:=hvo p (by omega)
  refine zS ?_
  by_cases hpk : p=k
  ·have hpe : ((p : Int)=(k : Int))=True:=eq_true (by omega)
   have hab : ((otc m S (vl L (l.set k y))).1 p<(otc m S (vl L l)).1 p)=False:=eq_false (by have:=V1 hpk;omega)
   refine V.lineD' (by simp +contextual (disch:=first|omega|simp only[nx];omega) only[D4,qF,qG,qA,qB,qC,D5,hF,hA,↓reduceIte,qD,qE,ap1,ap3,bp1,bp3,hpe,hab,not_true_eq_false,not_false_eq_true];with_reducible rfl) ?_ ?_ rfl ?_
   ·exact zM
   ·simp only[dcAll,dcOk,wantD,List.cons_append,List.nil_append,true_and,and_true]
   refine zS ?_
   refine V.condF zA ?_
   refine zS ?_
   refine V.l0 ?_
   refine V.nil (Or.inl ⟨rfl,l.length-(p+1),by omega,?_⟩)
   exact⟨p+1,hlt',rfl,rfl,rfl,zF,zK⟩
  ·have hpe : ((p : Int)=(k : Int))=False:=eq_false (by omega)
   refine V.lineD' (by simp +contextual (disch:=first|omega|simp only[nx];omega) only[D4,qF,qG,qA,qB,qC,D5,hF,hA,↓reduceIte,qD,qE,ap1,ap3,bp1,bp3,hpe,not_true_eq_false,not_false_eq_true];with_reducible rfl) ?_ ?_ rfl ?_
   ·exact zM
   ·simp only[dcAll,dcOk,wantD,List.cons_append,List.nil_append,true_and,and_true]
   refine zS ?_
   refine V.condP zP (fun hbad=>?_) (fun hbad=>?_)
   ·exfalso
    have h3:=V2 hpk
    obtain⟨c1,c2⟩:=hbad
    have:=h3 c2
    omega
   ·refine zS ?_
    refine V.l0 ?_
    refine V.nil (Or.inl ⟨rfl,l.length-(p+1),by omega,?_⟩)
    exact⟨p+1,hlt',rfl,rfl,rfl,zF,zK⟩
 ·refine V.exit ?_
  refine zX ?_
  refine V.nil (Or.inr ⟨by simp,?_⟩)
  refine zX ?_
  refine zS ?_
  refine V.run ?_
  refine VI.callA rfl (f20_ok _) zA (fun Hc gc=>?_)
  refine VI.l0 ?_
  refine zS ?_
  refine V.ret (V.rets rfl (Lv.retF (by simp +contextual (disch:=first|omega|simp only[nx];omega) only[D1,cells_alloc_at,cells_alloc_ne,cells_set_at,cells_set_ne,yres,yres1,yresL,qA,qB,qC,D5,hF,hA,↓reduceIte,qD,qE];rfl) ?_))
  rfl
end Go.Xe.TVX
/- Rules of reasoning over the executable reading of the model's code (part Z16): arguments, by what their types allow. Conditions: none; for every program. -/
namespace Go.Xe
open Go Go.RowKit Go.ChangeShapes Go.WideShapes
theorem okWide_agg {P : Program} {w : World} {r : Reach} {base : Nat} {t : TypeId} {v : Value} {fs : Array Field} (ht : P.underlying t=some (.struct fs)) (h : Value.okWide P w r base t v) : ∃ cs,v=.agg cs:=by
 unfold Value.okWide at h
 rw[ht] at h
 obtain⟨cs,h,_⟩:=h
 exact⟨cs,h⟩
end Go.Xe
/- The end of a call that has changed nothing of what was there: what a statement asks of the memory behind it. Conditions: as post_of_same's, but that new memory may be frozen. -/
namespace Go.Xe
open Go Go.RowKit Go.ChangeShapes Go.WideShapes
variable {H : Type} {enc : TypeId×Value→H} {P : Program}
theorem post_of_old {f : Func} {s : ChangeSpec} {apart fresh handsOn again : Bool} {W W' : World} {args : Array Value} {v : Value} {ds gs : List (DataW H)} {before pa pv : List MemPlace}
  (hW : DataW.Whole enc P f.params.toList s.vars apart W args.toList ds gs before)
  (hres : ∀ (b : Nat) (sp : Nat→Bool) (hd : Bool),DataW.TrodAll enc P W' b sp hd f.resultTypes.toList (v.resultList f.resultTypes.size) (s.fn H (ds++gs)).results [])
  (hargs : ∀ sp : Nat→Bool,(∀ p∈before,sp p.block=true)→DataW.TrodAll enc P W' 0 sp true f.params.toList args.toList (s.fn H (ds++gs)).args pa)
  (hvars : ∀ sp : Nat→Bool,(∀ p∈before,sp p.block=true)→DataW.TrodVars enc P W' sp s.vars (s.fn H (ds++gs)).vars pv)
  (hps : before=pa++pv) (hk : W.keptBut W' (·∈before)) (hfz : ∀ a : Addr,a.block<W.heap.size→W'.frozen? a=W.frozen? a)
  (hok : ∀ (j : Nat) (t : TypeId) (r : Value),f.resultTypes[j]?=some t→(v.resultList f.resultTypes.size)[j]?=some r→Value.okWide P W' .any 0 t r) :
  s.post enc P f apart fresh handsOn again W args v W':=by
 have old : ∀ p∈before,p.block<W.heap.size:=fun p hp=>hW.lt p hp
 have hold : ∀ p∈before,(fun b=>decide (b<W.heap.size)) p.block=true:=fun p hp=>by simpa using old p hp
 subst hps
 refine⟨ds,gs,_,[],pa,pv,hW,hres _ _ _,hargs _ hold,hvars _ hold,World.keptBut_mono (fun p hp=>⟨hp,.inr (List.mem_append.1 hp)⟩) hk,fun _=>?_⟩
 obtain⟨_,_,_,_,_,hz,hn⟩:=hW
 refine⟨hok,_,_,([]++pa)++pv,⟨[]++pa,pv,trodAll_append (hargs _ (fun _ _=>rfl)) (hres _ _ _),hvars _ (fun _ _=>rfl),rfl,?_,?_⟩,?_⟩
 ·intro b off hp
  have hp' : MemPlace.cell b off∈pa++pv:=by simpa using hp
  rw[hfz _ (old _ hp')]
  exact hz b off hp'
 ·intro ha
  simpa using hn ha
 ·intro p hp _
  simpa using hp
end Go.Xe
