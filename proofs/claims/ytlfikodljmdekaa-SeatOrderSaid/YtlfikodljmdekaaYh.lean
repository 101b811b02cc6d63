/- What the functions of the layer seat come to: SeatOrder. Conditions: none. -/
import Derived.Test.YtlfikodljmdekaaTUJ
import Derived.Test.YtlfikodljmdekaaWc
import Derived.Test.YtlfikodljmdekaaZl
import Derived.WideShapes
import Derived.ChangeSame
import Derived.Below
-- MOD TV
namespace Go.Xe.TVX
open Go Go.Xe Go.Proofs
open Nat renaming reduceLeDiff → qA, reduceSub → qB, reduceAdd → qC, reduceEqDiff → qD, reduceLT → qE
open Int renaming reduceNegSucc → qF, reduceEq → qG
open Go.Xe.V renaming seq → sA, block → sB, scope → sC, skip → sD, close → sE
open Go.Xe renaming pth → P
open Go.Xe.Sea
set_option maxRecDepth 100000
set_option maxHeartbeats 3200000
set_option linter.unusedSimpArgs false
noncomputable def d17 : FCode:=(.seq (.run (.go (.box 23 (tm 0)) (P 3)::
.go (.move (.con (.bool false))) (P 6)::
[])) (.seq (.seq (.run (.go (.loadN 3 (tm 3)) (P 15)::
.go (.move (tm 1)) (P 16)::
.go (.call (.con (.func (.func 48) ⟨[]⟩ ⟨[]⟩)) [(tm 15),(tm 16)]) (P 17)::
.go (.un .not (tm 17)) (P 18)::
.go (.move (tm 18)) (P 19)::
.gd (P 19) false (.move (tm 1)) (P 20)::
.gd (P 19) false (.len 0 (tm 20)) (P 21)::
.gd (P 19) false (.bin .eql 3 (tm 21) (.con (.int .i64 (.ofNat 0)))) (P 22)::
.go (.pick (tm 19) (.con (.bool true)) (tm 22)) (P 23)::
[])) (.cond (tm 23) (.seq (.run (.go (.call (.con (.func (.func 20) ⟨[]⟩ ⟨[]⟩)) []) (P 24)::
.go (.move (tm 24)) (P 6)::
[])) .ret) .skip)) (.seq (.run (.go (.move (tm 1)) (P 25)::
.go (.len 0 (tm 25)) (P 26)::
.go (.move (tm 26)) (P 7)::
[])) (.seq (.run (.go (.move (tm 2)) (P 27)::
.go (.conv .i64 (tm 27)) (P 28)::
.go (.move (tm 7)) (P 29)::
.go (.bin .rem 3 (tm 28) (tm 29)) (P 30)::
.go (.move (tm 30)) (P 8)::
[])) (.seq (.run (.go (.loadN 3 (tm 3)) (P 32)::
.go (.call (.con (.func (.func 22) ⟨[]⟩ ⟨[]⟩)) [tm 32]) (P 33)::
.go (.move (tm 1)) (P 34)::
.go (.call (.con (.func (.func 24) ⟨[]⟩ ⟨[]⟩)) [tm 34]) (P 35)::
.go (.call (.con (.func (.func 23) ⟨[]⟩ ⟨[]⟩)) [(tm 33),(tm 35)]) (P 36)::
.go (.move (tm 36)) (P 31)::
.go (.extract (tm 31) 0) (P 37)::
.go (.extract (tm 31) 1) (P 38)::
.go (.move (tm 37)) (P 9)::
.go (.move (tm 38)) (P 10)::
[])) (.seq (.draw 16 (.go (.loadN 3 (tm 3)) (P 40)::
.go (.call (.con (.func (.func 22) ⟨[]⟩ ⟨[]⟩)) [tm 40]) (P 41)::
.go (.move (tm 1)) (P 42)::
.go (.move (tm 8)) (P 43)::
.go (.slice 3 1 (tm 42) (some (tm 43)) none) (P 44)::
.go (.call (.con (.func (.func 24) ⟨[]⟩ ⟨[]⟩)) [tm 44]) (P 45)::
.go (.move (tm 1)) (P 46)::
.go (.move (tm 8)) (P 47)::
.go (.slice 3 1 (tm 46) none (some (tm 47))) (P 48)::
.go (.append 3 1 8 (tm 45) (tm 48)) (P 49)::
.go (.call (.con (.func (.func 23) ⟨[]⟩ ⟨[]⟩)) [(tm 41),(tm 49)]) (P 50)::
.go (.move (tm 50)) (P 39)::
.go (.extract (tm 39) 0) (P 51)::
.go (.extract (tm 39) 1) (P 52)::
.go (.move (tm 51)) (P 11)::
.go (.move (tm 52)) (P 12)::
[]) [.ok,.ok,.ok,.ok,.rd none (.slice 3 1 (tm 42) (some (tm 43)) none) (some (P 44)) [0],.ok,.ok,.ok,.rd none (.slice 3 1 (tm 46) none (some (tm 47))) (some (P 48)) [0,2],.ok,.ok,.ok,.ok,.ok,.ok,.ok]) (.seq (.seq (.run (.go (.move (tm 10)) (P 53)::
.go (.move (tm 12)) (P 54)::
.go (.bin .neq 26 (tm 53) (tm 54)) (P 55)::
.go (.move (tm 55)) (P 56)::
.gd (P 56) false (.move (tm 9)) (P 57)::
.gd (P 56) false (.len 0 (tm 57)) (P 58)::
.gd (P 56) false (.move (tm 11)) (P 59)::
.gd (P 56) false (.len 0 (tm 59)) (P 60)::
.gd (P 56) false (.bin .neq 3 (tm 58) (tm 60)) (P 61)::
.go (.pick (tm 56) (.con (.bool true)) (tm 61)) (P 62)::
[])) (.cond (tm 62) (.seq (.run (.go (.move (.con (.bool false))) (P 6)::
[])) .ret) .skip)) (.seq (.seq (.run (.go (.move (.con (.int .i64 (.ofNat 0)))) (P 13)::
[])) (.block 0 (.loop (.seq (.seq (.run (.go (.move (tm 13)) (P 63)::
.go (.move (tm 9)) (P 64)::
.go (.len 0 (tm 64)) (P 65)::
.go (.bin .lss 3 (tm 63) (tm 65)) (P 66)::
[])) (.cond (tm 66) .skip (.exit 0))) (.seq (.block 1 (.seq (.seq (.draw 15 (.go (.move (tm 11)) (P 69)::
.go (.move (tm 13)) (P 70)::
.go (.move (tm 7)) (P 71)::
.go (.bin .add 3 (tm 70) (tm 71)) (P 72)::
.go (.move (tm 8)) (P 73)::
.go (.bin .sub 3 (tm 72) (tm 73)) (P 74)::
.go (.move (tm 7)) (P 75)::
.go (.bin .rem 3 (tm 74) (tm 75)) (P 76)::
.go (.indexAddr none 1 (tm 69) (tm 76)) (P 77)::
.go (.load1 (tm 77)) (P 78)::
.go (.move (tm 9)) (P 79)::
.go (.move (tm 13)) (P 80)::
.go (.indexAddr none 1 (tm 79) (tm 80)) (P 81)::
.go (.load1 (tm 81)) (P 82)::
.go (.bin .neq 3 (tm 78) (tm 82)) (P 83)::
[]) [.ok,.ok,.ok,.ok,.ok,.ok,.ok,.ok,.ok,.ok,.ok,.ok,.ok,.ok,.ok]) (.cond (tm 83) (.seq (.run (.go (.move (.con (.bool false))) (P 6)::
[])) .ret) .skip)) (.seq (.run (.go (.move (.con (.int .i64 (.ofNat 0)))) (P 14)::
[])) (.block 2 (.loop (.seq (.seq (.run (.go (.move (tm 14)) (P 84)::
.go (.move (tm 13)) (P 85)::
.go (.bin .lss 3 (tm 84) (tm 85)) (P 86)::
[])) (.cond (tm 86) .skip (.exit 2))) (.seq (.block 3 (.seq (.draw 20 (.go (.move (tm 1)) (P 89)::
.go (.move (tm 14)) (P 90)::
.go (.indexAddr none 1 (tm 89) (tm 90)) (P 91)::
.go (.load1 (tm 91)) (P 92)::
.go (.move (tm 1)) (P 93)::
.go (.move (tm 13)) (P 94)::
.go (.indexAddr none 1 (tm 93) (tm 94)) (P 95)::
.go (.load1 (tm 95)) (P 96)::
.go (.bin .eql 3 (tm 92) (tm 96)) (P 97)::
.go (.move (tm 97)) (P 98)::
.gd (P 98) true (.move (tm 9)) (P 99)::
.gd (P 98) true (.move (tm 14)) (P 100)::
.gd (P 98) true (.indexAddr none 1 (tm 99) (tm 100)) (P 101)::
.gd (P 98) true (.load1 (tm 101)) (P 102)::
.gd (P 98) true (.move (tm 9)) (P 103)::
.gd (P 98) true (.move (tm 13)) (P 104)::
.gd (P 98) true (.indexAddr none 1 (tm 103) (tm 104)) (P 105)::
.gd (P 98) true (.load1 (tm 105)) (P 106)::
.gd (P 98) true (.bin .neq 3 (tm 102) (tm 106)) (P 107)::
.go (.pick (tm 98) (tm 107) (.con (.bool false))) (P 108)::
[]) [.ok,.ok,.ok,.ok,.ok,.ok,.ok,.ok,.ok,.ok,.ok,.ok,.ok,.ok,.ok,.ok,.ok,.ok,.ok,.ok]) (.cond (tm 108) (.seq (.run (.go (.move (.con (.bool false))) (P 6)::
[])) .ret) .skip))) (.run (.go (.move (tm 14)) (P 87)::
.go (.bin .add 3 (tm 87) (.con (.int .i64 (.ofNat 1)))) (P 88)::
.go (.move (tm 88)) (P 14)::
[]))))))))) (.run (.go (.move (tm 13)) (P 67)::
.go (.bin .add 3 (tm 67) (.con (.int .i64 (.ofNat 1)))) (P 68)::
.go (.move (tm 68)) (P 13)::
[]))))))) (.seq (.run (.go (.call (.con (.func (.func 20) ⟨[]⟩ ⟨[]⟩)) []) (P 109)::
.go (.move (tm 109)) (P 6)::
[])) .ret)))))))))
theorem de17 : @compF Try.prog (Gl.none Try.prog) Try.f17 3=.mk d17 (mkTT 110) [(P 0),(P 1),(P 2)] [.tmp (P 6)]:=by kernel_rfl
theorem dg17 : Try.prog.funcs[17]?=some Try.f17:=Try.func17
theorem do17 : okF Try.prog Try.f17=true:=by kernel_rfl
theorem Sl.from {A : Heap} {v : Value} {l : List Value} {k : Nat} (h : Sl A v l) (hr : Ro A) (hk : k≤l.length) : ∃ a n c,(∀ X,Grow A X→yslice Try.prog 3 1 X v (some (.int .i64 (k : Int))) none=some (.slice a n c))∧Sl A (.slice a n c) (l.drop k):=by
 cases h with
 | nil=>
  have : k=0:=by simpa using hk
  subst this
  exact⟨_,_,_,fun X _=>rfl,.nil⟩
 | spot i o s=>
  have : k=0:=by simpa using hk
  subst this
  exact⟨_,_,_,fun X _=>rfl,.spot i o s⟩
 | «at» hi hc hn hl hs hv=>
  rename_i i o n c a el rw
  have hrw:=hr i a el rw hi hc
  by_cases hc0 : c=k
  ·refine⟨some ⟨i,o,some 0⟩,0,0,fun X g=>?_,?_⟩
   ·have hX:=(g.cells hi).trans hc
    simp only[yslice,hX]
    rw[if_pos (.inl hrw)]
    simp only[xbound]
    rw[if_pos ⟨by omega,by omega⟩]
    simp only[Int.toNat_natCast]
    rw[if_pos hc0]
   ·have : l.drop k=[]:=List.drop_eq_nil_of_le (by omega)
    rw[this]
    exact .spot i o 0
  ·refine⟨some ⟨i,o+k*1,none⟩,n-k,c-k,fun X g=>?_,?_⟩
   ·have hX:=(g.cells hi).trans hc
    simp only[yslice,hX]
    rw[if_pos (.inl hrw)]
    simp only[xbound]
    rw[if_pos ⟨by omega,by omega⟩]
    simp only[Int.toNat_natCast]
    rw[if_neg hc0]
   ·rw[Nat.mul_one]
    refine .at hi hc (by omega) (by rw[List.length_drop];omega) (by omega) (fun j x hj=>?_)
    rw[List.getElem?_drop] at hj
    have:=hv _ x hj
    rw[Nat.add_assoc];exact this
theorem Sl.upto {A : Heap} {v : Value} {l : List Value} {k : Nat} (h : Sl A v l) (hr : Ro A) (hk : k≤l.length) : ∃ a n c,(∀ X,Grow A X→yslice Try.prog 3 1 X v none (some (.int .i64 (k : Int)))=some (.slice a n c))∧Sl A (.slice a n c) (l.take k):=by
 obtain⟨y,hy⟩:=h.take (P:=Try.prog) (e:=3) hr hk
 obtain⟨a,n,c,rfl⟩:=(hy A (.refl _)).2.isS
 exact⟨a,n,c,fun X g=>(hy X g).1,(hy A (.refl _)).2⟩
theorem vEq_sl (a : Option Addr) (n c : Nat) : vEq 3 (.slice a n c) (.slice a n c)=true:=by
 rcases a with _|⟨i,o,_|s⟩<;>simp[vEq,vEq0]
def sg (n k p : Nat) : Nat:=if p<n then (if p+k<n then p+k else p+k-n) else p
def tg (n k p : Nat) : Nat:=if p<n then (if k≤p then p-k else p+n-k) else p
theorem sg_pm {n k : Nat} (hn : n≤8) (hk : k<n) : Pm (sg n k) (tg n k):=by
 refine⟨fun p=>?_,fun p=>?_,fun p hp=>?_,fun p hp=>?_⟩<;>(try unfold sg)<;>(try unfold tg)<;>(repeat' split)<;>omega
theorem tg_tmod {n k p : Nat} (hp : p<n) (hk : k<n) : ((p : Int)+n-k).tmod n=(tg n k p : Nat):=by
 have e : (p : Int)+n-k=((p+n-k : Nat) : Int):=by omega
 rw[e,← Int.ofNat_tmod]
 unfold tg
 rw[if_pos hp]
 congr 1
 split
 ·have : p+n-k=(p-k)+n:=by omega
  rw[this,Nat.add_mod_right,Nat.mod_eq_of_lt (by omega)]
 ·exact Nat.mod_eq_of_lt (by omega)
theorem rot_gl {l : List Int} {k : Nat} (hk : k<l.length) (p : Nat) : gl0 (l.drop k++l.take k) p=gl0 l (sg l.length k p):=by
 have hlen : (l.drop k++l.take k).length=l.length:=by rw[List.length_append,List.length_drop,List.length_take];omega
 unfold sg
 by_cases hp : p<l.length
 ·rw[gl0_at (by omega),if_pos hp]
  by_cases h2 : p+k<l.length
  ·rw[if_pos h2,gl0_at h2,List.getElem_append_left (by rw[List.length_drop];omega),List.getElem_drop]
   congr 1;omega
  ·rw[if_neg h2,gl0_at (by omega),List.getElem_append_right (by rw[List.length_drop];omega),List.getElem_take]
   congr 1;rw[List.length_drop];omega
 ·rw[gl0_out (by omega),if_neg hp,gl0_out (by omega)]
theorem rot_vl {L : Int} {l : List Int} {k : Nat} (hk : k<l.length) : vl L (l.drop k++l.take k)=fun p=>vl L l (sg l.length k p):=by
 funext p
 unfold vl vts
 rw[rot_gl hk]
theorem rot_flt {m S L : Int} {l : List Int} {k : Nat} (h0 : flt m S L l=0) : flt m S L (l.drop k++l.take k)=0:=by
 obtain⟨hr,hl8,hb⟩:=flt_0.1 h0
 refine flt_0.2 ⟨hr,?_,fun v hv=>?_⟩
 ·rw[List.length_append,List.length_drop,List.length_take];omega
 ·rcases List.mem_append.1 hv with hv|hv
  ·exact hb v (List.mem_of_mem_drop hv)
  ·exact hb v (List.mem_of_mem_take hv)
theorem f17_all {H : Heap} {m S L by' : Int} {x : Value} {l : List Int} (hR : Ro H) (hx : Sl H x (l.map I)) (hby : 0≤by'∧by'≤255) : F Try.prog 17 ⟨[.agg ⟨A3 m S L⟩,x,.int .u8 by']⟩ H (fun w _=>w=.bool true):=by
 have h : LS H x l:=⟨hx⟩
 have hl:=h.len
 obtain⟨px,nx',cx,rfl⟩:=h.s.isS
 refine F.entryL rfl dg17 do17 de17 rfl (by kernel_rfl) ?_
 simp only[sets]
 refine V.re [(0,.agg ⟨A3 m S L⟩),(1,.slice px nx' cx),(2,.int .u8 by')] (N:=110) zE zY ?_
 intro t hF hA
 simp only[Kn,and_true] at hA
 refine zS ?_
 refine V.l0 ?_
 refine V.heap (fun X=>Grow H X∧Bx X H.next (A3 m S L) 23) ⟨?_,?_⟩ ?_
 ·exact zW
 ·exact zB
 rintro H1 ⟨g1,b1⟩
 refine zS ?_
 refine V.run ?_
 have zf:=b1.2
 refine VI.sz 2 ?_
 simp only[ds]
 refine VI.callA rfl (f48_ok (m:=m) (S:=S) (L:=L) (h.grow g1)) zA (fun H2 g2=>?_)
 have b2:=b1.grow g2
 have g12:=g1.trans g2
 have zf:=And.intro b2.2<|@hl
 refine VI.lz ?_
 refine zS ?_
 refine V.condP zP (fun h0=>?_) (fun h0=>?_)
 ·refine zS ?_
  refine V.run ?_
  refine VI.callA rfl (f20_ok _) zA (fun H3 g3=>?_)
  refine VI.l0 ?_
  refine zS ?_
  refine V.ret (V.rets rfl (Lv.retF (by simp +contextual (disch:=first|omega|simp only[nx];omega) only[D1,cells_alloc_at,cells_alloc_ne,cells_set_at,cells_set_ne,yres,yres1,yresL,qA,qB,qC,D5,hF,hA,↓reduceIte,qD,qE];rfl) ?_))
  rfl
 have h00 : flt m S L l=0∧¬ l.length=0:=by
  refine⟨?_,?_⟩
  ·exact Decidable.by_contra fun hh=>h0 (by simp[hh])
  ·exact fun hh=>h0 (by simp[hh])
 clear h0
 obtain⟨h0,hn0⟩:=h00
 obtain⟨hr,hl8,hb⟩:=flt_0.1 h0
 have hvk:=vl_ok (L:=L) hb
 have hv8:=vl_8 (L:=L) hl8
 have hS : 0≤S∧S≤61:=⟨hr.2.2.1,by have:=hr.2.2.2.1;omega⟩
 have hnz : ¬ (l.length : Int)=0:=by omega
 have htm:=tmod_bd (a:=by') (b:=l.length) hby.1 (by omega)
 obtain⟨k,hk⟩ : ∃ k : Nat,by'.tmod l.length=k:=⟨(by'.tmod l.length).toNat,by omega⟩
 have hkl : k<l.length:=by omega
 refine zS ?_
 have zf:=@hl
 refine V.lz ?_
 refine zS ?_
 have zf:=And.intro @hnz<|@hk
 refine V.lz ?_
 refine zS ?_
 refine V.run ?_
 have zf:=b2.2
 refine VI.sz 1 ?_
 simp only[ds]
 refine VI.callA rfl (f22_ok m S L _) zA (fun H3 g3=>?_)
 refine VI.s0 1 ?_
 simp only[ds]
 refine VI.callR zA (f24_ok (h.grow (g12.trans g3)) (by omega)) zA (fun w4 H4 ⟨g4,o4⟩=>?_)
 refine VI.callR zA (f23_ok (m:=m) (S:=S) (L:=L) (ow_ls o4) hS) zA (fun w5 H5 ⟨g5,s5⟩=>?_)
 have g25:=(g3.trans g4).trans g5
 have b5:=b2.grow g25
 have gH5:=g12.trans g25
 obtain⟨y1,e1,rfl,k1⟩:=s5.ok h0
 refine VI.l0 ?_
 refine zS ?_
 obtain⟨a1,n1,c1,ha,sa⟩:=Sl.from hx hR (k:=k) (by rw[List.length_map];omega)
 obtain⟨a2,n2,c2,hb2,sb⟩:=Sl.upto hx hR (k:=k) (by rw[List.length_map];omega)
 have sa' : LS H (.slice a1 n1 c1) (l.drop k):=⟨by unfold Li;rw[List.map_drop];exact sa⟩
 have sb' : LS H (.slice a2 n2 c2) (l.take k):=⟨by unfold Li;rw[List.map_take];exact sb⟩
 refine V.draw ?_
 have zf:=b5.2
 refine VD.nz 1 ?_
 simp only[ds]
 refine VD.callA zA (f22_ok m S L H5) zA (fun H6 g6=>?_)
 have gH6:=gH5.trans g6
 have hs1:=ha H6 gH6
 have zf:=@hs1
 refine VD.nz 3 ?_
 simp only[ds]
 refine VD.callR zA (f24_ok (sa'.grow gH6) (by rw[List.length_drop];omega)) zA (fun w7 H7 ⟨g7,o7⟩=>?_)
 have gH7:=gH6.trans g7
 have hs2:=hb2 H7 gH7
 have hs3:=ha H7 gH7
 obtain⟨w8,H8,p1,p2,p3,p4⟩:=Ow.append (bytes:=8) g7 o7 (sb'.grow gH7).s (Li_ok _) (by rw[Li_len,Li_len,List.length_drop,List.length_take];omega) (by rw[Li_len,Li_len,List.length_drop,List.length_take];omega)
 have gH8:=gH6.trans p3
 have hs4:=hb2 H8 gH8
 have hs5:=ha H8 gH8
 have p2' : Ow H6 H8 3 w8 (Li (l.drop k++l.take k)):=by
  unfold Li at p2 ⊢
  rw[List.map_append];exact p2
 have zf:=And.intro @hs2<|@p1
 refine VD.nz 4 ?_
 simp only[ds]
 refine VD.callR zA (f23_ok (m:=m) (S:=S) (L:=L) (ow_ls p2') hS) zA (fun w9 H9 ⟨g9,s9⟩=>?_)
 have gH9:=gH8.trans g9
 have hs6:=hb2 H9 gH9
 have hs7:=ha H9 gH9
 have rf:=rot_flt (k:=k) h0
 obtain⟨y2,e2,rfl,k2⟩:=s9.ok rf
 have m6:=g6.1
 have m7:=g7.1
 have m8:=p4.1
 have m9:=g9.1
 refine VD.d0 ?_ ?_ rfl ?_
 ·exact zM
 ·simp only[dcAll,dcOk,wantD,List.cons_append,List.nil_append,true_and,and_true]
  have v1:=vEq_sl a1 n1 c1
  have v2:=vEq_sl a2 n2 c2
  have r1:=ha H5 gH5
  have r2:=hb2 H5 gH5
  have r3:=hb2 H6 gH6
  have zf:=And.intro @r1<|And.intro @r2<|@r3
  exact⟨zR,zR⟩
 refine zS ?_
 have hrl : (l.drop k++l.take k).length=l.length:=by rw[List.length_append,List.length_drop,List.length_take];omega
 have pm:=sg_pm hl8 hkl
 have hvr:=rot_vl (L:=L) hkl
 have hsu : sure m S (vl L (l.drop k++l.take k))↔sure m S (vl L l):=by rw[hvr];exact pm.sure m S _
 have hot : ∀ p,(otc m S (vl L (l.drop k++l.take k))).1 p=(otc m S (vl L l)).1 (sg l.length k p):=fun p=>by
  rw[hvr,pm.otc]
 obtain⟨A,hA0⟩ : ∃ A,A=(otc m S (vl L l)).1:=⟨_,rfl⟩
 obtain⟨B,hB0⟩ : ∃ B,B=(otc m S (vl L (l.drop k++l.take k))).1:=⟨_,rfl⟩
 rw[hrl] at k2
 rw[← hA0] at k1 hot
 rw[← hB0] at k2 hot
 have gH59 : Grow H5 H9:=((g6.trans p3)).trans g9
 have hBA : ∀ p,p<l.length→B (tg l.length k p)=A p:=fun p _=>by rw[hot,pm.r]
 have hAA : ∀ i j,i<l.length→j<l.length→gl0 l i=gl0 l j→A i=A j:=fun i j hi hj he=>by
  rw[hA0]
  exact otc_eq (by omega) (by omega) (by unfold vl vts;rw[he])
 have both : e1=e2∧∃ l1 l2 : List Int,LS H9 y1 l1∧LS H9 y2 l2∧l1.length=l2.length∧((l1=[]∧l2=[])∨(l1=fl l.length A∧l2=fl l.length B)):=by
  rcases k1 with⟨ns,rfl,rfl⟩|⟨su,rfl,q1⟩
  ·rcases k2 with⟨_,rfl,rfl⟩|⟨su',_,_⟩
   ·exact⟨rfl,[],[],ls_nil _,ls_nil _,rfl,.inl ⟨rfl,rfl⟩⟩
   ·exact absurd (hsu.1 su') ns
  ·rcases k2 with⟨ns',_,_⟩|⟨_,rfl,q2⟩
   ·exact absurd (hsu.2 su) ns'
   ·exact⟨rfl,_,_,q1.grow gH59,q2,by rw[fl_len,fl_len],.inr ⟨rfl,rfl⟩⟩
 clear k1 k2
 obtain⟨rfl,l1,l2,q1,q2,hll,hcase⟩:=both
 have ql1:=q1.len
 have ql2:=q2.len
 rw[← hll] at ql2
 have hn1 : l1.length≤l.length:=by
  rcases hcase with⟨rfl,_⟩|⟨rfl,_⟩
  ·simp
  ·rw[fl_len];omega
 have hee : (e1=e1)=True:=eq_self _
 refine V.line' (by simp +contextual (disch:=first|omega|simp only[nx];omega) only[D4,qF,qG,qA,qB,qC,D5,hF,hA,↓reduceIte,qD,qE,ql1,ql2,hee,not_true_eq_false,not_false_eq_true];with_reducible rfl) ?_
 refine zS ?_
 refine V.condF zA ?_
 refine zS ?_
 refine V.l0 ?_
 refine zS ?_
 refine V.loop (fun z t mm X=>∃ (p : Nat),p≤l1.length∧z=l1.length-p∧mm=[]∧X=H9∧Full 110 t∧Kn [(1,.slice px nx' cx),(7,I l.length),(8,I k),(9,y1),(11,y2),(13,I p)] t) l1.length ?_ ?_
 ·exact⟨0,by omega,by omega,rfl,rfl,zF,zK⟩
 clear hF hA
 rintro z t mm X ⟨p,hp,rfl,rfl,hX,hF,hA⟩
 obtain rfl : H9=X:=hX.symm
 simp only[Kn,and_true] at hA
 refine zS ?_
 have zf:=@ql1
 refine V.lz ?_
 refine zS ?_
 refine V.condP zP (fun hlt=>?_) (fun hlt=>?_)
 ·have hlt' : p<l1.length:=by omega
  have hpn : p<l.length:=by omega
  obtain⟨e1',e2'⟩ : l1=fl l.length A∧l2=fl l.length B:=by
   rcases hcase with⟨k,_⟩|k
   ·rw[k] at hlt';simp at hlt'
   ·exact k
  have htg : tg l.length k p<l.length:=by unfold tg;(repeat' split)<;>omega
  have hq:=tg_tmod hpn hkl
  obtain⟨pa,pa1,pa2⟩:=q1.at hlt'
  obtain⟨pb,pb1,pb2⟩:=q2.at (k:=tg l.length k p) (by rw[e2',fl_len];exact htg)
  have pa3:=pa2 H9 (.refl _)
  have pb3:=pb2 H9 (.refl _)
  have v1 : l1[p]=A p:=by simp only[e1',fl_at]
  have v2 : l2[tg l.length k p]'(by rw[e2',fl_len];exact htg)=A p:=by simp only[e2',fl_at];exact hBA p hpn
  rw[v1] at pa3
  rw[v2] at pb3
  obtain⟨q,hq0⟩ : ∃ q,q=tg l.length k p:=⟨_,rfl⟩
  rw[← hq0] at pb1 hq
  refine zS ?_
  have zf:=And.intro @hnz<|And.intro @hq<|And.intro @pa1<|And.intro @pa3<|And.intro @pb1<|@pb3
  refine V.dz ?_ ?_ rfl ?_
  ·exact zM
  ·simp only[dcAll,dcOk,wantD,List.cons_append,List.nil_append,true_and,and_true]
  refine zS ?_
  refine V.condP zP (fun hc=>?_) (fun hc=>?_)
  ·exact absurd trivial hc
  clear hc
  refine zS ?_
  refine V.l0 ?_
  refine zS ?_
  refine V.loop (fun z t mm Y=>∃ (o : Nat),o≤p∧z=p-o∧mm=[]∧Y=H9∧Full 110 t∧Kn [(1,.slice px nx' cx),(7,I l.length),(8,I k),(9,y1),(11,y2),(13,I p),(14,I o)] t) p ?_ ?_
  ·exact⟨0,by omega,by omega,rfl,rfl,zF,zK⟩
  clear hF hA
  rintro z t mm Y ⟨o,ho,rfl,rfl,hY,hF,hA⟩
  obtain rfl : H9=Y:=hY.symm
  simp only[Kn,and_true] at hA
  refine zS ?_
  refine V.l0 ?_
  refine zS ?_
  refine V.condP zP (fun hlo=>?_) (fun hlo=>?_)
  ·have hlo' : o<p:=by omega
   have hon : o<l.length:=by omega
   obtain⟨po,po1,po2⟩:=q1.at (k:=o) (by omega)
   have po3:=po2 H9 (.refl _)
   have v3 : l1[o]'(by omega)=A o:=by simp only[e1',fl_at]
   rw[v3] at po3
   obtain⟨lo,lo1,lo2⟩:=h.at hon
   obtain⟨lp,lp1,lp2⟩:=h.at hpn
   have lo3:=lo2 H9 gH9
   have lp3:=lp2 H9 gH9
   refine zS ?_
   by_cases he : l[o]=l[p]
   ·have he' : (l[o]=l[p])=True:=eq_true he
    have hs:=hAA o p hon hpn (by rw[gl0_at hon,gl0_at hpn];exact he)
    have hs' : (A o=A p)=True:=eq_true hs
    refine V.lineD' (by simp +contextual (disch:=first|omega|simp only[nx];omega) only[D4,qF,qG,qA,qB,qC,D5,hF,hA,↓reduceIte,qD,qE,he',hs',not_true_eq_false,lo1,lo3,lp1,lp3,po1,po3,pa1,pa3];with_reducible rfl) ?_ ?_ rfl ?_
    ·exact zM
    ·simp only[dcAll,dcOk,wantD,List.cons_append,List.nil_append,true_and,and_true]
    refine zS ?_
    refine V.condF zA ?_
    refine zS ?_
    refine V.l0 ?_
    refine V.nil (Or.inl ⟨rfl,p-(o+1),by omega,?_⟩)
    exact⟨o+1,hlo',rfl,rfl,rfl,zF,zK⟩
   ·have he' : (l[o]=l[p])=False:=eq_false he
    refine V.lineD' (by simp +contextual (disch:=first|omega|simp only[nx];omega) only[D4,qF,qG,qA,qB,qC,D5,hF,hA,↓reduceIte,qD,qE,he',not_true_eq_false,lo1,lo3,lp1,lp3];with_reducible rfl) ?_ ?_ rfl ?_
    ·exact zM
    ·simp only[dcAll,dcOk,wantD,List.cons_append,List.nil_append,true_and,and_true]
    refine zS ?_
    refine V.condF zA ?_
    refine zS ?_
    refine V.l0 ?_
    refine V.nil (Or.inl ⟨rfl,p-(o+1),by omega,?_⟩)
    exact⟨o+1,hlo',rfl,rfl,rfl,zF,zK⟩
  ·refine V.exit ?_
   refine zX ?_
   refine V.nil (Or.inr ⟨by simp,?_⟩)
   refine zX ?_
   refine zS ?_
   refine V.l0 ?_
   refine V.nil (Or.inl ⟨rfl,l1.length-(p+1),by omega,?_⟩)
   exact⟨p+1,hlt',rfl,rfl,rfl,zF,zK⟩
 ·refine V.exit ?_
  refine zX ?_
  refine V.nil (Or.inr ⟨by simp,?_⟩)
  refine zX ?_
  refine zS ?_
  refine V.run ?_
  refine VI.callA rfl (f20_ok _) zA (fun Ha ga=>?_)
  refine VI.l0 ?_
  refine zS ?_
  refine V.ret (V.rets rfl (Lv.retF (by simp +contextual (disch:=first|omega|simp only[nx];omega) only[D1,cells_alloc_at,cells_alloc_ne,cells_set_at,cells_set_ne,yres,yres1,yresL,qA,qB,qC,D5,hF,hA,↓reduceIte,qD,qE];rfl) ?_))
  rfl
end Go.Xe.TVX
/- Rules of reasoning over the executable reading of the model's code (part Z16): arguments, by what their types allow. Conditions: none; for every program. -/
namespace Go.Xe
open Go Go.RowKit Go.ChangeShapes Go.WideShapes
theorem okWide_agg {P : Program} {w : World} {r : Reach} {base : Nat} {t : TypeId} {v : Value} {fs : Array Field} (ht : P.underlying t=some (.struct fs)) (h : Value.okWide P w r base t v) : ∃ cs,v=.agg cs:=by
 unfold Value.okWide at h
 rw[ht] at h
 obtain⟨cs,h,_⟩:=h
 exact⟨cs,h⟩
end Go.Xe
/- The end of a call that has changed nothing of what was there: what a statement asks of the memory behind it. Conditions: as post_of_same's, but that new memory may be frozen. -/
namespace Go.Xe
open Go Go.RowKit Go.ChangeShapes Go.WideShapes
variable {H : Type} {enc : TypeId×Value→H} {P : Program}
theorem post_of_old {f : Func} {s : ChangeSpec} {apart fresh handsOn again : Bool} {W W' : World} {args : Array Value} {v : Value} {ds gs : List (DataW H)} {before pa pv : List MemPlace}
  (hW : DataW.Whole enc P f.params.toList s.vars apart W args.toList ds gs before)
  (hres : ∀ (b : Nat) (sp : Nat→Bool) (hd : Bool),DataW.TrodAll enc P W' b sp hd f.resultTypes.toList (v.resultList f.resultTypes.size) (s.fn H (ds++gs)).results [])
  (hargs : ∀ sp : Nat→Bool,(∀ p∈before,sp p.block=true)→DataW.TrodAll enc P W' 0 sp true f.params.toList args.toList (s.fn H (ds++gs)).args pa)
  (hvars : ∀ sp : Nat→Bool,(∀ p∈before,sp p.block=true)→DataW.TrodVars enc P W' sp s.vars (s.fn H (ds++gs)).vars pv)
  (hps : before=pa++pv) (hk : W.keptBut W' (·∈before)) (hfz : ∀ a : Addr,a.block<W.heap.size→W'.frozen? a=W.frozen? a)
  (hok : ∀ (j : Nat) (t : TypeId) (r : Value),f.resultTypes[j]?=some t→(v.resultList f.resultTypes.size)[j]?=some r→Value.okWide P W' .any 0 t r) :
  s.post enc P f apart fresh handsOn again W args v W':=by
 have old : ∀ p∈before,p.block<W.heap.size:=fun p hp=>hW.lt p hp
 have hold : ∀ p∈before,(fun b=>decide (b<W.heap.size)) p.block=true:=fun p hp=>by simpa using old p hp
 subst hps
 refine⟨ds,gs,_,[],pa,pv,hW,hres _ _ _,hargs _ hold,hvars _ hold,World.keptBut_mono (fun p hp=>⟨hp,.inr (List.mem_append.1 hp)⟩) hk,fun _=>?_⟩
 obtain⟨_,_,_,_,_,hz,hn⟩:=hW
 refine⟨hok,_,_,([]++pa)++pv,⟨[]++pa,pv,trodAll_append (hargs _ (fun _ _=>rfl)) (hres _ _ _),hvars _ (fun _ _=>rfl),rfl,?_,?_⟩,?_⟩
 ·intro b off hp
  have hp' : MemPlace.cell b off∈pa++pv:=by simpa using hp
  rw[hfz _ (old _ hp')]
  exact hz b off hp'
 ·intro ha
  simpa using hn ha
 ·intro p hp _
  simpa using hp
end Go.Xe
