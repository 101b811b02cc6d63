/- BorderSame: when each street stays in its district. Conditions: none. -/
import Derived.Test.YtgcdbdcnlhonfaaTCL
import Derived.Test.YtgcdbdcnlhonfaaZm
import Derived.WideShapes
import Derived.ChangeSame
import Derived.Below
-- MOD TB
namespace Go.Xe.TBX
open Go Go.Xe Go.Proofs
open Nat renaming reduceLeDiff → qA, reduceSub → qB, reduceAdd → qC, reduceEqDiff → qD, reduceLT → qE
open Int renaming reduceNegSucc → qF, reduceEq → qG
open Go.Xe.V renaming seq → sA, block → sB, scope → sC, skip → sD, close → sE
open Go.Xe renaming pth → P
open Go.Xe.Rnd
open Go.Xe.Sea (adl adl_1 adl_at mem_adl pix pix_at pix_adl adl_len)
set_option maxRecDepth 100000
set_option maxHeartbeats 3200000
set_option linter.unusedSimpArgs false
noncomputable def d10 : FCode:=(.seq (.run (.go (.box 26 (tm 0)) (P 1)::
.go (.move (.con (.bool false))) (P 2)::
[])) (.seq (.seq (.run (.go (.loadN 4 (tm 1)) (P 11)::
.go (.call (.con (.func (.func 49) ⟨[]⟩ ⟨[]⟩)) [tm 11]) (P 12)::
.go (.un .not (tm 12)) (P 13)::
[])) (.cond (tm 13) (.seq (.run (.go (.call (.con (.func (.func 17) ⟨[]⟩ ⟨[]⟩)) []) (P 14)::
.go (.move (tm 14)) (P 2)::
[])) .ret) .skip)) (.seq (.run (.go (.loadN 4 (tm 1)) (P 15)::
.go (.alloc 26 [(.slice none 0 0),(.int .i64 (.ofNat 0)),(.slice none 0 0),(.slice none 0 0)]) (P 3)::
.un (.store 4 (tm 3) (tm 15))::
[])) (.seq (.run (.go (.fieldAddr 0 (tm 1)) (P 16)::
.go (.load1 (tm 16)) (P 17)::
.go (.len 0 (tm 17)) (P 18)::
.go (.fieldAddr 1 (tm 3)) (P 19)::
.un (.store 1 (tm 19) (tm 18))::
[])) (.seq (.run (.go (.buildSlice 54 0 [] []) (P 20)::
.go (.fieldAddr 2 (tm 1)) (P 21)::
.go (.load1 (tm 21)) (P 22)::
.go (.append 54 5 40 (tm 20) (tm 22)) (P 23)::
.go (.fieldAddr 2 (tm 3)) (P 24)::
.un (.store 1 (tm 24) (tm 23))::
[])) (.seq (.seq (.run (.go (.move (.con (.int .i64 (.ofNat 0)))) (P 4)::
[])) (.block 0 (.loop (.seq (.seq (.run (.go (.move (tm 4)) (P 25)::
.go (.fieldAddr 2 (tm 3)) (P 26)::
.go (.load1 (tm 26)) (P 27)::
.go (.len 0 (tm 27)) (P 28)::
.go (.bin .lss 3 (tm 25) (tm 28)) (P 29)::
[])) (.cond (tm 29) .skip (.exit 0))) (.seq (.block 1 (.draw 12 (.go (.fieldAddr 2 (tm 3)) (P 32)::
.go (.load1 (tm 32)) (P 33)::
.go (.move (tm 4)) (P 34)::
.go (.fieldAddr 2 (tm 3)) (P 35)::
.go (.load1 (tm 35)) (P 36)::
.go (.move (tm 4)) (P 37)::
.go (.indexAddr none 5 (tm 36) (tm 37)) (P 38)::
.go (.fieldAddr 0 (tm 38)) (P 39)::
.go (.load1 (tm 39)) (P 40)::
.go (.indexAddr none 5 (tm 33) (tm 34)) (P 41)::
.go (.fieldAddr 1 (tm 41)) (P 42)::
.un (.store 1 (tm 42) (tm 40))::
[]) [.ok,.ok,.ok,.ok,.ok,.ok,.ok,.ok,.ok,.ok,.ok,.ok])) (.run (.go (.move (tm 4)) (P 30)::
.go (.bin .add 3 (tm 30) (.con (.int .i64 (.ofNat 1)))) (P 31)::
.go (.move (tm 31)) (P 4)::
[]))))))) (.seq (.run (.go (.loadN 4 (tm 3)) (P 44)::
.go (.call (.con (.func (.func 19) ⟨[]⟩ ⟨[]⟩)) [tm 44]) (P 45)::
.go (.call (.con (.func (.func 20) ⟨[]⟩ ⟨[]⟩)) [tm 45]) (P 46)::
.go (.move (tm 46)) (P 43)::
.go (.extract (tm 43) 0) (P 47)::
.go (.extract (tm 43) 1) (P 48)::
.go (.extract (tm 43) 2) (P 49)::
.go (.move (tm 47)) (P 5)::
.go (.move (tm 48)) (P 6)::
.go (.move (tm 49)) (P 7)::
[])) (.seq (.run (.go (.loadN 4 (tm 3)) (P 51)::
.go (.call (.con (.func (.func 19) ⟨[]⟩ ⟨[]⟩)) [tm 51]) (P 52)::
.go (.call (.con (.func (.func 27) ⟨[]⟩ ⟨[]⟩)) [tm 52]) (P 53)::
.go (.move (tm 53)) (P 50)::
.go (.extract (tm 50) 0) (P 54)::
.go (.extract (tm 50) 1) (P 55)::
.go (.move (tm 54)) (P 8)::
.go (.move (tm 55)) (P 9)::
[])) (.seq (.seq (.run (.go (.move (tm 7)) (P 56)::
.go (.bin .neq 29 (tm 56) (.con (.int .i64 (.ofNat 0)))) (P 57)::
.go (.move (tm 57)) (P 58)::
.gd (P 58) false (.move (tm 6)) (P 59)::
.gd (P 58) false (.fieldAddr 0 (tm 1)) (P 60)::
.gd (P 58) false (.load1 (tm 60)) (P 61)::
.gd (P 58) false (.call (.con (.func (.func 23) ⟨[]⟩ ⟨[]⟩)) [(tm 59),(tm 61)]) (P 62)::
.gd (P 58) false (.un .not (tm 62)) (P 63)::
.go (.pick (tm 58) (.con (.bool true)) (tm 63)) (P 64)::
.go (.move (tm 64)) (P 65)::
.gd (P 65) false (.move (tm 9)) (P 66)::
.gd (P 65) false (.bin .neq 29 (tm 66) (.con (.int .i64 (.ofNat 0)))) (P 67)::
.go (.pick (tm 65) (.con (.bool true)) (tm 67)) (P 68)::
.go (.move (tm 68)) (P 69)::
.gd (P 69) false (.move (tm 8)) (P 70)::
.gd (P 69) false (.len 0 (tm 70)) (P 71)::
.gd (P 69) false (.fieldAddr 0 (tm 1)) (P 72)::
.gd (P 69) false (.load1 (tm 72)) (P 73)::
.gd (P 69) false (.len 0 (tm 73)) (P 74)::
.gd (P 69) false (.bin .neq 3 (tm 71) (tm 74)) (P 75)::
.go (.pick (tm 69) (.con (.bool true)) (tm 75)) (P 76)::
[])) (.cond (tm 76) (.seq (.run (.go (.move (.con (.bool false))) (P 2)::
[])) .ret) .skip)) (.seq (.seq (.run (.go (.move (.con (.int .i64 (.ofNat 0)))) (P 10)::
[])) (.block 2 (.loop (.seq (.seq (.run (.go (.move (tm 10)) (P 77)::
.go (.move (tm 8)) (P 78)::
.go (.len 0 (tm 78)) (P 79)::
.go (.bin .lss 3 (tm 77) (tm 79)) (P 80)::
[])) (.cond (tm 80) .skip (.exit 2))) (.seq (.block 3 (.seq (.draw 16 (.go (.move (tm 8)) (P 83)::
.go (.move (tm 10)) (P 84)::
.go (.indexAddr none 2 (tm 83) (tm 84)) (P 85)::
.go (.loadN 2 (tm 85)) (P 86)::
.go (.fieldAddr 0 (tm 1)) (P 87)::
.go (.load1 (tm 87)) (P 88)::
.go (.move (tm 10)) (P 89)::
.go (.indexAddr none 1 (tm 88) (tm 89)) (P 90)::
.go (.load1 (tm 90)) (P 91)::
.go (.fieldAddr 0 (tm 1)) (P 92)::
.go (.load1 (tm 92)) (P 93)::
.go (.move (tm 10)) (P 94)::
.go (.indexAddr none 1 (tm 93) (tm 94)) (P 95)::
.go (.load1 (tm 95)) (P 96)::
.go (.call (.con (.func (.func 48) ⟨[]⟩ ⟨[]⟩)) [(tm 91),(tm 96)]) (P 97)::
.go (.bin .neq 62 (tm 86) (tm 97)) (P 98)::
[]) [.ok,.ok,.ok,.rd none (.loadN 2 (tm 85)) (some (P 86)) [15],.ok,.ok,.ok,.ok,.ok,.ok,.ok,.ok,.ok,.ok,.ok,.ok]) (.cond (tm 98) (.seq (.run (.go (.move (.con (.bool false))) (P 2)::
[])) .ret) .skip))) (.run (.go (.move (tm 10)) (P 81)::
.go (.bin .add 3 (tm 81) (.con (.int .i64 (.ofNat 1)))) (P 82)::
.go (.move (tm 82)) (P 10)::
[]))))))) (.seq (.run (.go (.call (.con (.func (.func 17) ⟨[]⟩ ⟨[]⟩)) []) (P 99)::
.go (.move (tm 99)) (P 2)::
[])) .ret)))))))))))
theorem de10 : @compF Try.prog (Gl.none Try.prog) Try.f10 1=.mk d10 (mkTT 100) [(P 0)] [.tmp (P 2)]:=by kernel_rfl
theorem dg10 : Try.prog.funcs[10]?=some Try.f10:=Try.func10
theorem do10 : okF Try.prog Try.f10=true:=by kernel_rfl
def mpS (φ : St→St) (k : Nat) (S : List St) : List St:=S.mapIdx fun i s=>if i<k then φ s else s
theorem mpS_len {φ : St→St} {k : Nat} {S : List St} : (mpS φ k S).length=S.length:=by simp[mpS]
theorem mpS_0 {φ : St→St} {S : List St} : mpS φ 0 S=S:=by
 apply List.ext_getElem
 ·simp[mpS]
 ·intro i h1 h2
  simp[mpS]
theorem mpS_end {φ : St→St} {S : List St} : mpS φ S.length S=S.map φ:=by
 apply List.ext_getElem
 ·simp[mpS]
 ·intro i h1 h2
  have : i<S.length:=by simpa using h2
  simp[mpS,this]
theorem mpS_at {φ : St→St} {k : Nat} {S : List St} (h : k<S.length) : (mpS φ k S)[k]'(by rw[mpS_len];exact h)=S[k]:=by
 simp[mpS]
theorem mpS_1 {φ : St→St} {k : Nat} {S : List St} (h : k<S.length) : (mpS φ k S).set k (φ S[k])=mpS φ (k+1) S:=by
 apply List.ext_getElem
 ·simp[mpS]
 ·intro i h1 h2
  have hi : i<S.length:=by simpa [mpS] using h2
  rw[List.getElem_set]
  split
  ·rename_i e
   subst e
   simp[mpS]
  ·rename_i e
   simp only[mpS,List.getElem_mapIdx]
   by_cases c1 : i<k
   ·rw[if_pos c1,if_pos (by omega)]
   ·rw[if_neg c1,if_neg (by omega)]
def sta (s : St) : St:={ s with new:=s.old }
theorem s5_sta {s : St} : (s5 s).set 1 (I s.old)=s5 (sta s):=rfl
def saM (M : BM) : BM:={ M with N:=M.O.length,S:=M.S.map sta }
section
variable {M : BM}
theorem sa_len : (saM M).S.length=M.S.length:=by simp[saM]
theorem sa_old : oldF (saM M)=oldF M:=by
 funext i
 unfold oldF saM
 simp only[List.getElem?_map]
 cases M.S[i]?<;>rfl
theorem sa_new : newF (saM M)=oldF M:=by
 funext i
 unfold newF oldF saM
 simp only[List.getElem?_map]
 cases M.S[i]?<;>rfl
theorem sa_w : wF (saM M)=wF M:=by
 funext i
 unfold wF saM
 simp only[List.getElem?_map]
 cases M.S[i]?<;>rfl
theorem sa_lo : loF (saM M)=loF M:=by
 funext i
 unfold loF saM
 simp only[List.getElem?_map]
 cases M.S[i]?<;>rfl
theorem sa_hi : hiF (saM M)=hiF M:=by
 funext i
 unfold hiF saM
 simp only[List.getElem?_map]
 cases M.S[i]?<;>rfl
theorem sa_vd {d : Nat} : vd (saM M) d=vd M d:=by unfold vd;rw[sa_len,sa_old]
theorem sa_shr : shr (saM M)=shr M:=by
 funext i
 unfold shr dsh wsa
 rw[sa_old,sa_vd,sa_w]
 rfl
theorem sa_lot {d : Nat} : lot (saM M) d=lot M d:=by unfold lot;rw[sa_len,sa_old,sa_lo]
theorem sa_hit {d : Nat} : hit (saM M) d=hit M d:=by unfold hit;rw[sa_len,sa_old,sa_hi]
theorem sa_so {d : Int} : ∀ S : List St,so (·.w) d (S.map sta)=so (·.w) d S:=by
 intro S
 unfold so
 rw[List.map_map]
 rfl
theorem sa_bE (h : bE M=0) : bE (saM M)=0:=by
 obtain⟨h1,h2⟩:=bE_0.1 h
 obtain⟨hf,hv⟩:=fltM_0.1 h1
 have G:=VM.of hf hv
 refine bE_0.2 ⟨fltM_0.2 ⟨?_,?_⟩,fun d hd=>?_⟩
 ·unfold fits at hf ⊢
  rw[sa_len]
  exact hf
 ·obtain⟨v1,v2,v3,v4,v5,v6,v7⟩:=hv
  refine⟨v1,v2,v1,by rw[sa_len];exact v4,fun s hs=>?_,fun r hr=>?_,?_⟩
  ·obtain⟨s',hs',rfl⟩:=List.mem_map.1 hs
   have:=v5 s' hs'
   unfold sok wi at this ⊢
   simp only[sta,saM] at this ⊢
   omega
  ·have:=v6 r hr
   unfold jok at this ⊢
   rw[sa_len]
   exact this
  ·unfold wpos at v7 ⊢
   simp only[saM,sa_so]
   exact v7
 ·rw[sa_lot,sa_hit]
  exact h2 d hd
theorem sF_pS {n : Nat} {g f : Nat→Int} {k : Int} : sF n g f k=pS n (fun i=>g i=k) f:=rfl
theorem sa_sum (G : VM M) {q : Nat} (hq : q<M.O.length) : sF M.S.length (oldF M) (shr M) (q : Int)=M.O.getD q 0:=by
 have ot:=G.ot hq
 have h1:=owd_end G hq
 unfold owd at h1
 have h2:=adl_sm (v:=vd M q) (f:=shr M) M.S.length
 rw[h1] at h2
 have h3 : sm (dsh M q)=M.O.getD q 0:=by
  unfold dsh
  rw[ot.1,(dv_shares ot.2.1 (fun w hw=>(G.wb w hw).1) (G.sp hq)).2.1]
 rw[sF_pS,← h3,h2]
 exact pS_cong fun i hi=>⟨fun h=>vd_pos.2 ⟨hi,h⟩,fun h=>(vd_pos.1 h).2⟩
theorem pS_none {n : Nat} {P : Nat→Prop} [DecidablePred P] {f : Nat→Int} (h : ∀ i,i<n→¬ P i) : pS n P f=0:=by
 induction n with
 | zero=>rfl
 | succ n ih=>rw[pS_1,if_neg (h n (by omega)),ih (fun i hi=>h i (by omega))];rfl
theorem sa_rg (hl : lie M) {d q : Nat} (hd : d<M.O.length) : rgL (saM M) d (fun i=>newF (saM M) i=q)=(if d=q then M.O.getD d 0 else 0)∧rgH (saM M) d (fun i=>newF (saM M) i=q)=if d=q then M.O.getD d 0 else 0:=by
 have hld:=hl d hd
 have hO : (saM M).O=M.O:=rfl
 rw[rgH_min]
 unfold rgL qL qH
 rw[hO,sa_len,sa_old,sa_new,sa_lo,sa_hi]
 by_cases e : d=q
 ·subst e
  have e1 : pS M.S.length (fun i=>oldF M i=d∧oldF M i=d) (loF M)=lot M d:=pS_cong fun i _=>⟨fun h=>⟨h.1,trivial⟩,fun h=>⟨h.1,h.1⟩⟩
  have e2 : pS M.S.length (fun i=>oldF M i=d∧oldF M i=d) (hiF M)=hit M d:=pS_cong fun i _=>⟨fun h=>⟨h.1,trivial⟩,fun h=>⟨h.1,h.1⟩⟩
  have e3 : pS M.S.length (fun i=>oldF M i=d∧¬ oldF M i=d) (loF M)=0:=pS_none fun i _ h=>h.2 h.1
  have e4 : pS M.S.length (fun i=>oldF M i=d∧¬ oldF M i=d) (hiF M)=0:=pS_none fun i _ h=>h.2 h.1
  rw[e1,e2,e3,e4,if_pos rfl]
  constructor
  ·split<;>omega
  ·omega
 ·have e1 : pS M.S.length (fun i=>oldF M i=d∧oldF M i=q) (loF M)=0:=pS_none fun i _ h=>e (by omega)
  have e2 : pS M.S.length (fun i=>oldF M i=d∧oldF M i=q) (hiF M)=0:=pS_none fun i _ h=>e (by omega)
  have e3 : pS M.S.length (fun i=>oldF M i=d∧¬ oldF M i=q) (loF M)=lot M d:=pS_cong fun i _=>⟨fun h=>⟨h.1,trivial⟩,fun h=>⟨h.1,by omega⟩⟩
  have e4 : pS M.S.length (fun i=>oldF M i=d∧¬ oldF M i=q) (hiF M)=hit M d:=pS_cong fun i _=>⟨fun h=>⟨h.1,trivial⟩,fun h=>⟨h.1,by omega⟩⟩
  rw[e1,e2,e3,e4,if_neg e]
  constructor
  ·split<;>omega
  ·omega
theorem sm_one {f : Nat→Int} {q : Nat} : ∀ n : Nat,sm ((List.range n).map fun d=>if d=q then f d else 0)=if q<n then f q else 0
 | 0=>by simp[sm]
 | n+1=>by
  have e0 : sm ([n].map fun d=>if d=q then f d else 0)=if n=q then f n else 0:=by simp[sm]
  rw[List.range_succ,List.map_append,sm_app,sm_one n,e0]
  by_cases e : n=q
  ·subst e;rw[if_neg (show ¬ n<n by omega),if_pos rfl,if_pos (show n<n+1 by omega)];omega
  ·rw[if_neg e]
   by_cases e2 : q<n
   ·rw[if_pos e2,if_pos (show q<n+1 by omega)];omega
   ·rw[if_neg e2,if_neg (show ¬ q<n+1 by omega)];omega
theorem key62 {a b : Int} (ha : (Lit.int .i64 a).wf=true) (hb : (Lit.int .i64 b).wf=true) : (keyOf Try.prog 62 (.agg ⟨A2 a b⟩)).isSome=true:=by
 have c3 : Try.prog.cellsOf 3=1:=by kernel_rfl
 have c48 : Try.prog.cellsOf 62=2:=by kernel_rfl
 have h5 : (Program.keyType Try.prog 62 && (Value.agg ⟨[I a,I b]⟩).formed Try.prog 62)=true:=by kernel_rfl
 obtain⟨n,hn⟩ : ∃ n,Try.prog.types.size+1=n+2:=⟨Try.prog.types.size-1,by have : 2≤Try.prog.types.size:=Nat.le_of_ble_eq_true (by kernel_rfl);omega⟩
 unfold keyOf
 simp only[Try.underlying62]
 rw[if_pos h5,hn]
 unfold Program.keyLits
 simp only[Try.underlying62,c48]
 have e : (Value.agg ⟨[I a,I b]⟩).cells.toList=[I a,I b]:=rfl
 rw[e,if_pos ⟨rfl,by simp⟩]
 simp[c3,kl_int ha,kl_int hb]
theorem neq62 {a b c d : Int} (ha : -1000000≤a∧a≤1000000) (hb : -1000000≤b∧b≤1000000) (hc : -1000000≤c∧c≤1000000) (hd : -1000000≤d∧d≤1000000) : xbinOp Try.prog .neq 62 (.agg ⟨A2 a b⟩) (.agg ⟨A2 c d⟩)=some (.bool (decide (¬ (a=c∧b=d)))):=by
 have w1:=wf_k (x:=a) (by omega) (by omega)
 have w2:=wf_k (x:=b) (by omega) (by omega)
 have w3:=wf_k (x:=c) (by omega) (by omega)
 have w4:=wf_k (x:=d) (by omega) (by omega)
 have h1 : xbin Try.prog .neq 62 (.agg ⟨A2 a b⟩) (.agg ⟨A2 c d⟩)=none:=rfl
 have h2 : xbinStr .neq (.agg ⟨A2 a b⟩) (.agg ⟨A2 c d⟩)=none:=rfl
 have h3 : xeqNil Try.prog true 62 (.agg ⟨A2 a b⟩) (.agg ⟨A2 c d⟩)=none:=by
  unfold xeqNil
  simp only[Try.underlying62]
 have h4 : keyedB Try.prog 62=true:=by kernel_rfl
 have h5 : Try.prog.eqGuardType Try.prog.depth 62=false:=by kernel_rfl
 unfold xbinOp
 rw[h1,h2]
 simp only[h3]
 unfold xeqAgg
 simp only[Try.underlying62]
 rw[if_pos ⟨h4,rfl,rfl,key62 w1 w2,key62 w3 w4,h5⟩]
 simp[valEq,cellsEq,cellEq]
theorem sa_nw (hl : lie M) {q : Nat} (hq : q<M.O.length) : nwL (saM M) q=M.O.getD q 0∧nwH (saM M) q=M.O.getD q 0:=by
 have hO : (saM M).O=M.O:=rfl
 have e1 : nwL (saM M) q=sm ((List.range M.O.length).map fun d=>if d=q then M.O.getD d 0 else 0):=by
  unfold nwL
  rw[hO]
  congr 1
  exact List.map_congr_left fun d hd=>(sa_rg hl (List.mem_range.1 hd)).1
 have e2 : nwH (saM M) q=sm ((List.range M.O.length).map fun d=>if d=q then M.O.getD d 0 else 0):=by
  unfold nwH
  rw[hO]
  congr 1
  exact List.map_congr_left fun d hd=>(sa_rg hl (List.mem_range.1 hd)).2
 rw[e1,e2,sm_one (f:=fun d=>M.O.getD d 0),if_pos hq]
 exact⟨rfl,rfl⟩
end
theorem fl_getD (l : List Int) : fl l.length (fun q=>l.getD q 0)=l:=by
 apply List.ext_getElem
 ·rw[fl_len]
 ·intro i h1 h2
  rw[fl_at]
  simp[h2]
theorem f10_all {H : Heap} {o s j : Value} {M : BM} (h : MV H o s j M) : F Try.prog 10 ⟨[.agg ⟨mc o s j M.N⟩]⟩ H (fun w _=>w=.bool true):=by
 have hl:=h.s.len
 have hlo:=h.o.len
 obtain⟨po,no,co,rfl⟩:=h.o.s.isS
 obtain⟨ps,ns,cs,rfl⟩:=h.s.isS
 obtain⟨pj,nj,cj,rfl⟩:=h.j.isS
 refine F.entryL rfl dg10 do10 de10 rfl (by kernel_rfl) ?_
 simp only[sets]
 refine V.re [(0,.agg ⟨mc (.slice po no co) (.slice ps ns cs) (.slice pj nj cj) M.N⟩)] (N:=100) zE zY ?_
 intro t hF hA
 simp only[Kn,and_true] at hA
 refine zS ?_
 refine V.l0 ?_
 refine V.heap (fun X=>Grow H X∧Bx X H.next (mc (.slice po no co) (.slice ps ns cs) (.slice pj nj cj) M.N) 26) ⟨?_,?_⟩ ?_
 ·exact zW
 ·exact zB
 rintro H1 ⟨g1,b1⟩
 refine zS ?_
 refine V.run ?_
 have zf:=b1.2
 refine VI.sz 1 ?_
 simp only[ds]
 refine VI.callA rfl (f49_ok (h.grow g1)) zA (fun H3 g3=>?_)
 have b3:=b1.grow g3
 have g13:=g1.trans g3
 refine VI.l0 ?_
 refine zS ?_
 refine V.condP zP (fun hno=>?_) (fun hno=>?_)
 ·refine zS ?_
  refine V.run ?_
  refine VI.callA rfl (f17_ok _) zA (fun H4 g4=>?_)
  refine VI.l0 ?_
  refine zS ?_
  refine V.ret (V.rets rfl (Lv.retF (by simp +contextual (disch:=first|omega|simp only[nx];omega) only[D1,cells_alloc_at,cells_alloc_ne,cells_set_at,cells_set_ne,yres,yres1,yresL,qA,qB,qC,D5,hF,hA,↓reduceIte,qD,qE];rfl) ?_))
  rfl
 obtain⟨hth,hbe⟩:=Decidable.not_not.1 hno
 obtain⟨hflt,hlie⟩:=bE_0.1 hbe
 have G:=bE_VM hbe
 have hS8:=G.s8
 have hO4:=G.o4
 have hS0:=G.s0
 have hN4:=G.n
 have hbs:=sa_bE hbe
 have n3:=g13.1
 have nb3:=b3.1
 refine zS ?_
 have zf:=b3.2
 refine V.lz ?_
 refine V.heap (fun X=>Grow H X∧Bx X H.next (mc (.slice po no co) (.slice ps ns cs) (.slice pj nj cj) M.N) 26∧Bx X H3.next (mc (.slice po no co) (.slice ps ns cs) (.slice pj nj cj) M.N) 26) ⟨?_,?_,?_⟩ ?_
 ·exact (g13.alloc _).set (by omega) _
 ·exact (b3.alloc _).set (by omega) _
 ·exact Bx.put (by simp only[Heap.next_alloc];omega) _ _
 rintro H3' ⟨g4,b4,c4⟩
 refine zS ?_
 have zf:=And.intro b4.2<|And.intro c4.2<|@hlo
 refine V.lz ?_
 refine V.heap (fun X=>Grow H X∧Bx X H.next (mc (.slice po no co) (.slice ps ns cs) (.slice pj nj cj) M.N) 26∧Bx X H3.next (mc (.slice po no co) (.slice ps ns cs) (.slice pj nj cj) M.O.length) 26) ⟨?_,?_,?_⟩ ?_
 ·exact g4.set (by omega) _
 ·exact b4.set (by omega) _
 ·exact Bx.put c4.1 _ _
 rintro H4 ⟨g4,b4,c4⟩
 have n4:=c4.1
 obtain⟨u,H5,a1,a2,a3,a4⟩:=OwW.append (H0:=H4) (H:=H4.alloc (.cells ⟨[]⟩ 54 true)) (w:=5) (e:=54) (bytes:=40) (s:=.slice (some ⟨H4.next,0,none⟩) 0 0) (l:=[]) (x:=.slice ps ns cs) (r:=M.S.map s5) (by decide) ((Grow.refl H4).alloc _) (.inr ⟨H4.next,Nat.le_refl _,Nat.lt_succ_self _,rfl,cells_alloc _ _ _ _⟩) (by simp) ((h.s.grow (g4.trans ((Grow.refl H4).alloc _))).s) s5_w (by
  rw[List.all_flatten,List.all_map]
  exact List.all_eq_true.2 (fun x _=>rfl)) (by simp;omega) (by simp;omega)
 rw[List.nil_append] at a2
 rcases a2 with⟨_,a2⟩|⟨bk,k1,k2,rfl,k4⟩
 ·have : M.S=[]:=by simpa using a2
  rw[this] at hS0
  exact absurd hS0 (by simp)
 rw[List.length_map] at a1
 have g45:=a3
 have b5:=b4.grow g45
 have c5:=c4.grow g45
 refine zS ?_
 have zf:=And.intro b4.2<|And.intro @a1<|And.intro b5.2<|c5.2
 refine V.lz ?_
 refine V.heap (fun X=>Grow H X∧Bx X H.next (mc (.slice po no co) (.slice ps ns cs) (.slice pj nj cj) M.N) 26∧Bx X H3.next (mc (.slice po no co) (.slice (some ⟨bk,0,none⟩) M.S.length M.S.length) (.slice pj nj cj) M.O.length) 26∧Bx X bk ((mpS sta 0 M.S).map s5).flatten 54) ⟨?_,?_,?_,?_⟩ ?_
 ·exact (g4.trans g45).set (by omega) _
 ·exact b5.set (by omega) _
 ·exact Bx.put c5.1 _ _
 ·rw[mpS_0]
  exact Bx.set (j:=H3.next) ⟨k2,k4⟩ (by omega) _
 rintro H6 ⟨g6,b6,c6,d6⟩
 refine zS ?_
 refine V.l0 ?_
 refine zS ?_
 refine V.loop (fun z t mm X=>∃ (k : Nat),k≤M.S.length∧z=M.S.length-k∧mm=[]∧Grow H X∧Bx X H.next (mc (.slice po no co) (.slice ps ns cs) (.slice pj nj cj) M.N) 26∧Bx X H3.next (mc (.slice po no co) (.slice (some ⟨bk,0,none⟩) M.S.length M.S.length) (.slice pj nj cj) M.O.length) 26∧Bx X bk ((mpS sta k M.S).map s5).flatten 54∧Full 100 t∧Kn [(1,PT H.next),(3,PT H3.next),(4,I k)] t) M.S.length ?_ ?_
 ·exact⟨0,by omega,by omega,rfl,g6,b6,c6,d6,zF,zK⟩
 clear hF hA g6 b6 c6 d6
 rintro z t mm X ⟨k,hk,rfl,rfl,gX,bX,cX,dX,hF,hA⟩
 simp only[Kn,and_true] at hA
 have hbl : ∀ X,ylen 0 X (.slice (some ⟨bk,0,none⟩) M.S.length M.S.length)=some (I M.S.length):=fun _=>rfl
 refine zS ?_
 have zf:=And.intro cX.2<|@hbl
 refine V.lz ?_
 refine zS ?_
 refine V.condP zP (fun hlt=>?_) (fun hlt=>?_)
 ·have hlt' : k<M.S.length:=by omega
  have ix:=own_idx5 (y:=bk) (n:=M.S.length) (c:=M.S.length) hlt'
  obtain⟨st,hst⟩ : ∃ st,st=M.S[k]:=⟨_,rfl⟩
  have hlk : k<((mpS sta k M.S).map s5).length:=by rw[List.length_map,mpS_len];exact hlt'
  have erow : ((mpS sta k M.S).map s5)[k]=s5 st:=by rw[List.getElem_map,mpS_at hlt',hst]
  have e1 : ((mpS sta k M.S).map s5).flatten[k*5]?=some (I st.old):=by
   have:=flat_get5 (c:=0) (s5_w (S:=mpS sta k M.S)) hlk (by decide)
   rw[Nat.add_zero,erow] at this
   exact this
  have e2 : ((mpS sta k M.S).map s5).flatten.set (k*5+1) (I st.old)=((mpS sta (k+1) M.S).map s5).flatten:=by
   rw[flat_set1 (by decide) hlk s5_w,erow,s5_sta,← mpS_1 hlt',List.map_set,hst]
  have e3 : k*5+1<((mpS sta k M.S).map s5).flatten.length:=by
   rw[flat_len5 s5_w,List.length_map,mpS_len];omega
  have nd:=dX.1
  refine zS ?_
  have zf:=And.intro cX.2<|And.intro @ix<|And.intro dX.2<|And.intro @e1<|And.intro @e2<|@e3
  refine V.dz ?_ ?_ rfl ?_
  ·exact zM
  ·simp only[dcAll,dcOk,wantD,List.cons_append,List.nil_append,true_and,and_true]
  refine zS ?_
  refine V.l0 ?_
  refine V.nil (Or.inl ⟨rfl,M.S.length-(k+1),by omega,?_⟩)
  refine⟨k+1,hlt',rfl,rfl,gX.set (by omega) _,bX.set (by omega) _,cX.set (by omega) _,Bx.put dX.1 _ _,zF,zK⟩
 obtain rfl : k=M.S.length:=by omega
 rw[mpS_end] at dX
 have mS : SS X (.slice (some ⟨bk,0,none⟩) M.S.length M.S.length) (saM M).S:=⟨by
  have q : OwW 5 H X 54 (.slice (some ⟨bk,0,none⟩) M.S.length M.S.length) ((saM M).S.map s5):=.inr ⟨bk,by omega,dX.1,by rw[List.length_map,sa_len],dX.2⟩
  exact q.sw s5_w⟩
 have mM : MV X (.slice po no co) (.slice (some ⟨bk,0,none⟩) M.S.length M.S.length) (.slice pj nj cj) (saM M):=⟨h.o.grow gX,mS,h.j.grow gX⟩
 have thM : thin (saM M):=by
  unfold thin at hth ⊢
  rw[sa_len]
  exact hth
 have hf19:=f19_ok mM thM
 refine V.exit ?_
 refine zX ?_
 refine V.nil (Or.inr ⟨by simp,?_⟩)
 refine zX ?_
 refine zS ?_
 refine V.run ?_
 have zf:=cX.2
 refine VI.sz 1 ?_
 simp only[ds]
 refine VI.callR zA (hf19) zA (fun w7 H7 ⟨g7,o7,s7,j7,hw7,m7⟩=>?_)
 subst hw7
 refine VI.callR zA (f20_ok m7) zA (fun w8 H8 ⟨g8,q8⟩=>?_)
 rcases q8 with⟨k,_⟩|⟨_,_,y1,y2,hw8,r1,r2⟩
 ·exact absurd (bE_0.1 hbs).1 k
 subst hw8
 have i1:=r1.s.isS
 have i2:=r2.s.isS
 obtain⟨p1,n1',c1,rfl⟩:=i1
 obtain⟨p2,n2',c2,rfl⟩:=i2
 rw[sa_len,sa_new,sa_shr] at r2
 have eNt : (saM M).N.toNat=M.O.length:=Int.toNat_natCast _
 rw[eNt,fl_cong (g:=fun q=>M.O.getD q 0) (fun q hq=>sa_sum G hq),fl_getD] at r2
 have b8:=(bX.grow g7).grow g8
 have c8:=(cX.grow g7).grow g8
 have mM8:=(mM.grow g7).grow g8
 have gH8:=(gX.trans g7).trans g8
 refine VI.l0 ?_
 refine zS ?_
 refine V.run ?_
 have hf19b:=f19_ok mM8 thM
 have zf:=c8.2
 refine VI.sz 1 ?_
 simp only[ds]
 refine VI.callR zA (hf19b) zA (fun w9 H9 ⟨g9,o9,s9,j9,hw9,m9⟩=>?_)
 subst hw9
 refine VI.callR zA (f27_ok m9) zA (fun wa Ha ⟨ga,qa⟩=>?_)
 rcases qa with⟨k,_⟩|⟨_,y3,hwa,r3⟩
 ·exact absurd hbs k
 subst hwa
 have i3:=r3.isS
 obtain⟨p3,n3',c3,rfl⟩:=i3
 rw[eNt] at r3
 have l3:=r3.len
 rw[nws_len] at l3
 have ba:=(b8.grow g9).grow ga
 have gHa:=(gH8.trans g9).trans ga
 have r2a:=(r2.grow g9).grow ga
 have f23a:=f23_ok r2a (h.o.grow gHa) (by omega)
 rw[decide_eq_true rfl] at f23a
 refine VI.l0 ?_
 refine zS ?_
 refine V.run ?_
 have zf:=ba.2
 refine VI.sz 6 ?_
 simp only[ds]
 first|refine VI.callGt zG (fun hc=>zI) (fun hc=>f23a) (fun hc=>zI) (fun Hb gb=>?_)|refine VI.callGf zG (fun hc=>zI) (fun hc=>f23a) (fun hc=>zI) (fun Hb gb=>?_)
 have bb:=ba.grow gb
 have zf:=And.intro @l3<|And.intro bb.2<|@hlo
 refine VI.lz ?_
 refine zS ?_
 refine V.condP zP (fun hbad=>?_) (fun hbad=>?_)
 ·exact absurd hbad (by simp)
 refine zS ?_
 refine V.l0 ?_
 refine zS ?_
 refine V.loop (fun z t mm X=>∃ (d : Nat),d≤M.O.length∧z=M.O.length-d∧mm=[]∧Grow Hb X∧Full 100 t∧Kn [(1,PT H.next),(8,.slice p3 n3' c3),(10,I d)] t) M.O.length ?_ ?_
 ·exact⟨0,by omega,by omega,rfl,.refl _,zF,zK⟩
 clear hF hA
 rintro z t mm X ⟨d,hd,rfl,rfl,gXb,hF,hA⟩
 simp only[Kn,and_true] at hA
 have bX:=bb.grow gXb
 refine zS ?_
 have zf:=@l3
 refine V.lz ?_
 refine zS ?_
 refine V.condP zP (fun hlt=>?_) (fun hlt=>?_)
 ·have hlt' : d<M.O.length:=by omega
  obtain⟨lp,lp1,lp2⟩:=h.o.at hlt'
  have lp3:=lp2 X ((gHa.trans gb).trans gXb)
  have ot:=G.ot hlt'
  rw[← ot.1] at lp3
  obtain⟨ri,ro,rp1,rp2⟩:=r3.at (k:=d) (by rw[nws_len];exact hlt')
  have rp3:=(rp2 X (gb.trans gXb)).1
  have enw:=sa_nw hlie hlt'
  have er : (nws (saM M) M.O.length)[d]'(by rw[nws_len];exact hlt')=(M.O.getD d 0,M.O.getD d 0):=by
   simp only[nws,List.getElem_map,List.getElem_range,enw.1,enw.2]
  rw[er] at rp3
  obtain⟨tt,htt⟩ : ∃ z,z=M.O.getD d 0:=⟨_,rfl⟩
  rw[← htt] at rp3 lp3
  refine zS ?_
  refine V.draw ?_
  have zf:=And.intro @rp1<|And.intro @rp3<|And.intro bX.2<|And.intro @lp1<|@lp3
  refine VD.nz 9 ?_
  simp only[ds]
  have zf:=And.intro @rp1<|And.intro @rp3<|And.intro bX.2<|And.intro @lp1<|@lp3
  refine VD.nz 5 ?_
  simp only[ds]
  refine VD.callA zA (f48_ok tt tt X) zA (fun X2 g2=>?_)
  have rp4:=(rp2 X2 ((gb.trans gXb).trans g2)).1
  rw[er,← htt] at rp4
  have m2:=g2.1
  have tb : 0≤tt∧tt≤10000:=by rw[htt,ot.1];exact ot.2
  have hnq:=neq62 (a:=tt) (b:=tt) (c:=tt) (d:=tt) (by omega) (by omega) (by omega) (by omega)
  rw[decide_eq_false (fun k=>k ⟨rfl,rfl⟩)] at hnq
  have zf:=@hnq
  refine VD.dz ?_ ?_ rfl ?_
  ·exact zM
  ·simp only[dcAll,dcOk,wantD,List.cons_append,List.nil_append,true_and,and_true]
   have zf:=And.intro @rp3<|@rp4
   exact zR
  refine zS ?_
  refine V.condF zA ?_
  refine zS ?_
  refine V.l0 ?_
  refine V.nil (Or.inl ⟨rfl,M.O.length-(d+1),by omega,?_⟩)
  exact⟨d+1,hlt',rfl,rfl,gXb.trans g2,zF,zK⟩
 ·obtain rfl : d=M.O.length:=by omega
  refine V.exit ?_
  refine zX ?_
  refine V.nil (Or.inr ⟨by simp,?_⟩)
  refine zX ?_
  refine zS ?_
  refine V.run ?_
  refine VI.callA rfl (f17_ok _) zA (fun Hd gd=>?_)
  refine VI.l0 ?_
  refine zS ?_
  refine V.ret (V.rets rfl (Lv.retF (by simp +contextual (disch:=first|omega|simp only[nx];omega) only[D1,cells_alloc_at,cells_alloc_ne,cells_set_at,cells_set_ne,yres,yres1,yresL,qA,qB,qC,D5,hF,hA,↓reduceIte,qD,qE];rfl) ?_))
  rfl
end Go.Xe.TBX
/- Rules of reasoning over the executable reading of the model's code (part Z16): arguments, by what their types allow. Conditions: none; for every program. -/
namespace Go.Xe
open Go Go.RowKit Go.ChangeShapes Go.WideShapes
theorem okWide_agg {P : Program} {w : World} {r : Reach} {base : Nat} {t : TypeId} {v : Value} {fs : Array Field} (ht : P.underlying t=some (.struct fs)) (h : Value.okWide P w r base t v) : ∃ cs,v=.agg cs:=by
 unfold Value.okWide at h
 rw[ht] at h
 obtain⟨cs,h,_⟩:=h
 exact⟨cs,h⟩
end Go.Xe
/- The end of a call that has changed nothing of what was there: what a statement asks of the memory behind it. Conditions: as post_of_same's, but that new memory may be frozen. -/
namespace Go.Xe
open Go Go.RowKit Go.ChangeShapes Go.WideShapes
variable {H : Type} {enc : TypeId×Value→H} {P : Program}
theorem post_of_old {f : Func} {s : ChangeSpec} {apart fresh handsOn again : Bool} {W W' : World} {args : Array Value} {v : Value} {ds gs : List (DataW H)} {before pa pv : List MemPlace}
  (hW : DataW.Whole enc P f.params.toList s.vars apart W args.toList ds gs before)
  (hres : ∀ (b : Nat) (sp : Nat→Bool) (hd : Bool),DataW.TrodAll enc P W' b sp hd f.resultTypes.toList (v.resultList f.resultTypes.size) (s.fn H (ds++gs)).results [])
  (hargs : ∀ sp : Nat→Bool,(∀ p∈before,sp p.block=true)→DataW.TrodAll enc P W' 0 sp true f.params.toList args.toList (s.fn H (ds++gs)).args pa)
  (hvars : ∀ sp : Nat→Bool,(∀ p∈before,sp p.block=true)→DataW.TrodVars enc P W' sp s.vars (s.fn H (ds++gs)).vars pv)
  (hps : before=pa++pv) (hk : W.keptBut W' (·∈before)) (hfz : ∀ a : Addr,a.block<W.heap.size→W'.frozen? a=W.frozen? a)
  (hok : ∀ (j : Nat) (t : TypeId) (r : Value),f.resultTypes[j]?=some t→(v.resultList f.resultTypes.size)[j]?=some r→Value.okWide P W' .any 0 t r) :
  s.post enc P f apart fresh handsOn again W args v W':=by
 have old : ∀ p∈before,p.block<W.heap.size:=fun p hp=>hW.lt p hp
 have hold : ∀ p∈before,(fun b=>decide (b<W.heap.size)) p.block=true:=fun p hp=>by simpa using old p hp
 subst hps
 refine⟨ds,gs,_,[],pa,pv,hW,hres _ _ _,hargs _ hold,hvars _ hold,World.keptBut_mono (fun p hp=>⟨hp,.inr (List.mem_append.1 hp)⟩) hk,fun _=>?_⟩
 obtain⟨_,_,_,_,_,hz,hn⟩:=hW
 refine⟨hok,_,_,([]++pa)++pv,⟨[]++pa,pv,trodAll_append (hargs _ (fun _ _=>rfl)) (hres _ _ _),hvars _ (fun _ _=>rfl),rfl,?_,?_⟩,?_⟩
 ·intro b off hp
  have hp' : MemPlace.cell b off∈pa++pv:=by simpa using hp
  rw[hfz _ (old _ hp')]
  exact hz b off hp'
 ·intro ha
  simpa using hn ha
 ·intro p hp _
  simpa using hp
end Go.Xe
