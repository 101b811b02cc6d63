/- Rules of reasoning over the executable reading of the model's code (part Z27): the same rules, whose equations are found by themselves out of what is named hF, hA and zf at the place of use. Conditions: none; for every program. -/
import Derived.Test.YtgcdbdcnlhonfaaZt
namespace Go.Xe
open Go
abbrev tm (n : Nat) : FA:=.tmp (pth n)
section
variable {P : Program} [Gl P] [Orc P] {rnd : Option Nat} {Q : FQ} {K : List FFr} {m : List Nat}
variable {is : List FI} {t t1 : TT} {H H1 : Heap} {cs : List FC} {n : Nat} {pre Gs : List Heap} {R : TT→List Heap→Prop}
theorem V.lz (k : V P rnd Q K .normal t1 m H1) (h : Xe.din P is t H=some (t1,H1):=by simp +contextual (disch:=first|omega|simp only[Go.Xe.nx];omega) only[Go.Xe.D4,Int.reduceNegSucc,Int.reduceEq,Nat.reduceLeDiff,Nat.reduceSub,Nat.reduceAdd,Go.Xe.D5,hF,hA,↓reduceIte,Nat.reduceEqDiff,Nat.reduceLT,zf];with_reducible rfl) : V P rnd Q (.seq (.run is)::K) .normal t m H:=V.line' h k
theorem V.l0 (k : V P rnd Q K .normal t1 m H1) (h : Xe.din P is t H=some (t1,H1):=by simp +contextual (disch:=first|omega|simp only[Go.Xe.nx];omega) only[Go.Xe.D4,Int.reduceNegSucc,Int.reduceEq,Nat.reduceLeDiff,Nat.reduceSub,Nat.reduceAdd,Go.Xe.D5,hF,hA,↓reduceIte,Nat.reduceEqDiff,Nat.reduceLT];with_reducible rfl) : V P rnd Q (.seq (.run is)::K) .normal t m H:=V.line' h k
theorem VI.lz (k : V P rnd Q K .normal t1 m H1) (h : Xe.din P is t H=some (t1,H1):=by simp +contextual (disch:=first|omega|simp only[Go.Xe.nx];omega) only[Go.Xe.D4,Int.reduceNegSucc,Int.reduceEq,Nat.reduceLeDiff,Nat.reduceSub,Nat.reduceAdd,Go.Xe.D5,hF,hA,↓reduceIte,Nat.reduceEqDiff,Nat.reduceLT,zf];with_reducible rfl) : VI P rnd Q K m is t H:=VI.line' h k
theorem VI.l0 (k : V P rnd Q K .normal t1 m H1) (h : Xe.din P is t H=some (t1,H1):=by simp +contextual (disch:=first|omega|simp only[Go.Xe.nx];omega) only[Go.Xe.D4,Int.reduceNegSucc,Int.reduceEq,Nat.reduceLeDiff,Nat.reduceSub,Nat.reduceAdd,Go.Xe.D5,hF,hA,↓reduceIte,Nat.reduceEqDiff,Nat.reduceLT];with_reducible rfl) : VI P rnd Q K m is t H:=VI.line' h k
theorem VI.sz (n : Nat) (k : VI P rnd Q K m (is.drop n) t1 H1) (h : Xe.din P (is.take n) t H=some (t1,H1):=by simp +contextual (disch:=first|omega|simp only[Go.Xe.nx];omega) only[Go.Xe.D4,Int.reduceNegSucc,Int.reduceEq,Nat.reduceLeDiff,Nat.reduceSub,Nat.reduceAdd,Go.Xe.D5,hF,hA,↓reduceIte,Nat.reduceEqDiff,Nat.reduceLT,zf];with_reducible rfl) : VI P rnd Q K m is t H:=VI.steps' n h k
theorem VI.s0 (n : Nat) (k : VI P rnd Q K m (is.drop n) t1 H1) (h : Xe.din P (is.take n) t H=some (t1,H1):=by simp +contextual (disch:=first|omega|simp only[Go.Xe.nx];omega) only[Go.Xe.D4,Int.reduceNegSucc,Int.reduceEq,Nat.reduceLeDiff,Nat.reduceSub,Nat.reduceAdd,Go.Xe.D5,hF,hA,↓reduceIte,Nat.reduceEqDiff,Nat.reduceLT];with_reducible rfl) : VI P rnd Q K m is t H:=VI.steps' n h k
theorem V.dz (h1 : monoG (Gs++[H1])) (h2 : dcAll P t1 (Gs++[H1]) cs) (h3 : (Gs++[H1])[n]?=some H1) (k : V P rnd Q K .normal t1 m H1) (h : dinA P is t H []=some (t1,Gs,H1):=by simp +contextual (disch:=first|omega|simp only[Go.Xe.nx];omega) only[Go.Xe.D4,Int.reduceNegSucc,Int.reduceEq,Nat.reduceLeDiff,Nat.reduceSub,Nat.reduceAdd,Go.Xe.D5,hF,hA,↓reduceIte,Nat.reduceEqDiff,Nat.reduceLT,zf];with_reducible rfl) : V P rnd Q (.seq (.draw n is cs)::K) .normal t m H:=V.lineD' h h1 h2 h3 k
theorem V.d0 (h1 : monoG (Gs++[H1])) (h2 : dcAll P t1 (Gs++[H1]) cs) (h3 : (Gs++[H1])[n]?=some H1) (k : V P rnd Q K .normal t1 m H1) (h : dinA P is t H []=some (t1,Gs,H1):=by simp +contextual (disch:=first|omega|simp only[Go.Xe.nx];omega) only[Go.Xe.D4,Int.reduceNegSucc,Int.reduceEq,Nat.reduceLeDiff,Nat.reduceSub,Nat.reduceAdd,Go.Xe.D5,hF,hA,↓reduceIte,Nat.reduceEqDiff,Nat.reduceLT];with_reducible rfl) : V P rnd Q (.seq (.draw n is cs)::K) .normal t m H:=V.lineD' h h1 h2 h3 k
theorem VD.dz (h1 : monoG (Gs++[H1])) (h2 : dcAll P t1 (Gs++[H1]) cs) (h3 : (Gs++[H1])[n]?=some H1) (k : V P rnd Q K .normal t1 m H1) (h : dinA P is t H pre=some (t1,Gs,H1):=by simp +contextual (disch:=first|omega|simp only[Go.Xe.nx];omega) only[Go.Xe.D4,Int.reduceNegSucc,Int.reduceEq,Nat.reduceLeDiff,Nat.reduceSub,Nat.reduceAdd,Go.Xe.D5,hF,hA,↓reduceIte,Nat.reduceEqDiff,Nat.reduceLT,zf];with_reducible rfl) : VD P is t H pre (DEnd P rnd Q K m n cs):=VD.lineD' h h1 h2 h3 k
theorem VD.d0 (h1 : monoG (Gs++[H1])) (h2 : dcAll P t1 (Gs++[H1]) cs) (h3 : (Gs++[H1])[n]?=some H1) (k : V P rnd Q K .normal t1 m H1) (h : dinA P is t H pre=some (t1,Gs,H1):=by simp +contextual (disch:=first|omega|simp only[Go.Xe.nx];omega) only[Go.Xe.D4,Int.reduceNegSucc,Int.reduceEq,Nat.reduceLeDiff,Nat.reduceSub,Nat.reduceAdd,Go.Xe.D5,hF,hA,↓reduceIte,Nat.reduceEqDiff,Nat.reduceLT];with_reducible rfl) : VD P is t H pre (DEnd P rnd Q K m n cs):=VD.lineD' h h1 h2 h3 k
end
section
variable {P : Program} [Gl P] [Orc P] {is : List FI} {t T : TT} {H H1 : Heap} {pre Gs : List Heap} {R : TT→List Heap→Prop}
theorem VD.nz (n : Nat) (k : VD P (is.drop n) T H1 Gs R) (h : dinA P (is.take n) t H pre=some (T,Gs,H1):=by simp +contextual (disch:=first|omega|simp only[Go.Xe.nx];omega) only[Go.Xe.D4,Int.reduceNegSucc,Int.reduceEq,Nat.reduceLeDiff,Nat.reduceSub,Nat.reduceAdd,Go.Xe.D5,hF,hA,↓reduceIte,Nat.reduceEqDiff,Nat.reduceLT,zf];with_reducible rfl) : VD P is t H pre R:=VD.dins n h k
theorem VD.n0 (n : Nat) (k : VD P (is.drop n) T H1 Gs R) (h : dinA P (is.take n) t H pre=some (T,Gs,H1):=by simp +contextual (disch:=first|omega|simp only[Go.Xe.nx];omega) only[Go.Xe.D4,Int.reduceNegSucc,Int.reduceEq,Nat.reduceLeDiff,Nat.reduceSub,Nat.reduceAdd,Go.Xe.D5,hF,hA,↓reduceIte,Nat.reduceEqDiff,Nat.reduceLT];with_reducible rfl) : VD P is t H pre R:=VD.dins n h k
end
section
variable {p q : Prop}
theorem zS (k : q) (h : q→p:=by intro h;(repeat first|apply Go.Xe.V.seq|apply Go.Xe.V.block|apply Go.Xe.V.scope|apply Go.Xe.V.skip|apply Go.Xe.V.close);exact h) : p:=h k
theorem zX (k : q) (h : q→p:=by intro h;(repeat first|apply Go.Xe.V.pass|apply Go.Xe.V.here|(apply Go.Xe.V.out;decide));exact h) : p:=h k
theorem zA (h : p:=by simp only[Go.Xe.D6,Go.Xe.D5,hF,hA,↓reduceIte,Nat.reduceEqDiff,Nat.reduceLT];try rfl) : p:=h
theorem zP (h : p:=by simp only[Go.Xe.D6,Go.Xe.D5,hF,hA,↓reduceIte,Nat.reduceEqDiff,Nat.reduceLT];rfl) : p:=h
theorem zG (h : p:=by simp only[Go.Xe.D5,hF,hA,↓reduceIte,Nat.reduceEqDiff,Nat.reduceLT];try rfl) : p:=h
theorem zI (h : p:=by simp only[Go.Xe.D6,Go.Xe.D5,hF,hA,↓reduceIte,Nat.reduceEqDiff,Nat.reduceLT,hc,and_self,and_true,true_and,not_false_eq_true];try rfl) : p:=h
theorem zF {N : Nat} {t : TT} (h : Full N t:=by intro;simp only[Go.Xe.full_st,hF]) : Full N t:=h
theorem zK {l : List (Nat×Value)} {t : TT} (h : Kn l t:=by simp only[Go.Xe.Kn,Go.Xe.D5,hF,hA,↓reduceIte,Nat.reduceEqDiff,Nat.reduceLT,and_self,and_true,true_and];try (repeat' constructor)) : Kn l t:=h
theorem zE {N : Nat} {t : TT} (h : Full N t:=by intro i;simp only[Go.Xe.full_st,Go.Xe.Full.mk]) : Full N t:=h
theorem zY {l : List (Nat×Value)} {t : TT} (h : Kn l t:=by simp only[Go.Xe.Kn,Go.Xe.gt_st,Go.Xe.full_st,Go.Xe.Full.mk,↓reduceIte,Nat.reduceEqDiff,Nat.reduceLT,decide_true,and_self]) : Kn l t:=h
theorem zW (h : p:=by (repeat first|assumption|exact Go.Xe.Grow.refl _|refine Go.Xe.Grow.alloc ?_ _|refine Go.Xe.Grow.set ?_ (by first|omega|simp only[Go.Xe.nx];omega) _)) : p:=h
theorem zB (h : p:=by (repeat first|assumption|exact Go.Xe.Bx.new _ _ _|exact Go.Xe.Bx.newAt (by first|omega|simp only[Go.Xe.nx];omega)|refine Go.Xe.Bx.put (by first|omega|simp only[Go.Xe.nx];omega) _ _|refine Go.Xe.Bx.alloc ?_ _|refine Go.Xe.Bx.set ?_ (by first|omega|simp only[Go.Xe.nx];omega) _)) : p:=h
theorem zM (h : p:=by simp only[Go.Xe.monoG,List.cons_append,List.nil_append,Go.Xe.Heap.next_set,Go.Xe.Heap.next_alloc,Nat.le_refl,true_and,and_true]<;>omega) : p:=h
theorem zR (h : p:=by
 intro _ q hq
 simp only[List.mem_cons,List.not_mem_nil,or_false] at hq
 (repeat (rcases hq with rfl|hq;exact⟨_,_,_,rfl,(by simp +contextual (disch:=first|omega|simp only[Go.Xe.nx];omega) only[Go.Xe.D4,Int.reduceNegSucc,Int.reduceEq,Nat.reduceLeDiff,Nat.reduceSub,Nat.reduceAdd,Go.Xe.D5,hF,hA,↓reduceIte,Nat.reduceEqDiff,Nat.reduceLT,zf];with_reducible rfl),fun p hp=>by cases hp;simp only[Go.Xe.D5,hF,hA,↓reduceIte,Nat.reduceEqDiff,Nat.reduceLT];first|exact Go.Xe.vEq_An|(simp[Go.Xe.vEq,Go.Xe.vEq0,Go.Xe.all2];done)|assumption⟩))
 (try (subst hq;exact⟨_,_,_,rfl,(by simp +contextual (disch:=first|omega|simp only[Go.Xe.nx];omega) only[Go.Xe.D4,Int.reduceNegSucc,Int.reduceEq,Nat.reduceLeDiff,Nat.reduceSub,Nat.reduceAdd,Go.Xe.D5,hF,hA,↓reduceIte,Nat.reduceEqDiff,Nat.reduceLT,zf];with_reducible rfl),fun p hp=>by cases hp;simp only[Go.Xe.D5,hF,hA,↓reduceIte,Nat.reduceEqDiff,Nat.reduceLT];first|exact Go.Xe.vEq_An|(simp[Go.Xe.vEq,Go.Xe.vEq0,Go.Xe.all2];done)|assumption⟩))) : p:=h
end
end Go.Xe
/- Rules of reasoning over the executable reading of the model's code (part Z28): guarded calls of functions that change memory. Conditions: none; for every program. -/
namespace Go.Xe
open Go
section
variable {P : Program} [Gl P] [Orc P] {rnd : Option Nat} {Q : FQ} {K : List FFr} {t : TT} {m : List Nat} {H : Heap} {is : List FI} {p d : Pth} {w : Bool} {fa : FA} {args : List FA} {g : FuncId} {a b l : List Value} {S : Value→Heap→Prop} {pre : List Heap} {R : TT→List Heap→Prop}
theorem VI.callRT (hp : gt p t=.bool w) (hf : dA t fa=.func (.func g) ⟨a⟩ ⟨b⟩) (hs : F P g ⟨l⟩ H S) (hl : a++args.map (dA t)++b=l) (k : ∀ v H',S v H'→VI P rnd Q K m is (st v d t) H') : VI P rnd Q K m (.gd p w (.call fa args) d::is) t H:=by
 subst hl
 refine .callT hp hf ?_
 rw[arr_app,arr_app]
 exact hs.mono k
theorem VD.callRT (hp : gt p t=.bool w) (hf : dA t fa=.func (.func g) ⟨a⟩ ⟨b⟩) (hs : F P g ⟨l⟩ H S) (hl : a++args.map (dA t)++b=l) (k : ∀ v H',S v H'→VD P is (st v d t) H' (pre++[H]) R) : VD P (.gd p w (.call fa args) d::is) t H pre R:=by
 subst hl
 refine .callT hp hf ?_
 rw[arr_app,arr_app]
 exact hs.mono k
end
end Go.Xe
/- Rules of reasoning over the executable reading of the model's code (part W3): a loop over a function whose yielded values lie where only the run tells, and that changes memory of its own between its rounds. Conditions: none; for every program. -/
namespace Go.Xe
open Go
section
variable {P : Program} [Gl P] [Orc P] {rnd : Option Nat} {Q : FQ} {K : List FFr} {t : TT} {m : List Nat} {H : Heap}
end
end Go.Xe
/- Rules of reasoning over the executable reading of the model's code (part W4): lists of numbers that are appended to again after an append took them over. Conditions: none; for every program. -/
namespace Go.Xe
open Go
inductive Chn (W : Nat→Prop) (H : Heap) (e : TypeId) : Nat→Nat→List Int→Prop
 | own {d i : Nat} {l : List Int} (hw : W i) (hi : i<H.next) (h : H.cellsAt i=some (⟨l.map (Value.int .i64)⟩,e,true)) : Chn W H e d i l
 | lent {d i k : Nat} {l r : List Int} (hw : W i) (hi : i<H.next) (h : H.get i=some (.lent ⟨l.map (Value.int .i64)⟩ e k)) (hk : i<k) (hc : Chn W H e d k (l++r)) : Chn W H e (d+1) i l
theorem eqA_int (n : Int) : eqA (Value.int .i64 n) (Value.int .i64 n)=true:=by simp[eqA]
theorem preB_int : ∀ (l r : List Int),preB (l.map (Value.int .i64)) ((l++r).map (Value.int .i64))=true
 | [],_=>by simp[preB]
 | x::l,r=>by
  have:=preB_int l r
  rw[List.map_append] at this
  simp[preB,eqA_int,this]
theorem Chn.now {W : Nat→Prop} {H : Heap} {e : TypeId} {d i : Nat} {l : List Int} (h : Chn W H e d i l) : ∀ {f : Nat},d<f→∃ tp,W tp∧tp<H.next∧i≤tp∧nowB H f i=some (l.map (Value.int .i64),e,tp):=by
 induction h with
 | @own d i l hw hi h=>
  intro f hf
  refine⟨i,hw,hi,Nat.le_refl _,?_⟩
  obtain⟨f,rfl⟩ : ∃ g,f=g+1:=⟨f-1,by omega⟩
  unfold nowB
  unfold Heap.cellsAt at h
  cases hg : H.get i with
  | none=>rw[hg] at h;cases h
  | some o=>
   rw[hg] at h
   cases o<;>simp at h
   obtain⟨rfl,rfl,rfl⟩:=h
   rfl
 | @lent d i k l r hw hi h hk hc ih=>
  intro f hf
  obtain⟨f,rfl⟩ : ∃ g,f=g+1:=⟨f-1,by omega⟩
  obtain⟨tp,h1,h2,h3,h4⟩:=ih (f:=f) (by omega)
  refine⟨tp,h1,h2,by omega,?_⟩
  unfold nowB
  simp only[h,h4]
  rw[if_pos ⟨trivial,preB_int l r⟩]
theorem Chn.lt {W : Nat→Prop} {H : Heap} {e : TypeId} {d i : Nat} {l : List Int} (h : Chn W H e d i l) : i<H.next:=by cases h<;>assumption
theorem Chn.w {W : Nat→Prop} {H : Heap} {e : TypeId} {d i : Nat} {l : List Int} (h : Chn W H e d i l) : W i:=by cases h<;>assumption
theorem Chn.keep {W U : Nat→Prop} {H Y : Heap} {e : TypeId} {d i : Nat} {l : List Int} (h : Chn W H e d i l) (g : GrowS U H Y) (hu : ∀ j,W j→i≤j→¬ U j) : Chn W Y e d i l:=by
 induction h with
 | own hw hi h=>exact .own hw (Nat.lt_of_lt_of_le hi g.1) ((g.cells hi (hu _ hw (Nat.le_refl _))).trans h)
 | lent hw hi h hk hc ih=>exact .lent hw (Nat.lt_of_lt_of_le hi g.1) ((g.2 _ hi (hu _ hw (Nat.le_refl _))).trans h) hk (ih (fun j hj hk'=>hu j hj (by omega)))
theorem Chn.mono {W W' : Nat→Prop} {H : Heap} {e : TypeId} {d i : Nat} {l : List Int} (h : Chn W H e d i l) (hw : ∀ j,W j→W' j) : Chn W' H e d i l:=by
 induction h with
 | own h1 hi h=>exact .own (hw _ h1) hi h
 | lent h1 hi h hk hc ih=>exact .lent (hw _ h1) hi h hk ih
theorem Chn.push {W : Nat→Prop} {X : Heap} {e : TypeId} {d s bytes : Nat} {v : Value} {l : List Int} {n : Int} {el : TypeId} {rw' : Bool} (hl : l.length≤16) (hd : d+1≤24) (hb : bytes≤100)
  (hv : (v=.slice none 0 0∧l=[])∨∃ i,v=.slice (some ⟨i,0,none⟩) l.length l.length∧Chn W X e d i l) (hs : s<X.next) (hc : X.cellsAt s=some (⟨[Value.int .i64 n]⟩,el,rw')) :
  ∃ Y,yappend e 1 bytes X v (.slice (some ⟨s,0,none⟩) 1 1)=some (.slice (some ⟨X.next,0,none⟩) (l.length+1) (l.length+1),Y)∧Y.next=X.next+1∧Y.cellsAt X.next=some (⟨(l++[n]).map (Value.int .i64)⟩,e,true) ∧
   ((v=.slice none 0 0∧l=[]∧Grow X Y)∨∃ i,v=.slice (some ⟨i,0,none⟩) l.length l.length∧Y.get i=some (.lent ⟨l.map (Value.int .i64)⟩ e X.next)∧GrowS (fun j=>W j∧i≤j) X Y∧i<X.next∧W i):=by
 have e48 : (2 : Nat) ^ 48=281474976710656:=by decide
 have hsrc : xsource X 1 1 (some ⟨s,0,none⟩)=some ⟨[Value.int .i64 n]⟩:=by
  have hsl : Sl X (.slice (some ⟨s,0,none⟩) 1 1) [Value.int .i64 n]:=.at hs hc (by decide) rfl (by simp) (fun k x hx=>by simpa using hx)
  exact (hsl.source (by decide)).1
 have hcond : ((⟨[Value.int .i64 n]⟩ : Array Value).toList.all fun y=>y.oneCell' && notTop y)=true:=rfl
 have hb2 : (2*(l.length+1)+256)*bytes≤281474976710656:=by
  have : (2*(l.length+1)+256)*bytes≤290*100:=Nat.mul_le_mul (by omega) hb
  omega
 rcases hv with⟨rfl,rfl⟩|⟨i,rfl,hC⟩
 ·refine⟨X.alloc (.cells ⟨[Value.int .i64 n]⟩ e true),?_,rfl,cells_alloc _ _ _ _,.inl ⟨rfl,rfl,(Grow.refl X).alloc _⟩⟩
  simp only[yappend]
  rw[if_neg (by omega),hsrc]
  simp only[]
  rw[e48,if_pos ⟨hcond,hb2,by simp⟩]
  simp
 ·have hi:=hC.lt
  have hWi:=hC.w
  have ex : ∀ a : Nat,a=l.length→(⟨l.map (Value.int .i64)⟩ : Array Value).extract 0 a=⟨l.map (Value.int .i64)⟩:=by
   rintro a rfl
   apply Array.toList_inj.1
   simp only[List.extract_toArray,List.extract_eq_take_drop,List.drop_zero,Nat.sub_zero]
   rw[List.take_of_length_le (by simp)]
  have e1 : lentO 0 (l.length*1) ⟨l.map (Value.int .i64)⟩ e X.next=.lent ⟨l.map (Value.int .i64)⟩ e X.next:=by
   unfold lentO
   rw[if_pos ⟨rfl,by omega⟩,ex _ (by omega)]
  have e2 : (⟨l.map (Value.int .i64)⟩ : Array Value).extract 0 (0+l.length*1)++(⟨[Value.int .i64 n]⟩ : Array Value)=⟨(l++[n]).map (Value.int .i64)⟩:=by
   rw[ex _ (by omega)]
   apply Array.toList_inj.1
   simp
  have e3:=ex (l.length*1) (by omega)
  have e4 : (⟨l.map (Value.int .i64)⟩ : Array Value)++(⟨[Value.int .i64 n]⟩ : Array Value)=⟨(l++[n]).map (Value.int .i64)⟩:=by
   apply Array.toList_inj.1
   simp
  have hC0:=hC
  cases hC with
  | own hw hi' h=>
   refine⟨(X.set i (.lent ⟨l.map (Value.int .i64)⟩ e X.next)).alloc (.cells ⟨(l++[n]).map (Value.int .i64)⟩ e true),?_,rfl,?_,.inr ⟨i,rfl,?_,?_,hi,hWi⟩⟩
   ·simp only[yappend]
    rw[if_neg (by omega),hsrc]
    simp only[]
    rw[e48,if_pos ⟨hcond,hb2,by omega⟩]
    simp only[h]
    rw[if_pos ⟨trivial,by simp,by simp,by omega⟩,if_neg (by omega)]
    rw[e1,e2]
   ·have:=cells_alloc (X.set i (.lent ⟨l.map (Value.int .i64)⟩ e X.next)) ⟨(l++[n]).map (Value.int .i64)⟩ e true
    simpa only[Heap.next_set] using this
   ·rw[Heap.get_alloc,if_neg (by rw[Heap.next_set];omega),Heap.get_set,if_pos rfl]
   ·refine⟨by simp only[Heap.next_alloc,Heap.next_set];omega,fun j hj hn=>?_⟩
    rw[Heap.get_alloc,if_neg (by rw[Heap.next_set];omega),Heap.get_set,if_neg (fun hh=>hn ⟨by rw[hh];exact hWi,by omega⟩)]
  | lent hw hi' h hk hc'=>
   obtain⟨tp,t1,t2,t3,t4⟩:=hC0.now (f:=24) (by omega)
   have hno : X.cellsAt i=none:=by unfold Heap.cellsAt;rw[h]
   refine⟨((X.set tp .dead).set i (.lent ⟨l.map (Value.int .i64)⟩ e X.next)).alloc (.cells ⟨(l++[n]).map (Value.int .i64)⟩ e true),?_,rfl,?_,.inr ⟨i,rfl,?_,?_,hi,hWi⟩⟩
   ·simp only[yappend]
    rw[if_neg (by omega),hsrc]
    simp only[]
    rw[e48,if_pos ⟨hcond,hb2,by omega⟩]
    simp only[hno,t4]
    rw[if_pos ⟨trivial,trivial,by simp,by omega⟩]
    rw[e3,e4]
   ·have:=cells_alloc ((X.set tp .dead).set i (.lent ⟨l.map (Value.int .i64)⟩ e X.next)) ⟨(l++[n]).map (Value.int .i64)⟩ e true
    simpa only[Heap.next_set] using this
   ·rw[Heap.get_alloc,if_neg (by simp only[Heap.next_set];omega),Heap.get_set,if_pos rfl]
   ·refine⟨by simp only[Heap.next_alloc,Heap.next_set];omega,fun j hj hn=>?_⟩
    rw[Heap.get_alloc,if_neg (by simp only[Heap.next_set];omega),Heap.get_set,if_neg (fun hh=>hn ⟨by rw[hh];exact hWi,by omega⟩),Heap.get_set,if_neg (fun hh=>hn ⟨by rw[hh];exact t1,by omega⟩)]
section
variable {P : Program} [Gl P] [Orc P] {t : TT} {H H1 : Heap} {is : List FI} {d p : Pth} {w : Bool} {v : Value} {fa : FA} {args : List FA} {l : List Value} {y : Value} {pre : List Heap} {R : TT→List Heap→Prop} {S : Value→Heap→Prop}
theorem DoesD.yield {j : Nat} {a b : Array Value} (hf : dA t fa=.func (.yield j) a b) (h : EvY P j (a++⟨args.map (dA t)⟩) H v H1) : DoesD P (.call fa args) t H v H1:=by
 have hb : FOp.call fa args≠badOp:=by
  intro e
  unfold badOp at e
  cases e
  cases hf
 refine⟨hb,fun op tm ho ht=>?_⟩
 rcases comp_call (compOp_S ho hb) with⟨f,aa,ts,rfl,rfl,rfl⟩|rfl
 ·obtain⟨n,h⟩:=h
  refine⟨n,fun N hN=>?_⟩
  rw[dA_comp ht] at hf
  rw[parts_eq ht] at h
  have e : (⟨aa.toList.map (ev P tm)⟩ : Array Value)=aa.map (ev P tm):=by apply Array.toList_inj.1;simp
  rw[e] at h
  simp only[xopv,hf,h N hN]
 ·cases hf
theorem DoesD.callV (hf : dA t fa=y) (h : FV P y (args.map (dA t)) H S) : ∃ v H1,DoesD P (.call fa args) t H v H1∧S v H1:=by
 subst hf
 unfold FV at h
 split at h
 ·rename_i g a b e
  obtain⟨v,H1,h1,h2⟩:=h
  have e2 : (⟨a⟩ : Array Value)++⟨args.map (dA t)⟩++⟨b⟩=⟨a++args.map (dA t)++b⟩:=by simp only[arr_app]
  exact⟨v,H1,.call e (by rw[e2];exact h1),h2⟩
 ·rename_i l a b e
  obtain⟨v,H1,h1,h2⟩:=h
  have e2 : (⟨a⟩ : Array Value)++⟨args.map (dA t)⟩=⟨a++args.map (dA t)⟩:=by simp only[arr_app]
  exact⟨v,H1,.yield e (by rw[e2];exact h1),h2⟩
 ·exact h.elim
theorem VD.callV (hf : dA t fa=y) (hs : FV P y l H S) (hl : args.map (dA t)=l) (k : ∀ v H',S v H'→VD P is (st v d t) H' (pre++[H]) R) : VD P (.go (.call fa args) d::is) t H pre R:=by
 subst hl
 obtain⟨v,H1,h1,h2⟩:=DoesD.callV hf hs
 exact .does h1 (k _ _ h2)
theorem VD.callVT (hp : gt p t=.bool w) (hf : dA t fa=y) (hs : FV P y l H S) (hl : args.map (dA t)=l) (k : ∀ v H',S v H'→VD P is (st v d t) H' (pre++[H]) R) : VD P (.gd p w (.call fa args) d::is) t H pre R:=by
 subst hl
 obtain⟨v,H1,h1,h2⟩:=DoesD.callV hf hs
 exact .gdT hp h1 (k _ _ h2)
end
end Go.Xe
