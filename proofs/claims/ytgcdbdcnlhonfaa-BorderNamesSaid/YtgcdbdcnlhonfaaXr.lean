/- An executable reading of the model's code over an abstract heap (part 18): a machine for the kernel, on trees and lists, over code whose types are resolved. Conditions: none; these are definitions. -/
import Derived.Test.YtgcdbdcnlhonfaaXq
namespace Go.Xe
open Go
inductive Pth where
 | o
 | l (p : Pth)
 | r (p : Pth)
inductive TT where
 | e
 | n (v : Value) (l r : TT)
inductive FA where
 | tmp (p : Pth)
 | con (v : Value)
inductive FOp where
 | move (x : FA)
 | pick (c a b : FA)
 | alloc (el : TypeId) (z : List Value)
 | box (el : TypeId) (x : FA)
 | build (z : List Value) (parts : List (Nat×Nat×FA))
 | buildSlice (el : TypeId) (len : Nat) (z : List Value) (parts : List (Nat×Nat×FA))
 | load1 (x : FA)
 | loadN (n : Nat) (x : FA)
 | store (n : Nat) (a x : FA)
 | nilCheck (x : FA)
 | bin (op : BinOp) (t : TypeId) (x y : FA)
 | un (op : UnOp) (x : FA)
 | conv (k : IntKind) (x : FA)
 | fieldAddr (off : Nat) (x : FA)
 | field1 (off : Nat) (x : FA)
 | fieldN (off n : Nat) (x : FA)
 | indexAddr (arr : Option Nat) (es : Nat) (x i : FA)
 | index (len es : Nat) (one : Bool) (x i : FA)
 | slice (e : TypeId) (es : Nat) (x : FA) (lo hi : Option FA)
 | len (kd : Nat) (x : FA)
 | mm (mx : Bool) (xs : List FA)
 | append (e : TypeId) (es bytes : Nat) (s x : FA)
 | makeSlice (e : TypeId) (es bytes : Nat) (z : List Value) (l c : FA)
 | makeFunc (f : FuncId) (a b : List FA)
 | makeMap (kt : TypeId)
 | lookup (kt : TypeId) (z : Value) (x k : FA) (ok : Bool)
 | mapUpdate (kt : TypeId) (m k v : FA)
 | extract (x : FA) (i : Nat)
 | cap (x : FA)
 | appendMk (e : TypeId) (es bytes : Nat) (z : List Value) (s x : FA)
 | call (f : FA) (args : List FA)
 | idxSlow (t : TypeId) (x i : FA)
 | sliceSlow (t : TypeId) (x : FA) (lo hi : Option FA)
 | toBytes (e : TypeId) (x : FA)
 | toStr (x : FA)
 | clear (es : Nat) (z : List Value) (x : FA)
 | slice3 (e : TypeId) (es : Nat) (x : FA) (lo : Option FA) (hi m : FA)
 | copy (es : Nat) (d s : FA)
inductive FI where
 | go (op : FOp) (d : Pth)
 | un (op : FOp)
 | gd (p : Pth) (w : Bool) (op : FOp) (d : Pth)
 | gu (p : Pth) (w : Bool) (op : FOp)
inductive FC where
 | ok
 | rd (g : Option (Pth×Bool)) (o : FOp) (d : Option Pth) (qs : List Nat)
 | nw (g : Option (Pth×Bool)) (d : Option Pth) (p : Nat) (new : Bool)
inductive FCode where
 | skip
 | exit (id : Nat)
 | ret
 | seq (x y : FCode)
 | cond (c : FA) (x y : FCode)
 | block (id : Nat) (b : FCode)
 | scope (b : FCode)
 | loop (b : FCode)
 | run (is : List FI)
 | draw (n : Nat) (is : List FI) (cs : List FC)
 | rangeFunc (f : FA) (ps : List Pth) (ca cb : Code) (fa fb : FCode)
 | bad
inductive FJ where
 | exit (id : Nat)
 | ret
inductive FO where
 | cells (c : List Value) (el : TypeId) (rw : Bool)
 | map (kt : TypeId) (es : List MapEntry) (clock : Nat)
 | loop (st : LoopState) (pend : Option FJ) (t : TT) (ps : List Pth) (ca cb : Code) (fa fb : FCode) (defers : Nat)
 | deferred
 | dead
 | lent (c : List Value) (el : TypeId) (k : Nat)
inductive HT where
 | e
 | n (o : FO) (l r : HT)
inductive FH where
 | mk (next : Nat) (t : HT)
inductive RF where
 | fail (n : Nat)
 | nx (t : TT) (m : List Nat) (H : FH)
 | ex (id : Nat) (t : TT) (m : List Nat) (H : FH)
 | rt (t : TT) (m : List Nat) (H : FH)
inductive FRes where
 | tmp (p : Pth)
 | one (p : Pth)
 | many (p : Pth) (n : Nat)
inductive FFunc where
 | mk (code : FCode) (tmpl : TT) (args : List Pth) (res : List FRes)
 | bad
 | orc (b : Bool)
noncomputable def gN (n : Nat) (k : Nat→RF) : RF:=Nat.rec (motive:=fun _=>RF) (k 0) (fun m _=>k (Nat.succ m)) n
noncomputable def gI (n : Int) (k : Int→RF) : RF:=Int.rec (motive:=fun _=>RF) (fun m=>gN m fun m=>k (.ofNat m)) (fun m=>gN m fun m=>k (.negSucc m)) n
noncomputable def ifB (b : Bool) (x y : RF) : RF:=Bool.rec (motive:=fun _=>RF) y x b
noncomputable def hV : Value→(Value→RF)→RF:=
 Value.rec (motive_1:=fun _=>(Value→RF)→RF) (motive_2:=fun _=>PUnit) (motive_3:=fun _=>PUnit) (fun x0=>fun k=>k (.bool x0)) (fun x0 x1=>fun k=>k (.int x0 x1)) (fun x0 x1=>fun k=>k (.float x0 x1)) (fun x0 x1 x2=>fun k=>k (.complex x0 x1 x2)) (fun x0=>fun k=>k (.string x0)) (fun x0=>fun k=>k (.pointer x0)) (fun x0 x1 x2=>fun k=>k (.slice x0 x1 x2)) (fun x0=>fun k=>k (.map x0)) (fun x0=>fun k=>k (.chan x0)) (fun x0 x1 x2 _h0 _h1=>fun k=>k (.func x0 x1 x2)) (fun k=>k .nilFunc) (fun x0 x1 _h0=>fun k=>k (.iface x0 x1)) (fun k=>k .nilIface) (fun x0 _h0=>fun k=>k (.agg x0)) (fun x0 _h0=>fun k=>k (.tuple x0)) (fun _ _=>⟨⟩) ⟨⟩ (fun _ _ _ _=>⟨⟩)
noncomputable def asPtr : Value→(Nat→Nat→RF)→RF:=
 Value.rec (motive_1:=fun _=>(Nat→Nat→RF)→RF) (motive_2:=fun _=>PUnit) (motive_3:=fun _=>PUnit) (fun _=>fun _=>.fail 3) (fun _ _=>fun _=>.fail 3) (fun _ _=>fun _=>.fail 3) (fun _ _ _=>fun _=>.fail 3) (fun _=>fun _=>.fail 3) (fun x0=>fun k=>Option.rec (motive:=fun _=>RF) (.fail 1) (fun a=>Addr.rec (motive:=fun _=>RF) (fun i o s=>Option.rec (motive:=fun _=>RF) (k i o) (fun _s=>.fail 2) s) a) x0) (fun _ _ _=>fun _=>.fail 3) (fun _=>fun _=>.fail 3) (fun _=>fun _=>.fail 3) (fun _ _ _ _ _=>fun _=>.fail 3) (fun _=>.fail 3) (fun _ _ _=>fun _=>.fail 3) (fun _=>.fail 3) (fun _ _=>fun _=>.fail 3) (fun _ _=>fun _=>.fail 3) (fun _ _=>⟨⟩) ⟨⟩ (fun _ _ _ _=>⟨⟩)
noncomputable def asInt : Value→(IntKind→Int→RF)→RF→RF:=
 Value.rec (motive_1:=fun _=>(IntKind→Int→RF)→RF→RF) (motive_2:=fun _=>PUnit) (motive_3:=fun _=>PUnit) (fun _=>fun _ d=>d) (fun x0 x1=>fun k _=>k x0 x1) (fun _ _=>fun _ d=>d) (fun _ _ _=>fun _ d=>d) (fun _=>fun _ d=>d) (fun _=>fun _ d=>d) (fun _ _ _=>fun _ d=>d) (fun _=>fun _ d=>d) (fun _=>fun _ d=>d) (fun _ _ _ _ _=>fun _ d=>d) (fun _ d=>d) (fun _ _ _=>fun _ d=>d) (fun _ d=>d) (fun _ _=>fun _ d=>d) (fun _ _=>fun _ d=>d) (fun _ _=>⟨⟩) ⟨⟩ (fun _ _ _ _=>⟨⟩)
noncomputable def asNat : Value→(Nat→RF)→RF:=
 Value.rec (motive_1:=fun _=>(Nat→RF)→RF) (motive_2:=fun _=>PUnit) (motive_3:=fun _=>PUnit) (fun _=>fun _=>.fail 5) (fun _x0 x1=>fun k=>Int.rec (motive:=fun _=>RF) (fun m=>k m) (fun _=>.fail 4) x1) (fun _ _=>fun _=>.fail 5) (fun _ _ _=>fun _=>.fail 5) (fun _=>fun _=>.fail 5) (fun _=>fun _=>.fail 5) (fun _ _ _=>fun _=>.fail 5) (fun _=>fun _=>.fail 5) (fun _=>fun _=>.fail 5) (fun _ _ _ _ _=>fun _=>.fail 5) (fun _=>.fail 5) (fun _ _ _=>fun _=>.fail 5) (fun _=>.fail 5) (fun _ _=>fun _=>.fail 5) (fun _ _=>fun _=>.fail 5) (fun _ _=>⟨⟩) ⟨⟩ (fun _ _ _ _=>⟨⟩)
noncomputable def asBool : Value→RF→RF→RF→RF:=
 Value.rec (motive_1:=fun _=>RF→RF→RF→RF) (motive_2:=fun _=>PUnit) (motive_3:=fun _=>PUnit) (fun x0=>fun a b _=>Bool.rec (motive:=fun _=>RF) b a x0) (fun _ _=>fun _ _ c=>c) (fun _ _=>fun _ _ c=>c) (fun _ _ _=>fun _ _ c=>c) (fun _=>fun _ _ c=>c) (fun _=>fun _ _ c=>c) (fun _ _ _=>fun _ _ c=>c) (fun _=>fun _ _ c=>c) (fun _x0=>fun _ _ _=>.fail 6) (fun _ _ _ _ _=>fun _ _ c=>c) (fun _ _ c=>c) (fun _ _ _=>fun _ _ c=>c) (fun _ _ c=>c) (fun _ _=>fun _ _ c=>c) (fun _ _=>fun _ _ c=>c) (fun _ _=>⟨⟩) ⟨⟩ (fun _ _ _ _=>⟨⟩)
noncomputable def asAgg : Value→(List Value→RF)→RF:=
 Value.rec (motive_1:=fun _=>(List Value→RF)→RF) (motive_2:=fun _=>PUnit) (motive_3:=fun _=>PUnit) (fun _=>fun _=>.fail 7) (fun _ _=>fun _=>.fail 7) (fun _ _=>fun _=>.fail 7) (fun _ _ _=>fun _=>.fail 7) (fun _=>fun _=>.fail 7) (fun _=>fun _=>.fail 7) (fun _ _ _=>fun _=>.fail 7) (fun _=>fun _=>.fail 7) (fun _=>fun _=>.fail 7) (fun _ _ _ _ _=>fun _=>.fail 7) (fun _=>.fail 7) (fun _ _ _=>fun _=>.fail 7) (fun _=>.fail 7) (fun x0 _h0=>fun k=>Array.rec (motive:=fun _=>RF) (fun l=>k l) x0) (fun _ _=>fun _=>.fail 7) (fun _ _=>⟨⟩) ⟨⟩ (fun _ _ _ _=>⟨⟩)
noncomputable def asTuple : Value→(List Value→RF)→RF:=
 Value.rec (motive_1:=fun _=>(List Value→RF)→RF) (motive_2:=fun _=>PUnit) (motive_3:=fun _=>PUnit) (fun _=>fun _=>.fail 8) (fun _ _=>fun _=>.fail 8) (fun _ _=>fun _=>.fail 8) (fun _ _ _=>fun _=>.fail 8) (fun _=>fun _=>.fail 8) (fun _=>fun _=>.fail 8) (fun _ _ _=>fun _=>.fail 8) (fun _=>fun _=>.fail 8) (fun _=>fun _=>.fail 8) (fun _ _ _ _ _=>fun _=>.fail 8) (fun _=>.fail 8) (fun _ _ _=>fun _=>.fail 8) (fun _=>.fail 8) (fun _ _=>fun _=>.fail 8) (fun x0 _h0=>fun k=>Array.rec (motive:=fun _=>RF) (fun l=>k l) x0) (fun _ _=>⟨⟩) ⟨⟩ (fun _ _ _ _=>⟨⟩)
noncomputable def asCells : Value→(List Value→RF)→RF→RF:=
 Value.rec (motive_1:=fun _=>(List Value→RF)→RF→RF) (motive_2:=fun _=>PUnit) (motive_3:=fun _=>PUnit) (fun _=>fun _ d=>d) (fun _ _=>fun _ d=>d) (fun _ _=>fun _ d=>d) (fun _ _ _=>fun _ d=>d) (fun _=>fun _ d=>d) (fun _=>fun _ d=>d) (fun _ _ _=>fun _ d=>d) (fun _=>fun _ d=>d) (fun _x0=>fun _ _=>.fail 9) (fun _ _ _ _ _=>fun _ d=>d) (fun _ d=>d) (fun _ _ _=>fun _ d=>d) (fun _ d=>d) (fun x0 _h0=>fun k _=>Array.rec (motive:=fun _=>RF) (fun l=>k l) x0) (fun _ _=>fun _ d=>d) (fun _ _=>⟨⟩) ⟨⟩ (fun _ _ _ _=>⟨⟩)
noncomputable def asSlice : Value→(Nat→Nat→Nat→Nat→RF)→(Nat→Nat→Nat→Nat→Nat→RF)→(Nat→Nat→RF)→RF:=
 Value.rec (motive_1:=fun _=>(Nat→Nat→Nat→Nat→RF)→(Nat→Nat→Nat→Nat→Nat→RF)→(Nat→Nat→RF)→RF) (motive_2:=fun _=>PUnit) (motive_3:=fun _=>PUnit) (fun _=>fun _ _ _=>.fail 10) (fun _ _=>fun _ _ _=>.fail 10) (fun _ _=>fun _ _ _=>.fail 10) (fun _ _ _=>fun _ _ _=>.fail 10) (fun _=>fun _ _ _=>.fail 10) (fun _=>fun _ _ _=>.fail 10) (fun x0 x1 x2=>fun k e z=>Option.rec (motive:=fun _=>RF) (z x1 x2) (fun a=>Addr.rec (motive:=fun _=>RF) (fun i o s=>Option.rec (motive:=fun _=>RF) (k i o x1 x2) (fun s=>e i o s x1 x2) s) a) x0) (fun _=>fun _ _ _=>.fail 10) (fun _=>fun _ _ _=>.fail 10) (fun _ _ _ _ _=>fun _ _ _=>.fail 10) (fun _ _ _=>.fail 10) (fun _ _ _=>fun _ _ _=>.fail 10) (fun _ _ _=>.fail 10) (fun _ _=>fun _ _ _=>.fail 10) (fun _ _=>fun _ _ _=>.fail 10) (fun _ _=>⟨⟩) ⟨⟩ (fun _ _ _ _=>⟨⟩)
noncomputable def asMap : Value→(Nat→RF)→RF→RF:=
 Value.rec (motive_1:=fun _=>(Nat→RF)→RF→RF) (motive_2:=fun _=>PUnit) (motive_3:=fun _=>PUnit) (fun _=>fun _ _=>.fail 11) (fun _ _=>fun _ _=>.fail 11) (fun _ _=>fun _ _=>.fail 11) (fun _ _ _=>fun _ _=>.fail 11) (fun _=>fun _ _=>.fail 11) (fun _=>fun _ _=>.fail 11) (fun _ _ _=>fun _ _=>.fail 11) (fun x0=>fun k z=>Option.rec (motive:=fun _=>RF) z (fun i=>k i) x0) (fun _=>fun _ _=>.fail 11) (fun _ _ _ _ _=>fun _ _=>.fail 11) (fun _ _=>.fail 11) (fun _ _ _=>fun _ _=>.fail 11) (fun _ _=>.fail 11) (fun _ _=>fun _ _=>.fail 11) (fun _ _=>fun _ _=>.fail 11) (fun _ _=>⟨⟩) ⟨⟩ (fun _ _ _ _=>⟨⟩)
noncomputable def getP (p : Pth) : TT→Value:=
 Pth.rec (motive:=fun _=>TT→Value) (fun t=>TT.rec (motive:=fun _=>Value) undef (fun v _ _ _ _=>v) t)
  (fun _ ih t=>TT.rec (motive:=fun _=>Value) undef (fun _ l _ _ _=>ih l) t) (fun _ ih t=>TT.rec (motive:=fun _=>Value) undef (fun _ _ r _ _=>ih r) t) p
noncomputable def setP (v : Value) (p : Pth) : TT→(TT→RF)→RF:=
 Pth.rec (motive:=fun _=>TT→(TT→RF)→RF) (fun t k=>TT.rec (motive:=fun _=>RF) (.fail 20) (fun _ l r _ _=>k (.n v l r)) t)
  (fun _ ih t k=>TT.rec (motive:=fun _=>RF) (.fail 20) (fun x l r _ _=>ih l fun l'=>k (.n x l' r)) t) (fun _ ih t k=>TT.rec (motive:=fun _=>RF) (.fail 20) (fun x l r _ _=>ih r fun r'=>k (.n x l r')) t) p
noncomputable def getH (t : HT) : Nat→FO:=
 HT.rec (motive:=fun _=>Nat→FO) (fun _=>.dead)
  (fun o _ _ ihl ihr n=>Nat.rec (motive:=fun _=>FO) o (fun m _=>Bool.rec (motive:=fun _=>FO) (ihr (Nat.div m 2)) (ihl (Nat.div m 2)) (Nat.beq (Nat.mod m 2) 0)) n) t
noncomputable def setH (x : FO) (t : HT) : Nat→(HT→RF)→RF:=
 HT.rec (motive:=fun _=>Nat→(HT→RF)→RF) (fun n k=>Nat.rec (motive:=fun _=>RF) (k (.n x .e .e)) (fun _ _=>.fail 21) n)
  (fun o l r ihl ihr n k=>Nat.rec (motive:=fun _=>RF) (k (.n x l r)) (fun m _=>Bool.rec (motive:=fun _=>RF) (ihr (Nat.div m 2) fun r'=>k (.n o l r')) (ihl (Nat.div m 2) fun l'=>k (.n o l' r)) (Nat.beq (Nat.mod m 2) 0)) n) t
noncomputable def nthL (n : Nat) : List Value→(Value→RF)→RF:=
 Nat.rec (motive:=fun _=>List Value→(Value→RF)→RF) (fun l k=>List.rec (motive:=fun _=>RF) (.fail 22) (fun x _ _=>k x) l)
  (fun _ ih l k=>List.rec (motive:=fun _=>RF) (.fail 22) (fun _ xs _=>ih xs k) l) n
noncomputable def setL (v : Value) (n : Nat) : List Value→(List Value→RF)→RF:=
 Nat.rec (motive:=fun _=>List Value→(List Value→RF)→RF) (fun l k=>List.rec (motive:=fun _=>RF) (.fail 23) (fun _ xs _=>k (v::xs)) l)
  (fun _ ih l k=>List.rec (motive:=fun _=>RF) (.fail 23) (fun x xs _=>ih xs fun r=>k (x::r)) l) n
noncomputable def overL (vs : List Value) : List Value→(List Value→RF)→RF:=
 List.rec (motive:=fun _=>List Value→(List Value→RF)→RF) (fun l k=>k l)
  (fun v _ ih l k=>List.rec (motive:=fun _=>RF) (.fail 24) (fun _ xs _=>ih xs fun r=>k (v::r)) l) vs
noncomputable def spliceL (vs : List Value) (o : Nat) : List Value→(List Value→RF)→RF:=
 Nat.rec (motive:=fun _=>List Value→(List Value→RF)→RF) (fun l k=>overL vs l k)
  (fun _ ih l k=>List.rec (motive:=fun _=>RF) (.fail 25) (fun x xs _=>ih xs fun r=>k (x::r)) l) o
noncomputable def takeL (n : Nat) : List Value→(List Value→RF)→RF:=
 Nat.rec (motive:=fun _=>List Value→(List Value→RF)→RF) (fun _ k=>k [])
  (fun _ ih l k=>List.rec (motive:=fun _=>RF) (.fail 26) (fun x xs _=>ih xs fun r=>k (x::r)) l) n
noncomputable def subL (n : Nat) (o : Nat) : List Value→(List Value→RF)→RF:=
 Nat.rec (motive:=fun _=>List Value→(List Value→RF)→RF) (fun l k=>takeL n l k)
  (fun _ ih l k=>List.rec (motive:=fun _=>RF) (.fail 27) (fun _ xs _=>ih xs k) l) o
noncomputable def catL (b : List Value) (a : List Value) : (List Value→RF)→RF:=
 List.rec (motive:=fun _=>(List Value→RF)→RF) (fun k=>k b) (fun x _ ih k=>ih fun r=>k (x::r)) a
noncomputable def repL (z : List Value) (n : Nat) : (List Value→RF)→RF:=
 Nat.rec (motive:=fun _=>(List Value→RF)→RF) (fun k=>k []) (fun _ ih k=>ih fun r=>catL r z k) n
noncomputable def lenIs (l : List Value) : Nat→RF→RF:=
 List.rec (motive:=fun _=>Nat→RF→RF) (fun n k=>Nat.rec (motive:=fun _=>RF) k (fun _ _=>.fail 28) n) (fun _ _ ih n k=>Nat.rec (motive:=fun _=>RF) (.fail 28) (fun m _=>ih m k) n) l
noncomputable def okCell : Value→RF→RF:=Value.rec (motive_1:=fun _=>RF→RF) (motive_2:=fun _=>PUnit) (motive_3:=fun _=>PUnit) (fun _=>fun k=>k) (fun _ _=>fun k=>k) (fun _ _=>fun k=>k) (fun _ _ _=>fun k=>k) (fun _=>fun k=>k) (fun _=>fun k=>k) (fun _ _ _=>fun k=>k) (fun _=>fun k=>k) (fun _x0=>fun _=>.fail 29) (fun _ _ _ _ _=>fun k=>k) (fun k=>k) (fun _ _ _=>fun k=>k) (fun k=>k) (fun _x0 _h0=>fun _=>.fail 29) (fun _x0 _h0=>fun _=>.fail 29) (fun _ _=>⟨⟩) ⟨⟩ (fun _ _ _ _=>⟨⟩)
noncomputable def allL (l : List Value) (k : RF) : RF:=
 List.rec (motive:=fun _=>RF) k (fun x _ ih=>okCell x ih) l
noncomputable def evA (t : TT) (a : FA) : Value:=FA.rec (motive:=fun _=>Value) (fun p=>getP p t) (fun v=>v) a
noncomputable def evL (t : TT) (l : List FA) : (List Value→RF)→RF:=
 List.rec (motive:=fun _=>(List Value→RF)→RF) (fun k=>k []) (fun a _ ih k=>hV (evA t a) fun v=>ih fun r=>k (v::r)) l
noncomputable def fill1 (off size : Nat) (v : Value) (c : List Value) (k : List Value→RF) : RF:=
 asCells v (fun ws=>lenIs ws size (spliceL ws off c k)) (lenIs [v] size (hV v fun v=>setL v off c k))
noncomputable def fillL (t : TT) (parts : List (Nat×Nat×FA)) : List Value→(List Value→RF)→RF:=
 List.rec (motive:=fun _=>List Value→(List Value→RF)→RF) (fun c k=>k c)
  (fun x _ ih c k=>Prod.rec (motive:=fun _=>RF) (fun off y=>Prod.rec (motive:=fun _=>RF) (fun size a=>fill1 off size (evA t a) c fun c'=>ih c' k) y) x) parts
def maxI : Nat:=9223372036854775807
noncomputable def iLe (a b : Int) : Bool:=Int.rec (motive:=fun _=>Bool) (fun m=>Int.rec (motive:=fun _=>Bool) (fun n=>Nat.ble m n) (fun _=>false) b) (fun m=>Int.rec (motive:=fun _=>Bool) (fun _=>true) (fun n=>Nat.ble n m) b) a
noncomputable def iEq (a b : Int) : Bool:=Int.rec (motive:=fun _=>Bool) (fun m=>Int.rec (motive:=fun _=>Bool) (fun n=>Nat.beq m n) (fun _=>false) b) (fun m=>Int.rec (motive:=fun _=>Bool) (fun _=>false) (fun n=>Nat.beq m n) b) a
noncomputable def wrapK (k : IntKind) (z : Int) (c : Value→RF) : RF:=gI (k.wrap z) fun z=>c (.int k z)
noncomputable def wrapI (z : Int) (c : Value→RF) : RF:=Int.rec (motive:=fun _=>RF)
 (fun m=>gN m fun m=>ifB (Nat.ble m maxI) (c (.int .i64 (.ofNat m))) (wrapK .i64 (.ofNat m) c))
 (fun m=>gN m fun m=>ifB (Nat.ble m maxI) (c (.int .i64 (.negSucc m))) (wrapK .i64 (.negSucc m) c)) z
noncomputable def outB (b : Bool) (c : Value→RF) : RF:=Bool.rec (motive:=fun _=>RF) (c (.bool false)) (c (.bool true)) b
noncomputable def outNB (b : Bool) (c : Value→RF) : RF:=Bool.rec (motive:=fun _=>RF) (c (.bool true)) (c (.bool false)) b
noncomputable def binSlow (P : Program) (op : BinOp) (t : TypeId) (x y : Value) (c : Value→RF) : RF:=Option.rec (motive:=fun _=>RF) (.fail 30) (fun v=>forceV v c) (xbinOp P op t x y)
abbrev B64:=RF→Int→Int→(Value→RF)→RF
noncomputable def natBin (f : Nat→Nat→(Value→RF)→RF) : B64:=fun slow a b c=>Int.rec (motive:=fun _=>RF) (fun m=>Int.rec (motive:=fun _=>RF) (fun n=>f m n c) (fun _=>slow) b) (fun _=>slow) a
noncomputable def outN (n : Nat) (c : Value→RF) : RF:=gN n fun r=>c (.int .i64 (.ofNat r))
noncomputable def b64 (op : BinOp) : B64:=BinOp.rec (motive:=fun _=>B64)
 (fun _ a b c=>wrapI (Int.add a b) c) (fun _ a b c=>wrapI (Int.sub a b) c) (fun _ a b c=>wrapI (Int.mul a b) c)
 (natBin fun m n c=>Nat.rec (motive:=fun _=>RF) (.fail 31) (fun _ _=>ifB (Nat.ble m maxI) (outN (Nat.div m n) c) (.fail 31)) n)
 (natBin fun m n c=>Nat.rec (motive:=fun _=>RF) (.fail 31) (fun _ _=>outN (Nat.mod m n) c) n)
 (natBin fun m n c=>ifB (Nat.ble m maxI) (ifB (Nat.ble n maxI) (outN (Nat.land m n) c) (.fail 31)) (.fail 31)) (natBin fun m n c=>ifB (Nat.ble m maxI) (ifB (Nat.ble n maxI) (outN (Nat.lor m n) c) (.fail 31)) (.fail 31)) (fun s _ _ _=>s)
 (natBin fun m n c=>ifB (Nat.ble n 62) (wrapI (.ofNat (Nat.mul m (Nat.pow 2 n))) c) (.fail 32))
 (natBin fun m n c=>ifB (Nat.ble n 62) (outN (Nat.div m (Nat.pow 2 n)) c) (.fail 31)) (fun s _ _ _=>s)
 (fun _ a b c=>outB (iEq a b) c) (fun _ a b c=>outNB (iEq a b) c) (fun _ a b c=>outNB (iLe b a) c) (fun _ a b c=>outB (iLe a b) c) (fun _ a b c=>outNB (iLe a b) c) (fun _ a b c=>outB (iLe b a) c) op
noncomputable def is64 (k : IntKind) (x y : RF) : RF:=IntKind.rec (motive:=fun _=>RF) y y y x y y y y k
noncomputable def binF (P : Program) (op : BinOp) (t : TypeId) (x y : Value) (c : Value→RF) : RF:=
 asInt x (fun kx a=>asInt y (fun ky b=>is64 kx (is64 ky (b64 op (binSlow P op t x y c) a b c) (binSlow P op t x y c)) (binSlow P op t x y c)) (binSlow P op t x y c)) (binSlow P op t x y c)
noncomputable def boundF (t : TT) (x : Option FA) (df y : Nat) (c : Nat→RF) : RF:=
 Option.rec (motive:=fun _=>RF) (gN df c) (fun a=>asNat (evA t a) fun m=>ifB (Nat.ble m y) (gN m c) (.fail 33)) x
noncomputable def onCells (o : FO) : (List Value→TypeId→Bool→RF)→RF:=
 FO.rec (motive:=fun _=>(List Value→TypeId→Bool→RF)→RF) (fun cs el rw k=>k cs el rw) (fun _ _ _ _=>.fail 34) (fun _ _ _ _ _ _ _ _ _ _=>.fail 34) (fun _=>.fail 34) (fun _=>.fail 34) (fun _ _ _ _=>.fail 34) o
noncomputable def onMap (o : FO) : (TypeId→List MapEntry→Nat→RF)→RF:=
 FO.rec (motive:=fun _=>(TypeId→List MapEntry→Nat→RF)→RF) (fun _ _ _ _=>.fail 35) (fun kt es ck k=>k kt es ck) (fun _ _ _ _ _ _ _ _ _ _=>.fail 35) (fun _=>.fail 35) (fun _=>.fail 35) (fun _ _ _ _=>.fail 35) o
abbrev LoopK:=LoopState→Option FJ→TT→List Pth→Code→Code→FCode→FCode→Nat→RF
noncomputable def onLoop (o : FO) : LoopK→RF:=
 FO.rec (motive:=fun _=>LoopK→RF) (fun _ _ _ _=>.fail 36) (fun _ _ _ _=>.fail 36) (fun st pj t ps ca cb fa fb df k=>k st pj t ps ca cb fa fb df) (fun _=>.fail 36) (fun _=>.fail 36) (fun _ _ _ _=>.fail 36) o
noncomputable def onDeferred (o : FO) (k : RF) : RF:=
 FO.rec (motive:=fun _=>RF) (fun _ _ _=>.fail 37) (fun _ _ _=>.fail 37) (fun _ _ _ _ _ _ _ _ _=>.fail 37) k (.fail 37) (fun _ _ _=>.fail 37) o
noncomputable def objF (H : FH) (i : Nat) : FO:=FH.rec (motive:=fun _=>FO) (fun _ t=>getH t i) H
noncomputable def cellsF (H : FH) (i : Nat) (c : List Value→TypeId→Bool→RF) : RF:=onCells (objF H i) c
noncomputable def setF (H : FH) (i : Nat) (o : FO) (c : FH→RF) : RF:=FH.rec (motive:=fun _=>RF) (fun nx t=>setH o t i fun t'=>c (.mk nx t')) H
noncomputable def allocF (H : FH) (o : FO) (c : Nat→FH→RF) : RF:=FH.rec (motive:=fun _=>RF) (fun nx t=>setH o t nx fun t'=>gN (Nat.succ nx) fun nx'=>c nx (.mk nx' t')) H
abbrev OpT:=Program→TT→FH→(Value→FH→RF)→RF
def ptrV (i o : Nat) : Value:=.pointer (some ⟨i,o,none⟩)
noncomputable def opMove (x : FA) : OpT:=fun _ t H c=>hV (evA t x) fun v=>c v H
noncomputable def opPick (q a b : FA) : OpT:=fun _ t H c=>asBool (evA t q) (hV (evA t a) fun v=>c v H) (hV (evA t b) fun v=>c v H) (.fail 40)
noncomputable def opAlloc (el : TypeId) (z : List Value) : OpT:=fun _ _ H c=>allocF H (.cells z el true) fun i H'=>c (ptrV i 0) H'
noncomputable def opBox (el : TypeId) (x : FA) : OpT:=fun _ t H c=>asCells (evA t x) (fun l=>allocF H (.cells l el true) fun i H'=>c (ptrV i 0) H') (hV (evA t x) fun v=>allocF H (.cells [v] el true) fun i H'=>c (ptrV i 0) H')
noncomputable def opBuild (z : List Value) (parts : List (Nat×Nat×FA)) : OpT:=fun _ t H c=>fillL t parts z fun cs=>c (.agg ⟨cs⟩) H
noncomputable def opBuildSlice (el : TypeId) (len : Nat) (z : List Value) (parts : List (Nat×Nat×FA)) : OpT:=fun _ t H c=>fillL t parts z fun cs=>allocF H (.cells cs el true) fun i H'=>c (.slice (some ⟨i,0,none⟩) len len) H'
noncomputable def opLoad1 (x : FA) : OpT:=fun _ t H c=>asPtr (evA t x) fun i o=>cellsF H i fun cs _ _=>nthL o cs fun v=>c v H
noncomputable def opLoadN (n : Nat) (x : FA) : OpT:=fun _ t H c=>asPtr (evA t x) fun i o=>cellsF H i fun cs _ _=>subL n o cs fun r=>c (.agg ⟨r⟩) H
noncomputable def opStore (n : Nat) (a x : FA) : OpT:=fun _ t H c=>asPtr (evA t a) fun i o=>cellsF H i fun cs el rw=>ifB rw
 (asCells (evA t x) (fun ws=>lenIs ws n (allL ws (spliceL ws o cs fun cs'=>setF H i (.cells cs' el true) fun H'=>c undef H')))
  (lenIs [undef] n (hV (evA t x) fun v=>okCell v (setL v o cs fun cs'=>setF H i (.cells cs' el true) fun H'=>c undef H')))) (.fail 41)
noncomputable def opNil (x : FA) : OpT:=fun _ t H c=>hV (evA t x) fun v=>Option.rec (motive:=fun _=>RF) (.fail 42) (fun _=>c v H) (xnil v)
noncomputable def opBin (op : BinOp) (ty : TypeId) (x y : FA) : OpT:=fun P t H c=>binF P op ty (evA t x) (evA t y) fun v=>c v H
noncomputable def opUn (op : UnOp) (x : FA) : OpT:=fun _ t H c=>Option.rec (motive:=fun _=>RF) (.fail 43) (fun v=>forceV v fun v=>c v H) (xun op (evA t x))
noncomputable def opConv (k : IntKind) (x : FA) : OpT:=fun _ t H c=>asInt (evA t x) (fun _ n=>is64 k (wrapI n fun v=>c v H) (wrapK k n fun v=>c v H)) (.fail 44)
noncomputable def opFieldAddr (off : Nat) (x : FA) : OpT:=fun _ t H c=>asPtr (evA t x) fun i o=>gN (Nat.add o off) fun o'=>c (ptrV i o') H
noncomputable def opField1 (off : Nat) (x : FA) : OpT:=fun _ t H c=>asAgg (evA t x) fun ws=>nthL off ws fun v=>c v H
noncomputable def opFieldN (off n : Nat) (x : FA) : OpT:=fun _ t H c=>asAgg (evA t x) fun ws=>subL n off ws fun r=>c (.agg ⟨r⟩) H
noncomputable def opIndexAddr (arr : Option Nat) (es : Nat) (x i : FA) : OpT:=fun _ t H c=>asNat (evA t i) fun n=>Option.rec (motive:=fun _=>RF)
 (asSlice (evA t x) (fun b o len _=>ifB (Nat.ble (Nat.succ n) len) (gN (Nat.add o (Nat.mul n es)) fun o'=>c (ptrV b o') H) (.fail 45)) (fun _ _ _ _ _=>.fail 45) (fun _ _=>.fail 45))
 (fun len=>asPtr (evA t x) fun b o=>ifB (Nat.ble (Nat.succ n) len) (gN (Nat.add o (Nat.mul n es)) fun o'=>c (ptrV b o') H) (.fail 46)) arr
noncomputable def opIndex (len es : Nat) (one : Bool) (x i : FA) : OpT:=fun _ t H c=>asNat (evA t i) fun n=>asAgg (evA t x) fun ws=>ifB (Nat.ble (Nat.succ n) len)
 (ifB one (nthL n ws fun v=>c v H) (subL es (Nat.mul n es) ws fun r=>c (.agg ⟨r⟩) H)) (.fail 47)
noncomputable def slice1 (es i o cap h l : Nat) (H : FH) (c : Value→FH→RF) : RF:=ifB (Nat.beq cap l) (c (.slice (some ⟨i,o,some 0⟩) 0 0) H)
  (gN (Nat.add o (Nat.mul l es)) fun o'=>gN (Nat.sub h l) fun n'=>gN (Nat.sub cap l) fun c'=>c (.slice (some ⟨i,o',none⟩) n' c') H)
noncomputable def strideF (P : Program) (e i : Nat) (H : FH) (k : RF) : RF:=cellsF H i fun _ el rw=>ifB rw (ifB (Nat.beq el e) k (ifB (Nat.beq (P.cellsOf el) (P.cellsOf e)) k (.fail 86))) k
noncomputable def opSlice (e : TypeId) (es : Nat) (x : FA) (lo hi : Option FA) : OpT:=fun P t H c=>asSlice (evA t x)
 (fun i o len cap=>strideF P e i H (boundF t hi len cap fun h=>boundF t lo 0 h fun l=>slice1 es i o cap h l H c))
 (fun i o s len cap=>boundF t hi len cap fun h=>boundF t lo 0 h fun _=>c (.slice (some ⟨i,o,some s⟩) 0 0) H)
 (fun len cap=>Nat.rec (motive:=fun _=>RF) (Nat.rec (motive:=fun _=>RF) (boundF t hi 0 0 fun h=>boundF t lo 0 h fun _=>c (.slice none 0 0) H) (fun _ _=>.fail 48) len) (fun _ _=>.fail 48) cap)
noncomputable def opSlice3 (e : TypeId) (es : Nat) (x : FA) (lo : Option FA) (hi m : FA) : OpT:=fun P t H c=>asSlice (evA t x)
 (fun i o _ cap=>strideF P e i H (boundF t (some m) 0 cap fun k=>boundF t (some hi) 0 k fun h=>boundF t lo 0 h fun l=>slice1 es i o k h l H c))
 (fun i o s _ cap=>boundF t (some m) 0 cap fun k=>boundF t (some hi) 0 k fun h=>boundF t lo 0 h fun _=>Nat.rec (motive:=fun _=>RF) (c (.slice (some ⟨i,o,some s⟩) 0 0) H) (fun _ _=>.fail 97) k)
 (fun len cap=>Nat.rec (motive:=fun _=>RF) (Nat.rec (motive:=fun _=>RF) (boundF t (some m) 0 0 fun k=>boundF t (some hi) 0 k fun h=>boundF t lo 0 h fun _=>c (.slice none 0 0) H) (fun _ _=>.fail 98) len) (fun _ _=>.fail 98) cap)
noncomputable def asLen (v : Value) : (Nat→RF)→(Nat→RF)→RF→(Nat→RF)→RF:=Value.rec (motive_1:=fun _=>(Nat→RF)→(Nat→RF)→RF→(Nat→RF)→RF) (motive_2:=fun _=>PUnit) (motive_3:=fun _=>PUnit) (fun _=>fun _ _ _ _=>.fail 12) (fun _ _=>fun _ _ _ _=>.fail 12) (fun _ _=>fun _ _ _ _=>.fail 12) (fun _ _ _=>fun _ _ _ _=>.fail 12) (fun x0=>fun _ s _ _=>gN x0.size s) (fun _=>fun _ _ _ _=>.fail 12) (fun _x0 x1 _x2=>fun k _ _ _=>k x1) (fun x0=>fun _ _ z m=>Option.rec (motive:=fun _=>RF) z (fun i=>m i) x0) (fun _=>fun _ _ _ _=>.fail 12) (fun _ _ _ _ _=>fun _ _ _ _=>.fail 12) (fun _ _ _ _=>.fail 12) (fun _ _ _=>fun _ _ _ _=>.fail 12) (fun _ _ _ _=>.fail 12) (fun _ _=>fun _ _ _ _=>.fail 12) (fun _ _=>fun _ _ _ _=>.fail 12) (fun _ _=>⟨⟩) ⟨⟩ (fun _ _ _ _=>⟨⟩) v
noncomputable def opLen (kd : Nat) (x : FA) : OpT:=fun _ t H c=>asLen (evA t x) (fun n=>ifB (Nat.beq kd 0) (c (.int .i64 (.ofNat n)) H) (.fail 87)) (fun n=>ifB (Nat.beq kd 1) (c (.int .i64 (.ofNat n)) H) (.fail 87))
 (ifB (Nat.beq kd 2) (c (.int .i64 (.ofNat 0)) H) (.fail 87)) (fun i=>ifB (Nat.beq kd 2) (onMap (objF H i) fun _ es _=>outN es.length fun v=>c v H) (.fail 87))
noncomputable def opMm (mx : Bool) (xs : List FA) : OpT:=fun _ t H c=>evL t xs fun l=>Option.rec (motive:=fun _=>RF) (.fail 49) (fun v=>forceV v fun v=>c v H) (xmm mx l)
noncomputable def lentF (o n : Nat) (old : List Value) (e nx : Nat) (k : FO→RF) : RF:=Nat.rec (motive:=fun _=>RF) (ifB (Nat.ble n 16) (k (.lent old e nx)) (k .dead)) (fun _ _=>k .dead) o
noncomputable def nowF (H : FH) (f : Nat) : Nat→(List Value→TypeId→Nat→RF)→RF:=
 Nat.rec (motive:=fun _=>Nat→(List Value→TypeId→Nat→RF)→RF) (fun _ _=>.fail 150)
  (fun _ ih i k=>FO.rec (motive:=fun _=>RF) (fun cs el rw=>ifB rw (k cs el i) (.fail 150)) (fun _ _ _=>.fail 150) (fun _ _ _ _ _ _ _ _ _=>.fail 150) (.fail 150) (.fail 150)
   (fun c el j=>ih j fun ck ek tp=>ifB (Nat.beq ek el) (ifB (preB c ck) (k c el tp) (.fail 151)) (.fail 151)) (objF H i)) f
noncomputable def withNext (H : FH) (k : Nat→RF) : RF:=FH.rec (motive:=fun _=>RF) (fun nx _=>k nx) H
noncomputable def append3 (e : TypeId) (es n m cp i o : Nat) (H : FH) (new : List Value) (c : Value→FH→RF) : RF:=
 nowF H 24 i fun cd el tp=>ifB (Nat.beq el e) (ifB (Nat.beq o 0) (ifB (Nat.ble (Nat.add n m) cp) (.fail 152)
  (subL (Nat.mul n es) 0 cd fun old=>catL new old fun both=>withNext H fun nx=>setF H tp .dead fun H0=>setF H0 i (.lent old e nx) fun H1=>allocF H1 (.cells both e true) fun i H'=>gN (Nat.add n m) fun nm=>c (.slice (some ⟨i,0,none⟩) nm nm) H')) (.fail 153)) (.fail 154)
noncomputable def append2c (e : TypeId) (es n m cp i o : Nat) (H : FH) (new : List Value) (c : Value→FH→RF) (cd : List Value) (el : TypeId) (rw : Bool) : RF:=
 ifB (Nat.beq el e) (ifB rw (subL (Nat.mul cp es) o cd fun _=>Bool.rec (motive:=fun _=>RF)
  (subL (Nat.mul n es) o cd fun old=>catL new old fun both=>withNext H fun nx=>lentF o (Nat.mul n es) old e nx fun x=>setF H i x fun H1=>allocF H1 (.cells both e true) fun i H'=>gN (Nat.add n m) fun nm=>c (.slice (some ⟨i,0,none⟩) nm nm) H')
  (subL (Nat.mul n es) o cd fun _=>gN (Nat.add o (Nat.mul n es)) fun k=>spliceL new k cd fun cd'=>setF H i (.cells cd' e true) fun H'=>gN (Nat.add n m) fun nm=>c (.slice (some ⟨i,o,none⟩) nm cp) H')
  (Nat.ble (Nat.add n m) cp)) (.fail 50)) (.fail 51)
noncomputable def append2 (e : TypeId) (es _bytes n m cp i o : Nat) (H : FH) (new : List Value) (c : Value→FH→RF) : RF:=
 FO.rec (motive:=fun _=>RF) (fun cd el rw=>append2c e es n m cp i o H new c cd el rw) (fun _ _ _=>.fail 34) (fun _ _ _ _ _ _ _ _ _=>.fail 34) (.fail 34) (.fail 34) (fun _ _ _=>append3 e es n m cp i o H new c) (objF H i)
noncomputable def append1 (e : TypeId) (es bytes m bk u : Nat) (s : Value) (H : FH) (c : Value→FH→RF) : RF:=
 cellsF H bk fun cx _ _=>subL (Nat.mul m es) u cx fun new=>allL new
  (asSlice s (fun i o n cp=>ifB (Nat.ble (Nat.mul (Nat.add (Nat.mul 2 (Nat.add n m)) 256) bytes) 281474976710656) (append2 e es bytes n m cp i o H new c) (.fail 52)) (fun _ _ _ _ _=>.fail 53)
   (fun n cp=>Nat.rec (motive:=fun _=>RF) (Nat.rec (motive:=fun _=>RF) (ifB (Nat.ble (Nat.mul (Nat.add (Nat.mul 2 m) 256) bytes) 281474976710656) (allocF H (.cells new e true) fun i H'=>c (.slice (some ⟨i,0,none⟩) m m) H') (.fail 54)) (fun _ _=>.fail 55) cp) (fun _ _=>.fail 56) n))
noncomputable def append0 (s : Value) (H : FH) (c : Value→FH→RF) : RF:=
 asSlice s (fun _ _ _ _=>hV s fun v=>c v H) (fun _ _ _ _ _=>hV s fun v=>c v H) (fun n _=>Nat.rec (motive:=fun _=>RF) (hV s fun v=>c v H) (fun _ _=>.fail 57) n)
noncomputable def opAppend (e : TypeId) (es bytes : Nat) (s x : FA) : OpT:=fun _ t H c=>asSlice (evA t x)
 (fun bk u m _=>Nat.rec (motive:=fun _=>RF) (append0 (evA t s) H c) (fun _ _=>append1 e es bytes m bk u (evA t s) H c) m)
 (fun _ _ _ m _=>Nat.rec (motive:=fun _=>RF) (append0 (evA t s) H c) (fun _ _=>.fail 58) m)
 (fun m _=>Nat.rec (motive:=fun _=>RF) (append0 (evA t s) H c) (fun _ _=>.fail 58) m)
noncomputable def opClear (_es : Nat) (z : List Value) (x : FA) : OpT:=fun _ t H c=>asSlice (evA t x)
 (fun i o n _=>Nat.rec (motive:=fun _=>RF) (c undef H) (fun n' _=>cellsF H i fun cd el rw=>ifB rw (repL z (Nat.succ n') fun cs=>spliceL cs o cd fun cd'=>setF H i (.cells cd' el true) fun H'=>c undef H') (.fail 95)) n)
 (fun _ _ _ n _=>Nat.rec (motive:=fun _=>RF) (c undef H) (fun _ _=>.fail 96) n)
 (fun _ _=>c undef H)
noncomputable def copy1 (es i o j u n : Nat) (H : FH) (c : Value→FH→RF) : RF:=
 Nat.rec (motive:=fun _=>RF) (c (.int .i64 (.ofNat 0)) H) (fun n' _=>cellsF H j fun cx _ _=>subL (Nat.mul (Nat.succ n') es) u cx fun new=>allL new (cellsF H i fun cd el rw=>ifB rw (spliceL new o cd fun cd'=>setF H i (.cells cd' el true) fun H'=>gN (Nat.succ n') fun k=>c (.int .i64 (.ofNat k)) H') (.fail 160))) n
noncomputable def opCopy (es : Nat) (d s : FA) : OpT:=fun _ t H c=>asSlice (evA t d)
 (fun i o dn _=>asSlice (evA t s) (fun j u m _=>Bool.rec (motive:=fun _=>RF) (copy1 es i o j u dn H c) (copy1 es i o j u m H c) (Nat.ble m dn)) (fun _ _ _ m _=>Nat.rec (motive:=fun _=>RF) (c (.int .i64 (.ofNat 0)) H) (fun _ _=>.fail 161) m) (fun m _=>Nat.rec (motive:=fun _=>RF) (c (.int .i64 (.ofNat 0)) H) (fun _ _=>.fail 161) m))
 (fun _ _ _ _ _=>.fail 162) (fun _ _=>.fail 163)
noncomputable def opMakeSlice (e : TypeId) (_es bytes : Nat) (z : List Value) (l cp : FA) : OpT:=fun _ t H c=>asNat (evA t l) fun n=>asNat (evA t cp) fun m=>ifB (Nat.ble n m)
 (ifB (Nat.ble (Nat.mul m bytes) 281474976710656) (ifB (Nat.ble m 281474976710656) (repL z m fun cs=>allocF H (.cells cs e true) fun i H'=>c (.slice (some ⟨i,0,none⟩) n m) H') (.fail 59)) (.fail 59)) (.fail 59)
noncomputable def opMakeFunc (f : FuncId) (a b : List FA) : OpT:=fun _ t H c=>evL t a fun a=>evL t b fun b=>c (.func (.func f) ⟨a⟩ ⟨b⟩) H
noncomputable def opMakeMap (kt : TypeId) : OpT:=fun _ _ H c=>allocF H (.map kt [] 0) fun i H'=>c (.map (some i)) H'
def keyGood (P : Program) (kt : TypeId) (k : Value) : Bool:=keyedB P kt && (keyishV k && (keyOf P kt k).isSome)
noncomputable def findE (none' : RF) (k : Value) (es : List MapEntry) : (Value→RF)→RF:=
 List.rec (motive:=fun _=>(Value→RF)→RF) (fun _=>none') (fun e _ ih c=>MapEntry.rec (motive:=fun _=>RF) (fun k' v _=>Bool.rec (motive:=fun _=>RF) (ih c) (c v) (valEq k k')) e) es
noncomputable def updE (k v : Value) (es : List MapEntry) : Nat→(List MapEntry→Nat→RF)→RF:=
 List.rec (motive:=fun _=>Nat→(List MapEntry→Nat→RF)→RF) (fun n c=>gN (Nat.succ n) fun n'=>c [⟨k,v,n⟩] n')
  (fun e es ih n c=>MapEntry.rec (motive:=fun _=>RF) (fun k' v' b=>Bool.rec (motive:=fun _=>RF) (ih n fun r n'=>c (⟨k',v',b⟩::r) n') (c (⟨k,v,b⟩::es) n) (valEq k k')) e) es
noncomputable def opLookup (kt : TypeId) (z : Value) (x k : FA) (ok : Bool) : OpT:=fun P t H c=>asMap (evA t x) (fun i=>onMap (objF H i) fun kt' es _=>ifB (Nat.beq kt' kt) (hV (evA t k) fun k=>ifB (keyGood P kt k)
  (findE (ifB ok (c (.tuple ⟨[z,.bool false]⟩) H) (c z H)) k es fun v=>ifB ok (c (.tuple ⟨[v,.bool true]⟩) H) (c v H)) (.fail 60)) (.fail 61)) (.fail 62)
noncomputable def opMapUpdate (kt : TypeId) (m k v : FA) : OpT:=fun P t H c=>asMap (evA t m) (fun i=>onMap (objF H i) fun kt' es ck=>ifB (Nat.beq kt' kt) (hV (evA t k) fun k=>hV (evA t v) fun v=>ifB (keyGood P kt k)
  (updE k v es ck fun es' ck'=>setF H i (.map kt es' ck') fun H'=>c undef H') (.fail 63)) (.fail 64)) (.fail 65)
noncomputable def opExtract (x : FA) (i : Nat) : OpT:=fun _ t H c=>asTuple (evA t x) fun ws=>nthL i ws fun v=>c v H
noncomputable def opCap (x : FA) : OpT:=fun _ t H c=>asSlice (evA t x) (fun _ _ _ _=>.fail 100) (fun _ _ _ _ _=>.fail 100) fun _ q=>c (.int .i64 (.ofNat q)) H
noncomputable def opAppendMk (e : TypeId) (es bytes : Nat) (z : List Value) (s x : FA) : OpT:=fun P t H c=>asSlice (evA t s) (fun _ _ _ _=>.fail 101) (fun _ _ _ _ _=>.fail 101) fun n q=>
 ifB (Nat.beq n 0) (ifB (Nat.beq q 0) (asNat (evA t x) fun l=>ifB (Nat.ble 1 l) (ifB (Nat.ble l 1048576) (opMakeSlice e es bytes z x x P t H c) (.fail 101)) (.fail 101)) (.fail 101)) (.fail 101)
noncomputable def opIdxSlow (ty : TypeId) (x i : FA) : OpT:=fun P t H c=>Option.rec (motive:=fun _=>RF) (.fail 130) (fun v=>forceV v fun v=>c v H) (xindex P ty (evA t x) (evA t i))
noncomputable def opSliceSlow (ty : TypeId) (x : FA) (lo hi : Option FA) : OpT:=fun P t H c=>Option.rec (motive:=fun _=>RF) (.fail 131) (fun v=>forceV v fun v=>c v H) (xslice P ty (evA t x) (lo.map (evA t)) (hi.map (evA t)) none)
noncomputable def bytesC (l : List UInt8) : (List Value→RF)→RF:=
 List.rec (motive:=fun _=>(List Value→RF)→RF) (fun k=>k []) (fun b _ ih k=>gN b.toNat fun n=>ih fun r=>k (.int .u8 (.ofNat n)::r)) l
noncomputable def asStr (v : Value) (k : List UInt8→RF) : RF:=match v with
 | .string s=>k s.data.toList
 | _=>.fail 140
noncomputable def opToBytes (e : TypeId) (x : FA) : OpT:=fun _ t H c=>asStr (evA t x) fun l=>bytesC l fun cs=>allocF H (.cells cs e true) fun i H'=>gN l.length fun n=>c (.slice (some ⟨i,0,none⟩) n n) H'
noncomputable def strOf (w : List Value) (H : FH) (c : Value→FH→RF) : RF:=Option.rec (motive:=fun _=>RF) (.fail 141) (fun l=>c (.string ⟨⟨l⟩⟩) H) (ofBytes w)
noncomputable def opToStr (x : FA) : OpT:=fun _ t H c=>asSlice (evA t x) (fun i o n _=>cellsF H i fun cs _ _=>Nat.rec (motive:=fun _=>RF) (c (.string ⟨⟨[]⟩⟩) H) (fun _ _=>subL n o cs fun w=>strOf w H c) n)
 (fun _ _ _ _ _=>.fail 142) (fun _ _=>c (.string ⟨⟨[]⟩⟩) H)
abbrev FX:=FCode→Option Nat→List Nat→TT→FH→RF
noncomputable def unmarkF (ms : List Nat) : FH→(FH→RF)→RF:=
 List.rec (motive:=fun _=>FH→(FH→RF)→RF) (fun H k=>k H) (fun m _ ih H k=>onDeferred (objF H m) (setF H m .dead fun H'=>ih H' k)) ms
noncomputable def setArgs (args : List Value) : List Pth→TT→(TT→RF)→RF:=
 List.rec (motive:=fun _=>List Pth→TT→(TT→RF)→RF) (fun ps t k=>List.rec (motive:=fun _=>RF) (k t) (fun _ _ _=>.fail 70) ps)
  (fun v _ ih ps t k=>List.rec (motive:=fun _=>RF) (.fail 70) (fun p ps _=>setP v p t fun t'=>ih ps t' k) ps) args
noncomputable def res1 (t : TT) (H : FH) (x : FRes) : (Value→RF)→RF:=
 FRes.rec (motive:=fun _=>(Value→RF)→RF) (fun p k=>hV (getP p t) k) (fun p k=>asPtr (getP p t) fun i o=>cellsF H i fun cs _ _=>nthL o cs k)
  (fun p n k=>asPtr (getP p t) fun i o=>cellsF H i fun cs _ _=>subL n o cs fun w=>k (.agg ⟨w⟩)) x
noncomputable def resF (t : TT) (H : FH) (l : List FRes) : (List Value→RF)→RF:=
 List.rec (motive:=fun _=>(List Value→RF)→RF) (fun k=>k []) (fun x _ ih k=>res1 t H x fun v=>ih fun r=>k (v::r)) l
noncomputable def endF (res : List FRes) (t : TT) (m : List Nat) (H : FH) (c : Value→FH→RF) : RF:=
 unmarkF m H fun H1=>resF t H1 res fun l=>List.rec (motive:=fun _=>RF) (c (.tuple ⟨[]⟩) H1) (fun v r _=>List.rec (motive:=fun _=>RF) (c v H1) (fun _ _ _=>c (.tuple ⟨l⟩) H1) r) l
noncomputable def afterF (r : RF) (res : List FRes) (c : Value→FH→RF) : RF:=
 RF.rec (motive:=fun _=>List FRes→(Value→FH→RF)→RF) (fun n _ _=>.fail n) (fun t m H res c=>endF res t m H c) (fun _ _ _ _ _ _=>.fail 71) (fun t m H res c=>endF res t m H c) r res c
noncomputable def callF (F : Nat→FFunc) (x : FX) (f : Nat) (args : List Value) (H : FH) (c : Value→FH→RF) : RF:=
 FFunc.rec (motive:=fun _=>RF) (fun code tmpl ps res=>setArgs args ps tmpl fun t=>afterF (x code none [] t H) res c) (.fail 72) (fun b=>List.rec (motive:=fun _=>RF) (c (.bool b) H) (fun _ _ _=>.fail 73) args) (F f)
noncomputable def round2 (l : Nat) (st : LoopState) (b : Bool) (pj : Option FJ) (H : FH) (c : Value→FH→RF) : RF:=
 onLoop (objF H l) fun _ _ t ps ca cb fa fb df=>setF H l (.loop st pj t ps ca cb fa fb df) fun H'=>c (.bool b) H'
noncomputable def roundE (r : RF) : Nat→(Value→FH→RF)→RF:=
 RF.rec (motive:=fun _=>Nat→(Value→FH→RF)→RF) (fun n _ _=>.fail n) (fun _ _ H l c=>round2 l .ready true none H c) (fun id _ _ H l c=>round2 l .done false (some (.exit id)) H c) (fun _ _ H l c=>round2 l .done false (some .ret) H c) r
noncomputable def isReady (s : LoopState) (k : RF) : RF:=LoopState.rec (motive:=fun _=>RF) k (.fail 74) (.fail 74) (.fail 74) s
noncomputable def round1 (x : FX) (l : Nat) (fb : FCode) (t : TT) (m : List Nat) (H : FH) (c : Value→FH→RF) : RF:=
 onLoop (objF H l) fun st pj t1 ps ca cb fa fb' df=>isReady st (setF H l (.loop .busy pj t1 ps ca cb fa fb' df) fun H2=>roundE (x fb (some l) m t H2) l c)
noncomputable def roundA (r : RF) : FX→Nat→FCode→(Value→FH→RF)→RF:=
 RF.rec (motive:=fun _=>FX→Nat→FCode→(Value→FH→RF)→RF) (fun n _ _ _ _=>.fail n) (fun t m H x l fb c=>round1 x l fb t m H c) (fun _ _ _ _ _ _ _ _=>.fail 73) (fun _ _ _ _ _ _ _=>.fail 73) r
noncomputable def roundF (x : FX) (l : Nat) (args : List Value) (H : FH) (c : Value→FH→RF) : RF:=
 onLoop (objF H l) fun _ _ t ps _ _ fa fb _=>setArgs args ps t fun t=>roundA (x fa (some l) [] t H) x l fb c
noncomputable def asFunc (v : Value) : (Nat→List Value→List Value→RF)→(Nat→List Value→RF)→RF:=Value.rec (motive_1:=fun _=>(Nat→List Value→List Value→RF)→(Nat→List Value→RF)→RF) (motive_2:=fun _=>PUnit) (motive_3:=fun _=>PUnit) (fun _=>fun _ _=>.fail 14) (fun _ _=>fun _ _=>.fail 14) (fun _ _=>fun _ _=>.fail 14) (fun _ _ _=>fun _ _=>.fail 14) (fun _=>fun _ _=>.fail 14) (fun _=>fun _ _=>.fail 14) (fun _ _ _=>fun _ _=>.fail 14) (fun _=>fun _ _=>.fail 14) (fun _=>fun _ _=>.fail 14) (fun x0 x1 x2 _h0 _h1=>fun k y=>Fn.rec (motive:=fun _=>RF) (fun f=>Array.rec (motive:=fun _=>RF) (fun a=>Array.rec (motive:=fun _=>RF) (fun b=>k f a b) x2) x1) (fun _=>.fail 13) (fun _ _=>.fail 13) (fun _ _ _ _=>.fail 13) (fun l=>Array.rec (motive:=fun _=>RF) (fun a=>y l a) x1) x0) (fun _ _=>.fail 14) (fun _ _ _=>fun _ _=>.fail 14) (fun _ _=>.fail 14) (fun _ _=>fun _ _=>.fail 14) (fun _ _=>fun _ _=>.fail 14) (fun _ _=>⟨⟩) ⟨⟩ (fun _ _ _ _=>⟨⟩) v
abbrev OpX:=Program→(Nat→FFunc)→FX→TT→FH→(Value→FH→RF)→RF
noncomputable def opCall (f : FA) (args : List FA) : OpX:=fun _ F x t H c=>asFunc (evA t f)
 (fun g a b=>evL t args fun args=>catL b args fun r=>catL r a fun r=>callF F x g r H c) (fun l a=>evL t args fun args=>catL args a fun r=>roundF x l r H c)
noncomputable def lift (o : OpT) : OpX:=fun P _ _ t H c=>o P t H c
noncomputable def opF (o : FOp) : OpX:=FOp.rec (motive:=fun _=>OpX)
 (fun x=>lift (opMove x)) (fun q a b=>lift (opPick q a b)) (fun e z=>lift (opAlloc e z)) (fun e x=>lift (opBox e x)) (fun z p=>lift (opBuild z p)) (fun e n z p=>lift (opBuildSlice e n z p))
 (fun x=>lift (opLoad1 x)) (fun n x=>lift (opLoadN n x)) (fun n a x=>lift (opStore n a x)) (fun x=>lift (opNil x)) (fun o t x y=>lift (opBin o t x y)) (fun o x=>lift (opUn o x)) (fun k x=>lift (opConv k x))
 (fun o x=>lift (opFieldAddr o x)) (fun o x=>lift (opField1 o x)) (fun o n x=>lift (opFieldN o n x)) (fun a e x i=>lift (opIndexAddr a e x i)) (fun l e b x i=>lift (opIndex l e b x i)) (fun e s x l h=>lift (opSlice e s x l h))
 (fun k x=>lift (opLen k x)) (fun m xs=>lift (opMm m xs)) (fun e s b x y=>lift (opAppend e s b x y)) (fun e s b z l c=>lift (opMakeSlice e s b z l c)) (fun f a b=>lift (opMakeFunc f a b)) (fun k=>lift (opMakeMap k))
 (fun k z x y o=>lift (opLookup k z x y o)) (fun k m x y=>lift (opMapUpdate k m x y)) (fun x i=>lift (opExtract x i)) (fun x=>lift (opCap x)) (fun e s b z y x=>lift (opAppendMk e s b z y x)) opCall (fun ty x i=>lift (opIdxSlow ty x i)) (fun ty x l h=>lift (opSliceSlow ty x l h)) (fun e x=>lift (opToBytes e x)) (fun x=>lift (opToStr x)) (fun es z x=>lift (opClear es z x)) (fun e es x lo hi m=>lift (opSlice3 e es x lo hi m)) (fun es d s=>lift (opCopy es d s)) o
abbrev FIT:=Program→(Nat→FFunc)→FX→(TT→FH→(TT→FH→RF)→RF)→TT→FH→(TT→FH→RF)→RF
noncomputable def fiGo (o : FOp) (d : Pth) : FIT:=fun P F x ih t H k=>opF o P F x t H fun v H'=>setP v d t fun t'=>ih t' H' k
noncomputable def fiUn (o : FOp) : FIT:=fun P F x ih t H k=>opF o P F x t H fun _ H'=>ih t H' k
noncomputable def fiGd (p : Pth) (w : Bool) (o : FOp) (d : Pth) : FIT:=fun P F x ih t H k=>asBool (getP p t)
 (ifB w (fiGo o d P F x ih t H k) (setP undef d t fun t'=>ih t' H k)) (ifB w (setP undef d t fun t'=>ih t' H k) (fiGo o d P F x ih t H k)) (setP undef d t fun t'=>ih t' H k)
noncomputable def fiGu (p : Pth) (w : Bool) (o : FOp) : FIT:=fun P F x ih t H k=>asBool (getP p t)
 (ifB w (fiUn o P F x ih t H k) (ih t H k)) (ifB w (ih t H k) (fiUn o P F x ih t H k)) (ih t H k)
noncomputable def runI (i : FI) : FIT:=FI.rec (motive:=fun _=>FIT) fiGo fiUn fiGd fiGu i
noncomputable def runF (P : Program) (F : Nat→FFunc) (x : FX) (is : List FI) : TT→FH→(TT→FH→RF)→RF:=
 List.rec (motive:=fun _=>TT→FH→(TT→FH→RF)→RF) (fun t H k=>k t H) (fun i _ ih t H k=>runI i P F x ih t H k) is
abbrev ExT:=Program→(Nat→FFunc)→FX→Option Nat→List Nat→TT→FH→RF
noncomputable def seqR (r : RF) : FX→FCode→Option Nat→RF:=RF.rec (motive:=fun _=>FX→FCode→Option Nat→RF) (fun n _ _ _=>.fail n) (fun t m H x b rnd=>x b rnd m t H) (fun id t m H _ _ _=>.ex id t m H) (fun t m H _ _ _=>.rt t m H) r
noncomputable def blockR (r : RF) : Nat→RF:=RF.rec (motive:=fun _=>Nat→RF) (fun n _=>.fail n) (fun t m H _=>.nx t m H) (fun id' t m H id=>ifB (Nat.beq id' id) (.nx t m H) (.ex id' t m H)) (fun t m H _=>.rt t m H) r
noncomputable def exSkip : ExT:=fun _ _ _ _ m t H=>.nx t m H
noncomputable def exExit (id : Nat) : ExT:=fun _ _ _ _ m t H=>.ex id t m H
noncomputable def exRet : ExT:=fun _ _ _ _ m t H=>.rt t m H
noncomputable def exSeq (a b : FCode) : ExT:=fun _ _ x rnd m t H=>seqR (x a rnd m t H) x b rnd
noncomputable def exCond (q : FA) (a b : FCode) : ExT:=fun _ _ x rnd m t H=>asBool (evA t q) (x a rnd m t H) (x b rnd m t H) (.fail 80)
noncomputable def exBlock (id : Nat) (b : FCode) : ExT:=fun _ _ x rnd m t H=>blockR (x b rnd m t H) id
noncomputable def exScope (b : FCode) : ExT:=fun _ _ x rnd m t H=>x b rnd m t H
noncomputable def exLoop (b : FCode) : ExT:=fun _ _ x rnd m t H=>seqR (x b rnd m t H) x (.loop b) rnd
noncomputable def exRun (is : List FI) : ExT:=fun P F x _ m t H=>runF P F x is t H fun t' H'=>.nx t' m H'
noncomputable def runD (P : Program) (F : Nat→FFunc) (x : FX) (is : List FI) : TT→FH→(TT→List FH→RF)→RF:=
 List.rec (motive:=fun _=>TT→FH→(TT→List FH→RF)→RF) (fun t H k=>k t [H]) (fun i _ ih t H k=>runI i P F x (fun t' H' _=>ih t' H' fun T Gs=>k T (H::Gs)) t H fun _ _=>.fail 90) is
noncomputable def nextF (H : FH) : Nat:=FH.rec (motive:=fun _=>Nat) (fun nx _=>nx) H
noncomputable def nthG (n : Nat) : List FH→(FH→RF)→RF:=
 Nat.rec (motive:=fun _=>List FH→(FH→RF)→RF) (fun l k=>List.rec (motive:=fun _=>RF) (.fail 91) (fun x _ _=>k x) l)
  (fun _ ih l k=>List.rec (motive:=fun _=>RF) (.fail 91) (fun _ xs _=>ih xs k) l) n
noncomputable def monoF (k : RF) (l : List FH) : Nat→RF:=
 List.rec (motive:=fun _=>Nat→RF) (fun _=>k) (fun H _ ih n=>ifB (Nat.ble n (nextF H)) (ih (nextF H)) (.fail 92)) l
noncomputable def wantF (T : TT) (g : Option (Pth×Bool)) (yes no : RF) : RF:=
 Option.rec (motive:=fun _=>RF) yes (fun x=>Prod.rec (motive:=fun _=>RF) (fun p w=>asBool (getP p T) (ifB w yes no) (ifB w no yes) no) x) g
noncomputable def sameF (T : TT) (d : Option Pth) (v : Value) (k : RF) : RF:=Option.rec (motive:=fun _=>RF) k (fun p=>ifB (vEq 3 (getP p T) v) k (.fail 93)) d
noncomputable def readsF (P : Program) (F : Nat→FFunc) (x : FX) (T : TT) (Gs : List FH) (o : FOp) (d : Option Pth) (k : RF) (qs : List Nat) : RF:=
 List.rec (motive:=fun _=>RF) k (fun q _ ih=>nthG q Gs fun H=>opF o P F x T H fun v _=>sameF T d v ih) qs
noncomputable def newF (T : TT) (Gs : List FH) (d : Option Pth) (p : Nat) (new : Bool) (k : RF) : RF:=
 nthG p Gs fun H=>nthG (Nat.succ p) Gs fun H'=>Option.rec (motive:=fun _=>RF) (.fail 94) (fun q=>ifB (inBound (nextF H') 3 (getP q T))
  (ifB new (cellsF H' (nextF H) fun c _ _=>ifB (c.all (inBound (nextF H) 2)) k (.fail 95)) k) (.fail 96)) d
noncomputable def chkF (P : Program) (F : Nat→FFunc) (x : FX) (T : TT) (Gs : List FH) (k : RF) (cs : List FC) : RF:=
 List.rec (motive:=fun _=>RF) k (fun e _ ih=>FC.rec (motive:=fun _=>RF) ih (fun g o d qs=>wantF T g (readsF P F x T Gs o d ih qs) ih) (fun g d p new=>wantF T g (newF T Gs d p new ih) ih) e) cs
noncomputable def exDraw (n : Nat) (is : List FI) (cs : List FC) : ExT:=fun P F x _ m t H=>runD P F x is t H fun T Gs=>monoF (chkF P F x T Gs (nthG n Gs fun H'=>.nx T m H') cs) Gs 0
noncomputable def pendR (pj : Option FJ) (t : TT) (ms : List Nat) (H : FH) : RF:=Option.rec (motive:=fun _=>RF) (.nx t ms H) (fun j=>FJ.rec (motive:=fun _=>RF) (fun id=>.ex id t ms H) (.rt t ms H) j) pj
noncomputable def notBusy (s : LoopState) (k : RF) : RF:=LoopState.rec (motive:=fun _=>RF) k (.fail 84) k k s
noncomputable def rangeG (f : FA) (ps : List Pth) (ca cb : Code) (fa fb : FCode) (F : Nat→FFunc) (x : FX) (t : TT) (df : Nat) (ms : List Nat) (H1 : FH) : RF:=
 asFunc (evA t f) (fun g a b=>allocF H1 (.loop .ready none t ps ca cb fa fb df) fun l H2=>catL (.func (.yield l) ⟨[]⟩ ⟨[]⟩::b) a fun r=>callF F x g r H2 fun _ H3=>
  onLoop (objF H3 l) fun st pj t1 ps ca cb fa fb df=>notBusy st (setF H3 l (.loop .exhausted pj t1 ps ca cb fa fb df) fun H4=>pendR pj t ms H4)) (fun _ _=>.fail 81)
noncomputable def exRange (f : FA) (ps : List Pth) (ca cb : Code) (fa fb : FCode) : ExT:=fun _ F x rnd m t H=>Option.rec (motive:=fun _=>RF)
 (allocF H .deferred fun i H'=>rangeG f ps ca cb fa fb F x t i (i::m) H') (fun l=>onLoop (objF H l) fun _ _ _ _ _ _ _ _ df=>rangeG f ps ca cb fa fb F x t df m H) rnd
noncomputable def exBad : ExT:=fun _ _ _ _ _ _ _=>.fail 82
noncomputable def exC (c : FCode) : ExT:=FCode.rec (motive:=fun _=>ExT) exSkip exExit exRet (fun a b _ _=>exSeq a b) (fun q a b _ _=>exCond q a b) (fun id b _=>exBlock id b) (fun b _=>exScope b) (fun b _=>exLoop b) exRun exDraw (fun f ps ca cb fa fb _ _=>exRange f ps ca cb fa fb) exBad c
noncomputable def execF (P : Program) (F : Nat→FFunc) (n : Nat) : FX:=Nat.rec (motive:=fun _=>FX) (fun _ _ _ _ _=>.fail 83) (fun _ ih c rnd m t H=>exC c P F ih rnd m t H) n
end Go.Xe
