/- An executable reading of the model's code over an abstract heap (part 18): a machine for the kernel, on trees and lists, over code whose types are resolved. Conditions: none; these are definitions. -/
import Derived.Test.YtimnlnfpblomnaaXq
noncomputable section
namespace Go.Xe
open Go
inductive Pth where
 | o
 | l (p : Pth)
 | r (p : Pth)
inductive TT where
 | e
 | n (v : Value) (l r : TT)
inductive FA where
 | tmp (p : Pth)
 | con (v : Value)
inductive FOp where
 | move (x : FA)
 | pick (c a b : FA)
 | alloc (el : TypeId) (z : List Value)
 | box (el : TypeId) (x : FA)
 | build (z : List Value) (parts : List (Nat×Nat×FA))
 | buildSlice (el : TypeId) (len : Nat) (z : List Value) (parts : List (Nat×Nat×FA))
 | load1 (x : FA)
 | loadN (n : Nat) (x : FA)
 | store (n : Nat) (a x : FA)
 | nilCheck (x : FA)
 | bin (op : BinOp) (t : TypeId) (x y : FA)
 | un (op : UnOp) (x : FA)
 | conv (k : IntKind) (x : FA)
 | fieldAddr (off : Nat) (x : FA)
 | field1 (off : Nat) (x : FA)
 | fieldN (off n : Nat) (x : FA)
 | indexAddr (arr : Option Nat) (es : Nat) (x i : FA)
 | index (len es : Nat) (one : Bool) (x i : FA)
 | slice (e : TypeId) (es : Nat) (x : FA) (lo hi : Option FA)
 | len (kd : Nat) (x : FA)
 | mm (mx : Bool) (xs : List FA)
 | append (e : TypeId) (es bytes : Nat) (s x : FA)
 | makeSlice (e : TypeId) (es bytes : Nat) (z : List Value) (l c : FA)
 | makeFunc (f : FuncId) (a b : List FA)
 | makeMap (kt : TypeId)
 | lookup (kt : TypeId) (z : Value) (x k : FA) (ok : Bool)
 | mapUpdate (kt : TypeId) (m k v : FA)
 | extract (x : FA) (i : Nat)
 | cap (x : FA)
 | appendMk (e : TypeId) (es bytes : Nat) (z : List Value) (s x : FA)
 | call (f : FA) (args : List FA)
 | idxSlow (t : TypeId) (x i : FA)
 | sliceSlow (t : TypeId) (x : FA) (lo hi : Option FA)
 | toBytes (e : TypeId) (x : FA)
 | toStr (x : FA)
 | clear (es : Nat) (z : List Value) (x : FA)
 | slice3 (e : TypeId) (es : Nat) (x : FA) (lo : Option FA) (hi m : FA)
inductive FI where
 | go (op : FOp) (d : Pth)
 | un (op : FOp)
 | gd (p : Pth) (w : Bool) (op : FOp) (d : Pth)
 | gu (p : Pth) (w : Bool) (op : FOp)
inductive FC where
 | ok
 | rd (g : Option (Pth×Bool)) (o : FOp) (d : Option Pth) (qs : List Nat)
 | nw (g : Option (Pth×Bool)) (d : Option Pth) (p : Nat) (new : Bool)
inductive FCode where
 | skip
 | exit (id : Nat)
 | ret
 | seq (x y : FCode)
 | cond (c : FA) (x y : FCode)
 | block (id : Nat) (b : FCode)
 | scope (b : FCode)
 | loop (b : FCode)
 | run (is : List FI)
 | draw (n : Nat) (is : List FI) (cs : List FC)
 | rangeFunc (f : FA) (ps : List Pth) (ca cb : Code) (fa fb : FCode)
 | bad
inductive FJ where
 | exit (id : Nat)
 | ret
inductive FO where
 | cells (c : List Value) (el : TypeId) (rw : Bool)
 | map (kt : TypeId) (es : List MapEntry) (clock : Nat)
 | loop (st : LoopState) (pend : Option FJ) (t : TT) (ps : List Pth) (ca cb : Code) (fa fb : FCode) (defers : Nat)
 | deferred
 | dead
 | lent (c : List Value) (el : TypeId) (k : Nat)
inductive HT where
 | e
 | n (o : FO) (l r : HT)
inductive FH where
 | mk (next : Nat) (t : HT)
inductive RF where
 | fail (n : Nat)
 | nx (t : TT) (m : List Nat) (H : FH)
 | ex (id : Nat) (t : TT) (m : List Nat) (H : FH)
 | rt (t : TT) (m : List Nat) (H : FH)
inductive FRes where
 | tmp (p : Pth)
 | one (p : Pth)
 | many (p : Pth) (n : Nat)
inductive FFunc where
 | mk (code : FCode) (tmpl : TT) (args : List Pth) (res : List FRes)
 | bad
 | orc (b : Bool)
def gN (n : Nat) (k : Nat->RF) : RF:=Nat.rec (motive:=λ_=>RF) (k 0) (λm _=>k (Nat.succ m)) n
def gI (n : Int) (k : Int->RF) : RF:=Int.rec (motive:=λ_=>RF) (λm=>gN m λm=>k (.ofNat m)) (λm=>gN m λm=>k (.negSucc m)) n
def ifB (b : Bool) (x y : RF) : RF:=Bool.rec (motive:=λ_=>RF) y x b
def hV : Value->(Value->RF)->RF:=
 Value.rec (motive_1:=λ_=>(Value->RF)->RF) (motive_2:=λ_=>PUnit) (motive_3:=λ_=>PUnit) (λx0=>λk=>k (.bool x0)) (λx0 x1=>λk=>k (.int x0 x1)) (λx0 x1=>λk=>k (.float x0 x1)) (λx0 x1 x2=>λk=>k (.complex x0 x1 x2)) (λx0=>λk=>k (.string x0)) (λx0=>λk=>k (.pointer x0)) (λx0 x1 x2=>λk=>k (.slice x0 x1 x2)) (λx0=>λk=>k (.map x0)) (λx0=>λk=>k (.chan x0)) (λx0 x1 x2 _h0 _h1=>λk=>k (.func x0 x1 x2)) (λk=>k .nilFunc) (λx0 x1 _h0=>λk=>k (.iface x0 x1)) (λk=>k .nilIface) (λx0 _h0=>λk=>k (.agg x0)) (λx0 _h0=>λk=>k (.tuple x0)) (λ_ _=>⟨⟩) ⟨⟩ (λ_ _ _ _=>⟨⟩)
def asPtr : Value->(Nat->Nat->RF)->RF:=
 Value.rec (motive_1:=λ_=>(Nat->Nat->RF)->RF) (motive_2:=λ_=>PUnit) (motive_3:=λ_=>PUnit) (λ_=>λ_=>.fail 3) (λ_ _=>λ_=>.fail 3) (λ_ _=>λ_=>.fail 3) (λ_ _ _=>λ_=>.fail 3) (λ_=>λ_=>.fail 3) (λx0=>λk=>Option.rec (motive:=λ_=>RF) (.fail 1) (λa=>Addr.rec (motive:=λ_=>RF) (λi o s=>Option.rec (motive:=λ_=>RF) (k i o) (λ_s=>.fail 2) s) a) x0) (λ_ _ _=>λ_=>.fail 3) (λ_=>λ_=>.fail 3) (λ_=>λ_=>.fail 3) (λ_ _ _ _ _=>λ_=>.fail 3) (λ_=>.fail 3) (λ_ _ _=>λ_=>.fail 3) (λ_=>.fail 3) (λ_ _=>λ_=>.fail 3) (λ_ _=>λ_=>.fail 3) (λ_ _=>⟨⟩) ⟨⟩ (λ_ _ _ _=>⟨⟩)
def asInt : Value->(IntKind->Int->RF)->RF->RF:=
 Value.rec (motive_1:=λ_=>(IntKind->Int->RF)->RF->RF) (motive_2:=λ_=>PUnit) (motive_3:=λ_=>PUnit) (λ_=>λ_ d=>d) (λx0 x1=>λk _=>k x0 x1) (λ_ _=>λ_ d=>d) (λ_ _ _=>λ_ d=>d) (λ_=>λ_ d=>d) (λ_=>λ_ d=>d) (λ_ _ _=>λ_ d=>d) (λ_=>λ_ d=>d) (λ_=>λ_ d=>d) (λ_ _ _ _ _=>λ_ d=>d) (λ_ d=>d) (λ_ _ _=>λ_ d=>d) (λ_ d=>d) (λ_ _=>λ_ d=>d) (λ_ _=>λ_ d=>d) (λ_ _=>⟨⟩) ⟨⟩ (λ_ _ _ _=>⟨⟩)
def asNat : Value->(Nat->RF)->RF:=
 Value.rec (motive_1:=λ_=>(Nat->RF)->RF) (motive_2:=λ_=>PUnit) (motive_3:=λ_=>PUnit) (λ_=>λ_=>.fail 5) (λ_x0 x1=>λk=>Int.rec (motive:=λ_=>RF) (λm=>k m) (λ_=>.fail 4) x1) (λ_ _=>λ_=>.fail 5) (λ_ _ _=>λ_=>.fail 5) (λ_=>λ_=>.fail 5) (λ_=>λ_=>.fail 5) (λ_ _ _=>λ_=>.fail 5) (λ_=>λ_=>.fail 5) (λ_=>λ_=>.fail 5) (λ_ _ _ _ _=>λ_=>.fail 5) (λ_=>.fail 5) (λ_ _ _=>λ_=>.fail 5) (λ_=>.fail 5) (λ_ _=>λ_=>.fail 5) (λ_ _=>λ_=>.fail 5) (λ_ _=>⟨⟩) ⟨⟩ (λ_ _ _ _=>⟨⟩)
def asBool : Value->RF->RF->RF->RF:=
 Value.rec (motive_1:=λ_=>RF->RF->RF->RF) (motive_2:=λ_=>PUnit) (motive_3:=λ_=>PUnit) (λx0=>λa b _=>Bool.rec (motive:=λ_=>RF) b a x0) (λ_ _=>λ_ _ c=>c) (λ_ _=>λ_ _ c=>c) (λ_ _ _=>λ_ _ c=>c) (λ_=>λ_ _ c=>c) (λ_=>λ_ _ c=>c) (λ_ _ _=>λ_ _ c=>c) (λ_=>λ_ _ c=>c) (λ_x0=>λ_ _ _=>.fail 6) (λ_ _ _ _ _=>λ_ _ c=>c) (λ_ _ c=>c) (λ_ _ _=>λ_ _ c=>c) (λ_ _ c=>c) (λ_ _=>λ_ _ c=>c) (λ_ _=>λ_ _ c=>c) (λ_ _=>⟨⟩) ⟨⟩ (λ_ _ _ _=>⟨⟩)
def asAgg : Value->(List Value->RF)->RF:=
 Value.rec (motive_1:=λ_=>(List Value->RF)->RF) (motive_2:=λ_=>PUnit) (motive_3:=λ_=>PUnit) (λ_=>λ_=>.fail 7) (λ_ _=>λ_=>.fail 7) (λ_ _=>λ_=>.fail 7) (λ_ _ _=>λ_=>.fail 7) (λ_=>λ_=>.fail 7) (λ_=>λ_=>.fail 7) (λ_ _ _=>λ_=>.fail 7) (λ_=>λ_=>.fail 7) (λ_=>λ_=>.fail 7) (λ_ _ _ _ _=>λ_=>.fail 7) (λ_=>.fail 7) (λ_ _ _=>λ_=>.fail 7) (λ_=>.fail 7) (λx0 _h0=>λk=>Array.rec (motive:=λ_=>RF) (λl=>k l) x0) (λ_ _=>λ_=>.fail 7) (λ_ _=>⟨⟩) ⟨⟩ (λ_ _ _ _=>⟨⟩)
def asTuple : Value->(List Value->RF)->RF:=
 Value.rec (motive_1:=λ_=>(List Value->RF)->RF) (motive_2:=λ_=>PUnit) (motive_3:=λ_=>PUnit) (λ_=>λ_=>.fail 8) (λ_ _=>λ_=>.fail 8) (λ_ _=>λ_=>.fail 8) (λ_ _ _=>λ_=>.fail 8) (λ_=>λ_=>.fail 8) (λ_=>λ_=>.fail 8) (λ_ _ _=>λ_=>.fail 8) (λ_=>λ_=>.fail 8) (λ_=>λ_=>.fail 8) (λ_ _ _ _ _=>λ_=>.fail 8) (λ_=>.fail 8) (λ_ _ _=>λ_=>.fail 8) (λ_=>.fail 8) (λ_ _=>λ_=>.fail 8) (λx0 _h0=>λk=>Array.rec (motive:=λ_=>RF) (λl=>k l) x0) (λ_ _=>⟨⟩) ⟨⟩ (λ_ _ _ _=>⟨⟩)
def asCells : Value->(List Value->RF)->RF->RF:=
 Value.rec (motive_1:=λ_=>(List Value->RF)->RF->RF) (motive_2:=λ_=>PUnit) (motive_3:=λ_=>PUnit) (λ_=>λ_ d=>d) (λ_ _=>λ_ d=>d) (λ_ _=>λ_ d=>d) (λ_ _ _=>λ_ d=>d) (λ_=>λ_ d=>d) (λ_=>λ_ d=>d) (λ_ _ _=>λ_ d=>d) (λ_=>λ_ d=>d) (λ_x0=>λ_ _=>.fail 9) (λ_ _ _ _ _=>λ_ d=>d) (λ_ d=>d) (λ_ _ _=>λ_ d=>d) (λ_ d=>d) (λx0 _h0=>λk _=>Array.rec (motive:=λ_=>RF) (λl=>k l) x0) (λ_ _=>λ_ d=>d) (λ_ _=>⟨⟩) ⟨⟩ (λ_ _ _ _=>⟨⟩)
def asSlice : Value->(Nat->Nat->Nat->Nat->RF)->(Nat->Nat->Nat->Nat->Nat->RF)->(Nat->Nat->RF)->RF:=
 Value.rec (motive_1:=λ_=>(Nat->Nat->Nat->Nat->RF)->(Nat->Nat->Nat->Nat->Nat->RF)->(Nat->Nat->RF)->RF) (motive_2:=λ_=>PUnit) (motive_3:=λ_=>PUnit) (λ_=>λ_ _ _=>.fail 10) (λ_ _=>λ_ _ _=>.fail 10) (λ_ _=>λ_ _ _=>.fail 10) (λ_ _ _=>λ_ _ _=>.fail 10) (λ_=>λ_ _ _=>.fail 10) (λ_=>λ_ _ _=>.fail 10) (λx0 x1 x2=>λk e z=>Option.rec (motive:=λ_=>RF) (z x1 x2) (λa=>Addr.rec (motive:=λ_=>RF) (λi o s=>Option.rec (motive:=λ_=>RF) (k i o x1 x2) (λs=>e i o s x1 x2) s) a) x0) (λ_=>λ_ _ _=>.fail 10) (λ_=>λ_ _ _=>.fail 10) (λ_ _ _ _ _=>λ_ _ _=>.fail 10) (λ_ _ _=>.fail 10) (λ_ _ _=>λ_ _ _=>.fail 10) (λ_ _ _=>.fail 10) (λ_ _=>λ_ _ _=>.fail 10) (λ_ _=>λ_ _ _=>.fail 10) (λ_ _=>⟨⟩) ⟨⟩ (λ_ _ _ _=>⟨⟩)
def asMap : Value->(Nat->RF)->RF->RF:=
 Value.rec (motive_1:=λ_=>(Nat->RF)->RF->RF) (motive_2:=λ_=>PUnit) (motive_3:=λ_=>PUnit) (λ_=>λ_ _=>.fail 11) (λ_ _=>λ_ _=>.fail 11) (λ_ _=>λ_ _=>.fail 11) (λ_ _ _=>λ_ _=>.fail 11) (λ_=>λ_ _=>.fail 11) (λ_=>λ_ _=>.fail 11) (λ_ _ _=>λ_ _=>.fail 11) (λx0=>λk z=>Option.rec (motive:=λ_=>RF) z (λi=>k i) x0) (λ_=>λ_ _=>.fail 11) (λ_ _ _ _ _=>λ_ _=>.fail 11) (λ_ _=>.fail 11) (λ_ _ _=>λ_ _=>.fail 11) (λ_ _=>.fail 11) (λ_ _=>λ_ _=>.fail 11) (λ_ _=>λ_ _=>.fail 11) (λ_ _=>⟨⟩) ⟨⟩ (λ_ _ _ _=>⟨⟩)
def getP (p : Pth) : TT->Value:=
 Pth.rec (motive:=λ_=>TT->Value) (λt=>TT.rec (motive:=λ_=>Value) undef (λv _ _ _ _=>v) t)
  (λ_ ih t=>TT.rec (motive:=λ_=>Value) undef (λ_ l _ _ _=>ih l) t) (λ_ ih t=>TT.rec (motive:=λ_=>Value) undef (λ_ _ r _ _=>ih r) t) p
def setP (v : Value) (p : Pth) : TT->(TT->RF)->RF:=
 Pth.rec (motive:=λ_=>TT->(TT->RF)->RF) (λt k=>TT.rec (motive:=λ_=>RF) (.fail 20) (λ_ l r _ _=>k (.n v l r)) t)
  (λ_ ih t k=>TT.rec (motive:=λ_=>RF) (.fail 20) (λx l r _ _=>ih l λl'=>k (.n x l' r)) t) (λ_ ih t k=>TT.rec (motive:=λ_=>RF) (.fail 20) (λx l r _ _=>ih r λr'=>k (.n x l r')) t) p
def getH (t : HT) : Nat->FO:=
 HT.rec (motive:=λ_=>Nat->FO) (λ_=>.dead)
  (λo _ _ ihl ihr n=>Nat.rec (motive:=λ_=>FO) o (λm _=>Bool.rec (motive:=λ_=>FO) (ihr (Nat.div m 2)) (ihl (Nat.div m 2)) (Nat.beq (Nat.mod m 2) 0)) n) t
def setH (x : FO) (t : HT) : Nat->(HT->RF)->RF:=
 HT.rec (motive:=λ_=>Nat->(HT->RF)->RF) (λn k=>Nat.rec (motive:=λ_=>RF) (k (.n x .e .e)) (λ_ _=>.fail 21) n)
  (λo l r ihl ihr n k=>Nat.rec (motive:=λ_=>RF) (k (.n x l r)) (λm _=>Bool.rec (motive:=λ_=>RF) (ihr (Nat.div m 2) λr'=>k (.n o l r')) (ihl (Nat.div m 2) λl'=>k (.n o l' r)) (Nat.beq (Nat.mod m 2) 0)) n) t
def nthL (n : Nat) : List Value->(Value->RF)->RF:=
 Nat.rec (motive:=λ_=>List Value->(Value->RF)->RF) (λl k=>List.rec (motive:=λ_=>RF) (.fail 22) (λx _ _=>k x) l)
  (λ_ ih l k=>List.rec (motive:=λ_=>RF) (.fail 22) (λ_ xs _=>ih xs k) l) n
def setL (v : Value) (n : Nat) : List Value->(List Value->RF)->RF:=
 Nat.rec (motive:=λ_=>List Value->(List Value->RF)->RF) (λl k=>List.rec (motive:=λ_=>RF) (.fail 23) (λ_ xs _=>k (v::xs)) l)
  (λ_ ih l k=>List.rec (motive:=λ_=>RF) (.fail 23) (λx xs _=>ih xs λr=>k (x::r)) l) n
def overL (vs : List Value) : List Value->(List Value->RF)->RF:=
 List.rec (motive:=λ_=>List Value->(List Value->RF)->RF) (λl k=>k l)
  (λv _ ih l k=>List.rec (motive:=λ_=>RF) (.fail 24) (λ_ xs _=>ih xs λr=>k (v::r)) l) vs
def spliceL (vs : List Value) (o : Nat) : List Value->(List Value->RF)->RF:=
 Nat.rec (motive:=λ_=>List Value->(List Value->RF)->RF) (λl k=>overL vs l k)
  (λ_ ih l k=>List.rec (motive:=λ_=>RF) (.fail 25) (λx xs _=>ih xs λr=>k (x::r)) l) o
def takeL (n : Nat) : List Value->(List Value->RF)->RF:=
 Nat.rec (motive:=λ_=>List Value->(List Value->RF)->RF) (λ_ k=>k [])
  (λ_ ih l k=>List.rec (motive:=λ_=>RF) (.fail 26) (λx xs _=>ih xs λr=>k (x::r)) l) n
def subL (n : Nat) (o : Nat) : List Value->(List Value->RF)->RF:=
 Nat.rec (motive:=λ_=>List Value->(List Value->RF)->RF) (λl k=>takeL n l k)
  (λ_ ih l k=>List.rec (motive:=λ_=>RF) (.fail 27) (λ_ xs _=>ih xs k) l) o
def catL (b : List Value) (a : List Value) : (List Value->RF)->RF:=
 List.rec (motive:=λ_=>(List Value->RF)->RF) (λk=>k b) (λx _ ih k=>ih λr=>k (x::r)) a
def repL (z : List Value) (n : Nat) : (List Value->RF)->RF:=
 Nat.rec (motive:=λ_=>(List Value->RF)->RF) (λk=>k []) (λ_ ih k=>ih λr=>catL r z k) n
def lenIs (l : List Value) : Nat->RF->RF:=
 List.rec (motive:=λ_=>Nat->RF->RF) (λn k=>Nat.rec (motive:=λ_=>RF) k (λ_ _=>.fail 28) n) (λ_ _ ih n k=>Nat.rec (motive:=λ_=>RF) (.fail 28) (λm _=>ih m k) n) l
def okCell : Value->RF->RF:=Value.rec (motive_1:=λ_=>RF->RF) (motive_2:=λ_=>PUnit) (motive_3:=λ_=>PUnit) (λ_=>λk=>k) (λ_ _=>λk=>k) (λ_ _=>λk=>k) (λ_ _ _=>λk=>k) (λ_=>λk=>k) (λ_=>λk=>k) (λ_ _ _=>λk=>k) (λ_=>λk=>k) (λ_x0=>λ_=>.fail 29) (λ_ _ _ _ _=>λk=>k) (λk=>k) (λ_ _ _=>λk=>k) (λk=>k) (λ_x0 _h0=>λ_=>.fail 29) (λ_x0 _h0=>λ_=>.fail 29) (λ_ _=>⟨⟩) ⟨⟩ (λ_ _ _ _=>⟨⟩)
def allL (l : List Value) (k : RF) : RF:=
 List.rec (motive:=λ_=>RF) k (λx _ ih=>okCell x ih) l
def evA (t : TT) (a : FA) : Value:=FA.rec (motive:=λ_=>Value) (λp=>getP p t) (λv=>v) a
def evL (t : TT) (l : List FA) : (List Value->RF)->RF:=
 List.rec (motive:=λ_=>(List Value->RF)->RF) (λk=>k []) (λa _ ih k=>hV (evA t a) λv=>ih λr=>k (v::r)) l
def fill1 (off size : Nat) (v : Value) (c : List Value) (k : List Value->RF) : RF:=
 asCells v (λws=>lenIs ws size (spliceL ws off c k)) (lenIs [v] size (hV v λv=>setL v off c k))
def fillL (t : TT) (parts : List (Nat×Nat×FA)) : List Value->(List Value->RF)->RF:=
 List.rec (motive:=λ_=>List Value->(List Value->RF)->RF) (λc k=>k c)
  (λx _ ih c k=>Prod.rec (motive:=λ_=>RF) (λoff y=>Prod.rec (motive:=λ_=>RF) (λsize a=>fill1 off size (evA t a) c λc'=>ih c' k) y) x) parts
def maxI : Nat:=9223372036854775807
def iLe (a b : Int) : Bool:=Int.rec (motive:=λ_=>Bool) (λm=>Int.rec (motive:=λ_=>Bool) (λn=>Nat.ble m n) (λ_=>false) b) (λm=>Int.rec (motive:=λ_=>Bool) (λ_=>true) (λn=>Nat.ble n m) b) a
def iEq (a b : Int) : Bool:=Int.rec (motive:=λ_=>Bool) (λm=>Int.rec (motive:=λ_=>Bool) (λn=>Nat.beq m n) (λ_=>false) b) (λm=>Int.rec (motive:=λ_=>Bool) (λ_=>false) (λn=>Nat.beq m n) b) a
def wrapK (k : IntKind) (z : Int) (c : Value->RF) : RF:=gI (k.wrap z) λz=>c (.int k z)
def wrapI (z : Int) (c : Value->RF) : RF:=Int.rec (motive:=λ_=>RF)
 (λm=>gN m λm=>ifB (Nat.ble m maxI) (c (.int .i64 (.ofNat m))) (wrapK .i64 (.ofNat m) c))
 (λm=>gN m λm=>ifB (Nat.ble m maxI) (c (.int .i64 (.negSucc m))) (wrapK .i64 (.negSucc m) c)) z
def outB (b : Bool) (c : Value->RF) : RF:=Bool.rec (motive:=λ_=>RF) (c (.bool false)) (c (.bool true)) b
def outNB (b : Bool) (c : Value->RF) : RF:=Bool.rec (motive:=λ_=>RF) (c (.bool true)) (c (.bool false)) b
def binSlow (P : Program) (op : BinOp) (t : TypeId) (x y : Value) (c : Value->RF) : RF:=Option.rec (motive:=λ_=>RF) (.fail 30) (λv=>forceV v c) (xbinOp P op t x y)
abbrev B64:=RF->Int->Int->(Value->RF)->RF
def natBin (f : Nat->Nat->(Value->RF)->RF) : B64:=λslow a b c=>Int.rec (motive:=λ_=>RF) (λm=>Int.rec (motive:=λ_=>RF) (λn=>f m n c) (λ_=>slow) b) (λ_=>slow) a
def outN (n : Nat) (c : Value->RF) : RF:=gN n λr=>c (.int .i64 (.ofNat r))
def b64 (op : BinOp) : B64:=BinOp.rec (motive:=λ_=>B64)
 (λ_ a b c=>wrapI (Int.add a b) c) (λ_ a b c=>wrapI (Int.sub a b) c) (λ_ a b c=>wrapI (Int.mul a b) c)
 (natBin λm n c=>Nat.rec (motive:=λ_=>RF) (.fail 31) (λ_ _=>ifB (Nat.ble m maxI) (outN (Nat.div m n) c) (.fail 31)) n)
 (natBin λm n c=>Nat.rec (motive:=λ_=>RF) (.fail 31) (λ_ _=>outN (Nat.mod m n) c) n)
 (natBin λm n c=>ifB (Nat.ble m maxI) (ifB (Nat.ble n maxI) (outN (Nat.land m n) c) (.fail 31)) (.fail 31)) (natBin λm n c=>ifB (Nat.ble m maxI) (ifB (Nat.ble n maxI) (outN (Nat.lor m n) c) (.fail 31)) (.fail 31)) (λs _ _ _=>s)
 (natBin λm n c=>ifB (Nat.ble n 62) (wrapI (.ofNat (Nat.mul m (Nat.pow 2 n))) c) (.fail 32))
 (natBin λm n c=>ifB (Nat.ble n 62) (outN (Nat.div m (Nat.pow 2 n)) c) (.fail 31)) (λs _ _ _=>s)
 (λ_ a b c=>outB (iEq a b) c) (λ_ a b c=>outNB (iEq a b) c) (λ_ a b c=>outNB (iLe b a) c) (λ_ a b c=>outB (iLe a b) c) (λ_ a b c=>outNB (iLe a b) c) (λ_ a b c=>outB (iLe b a) c) op
def is64 (k : IntKind) (x y : RF) : RF:=IntKind.rec (motive:=λ_=>RF) y y y x y y y y k
def binF (P : Program) (op : BinOp) (t : TypeId) (x y : Value) (c : Value->RF) : RF:=
 asInt x (λkx a=>asInt y (λky b=>is64 kx (is64 ky (b64 op (binSlow P op t x y c) a b c) (binSlow P op t x y c)) (binSlow P op t x y c)) (binSlow P op t x y c)) (binSlow P op t x y c)
def boundF (t : TT) (x : Option FA) (df y : Nat) (c : Nat->RF) : RF:=
 Option.rec (motive:=λ_=>RF) (gN df c) (λa=>asNat (evA t a) λm=>ifB (Nat.ble m y) (gN m c) (.fail 33)) x
def onCells (o : FO) : (List Value->TypeId->Bool->RF)->RF:=
 FO.rec (motive:=λ_=>(List Value->TypeId->Bool->RF)->RF) (λcs el rw k=>k cs el rw) (λ_ _ _ _=>.fail 34) (λ_ _ _ _ _ _ _ _ _ _=>.fail 34) (λ_=>.fail 34) (λ_=>.fail 34) (λ_ _ _ _=>.fail 34) o
def onMap (o : FO) : (TypeId->List MapEntry->Nat->RF)->RF:=
 FO.rec (motive:=λ_=>(TypeId->List MapEntry->Nat->RF)->RF) (λ_ _ _ _=>.fail 35) (λkt es ck k=>k kt es ck) (λ_ _ _ _ _ _ _ _ _ _=>.fail 35) (λ_=>.fail 35) (λ_=>.fail 35) (λ_ _ _ _=>.fail 35) o
abbrev LoopK:=LoopState->Option FJ->TT->List Pth->Code->Code->FCode->FCode->Nat->RF
def onLoop (o : FO) : LoopK->RF:=
 FO.rec (motive:=λ_=>LoopK->RF) (λ_ _ _ _=>.fail 36) (λ_ _ _ _=>.fail 36) (λst pj t ps ca cb fa fb df k=>k st pj t ps ca cb fa fb df) (λ_=>.fail 36) (λ_=>.fail 36) (λ_ _ _ _=>.fail 36) o
def onDeferred (o : FO) (k : RF) : RF:=
 FO.rec (motive:=λ_=>RF) (λ_ _ _=>.fail 37) (λ_ _ _=>.fail 37) (λ_ _ _ _ _ _ _ _ _=>.fail 37) k (.fail 37) (λ_ _ _=>.fail 37) o
def objF (H : FH) (i : Nat) : FO:=FH.rec (motive:=λ_=>FO) (λ_ t=>getH t i) H
def cellsF (H : FH) (i : Nat) (c : List Value->TypeId->Bool->RF) : RF:=onCells (objF H i) c
def setF (H : FH) (i : Nat) (o : FO) (c : FH->RF) : RF:=FH.rec (motive:=λ_=>RF) (λnx t=>setH o t i λt'=>c (.mk nx t')) H
def allocF (H : FH) (o : FO) (c : Nat->FH->RF) : RF:=FH.rec (motive:=λ_=>RF) (λnx t=>setH o t nx λt'=>gN (Nat.succ nx) λnx'=>c nx (.mk nx' t')) H
abbrev OpT:=Program->TT->FH->(Value->FH->RF)->RF
def ptrV (i o : Nat) : Value:=.pointer (some ⟨i,o,none⟩)
def opMove (x : FA) : OpT:=λ_ t H c=>hV (evA t x) λv=>c v H
def opPick (q a b : FA) : OpT:=λ_ t H c=>asBool (evA t q) (hV (evA t a) λv=>c v H) (hV (evA t b) λv=>c v H) (.fail 40)
def opAlloc (el : TypeId) (z : List Value) : OpT:=λ_ _ H c=>allocF H (.cells z el true) λi H'=>c (ptrV i 0) H'
def opBox (el : TypeId) (x : FA) : OpT:=λ_ t H c=>asCells (evA t x) (λl=>allocF H (.cells l el true) λi H'=>c (ptrV i 0) H') (hV (evA t x) λv=>allocF H (.cells [v] el true) λi H'=>c (ptrV i 0) H')
def opBuild (z : List Value) (parts : List (Nat×Nat×FA)) : OpT:=λ_ t H c=>fillL t parts z λcs=>c (.agg ⟨cs⟩) H
def opBuildSlice (el : TypeId) (len : Nat) (z : List Value) (parts : List (Nat×Nat×FA)) : OpT:=λ_ t H c=>fillL t parts z λcs=>allocF H (.cells cs el true) λi H'=>c (.slice (some ⟨i,0,none⟩) len len) H'
def opLoad1 (x : FA) : OpT:=λ_ t H c=>asPtr (evA t x) λi o=>cellsF H i λcs _ _=>nthL o cs λv=>c v H
def opLoadN (n : Nat) (x : FA) : OpT:=λ_ t H c=>asPtr (evA t x) λi o=>cellsF H i λcs _ _=>subL n o cs λr=>c (.agg ⟨r⟩) H
def opStore (n : Nat) (a x : FA) : OpT:=λ_ t H c=>asPtr (evA t a) λi o=>cellsF H i λcs el rw=>ifB rw
 (asCells (evA t x) (λws=>lenIs ws n (allL ws (spliceL ws o cs λcs'=>setF H i (.cells cs' el true) λH'=>c undef H')))
  (lenIs [undef] n (hV (evA t x) λv=>okCell v (setL v o cs λcs'=>setF H i (.cells cs' el true) λH'=>c undef H')))) (.fail 41)
def opNil (x : FA) : OpT:=λ_ t H c=>hV (evA t x) λv=>Option.rec (motive:=λ_=>RF) (.fail 42) (λ_=>c v H) (xnil v)
def opBin (op : BinOp) (ty : TypeId) (x y : FA) : OpT:=λP t H c=>binF P op ty (evA t x) (evA t y) λv=>c v H
def opUn (op : UnOp) (x : FA) : OpT:=λ_ t H c=>Option.rec (motive:=λ_=>RF) (.fail 43) (λv=>forceV v λv=>c v H) (xun op (evA t x))
def opConv (k : IntKind) (x : FA) : OpT:=λ_ t H c=>asInt (evA t x) (λ_ n=>is64 k (wrapI n λv=>c v H) (wrapK k n λv=>c v H)) (.fail 44)
def opFieldAddr (off : Nat) (x : FA) : OpT:=λ_ t H c=>asPtr (evA t x) λi o=>gN (Nat.add o off) λo'=>c (ptrV i o') H
def opField1 (off : Nat) (x : FA) : OpT:=λ_ t H c=>asAgg (evA t x) λws=>nthL off ws λv=>c v H
def opFieldN (off n : Nat) (x : FA) : OpT:=λ_ t H c=>asAgg (evA t x) λws=>subL n off ws λr=>c (.agg ⟨r⟩) H
def opIndexAddr (arr : Option Nat) (es : Nat) (x i : FA) : OpT:=λ_ t H c=>asNat (evA t i) λn=>Option.rec (motive:=λ_=>RF)
 (asSlice (evA t x) (λb o len _=>ifB (Nat.ble (Nat.succ n) len) (gN (Nat.add o (Nat.mul n es)) λo'=>c (ptrV b o') H) (.fail 45)) (λ_ _ _ _ _=>.fail 45) (λ_ _=>.fail 45))
 (λlen=>asPtr (evA t x) λb o=>ifB (Nat.ble (Nat.succ n) len) (gN (Nat.add o (Nat.mul n es)) λo'=>c (ptrV b o') H) (.fail 46)) arr
def opIndex (len es : Nat) (one : Bool) (x i : FA) : OpT:=λ_ t H c=>asNat (evA t i) λn=>asAgg (evA t x) λws=>ifB (Nat.ble (Nat.succ n) len)
 (ifB one (nthL n ws λv=>c v H) (subL es (Nat.mul n es) ws λr=>c (.agg ⟨r⟩) H)) (.fail 47)
def slice1 (es i o cap h l : Nat) (H : FH) (c : Value->FH->RF) : RF:=ifB (Nat.beq cap l) (c (.slice (some ⟨i,o,some 0⟩) 0 0) H)
 (gN (Nat.add o (Nat.mul l es)) λo'=>gN (Nat.sub h l) λn'=>gN (Nat.sub cap l) λc'=>c (.slice (some ⟨i,o',none⟩) n' c') H)
def strideF (P : Program) (e i : Nat) (H : FH) (k : RF) : RF:=cellsF H i λ_ el rw=>ifB rw (ifB (Nat.beq el e) k (ifB (Nat.beq (P.cellsOf el) (P.cellsOf e)) k (.fail 86))) k
def opSlice (e : TypeId) (es : Nat) (x : FA) (lo hi : Option FA) : OpT:=λP t H c=>asSlice (evA t x)
 (λi o len cap=>strideF P e i H (boundF t hi len cap λh=>boundF t lo 0 h λl=>slice1 es i o cap h l H c))
 (λi o s len cap=>boundF t hi len cap λh=>boundF t lo 0 h λ_=>c (.slice (some ⟨i,o,some s⟩) 0 0) H)
 (λlen cap=>Nat.rec (motive:=λ_=>RF) (Nat.rec (motive:=λ_=>RF) (boundF t hi 0 0 λh=>boundF t lo 0 h λ_=>c (.slice none 0 0) H) (λ_ _=>.fail 48) len) (λ_ _=>.fail 48) cap)
def opSlice3 (e : TypeId) (es : Nat) (x : FA) (lo : Option FA) (hi m : FA) : OpT:=λP t H c=>asSlice (evA t x)
 (λi o _ cap=>strideF P e i H (boundF t (some m) 0 cap λk=>boundF t (some hi) 0 k λh=>boundF t lo 0 h λl=>slice1 es i o k h l H c))
 (λi o s _ cap=>boundF t (some m) 0 cap λk=>boundF t (some hi) 0 k λh=>boundF t lo 0 h λ_=>Nat.rec (motive:=λ_=>RF) (c (.slice (some ⟨i,o,some s⟩) 0 0) H) (λ_ _=>.fail 97) k)
 (λlen cap=>Nat.rec (motive:=λ_=>RF) (Nat.rec (motive:=λ_=>RF) (boundF t (some m) 0 0 λk=>boundF t (some hi) 0 k λh=>boundF t lo 0 h λ_=>c (.slice none 0 0) H) (λ_ _=>.fail 98) len) (λ_ _=>.fail 98) cap)
def asLen (v : Value) : (Nat->RF)->(Nat->RF)->RF->(Nat->RF)->RF:=Value.rec (motive_1:=λ_=>(Nat->RF)->(Nat->RF)->RF->(Nat->RF)->RF) (motive_2:=λ_=>PUnit) (motive_3:=λ_=>PUnit) (λ_=>λ_ _ _ _=>.fail 12) (λ_ _=>λ_ _ _ _=>.fail 12) (λ_ _=>λ_ _ _ _=>.fail 12) (λ_ _ _=>λ_ _ _ _=>.fail 12) (λx0=>λ_ s _ _=>gN x0.size s) (λ_=>λ_ _ _ _=>.fail 12) (λ_x0 x1 _x2=>λk _ _ _=>k x1) (λx0=>λ_ _ z m=>Option.rec (motive:=λ_=>RF) z (λi=>m i) x0) (λ_=>λ_ _ _ _=>.fail 12) (λ_ _ _ _ _=>λ_ _ _ _=>.fail 12) (λ_ _ _ _=>.fail 12) (λ_ _ _=>λ_ _ _ _=>.fail 12) (λ_ _ _ _=>.fail 12) (λ_ _=>λ_ _ _ _=>.fail 12) (λ_ _=>λ_ _ _ _=>.fail 12) (λ_ _=>⟨⟩) ⟨⟩ (λ_ _ _ _=>⟨⟩) v
def opLen (kd : Nat) (x : FA) : OpT:=λ_ t H c=>asLen (evA t x) (λn=>ifB (Nat.beq kd 0) (c (.int .i64 (.ofNat n)) H) (.fail 87)) (λn=>ifB (Nat.beq kd 1) (c (.int .i64 (.ofNat n)) H) (.fail 87))
 (ifB (Nat.beq kd 2) (c (.int .i64 (.ofNat 0)) H) (.fail 87)) (λi=>ifB (Nat.beq kd 2) (onMap (objF H i) λ_ es _=>outN es.length λv=>c v H) (.fail 87))
def opMm (mx : Bool) (xs : List FA) : OpT:=λ_ t H c=>evL t xs λl=>Option.rec (motive:=λ_=>RF) (.fail 49) (λv=>forceV v λv=>c v H) (xmm mx l)
def lentF (o n : Nat) (old : List Value) (e nx : Nat) (k : FO->RF) : RF:=Nat.rec (motive:=λ_=>RF) (ifB (Nat.ble n 16) (k (.lent old e nx)) (k .dead)) (λ_ _=>k .dead) o
def nowF (H : FH) (f : Nat) : Nat->(List Value->TypeId->Nat->RF)->RF:=
 Nat.rec (motive:=λ_=>Nat->(List Value->TypeId->Nat->RF)->RF) (λ_ _=>.fail 150)
  (λ_ ih i k=>FO.rec (motive:=λ_=>RF) (λcs el rw=>ifB rw (k cs el i) (.fail 150)) (λ_ _ _=>.fail 150) (λ_ _ _ _ _ _ _ _ _=>.fail 150) (.fail 150) (.fail 150)
   (λc el j=>ih j λck ek tp=>ifB (Nat.beq ek el) (ifB (preB c ck) (k c el tp) (.fail 151)) (.fail 151)) (objF H i)) f
def withNext (H : FH) (k : Nat->RF) : RF:=FH.rec (motive:=λ_=>RF) (λnx _=>k nx) H
def append3 (e : TypeId) (es n m cp i o : Nat) (H : FH) (new : List Value) (c : Value->FH->RF) : RF:=
 nowF H 24 i λcd el tp=>ifB (Nat.beq el e) (ifB (Nat.beq o 0) (ifB (Nat.ble (Nat.add n m) cp) (.fail 152)
  (subL (Nat.mul n es) 0 cd λold=>catL new old λboth=>withNext H λnx=>setF H tp .dead λH0=>setF H0 i (.lent old e nx) λH1=>allocF H1 (.cells both e true) λi H'=>gN (Nat.add n m) λnm=>c (.slice (some ⟨i,0,none⟩) nm nm) H')) (.fail 153)) (.fail 154)
def append2c (e : TypeId) (es n m cp i o : Nat) (H : FH) (new : List Value) (c : Value->FH->RF) (cd : List Value) (el : TypeId) (rw : Bool) : RF:=
 ifB (Nat.beq el e) (ifB rw (subL (Nat.mul cp es) o cd λ_=>Bool.rec (motive:=λ_=>RF)
  (subL (Nat.mul n es) o cd λold=>catL new old λboth=>withNext H λnx=>lentF o (Nat.mul n es) old e nx λx=>setF H i x λH1=>allocF H1 (.cells both e true) λi H'=>gN (Nat.add n m) λnm=>c (.slice (some ⟨i,0,none⟩) nm nm) H')
  (subL (Nat.mul n es) o cd λ_=>gN (Nat.add o (Nat.mul n es)) λk=>spliceL new k cd λcd'=>setF H i (.cells cd' e true) λH'=>gN (Nat.add n m) λnm=>c (.slice (some ⟨i,o,none⟩) nm cp) H')
  (Nat.ble (Nat.add n m) cp)) (.fail 50)) (.fail 51)
def append2 (e : TypeId) (es _bytes n m cp i o : Nat) (H : FH) (new : List Value) (c : Value->FH->RF) : RF:=
 FO.rec (motive:=λ_=>RF) (λcd el rw=>append2c e es n m cp i o H new c cd el rw) (λ_ _ _=>.fail 34) (λ_ _ _ _ _ _ _ _ _=>.fail 34) (.fail 34) (.fail 34) (λ_ _ _=>append3 e es n m cp i o H new c) (objF H i)
def append1 (e : TypeId) (es bytes m bk u : Nat) (s : Value) (H : FH) (c : Value->FH->RF) : RF:=
 cellsF H bk λcx _ _=>subL (Nat.mul m es) u cx λnew=>allL new
  (asSlice s (λi o n cp=>ifB (Nat.ble (Nat.mul (Nat.add (Nat.mul 2 (Nat.add n m)) 256) bytes) 281474976710656) (append2 e es bytes n m cp i o H new c) (.fail 52)) (λ_ _ _ _ _=>.fail 53)
   (λn cp=>Nat.rec (motive:=λ_=>RF) (Nat.rec (motive:=λ_=>RF) (ifB (Nat.ble (Nat.mul (Nat.add (Nat.mul 2 m) 256) bytes) 281474976710656) (allocF H (.cells new e true) λi H'=>c (.slice (some ⟨i,0,none⟩) m m) H') (.fail 54)) (λ_ _=>.fail 55) cp) (λ_ _=>.fail 56) n))
def append0 (s : Value) (H : FH) (c : Value->FH->RF) : RF:=
 asSlice s (λ_ _ _ _=>hV s λv=>c v H) (λ_ _ _ _ _=>hV s λv=>c v H) (λn _=>Nat.rec (motive:=λ_=>RF) (hV s λv=>c v H) (λ_ _=>.fail 57) n)
def opAppend (e : TypeId) (es bytes : Nat) (s x : FA) : OpT:=λ_ t H c=>asSlice (evA t x)
 (λbk u m _=>Nat.rec (motive:=λ_=>RF) (append0 (evA t s) H c) (λ_ _=>append1 e es bytes m bk u (evA t s) H c) m)
 (λ_ _ _ m _=>Nat.rec (motive:=λ_=>RF) (append0 (evA t s) H c) (λ_ _=>.fail 58) m)
 (λm _=>Nat.rec (motive:=λ_=>RF) (append0 (evA t s) H c) (λ_ _=>.fail 58) m)
def opClear (_es : Nat) (z : List Value) (x : FA) : OpT:=λ_ t H c=>asSlice (evA t x)
 (λi o n _=>Nat.rec (motive:=λ_=>RF) (c undef H) (λn' _=>cellsF H i λcd el rw=>ifB rw (repL z (Nat.succ n') λcs=>spliceL cs o cd λcd'=>setF H i (.cells cd' el true) λH'=>c undef H') (.fail 95)) n)
 (λ_ _ _ n _=>Nat.rec (motive:=λ_=>RF) (c undef H) (λ_ _=>.fail 96) n)
 (λ_ _=>c undef H)
def opMakeSlice (e : TypeId) (_es bytes : Nat) (z : List Value) (l cp : FA) : OpT:=λ_ t H c=>asNat (evA t l) λn=>asNat (evA t cp) λm=>ifB (Nat.ble n m)
 (ifB (Nat.ble (Nat.mul m bytes) 281474976710656) (ifB (Nat.ble m 281474976710656) (repL z m λcs=>allocF H (.cells cs e true) λi H'=>c (.slice (some ⟨i,0,none⟩) n m) H') (.fail 59)) (.fail 59)) (.fail 59)
def opMakeFunc (f : FuncId) (a b : List FA) : OpT:=λ_ t H c=>evL t a λa=>evL t b λb=>c (.func (.func f) ⟨a⟩ ⟨b⟩) H
def opMakeMap (kt : TypeId) : OpT:=λ_ _ H c=>allocF H (.map kt [] 0) λi H'=>c (.map (some i)) H'
def keyGood (P : Program) (kt : TypeId) (k : Value) : Bool:=keyedB P kt && (keyishV k && (keyOf P kt k).isSome)
def findE (none' : RF) (k : Value) (es : List MapEntry) : (Value->RF)->RF:=
 List.rec (motive:=λ_=>(Value->RF)->RF) (λ_=>none') (λe _ ih c=>MapEntry.rec (motive:=λ_=>RF) (λk' v _=>Bool.rec (motive:=λ_=>RF) (ih c) (c v) (valEq k k')) e) es
def updE (k v : Value) (es : List MapEntry) : Nat->(List MapEntry->Nat->RF)->RF:=
 List.rec (motive:=λ_=>Nat->(List MapEntry->Nat->RF)->RF) (λn c=>gN (Nat.succ n) λn'=>c [⟨k,v,n⟩] n')
  (λe es ih n c=>MapEntry.rec (motive:=λ_=>RF) (λk' v' b=>Bool.rec (motive:=λ_=>RF) (ih n λr n'=>c (⟨k',v',b⟩::r) n') (c (⟨k,v,b⟩::es) n) (valEq k k')) e) es
def opLookup (kt : TypeId) (z : Value) (x k : FA) (ok : Bool) : OpT:=λP t H c=>asMap (evA t x) (λi=>onMap (objF H i) λkt' es _=>ifB (Nat.beq kt' kt) (hV (evA t k) λk=>ifB (keyGood P kt k)
 (findE (ifB ok (c (.tuple ⟨[z,.bool false]⟩) H) (c z H)) k es λv=>ifB ok (c (.tuple ⟨[v,.bool true]⟩) H) (c v H)) (.fail 60)) (.fail 61)) (.fail 62)
def opMapUpdate (kt : TypeId) (m k v : FA) : OpT:=λP t H c=>asMap (evA t m) (λi=>onMap (objF H i) λkt' es ck=>ifB (Nat.beq kt' kt) (hV (evA t k) λk=>hV (evA t v) λv=>ifB (keyGood P kt k)
 (updE k v es ck λes' ck'=>setF H i (.map kt es' ck') λH'=>c undef H') (.fail 63)) (.fail 64)) (.fail 65)
def opExtract (x : FA) (i : Nat) : OpT:=λ_ t H c=>asTuple (evA t x) λws=>nthL i ws λv=>c v H
def opCap (x : FA) : OpT:=λ_ t H c=>asSlice (evA t x) (λ_ _ _ _=>.fail 100) (λ_ _ _ _ _=>.fail 100) λ_ q=>c (.int .i64 (.ofNat q)) H
def opAppendMk (e : TypeId) (es bytes : Nat) (z : List Value) (s x : FA) : OpT:=λP t H c=>asSlice (evA t s) (λ_ _ _ _=>.fail 101) (λ_ _ _ _ _=>.fail 101) λn q=>
 ifB (Nat.beq n 0) (ifB (Nat.beq q 0) (asNat (evA t x) λl=>ifB (Nat.ble 1 l) (ifB (Nat.ble l 1048576) (opMakeSlice e es bytes z x x P t H c) (.fail 101)) (.fail 101)) (.fail 101)) (.fail 101)
def opIdxSlow (ty : TypeId) (x i : FA) : OpT:=λP t H c=>Option.rec (motive:=λ_=>RF) (.fail 130) (λv=>forceV v λv=>c v H) (xindex P ty (evA t x) (evA t i))
def opSliceSlow (ty : TypeId) (x : FA) (lo hi : Option FA) : OpT:=λP t H c=>Option.rec (motive:=λ_=>RF) (.fail 131) (λv=>forceV v λv=>c v H) (xslice P ty (evA t x) (lo.map (evA t)) (hi.map (evA t)) none)
def bytesC (l : List UInt8) : (List Value->RF)->RF:=
 List.rec (motive:=λ_=>(List Value->RF)->RF) (λk=>k []) (λb _ ih k=>gN b.toNat λn=>ih λr=>k (.int .u8 (.ofNat n)::r)) l
def asStr (v : Value) (k : List UInt8->RF) : RF:=match v with
 | .string s=>k s.data.toList
 | _=>.fail 140
def opToBytes (e : TypeId) (x : FA) : OpT:=λ_ t H c=>asStr (evA t x) λl=>bytesC l λcs=>allocF H (.cells cs e true) λi H'=>gN l.length λn=>c (.slice (some ⟨i,0,none⟩) n n) H'
def strOf (w : List Value) (H : FH) (c : Value->FH->RF) : RF:=Option.rec (motive:=λ_=>RF) (.fail 141) (λl=>c (.string ⟨⟨l⟩⟩) H) (ofBytes w)
def opToStr (x : FA) : OpT:=λ_ t H c=>asSlice (evA t x) (λi o n _=>cellsF H i λcs _ _=>Nat.rec (motive:=λ_=>RF) (c (.string ⟨⟨[]⟩⟩) H) (λ_ _=>subL n o cs λw=>strOf w H c) n)
 (λ_ _ _ _ _=>.fail 142) (λ_ _=>c (.string ⟨⟨[]⟩⟩) H)
abbrev FX:=FCode->Option Nat->List Nat->TT->FH->RF
def unmarkF (ms : List Nat) : FH->(FH->RF)->RF:=
 List.rec (motive:=λ_=>FH->(FH->RF)->RF) (λH k=>k H) (λm _ ih H k=>onDeferred (objF H m) (setF H m .dead λH'=>ih H' k)) ms
def setArgs (args : List Value) : List Pth->TT->(TT->RF)->RF:=
 List.rec (motive:=λ_=>List Pth->TT->(TT->RF)->RF) (λps t k=>List.rec (motive:=λ_=>RF) (k t) (λ_ _ _=>.fail 70) ps)
  (λv _ ih ps t k=>List.rec (motive:=λ_=>RF) (.fail 70) (λp ps _=>setP v p t λt'=>ih ps t' k) ps) args
def res1 (t : TT) (H : FH) (x : FRes) : (Value->RF)->RF:=
 FRes.rec (motive:=λ_=>(Value->RF)->RF) (λp k=>hV (getP p t) k) (λp k=>asPtr (getP p t) λi o=>cellsF H i λcs _ _=>nthL o cs k)
  (λp n k=>asPtr (getP p t) λi o=>cellsF H i λcs _ _=>subL n o cs λw=>k (.agg ⟨w⟩)) x
def resF (t : TT) (H : FH) (l : List FRes) : (List Value->RF)->RF:=
 List.rec (motive:=λ_=>(List Value->RF)->RF) (λk=>k []) (λx _ ih k=>res1 t H x λv=>ih λr=>k (v::r)) l
def endF (res : List FRes) (t : TT) (m : List Nat) (H : FH) (c : Value->FH->RF) : RF:=
 unmarkF m H λH1=>resF t H1 res λl=>List.rec (motive:=λ_=>RF) (c (.tuple ⟨[]⟩) H1) (λv r _=>List.rec (motive:=λ_=>RF) (c v H1) (λ_ _ _=>c (.tuple ⟨l⟩) H1) r) l
def afterF (r : RF) (res : List FRes) (c : Value->FH->RF) : RF:=
 RF.rec (motive:=λ_=>List FRes->(Value->FH->RF)->RF) (λn _ _=>.fail n) (λt m H res c=>endF res t m H c) (λ_ _ _ _ _ _=>.fail 71) (λt m H res c=>endF res t m H c) r res c
def callF (F : Nat->FFunc) (x : FX) (f : Nat) (args : List Value) (H : FH) (c : Value->FH->RF) : RF:=
 FFunc.rec (motive:=λ_=>RF) (λcode tmpl ps res=>setArgs args ps tmpl λt=>afterF (x code none [] t H) res c) (.fail 72) (λb=>List.rec (motive:=λ_=>RF) (c (.bool b) H) (λ_ _ _=>.fail 73) args) (F f)
def round2 (l : Nat) (st : LoopState) (b : Bool) (pj : Option FJ) (H : FH) (c : Value->FH->RF) : RF:=
 onLoop (objF H l) λ_ _ t ps ca cb fa fb df=>setF H l (.loop st pj t ps ca cb fa fb df) λH'=>c (.bool b) H'
def roundE (r : RF) : Nat->(Value->FH->RF)->RF:=
 RF.rec (motive:=λ_=>Nat->(Value->FH->RF)->RF) (λn _ _=>.fail n) (λ_ _ H l c=>round2 l .ready true none H c) (λid _ _ H l c=>round2 l .done false (some (.exit id)) H c) (λ_ _ H l c=>round2 l .done false (some .ret) H c) r
def isReady (s : LoopState) (k : RF) : RF:=LoopState.rec (motive:=λ_=>RF) k (.fail 74) (.fail 74) (.fail 74) s
def round1 (x : FX) (l : Nat) (fb : FCode) (t : TT) (m : List Nat) (H : FH) (c : Value->FH->RF) : RF:=
 onLoop (objF H l) λst pj t1 ps ca cb fa fb' df=>isReady st (setF H l (.loop .busy pj t1 ps ca cb fa fb' df) λH2=>roundE (x fb (some l) m t H2) l c)
def roundA (r : RF) : FX->Nat->FCode->(Value->FH->RF)->RF:=
 RF.rec (motive:=λ_=>FX->Nat->FCode->(Value->FH->RF)->RF) (λn _ _ _ _=>.fail n) (λt m H x l fb c=>round1 x l fb t m H c) (λ_ _ _ _ _ _ _ _=>.fail 73) (λ_ _ _ _ _ _ _=>.fail 73) r
def roundF (x : FX) (l : Nat) (args : List Value) (H : FH) (c : Value->FH->RF) : RF:=
 onLoop (objF H l) λ_ _ t ps _ _ fa fb _=>setArgs args ps t λt=>roundA (x fa (some l) [] t H) x l fb c
def asFunc (v : Value) : (Nat->List Value->List Value->RF)->(Nat->List Value->RF)->RF:=Value.rec (motive_1:=λ_=>(Nat->List Value->List Value->RF)->(Nat->List Value->RF)->RF) (motive_2:=λ_=>PUnit) (motive_3:=λ_=>PUnit) (λ_=>λ_ _=>.fail 14) (λ_ _=>λ_ _=>.fail 14) (λ_ _=>λ_ _=>.fail 14) (λ_ _ _=>λ_ _=>.fail 14) (λ_=>λ_ _=>.fail 14) (λ_=>λ_ _=>.fail 14) (λ_ _ _=>λ_ _=>.fail 14) (λ_=>λ_ _=>.fail 14) (λ_=>λ_ _=>.fail 14) (λx0 x1 x2 _h0 _h1=>λk y=>Fn.rec (motive:=λ_=>RF) (λf=>Array.rec (motive:=λ_=>RF) (λa=>Array.rec (motive:=λ_=>RF) (λb=>k f a b) x2) x1) (λ_=>.fail 13) (λ_ _=>.fail 13) (λ_ _ _ _=>.fail 13) (λl=>Array.rec (motive:=λ_=>RF) (λa=>y l a) x1) x0) (λ_ _=>.fail 14) (λ_ _ _=>λ_ _=>.fail 14) (λ_ _=>.fail 14) (λ_ _=>λ_ _=>.fail 14) (λ_ _=>λ_ _=>.fail 14) (λ_ _=>⟨⟩) ⟨⟩ (λ_ _ _ _=>⟨⟩) v
abbrev OpX:=Program->(Nat->FFunc)->FX->TT->FH->(Value->FH->RF)->RF
def opCall (f : FA) (args : List FA) : OpX:=λ_ F x t H c=>asFunc (evA t f)
 (λg a b=>evL t args λargs=>catL b args λr=>catL r a λr=>callF F x g r H c) (λl a=>evL t args λargs=>catL args a λr=>roundF x l r H c)
def lift (o : OpT) : OpX:=λP _ _ t H c=>o P t H c
def opF (o : FOp) : OpX:=FOp.rec (motive:=λ_=>OpX)
 (λx=>lift (opMove x)) (λq a b=>lift (opPick q a b)) (λe z=>lift (opAlloc e z)) (λe x=>lift (opBox e x)) (λz p=>lift (opBuild z p)) (λe n z p=>lift (opBuildSlice e n z p))
 (λx=>lift (opLoad1 x)) (λn x=>lift (opLoadN n x)) (λn a x=>lift (opStore n a x)) (λx=>lift (opNil x)) (λo t x y=>lift (opBin o t x y)) (λo x=>lift (opUn o x)) (λk x=>lift (opConv k x))
 (λo x=>lift (opFieldAddr o x)) (λo x=>lift (opField1 o x)) (λo n x=>lift (opFieldN o n x)) (λa e x i=>lift (opIndexAddr a e x i)) (λl e b x i=>lift (opIndex l e b x i)) (λe s x l h=>lift (opSlice e s x l h))
 (λk x=>lift (opLen k x)) (λm xs=>lift (opMm m xs)) (λe s b x y=>lift (opAppend e s b x y)) (λe s b z l c=>lift (opMakeSlice e s b z l c)) (λf a b=>lift (opMakeFunc f a b)) (λk=>lift (opMakeMap k))
 (λk z x y o=>lift (opLookup k z x y o)) (λk m x y=>lift (opMapUpdate k m x y)) (λx i=>lift (opExtract x i)) (λx=>lift (opCap x)) (λe s b z y x=>lift (opAppendMk e s b z y x)) opCall (λty x i=>lift (opIdxSlow ty x i)) (λty x l h=>lift (opSliceSlow ty x l h)) (λe x=>lift (opToBytes e x)) (λx=>lift (opToStr x)) (λes z x=>lift (opClear es z x)) (λe es x lo hi m=>lift (opSlice3 e es x lo hi m)) o
abbrev FIT:=Program->(Nat->FFunc)->FX->(TT->FH->(TT->FH->RF)->RF)->TT->FH->(TT->FH->RF)->RF
def fiGo (o : FOp) (d : Pth) : FIT:=λP F x ih t H k=>opF o P F x t H λv H'=>setP v d t λt'=>ih t' H' k
def fiUn (o : FOp) : FIT:=λP F x ih t H k=>opF o P F x t H λ_ H'=>ih t H' k
def fiGd (p : Pth) (w : Bool) (o : FOp) (d : Pth) : FIT:=λP F x ih t H k=>asBool (getP p t)
 (ifB w (fiGo o d P F x ih t H k) (setP undef d t λt'=>ih t' H k)) (ifB w (setP undef d t λt'=>ih t' H k) (fiGo o d P F x ih t H k)) (setP undef d t λt'=>ih t' H k)
def fiGu (p : Pth) (w : Bool) (o : FOp) : FIT:=λP F x ih t H k=>asBool (getP p t)
 (ifB w (fiUn o P F x ih t H k) (ih t H k)) (ifB w (ih t H k) (fiUn o P F x ih t H k)) (ih t H k)
def runI (i : FI) : FIT:=FI.rec (motive:=λ_=>FIT) fiGo fiUn fiGd fiGu i
def runF (P : Program) (F : Nat->FFunc) (x : FX) (is : List FI) : TT->FH->(TT->FH->RF)->RF:=
 List.rec (motive:=λ_=>TT->FH->(TT->FH->RF)->RF) (λt H k=>k t H) (λi _ ih t H k=>runI i P F x ih t H k) is
abbrev ExT:=Program->(Nat->FFunc)->FX->Option Nat->List Nat->TT->FH->RF
def seqR (r : RF) : FX->FCode->Option Nat->RF:=RF.rec (motive:=λ_=>FX->FCode->Option Nat->RF) (λn _ _ _=>.fail n) (λt m H x b rnd=>x b rnd m t H) (λid t m H _ _ _=>.ex id t m H) (λt m H _ _ _=>.rt t m H) r
def blockR (r : RF) : Nat->RF:=RF.rec (motive:=λ_=>Nat->RF) (λn _=>.fail n) (λt m H _=>.nx t m H) (λid' t m H id=>ifB (Nat.beq id' id) (.nx t m H) (.ex id' t m H)) (λt m H _=>.rt t m H) r
def exSkip : ExT:=λ_ _ _ _ m t H=>.nx t m H
def exExit (id : Nat) : ExT:=λ_ _ _ _ m t H=>.ex id t m H
def exRet : ExT:=λ_ _ _ _ m t H=>.rt t m H
def exSeq (a b : FCode) : ExT:=λ_ _ x rnd m t H=>seqR (x a rnd m t H) x b rnd
def exCond (q : FA) (a b : FCode) : ExT:=λ_ _ x rnd m t H=>asBool (evA t q) (x a rnd m t H) (x b rnd m t H) (.fail 80)
def exBlock (id : Nat) (b : FCode) : ExT:=λ_ _ x rnd m t H=>blockR (x b rnd m t H) id
def exScope (b : FCode) : ExT:=λ_ _ x rnd m t H=>x b rnd m t H
def exLoop (b : FCode) : ExT:=λ_ _ x rnd m t H=>seqR (x b rnd m t H) x (.loop b) rnd
def exRun (is : List FI) : ExT:=λP F x _ m t H=>runF P F x is t H λt' H'=>.nx t' m H'
def runD (P : Program) (F : Nat->FFunc) (x : FX) (is : List FI) : TT->FH->(TT->List FH->RF)->RF:=
 List.rec (motive:=λ_=>TT->FH->(TT->List FH->RF)->RF) (λt H k=>k t [H]) (λi _ ih t H k=>runI i P F x (λt' H' _=>ih t' H' λT Gs=>k T (H::Gs)) t H λ_ _=>.fail 90) is
def nextF (H : FH) : Nat:=FH.rec (motive:=λ_=>Nat) (λnx _=>nx) H
def nthG (n : Nat) : List FH->(FH->RF)->RF:=
 Nat.rec (motive:=λ_=>List FH->(FH->RF)->RF) (λl k=>List.rec (motive:=λ_=>RF) (.fail 91) (λx _ _=>k x) l)
  (λ_ ih l k=>List.rec (motive:=λ_=>RF) (.fail 91) (λ_ xs _=>ih xs k) l) n
def monoF (k : RF) (l : List FH) : Nat->RF:=
 List.rec (motive:=λ_=>Nat->RF) (λ_=>k) (λH _ ih n=>ifB (Nat.ble n (nextF H)) (ih (nextF H)) (.fail 92)) l
def wantF (T : TT) (g : Option (Pth×Bool)) (yes no : RF) : RF:=
 Option.rec (motive:=λ_=>RF) yes (λx=>Prod.rec (motive:=λ_=>RF) (λp w=>asBool (getP p T) (ifB w yes no) (ifB w no yes) no) x) g
def sameF (T : TT) (d : Option Pth) (v : Value) (k : RF) : RF:=Option.rec (motive:=λ_=>RF) k (λp=>ifB (vEq 3 (getP p T) v) k (.fail 93)) d
def readsF (P : Program) (F : Nat->FFunc) (x : FX) (T : TT) (Gs : List FH) (o : FOp) (d : Option Pth) (k : RF) (qs : List Nat) : RF:=
 List.rec (motive:=λ_=>RF) k (λq _ ih=>nthG q Gs λH=>opF o P F x T H λv _=>sameF T d v ih) qs
def newF (T : TT) (Gs : List FH) (d : Option Pth) (p : Nat) (new : Bool) (k : RF) : RF:=
 nthG p Gs λH=>nthG (Nat.succ p) Gs λH'=>Option.rec (motive:=λ_=>RF) (.fail 94) (λq=>ifB (inBound (nextF H') 3 (getP q T))
  (ifB new (cellsF H' (nextF H) λc _ _=>ifB (c.all (inBound (nextF H) 2)) k (.fail 95)) k) (.fail 96)) d
def chkF (P : Program) (F : Nat->FFunc) (x : FX) (T : TT) (Gs : List FH) (k : RF) (cs : List FC) : RF:=
 List.rec (motive:=λ_=>RF) k (λe _ ih=>FC.rec (motive:=λ_=>RF) ih (λg o d qs=>wantF T g (readsF P F x T Gs o d ih qs) ih) (λg d p new=>wantF T g (newF T Gs d p new ih) ih) e) cs
def exDraw (n : Nat) (is : List FI) (cs : List FC) : ExT:=λP F x _ m t H=>runD P F x is t H λT Gs=>monoF (chkF P F x T Gs (nthG n Gs λH'=>.nx T m H') cs) Gs 0
def pendR (pj : Option FJ) (t : TT) (ms : List Nat) (H : FH) : RF:=Option.rec (motive:=λ_=>RF) (.nx t ms H) (λj=>FJ.rec (motive:=λ_=>RF) (λid=>.ex id t ms H) (.rt t ms H) j) pj
def notBusy (s : LoopState) (k : RF) : RF:=LoopState.rec (motive:=λ_=>RF) k (.fail 84) k k s
def rangeG (f : FA) (ps : List Pth) (ca cb : Code) (fa fb : FCode) (F : Nat->FFunc) (x : FX) (t : TT) (df : Nat) (ms : List Nat) (H1 : FH) : RF:=
 asFunc (evA t f) (λg a b=>allocF H1 (.loop .ready none t ps ca cb fa fb df) λl H2=>catL (.func (.yield l) ⟨[]⟩ ⟨[]⟩::b) a λr=>callF F x g r H2 λ_ H3=>
  onLoop (objF H3 l) λst pj t1 ps ca cb fa fb df=>notBusy st (setF H3 l (.loop .exhausted pj t1 ps ca cb fa fb df) λH4=>pendR pj t ms H4)) (λ_ _=>.fail 81)
def exRange (f : FA) (ps : List Pth) (ca cb : Code) (fa fb : FCode) : ExT:=λ_ F x rnd m t H=>Option.rec (motive:=λ_=>RF)
 (allocF H .deferred λi H'=>rangeG f ps ca cb fa fb F x t i (i::m) H') (λl=>onLoop (objF H l) λ_ _ _ _ _ _ _ _ df=>rangeG f ps ca cb fa fb F x t df m H) rnd
def exBad : ExT:=λ_ _ _ _ _ _ _=>.fail 82
def exC (c : FCode) : ExT:=FCode.rec (motive:=λ_=>ExT) exSkip exExit exRet (λa b _ _=>exSeq a b) (λq a b _ _=>exCond q a b) (λid b _=>exBlock id b) (λb _=>exScope b) (λb _=>exLoop b) exRun exDraw (λf ps ca cb fa fb _ _=>exRange f ps ca cb fa fb) exBad c
def execF (P : Program) (F : Nat->FFunc) (n : Nat) : FX:=Nat.rec (motive:=λ_=>FX) (λ_ _ _ _ _=>.fail 83) (λ_ ih c rnd m t H=>exC c P F ih rnd m t H) n
end Go.Xe
end
