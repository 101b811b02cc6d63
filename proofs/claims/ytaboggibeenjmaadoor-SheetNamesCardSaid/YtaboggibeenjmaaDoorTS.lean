/- The code of the program's functions, their types resolved, as the machine for the kernel runs it: definitions, and for each that it is the program's own. Conditions: none. -/
import Derived.Test.YtaboggibeenjmaaDoorTSa
import Derived.Test.YtaboggibeenjmaaDoorProg
import Derived.KernelRfl
namespace Go.Xe.TS
open Go Go.Xe Go.Proofs
set_option maxRecDepth 1000000
noncomputable def c38 : FCode := (.seq (.run [.go (.move (.con (.int .i64 (.ofNat 0)))) (.r .o)]) (.seq (.run [.go (.move (.con (.int .i64 (.ofNat 0)))) (.l (.l .o))]) (.seq (.seq (.run [.go (.move (.tmp .o)) (.r (.r .o)),
 .go (.len 0 (.tmp (.r (.r .o)))) (.l (.l (.l .o))),
 .go (.move (.con (.int .i64 (.ofNat 0)))) (.r (.l (.l .o)))]) (.block 0 (.loop (.seq (.run [.go (.bin .lss 3 (.tmp (.r (.l (.l .o)))) (.tmp (.l (.l (.l .o))))) (.l (.r (.l .o)))]) (.seq (.cond (.tmp (.l (.r (.l .o)))) .skip (.exit 0)) (.seq (.block 1 (.seq (.run [.go (.indexAddr none 1 (.tmp (.r (.r .o))) (.tmp (.r (.l (.l .o))))) (.r (.r (.l .o))),
 .go (.load1 (.tmp (.r (.r (.l .o))))) (.l (.l (.r .o))),
 .go (.move (.tmp (.l (.l (.r .o))))) (.l (.r .o))]) (.run [.go (.move (.tmp (.l (.l .o)))) (.r (.l (.r .o))),
 .go (.move (.tmp (.l (.r .o)))) (.l (.r (.r .o))),
 .go (.bin .shl 78 (.con (.int .i64 (.ofNat 1))) (.tmp (.l (.r (.r .o))))) (.r (.r (.r .o))),
 .go (.bin .or 78 (.tmp (.r (.l (.r .o)))) (.tmp (.r (.r (.r .o))))) (.l (.l (.l (.l .o)))),
 .go (.move (.tmp (.l (.l (.l (.l .o)))))) (.l (.l .o))]))) (.run [.go (.bin .add 3 (.tmp (.r (.l (.l .o)))) (.con (.int .i64 (.ofNat 1)))) (.r (.l (.l (.l .o)))),
 .go (.move (.tmp (.r (.l (.l (.l .o)))))) (.r (.l (.l .o)))]))))))) (.seq (.run [.go (.move (.tmp (.l (.l .o)))) (.l (.r (.l (.l .o)))),
 .go (.move (.tmp (.l (.r (.l (.l .o)))))) (.r .o)]) .ret))))
noncomputable def f38 : FFunc := .mk c38 (.n U (.n U (.n U (.n U (.n U .e .e) .e) (.n U .e .e)) (.n U (.n U (.n U .e .e) .e) (.n U .e .e))) (.n U (.n U (.n U (.n U .e .e) .e) (.n U .e .e)) (.n U (.n U .e .e) (.n U .e .e)))) [.o] [.tmp (.r .o)]
theorem e38 : @compF Tryd.prog (glOne Tryd.prog 1) Tryd.f38 1 = f38 := by kernel_rfl
theorem o38 : okF Tryd.prog Tryd.f38 = true := by kernel_rfl
theorem g38 : Tryd.prog.funcs[(38 : Nat)]? = some Tryd.f38 := by kernel_rfl
noncomputable def c39 : FCode := (.seq (.run [.go (.move (.con (.int .i64 (.ofNat 0)))) (.r .o)]) (.seq (.run [.go (.move (.tmp .o)) (.l (.l .o)),
 .go (.nilCheck (.tmp (.l (.l .o)))) (.r (.l .o)),
 .go (.fieldAddr 0 (.tmp (.r (.l .o)))) (.l (.r .o)),
 .go (.fieldAddr 0 (.tmp (.l (.r .o)))) (.r (.r .o)),
 .go (.load1 (.tmp (.r (.r .o)))) (.l (.l (.l .o))),
 .go (.len 0 (.tmp (.l (.l (.l .o))))) (.r (.l (.l .o))),
 .go (.bin .shl 78 (.con (.int .i64 (.ofNat 1))) (.tmp (.r (.l (.l .o))))) (.l (.r (.l .o))),
 .go (.bin .sub 78 (.tmp (.l (.r (.l .o)))) (.con (.int .i64 (.ofNat 1)))) (.r (.r (.l .o))),
 .go (.move (.tmp (.r (.r (.l .o))))) (.r .o)]) .ret))
noncomputable def f39 : FFunc := .mk c39 (.n U (.n U (.n U (.n U .e .e) .e) (.n U (.n U .e .e) .e)) (.n U (.n U (.n U .e .e) .e) (.n U (.n U .e .e) .e))) [.o] [.tmp (.r .o)]
theorem e39 : @compF Tryd.prog (glOne Tryd.prog 1) Tryd.f39 1 = f39 := by kernel_rfl
theorem o39 : okF Tryd.prog Tryd.f39 = true := by kernel_rfl
theorem g39 : Tryd.prog.funcs[(39 : Nat)]? = some Tryd.f39 := by kernel_rfl
noncomputable def c40 : FCode := (.seq (.run [.go (.alloc 23 [(.int .i64 (.ofNat 0)),(.int .i64 (.ofNat 0))]) (.r .o)]) (.seq (.draw 28 [.go (.move (.tmp .o)) (.l (.l .o)),
 .go (.nilCheck (.tmp (.l (.l .o)))) (.r (.l .o)),
 .go (.fieldAddr 0 (.tmp (.r (.l .o)))) (.l (.r .o)),
 .go (.fieldAddr 5 (.tmp (.l (.r .o)))) (.r (.r .o)),
 .go (.fieldAddr 0 (.tmp (.r (.r .o)))) (.l (.l (.l .o))),
 .go (.load1 (.tmp (.l (.l (.l .o))))) (.r (.l (.l .o))),
 .go (.move (.tmp .o)) (.l (.r (.l .o))),
 .go (.nilCheck (.tmp (.l (.r (.l .o))))) (.r (.r (.l .o))),
 .go (.fieldAddr 0 (.tmp (.r (.r (.l .o))))) (.l (.l (.r .o))),
 .go (.fieldAddr 3 (.tmp (.l (.l (.r .o))))) (.r (.l (.r .o))),
 .go (.fieldAddr 1 (.tmp (.r (.l (.r .o))))) (.l (.r (.r .o))),
 .go (.load1 (.tmp (.l (.r (.r .o))))) (.r (.r (.r .o))),
 .go (.bin .sub 3 (.tmp (.r (.l (.l .o)))) (.tmp (.r (.r (.r .o))))) (.l (.l (.l (.l .o)))),
 .go (.move (.tmp .o)) (.r (.l (.l (.l .o)))),
 .go (.nilCheck (.tmp (.r (.l (.l (.l .o)))))) (.l (.r (.l (.l .o)))),
 .go (.fieldAddr 0 (.tmp (.l (.r (.l (.l .o)))))) (.r (.r (.l (.l .o)))),
 .go (.fieldAddr 5 (.tmp (.r (.r (.l (.l .o)))))) (.l (.l (.r (.l .o)))),
 .go (.fieldAddr 1 (.tmp (.l (.l (.r (.l .o)))))) (.r (.l (.r (.l .o)))),
 .go (.load1 (.tmp (.r (.l (.r (.l .o)))))) (.l (.r (.r (.l .o)))),
 .go (.move (.tmp .o)) (.r (.r (.r (.l .o)))),
 .go (.nilCheck (.tmp (.r (.r (.r (.l .o)))))) (.l (.l (.l (.r .o)))),
 .go (.fieldAddr 0 (.tmp (.l (.l (.l (.r .o)))))) (.r (.l (.l (.r .o)))),
 .go (.fieldAddr 3 (.tmp (.r (.l (.l (.r .o)))))) (.l (.r (.l (.r .o)))),
 .go (.fieldAddr 0 (.tmp (.l (.r (.l (.r .o)))))) (.r (.r (.l (.r .o)))),
 .go (.load1 (.tmp (.r (.r (.l (.r .o)))))) (.l (.l (.r (.r .o)))),
 .go (.bin .sub 3 (.tmp (.l (.r (.r (.l .o))))) (.tmp (.l (.l (.r (.r .o)))))) (.r (.l (.r (.r .o)))),
 .go (.build [(.int .i64 (.ofNat 0)),(.int .i64 (.ofNat 0))] [(0,1,(.tmp (.l (.l (.l (.l .o)))))),(1,1,(.tmp (.r (.l (.r (.r .o))))))]) (.l (.r (.r (.r .o)))),
 .un (.store 2 (.tmp (.r .o)) (.tmp (.l (.r (.r (.r .o))))))] [.ok,.ok,.ok,.ok,.ok,.ok,.ok,.ok,.ok,.ok,.ok,.ok,.ok,.ok,.ok,.ok,.ok,.ok,.ok,.ok,.ok,.ok,.ok,.ok,.ok,.ok,.ok,.ok]) .ret))
noncomputable def f40 : FFunc := .mk c40 (.n U (.n U (.n U (.n U (.n U .e .e) (.n U .e .e)) (.n U (.n U .e .e) (.n U .e .e))) (.n U (.n U (.n U .e .e) (.n U .e .e)) (.n U (.n U .e .e) (.n U .e .e)))) (.n U (.n U (.n U (.n U .e .e) (.n U .e .e)) (.n U (.n U .e .e) (.n U .e .e))) (.n U (.n U (.n U .e .e) (.n U .e .e)) (.n U (.n U .e .e) .e)))) [.o] [.many (.r .o) 2]
theorem e40 : @compF Tryd.prog (glOne Tryd.prog 1) Tryd.f40 1 = f40 := by kernel_rfl
theorem o40 : okF Tryd.prog Tryd.f40 = true := by kernel_rfl
theorem g40 : Tryd.prog.funcs[(40 : Nat)]? = some Tryd.f40 := by kernel_rfl
noncomputable def c41 : FCode := (.seq (.run [.go (.box 23 (.tmp .o)) (.r .o),
 .go (.move (.con (.bool false))) (.r (.l .o))]) (.seq (.run [.go (.fieldAddr 0 (.tmp (.r .o))) (.l (.r .o)),
 .go (.load1 (.tmp (.l (.r .o)))) (.r (.r .o)),
 .go (.move (.tmp (.l .o))) (.l (.l (.l .o))),
 .go (.bin .leq 3 (.tmp (.r (.r .o))) (.tmp (.l (.l (.l .o))))) (.r (.l (.l .o))),
 .go (.move (.tmp (.r (.l (.l .o))))) (.l (.r (.l .o))),
 .gd (.l (.r (.l .o))) true (.move (.tmp (.l .o))) (.r (.r (.l .o))),
 .gd (.l (.r (.l .o))) true (.fieldAddr 1 (.tmp (.r .o))) (.l (.l (.r .o))),
 .gd (.l (.r (.l .o))) true (.load1 (.tmp (.l (.l (.r .o))))) (.r (.l (.r .o))),
 .gd (.l (.r (.l .o))) true (.bin .leq 3 (.tmp (.r (.r (.l .o)))) (.tmp (.r (.l (.r .o))))) (.l (.r (.r .o))),
 .go (.pick (.tmp (.l (.r (.l .o)))) (.tmp (.l (.r (.r .o)))) (.con (.bool false))) (.r (.r (.r .o))),
 .go (.move (.tmp (.r (.r (.r .o))))) (.r (.l .o))]) .ret))
noncomputable def f41 : FFunc := .mk c41 (.n U (.n U (.n U (.n U .e .e) (.n U .e .e)) (.n U (.n U .e .e) (.n U .e .e))) (.n U (.n U (.n U .e .e) (.n U .e .e)) (.n U (.n U .e .e) (.n U .e .e)))) [.o,(.l .o)] [.tmp (.r (.l .o))]
theorem e41 : @compF Tryd.prog (glOne Tryd.prog 1) Tryd.f41 2 = f41 := by kernel_rfl
theorem o41 : okF Tryd.prog Tryd.f41 = true := by kernel_rfl
theorem g41 : Tryd.prog.funcs[(41 : Nat)]? = some Tryd.f41 := by kernel_rfl
noncomputable def c42 : FCode := (.seq (.run [.go (.move (.con (.bool false))) (.r (.l .o))]) (.seq (.seq (.run [.go (.move (.tmp .o)) (.l (.l (.l .o))),
 .go (.len 0 (.tmp (.l (.l (.l .o))))) (.r (.l (.l .o))),
 .go (.move (.con (.int .i64 (.ofNat 0)))) (.l (.r (.l .o)))]) (.block 0 (.loop (.seq (.run [.go (.bin .lss 3 (.tmp (.l (.r (.l .o)))) (.tmp (.r (.l (.l .o))))) (.r (.r (.l .o)))]) (.seq (.cond (.tmp (.r (.r (.l .o)))) .skip (.exit 0)) (.seq (.block 1 (.seq (.run [.go (.indexAddr none 1 (.tmp (.l (.l (.l .o)))) (.tmp (.l (.r (.l .o))))) (.l (.l (.r .o))),
 .go (.load1 (.tmp (.l (.l (.r .o))))) (.r (.l (.r .o))),
 .go (.move (.tmp (.r (.l (.r .o))))) (.r (.r .o))]) (.seq (.run [.go (.move (.tmp (.l .o))) (.l (.r (.r .o))),
 .go (.move (.tmp (.r (.r .o)))) (.r (.r (.r .o))),
 .go (.call (.tmp (.l (.r (.r .o)))) [(.tmp (.r (.r (.r .o))))]) (.l (.l (.l (.l .o)))),
 .go (.un .not (.tmp (.l (.l (.l (.l .o)))))) (.r (.l (.l (.l .o))))]) (.cond (.tmp (.r (.l (.l (.l .o))))) (.seq (.run [.go (.move (.con (.bool false))) (.r (.l .o))]) .ret) .skip)))) (.run [.go (.bin .add 3 (.tmp (.l (.r (.l .o)))) (.con (.int .i64 (.ofNat 1)))) (.l (.r (.l (.l .o)))),
 .go (.move (.tmp (.l (.r (.l (.l .o)))))) (.l (.r (.l .o)))]))))))) (.seq (.run [.go (.move (.con (.bool true))) (.r (.l .o))]) .ret)))
noncomputable def f42 : FFunc := .mk c42 (.n U (.n U (.n U (.n U (.n U .e .e) .e) (.n U .e .e)) (.n U (.n U (.n U .e .e) .e) (.n U .e .e))) (.n U (.n U (.n U (.n U .e .e) .e) (.n U .e .e)) (.n U (.n U .e .e) (.n U .e .e)))) [.o,(.l .o)] [.tmp (.r (.l .o))]
theorem e42 : @compF Tryd.prog (glOne Tryd.prog 1) Tryd.f42 2 = f42 := by kernel_rfl
theorem o42 : okF Tryd.prog Tryd.f42 = true := by kernel_rfl
theorem g42 : Tryd.prog.funcs[(42 : Nat)]? = some Tryd.f42 := by kernel_rfl
noncomputable def c43 : FCode := (.seq (.run [.go (.move (.con (.bool false))) (.r .o)]) (.seq (.run [.go (.move (.tmp .o)) (.l (.l .o)),
 .go (.bin .leq 3 (.con (.int .i64 (.ofNat 0))) (.tmp (.l (.l .o)))) (.r (.l .o)),
 .go (.move (.tmp (.r (.l .o)))) (.l (.r .o)),
 .gd (.l (.r .o)) true (.move (.tmp .o)) (.r (.r .o)),
 .gd (.l (.r .o)) true (.bin .leq 3 (.tmp (.r (.r .o))) (.con (.int .i64 (.ofNat 9)))) (.l (.l (.l .o))),
 .go (.pick (.tmp (.l (.r .o))) (.tmp (.l (.l (.l .o)))) (.con (.bool false))) (.r (.l (.l .o))),
 .go (.move (.tmp (.r (.l (.l .o))))) (.r .o)]) .ret))
noncomputable def f43 : FFunc := .mk c43 (.n U (.n U (.n U (.n U .e .e) .e) (.n U .e .e)) (.n U (.n U (.n U .e .e) .e) (.n U .e .e))) [.o] [.tmp (.r .o)]
theorem e43 : @compF Tryd.prog (glOne Tryd.prog 1) Tryd.f43 1 = f43 := by kernel_rfl
theorem o43 : okF Tryd.prog Tryd.f43 = true := by kernel_rfl
theorem g43 : Tryd.prog.funcs[(43 : Nat)]? = some Tryd.f43 := by kernel_rfl
noncomputable def c44 : FCode := (.seq (.run [.go (.box 41 (.tmp .o)) (.l (.l .o)),
 .go (.box 89 (.tmp (.l .o))) (.r (.l .o)),
 .go (.alloc 89 [(.int .i64 (.ofNat 0)),(.int .i64 (.ofNat 0)),(.int .i64 (.ofNat 0)),(.int .i64 (.ofNat 0))]) (.r (.r .o))]) (.seq (.seq (.run [.go (.fieldAddr 0 (.tmp (.l (.l .o)))) (.l (.r (.l .o))),
 .go (.load1 (.tmp (.l (.r (.l .o))))) (.r (.r (.l .o))),
 .go (.len 0 (.tmp (.r (.r (.l .o))))) (.l (.l (.r .o))),
 .go (.move (.con (.int .i64 (.ofNat 0)))) (.r (.l (.r .o)))]) (.block 0 (.loop (.seq (.run [.go (.bin .lss 3 (.tmp (.r (.l (.r .o)))) (.tmp (.l (.l (.r .o))))) (.l (.r (.r .o)))]) (.seq (.cond (.tmp (.l (.r (.r .o)))) .skip (.exit 0)) (.seq (.block 1 (.seq (.run [.go (.move (.tmp (.r (.l (.r .o))))) (.r (.r (.r .o))),
 .go (.indexAddr none 1 (.tmp (.r (.r (.l .o)))) (.tmp (.r (.l (.r .o))))) (.l (.l (.l (.l .o)))),
 .go (.load1 (.tmp (.l (.l (.l (.l .o)))))) (.r (.l (.l (.l .o)))),
 .go (.move (.tmp (.r (.r (.r .o))))) (.l (.l (.l .o))),
 .go (.move (.tmp (.r (.l (.l (.l .o)))))) (.r (.l (.l .o)))]) (.seq (.run [.go (.move (.tmp (.r (.l (.l .o))))) (.l (.r (.l (.l .o)))),
 .go (.fieldAddr 0 (.tmp (.r (.l .o)))) (.r (.r (.l (.l .o)))),
 .go (.load1 (.tmp (.r (.r (.l (.l .o)))))) (.l (.l (.r (.l .o)))),
 .go (.indexAddr none 1 (.tmp (.l (.r (.l (.l .o))))) (.tmp (.l (.l (.r (.l .o)))))) (.r (.l (.r (.l .o)))),
 .go (.load1 (.tmp (.r (.l (.r (.l .o)))))) (.l (.r (.r (.l .o)))),
 .go (.move (.tmp (.r .o))) (.r (.r (.r (.l .o)))),
 .go (.bin .neq 3 (.tmp (.l (.r (.r (.l .o))))) (.tmp (.r (.r (.r (.l .o)))))) (.l (.l (.l (.r .o))))]) (.cond (.tmp (.l (.l (.l (.r .o))))) (.run [.go (.move (.tmp (.l (.l (.l .o))))) (.r (.l (.l (.r .o)))),
 .go (.fieldAddr 1 (.tmp (.r (.l .o)))) (.l (.r (.l (.r .o)))),
 .go (.indexAddr (some 3) 1 (.tmp (.l (.r (.l (.r .o))))) (.tmp (.r (.l (.l (.r .o)))))) (.r (.r (.l (.r .o)))),
 .go (.load1 (.tmp (.r (.r (.l (.r .o)))))) (.l (.l (.r (.r .o)))),
 .go (.bin .add 3 (.tmp (.l (.l (.r (.r .o))))) (.con (.int .i64 (.ofNat 1)))) (.r (.l (.r (.r .o)))),
 .go (.fieldAddr 1 (.tmp (.r (.l .o)))) (.l (.r (.r (.r .o)))),
 .go (.indexAddr (some 3) 1 (.tmp (.l (.r (.r (.r .o))))) (.tmp (.r (.l (.l (.r .o)))))) (.r (.r (.r (.r .o)))),
 .un (.store 1 (.tmp (.r (.r (.r (.r .o))))) (.tmp (.r (.l (.r (.r .o))))))]) .skip)))) (.run [.go (.bin .add 3 (.tmp (.r (.l (.r .o)))) (.con (.int .i64 (.ofNat 1)))) (.l (.l (.l (.l (.l .o))))),
 .go (.move (.tmp (.l (.l (.l (.l (.l .o))))))) (.r (.l (.r .o)))]))))))) (.seq (.run [.go (.fieldAddr 0 (.tmp (.r (.l .o)))) (.r (.l (.l (.l (.l .o))))),
 .go (.load1 (.tmp (.r (.l (.l (.l (.l .o))))))) (.l (.r (.l (.l (.l .o))))),
 .go (.bin .add 3 (.tmp (.l (.r (.l (.l (.l .o)))))) (.con (.int .i64 (.ofNat 1)))) (.r (.r (.l (.l (.l .o))))),
 .go (.fieldAddr 0 (.tmp (.r (.l .o)))) (.l (.l (.r (.l (.l .o))))),
 .un (.store 1 (.tmp (.l (.l (.r (.l (.l .o)))))) (.tmp (.r (.r (.l (.l (.l .o)))))))]) (.seq (.run [.go (.loadN 4 (.tmp (.r (.l .o)))) (.r (.l (.r (.l (.l .o))))),
 .un (.store 4 (.tmp (.r (.r .o))) (.tmp (.r (.l (.r (.l (.l .o)))))))]) .ret))))
noncomputable def f44 : FFunc := .mk c44 (.n U (.n U (.n U (.n U (.n U (.n U .e .e) .e) (.n U .e .e)) (.n U (.n U (.n U .e .e) .e) (.n U .e .e))) (.n U (.n U (.n U (.n U .e .e) .e) (.n U .e .e)) (.n U (.n U .e .e) (.n U .e .e)))) (.n U (.n U (.n U (.n U (.n U .e .e) .e) (.n U .e .e)) (.n U (.n U (.n U .e .e) .e) (.n U .e .e))) (.n U (.n U (.n U (.n U .e .e) .e) (.n U .e .e)) (.n U (.n U .e .e) (.n U .e .e))))) [.o,(.l .o),(.r .o)] [.many (.r (.r .o)) 4]
theorem e44 : @compF Tryd.prog (glOne Tryd.prog 1) Tryd.f44 3 = f44 := by kernel_rfl
theorem o44 : okF Tryd.prog Tryd.f44 = true := by kernel_rfl
theorem g44 : Tryd.prog.funcs[(44 : Nat)]? = some Tryd.f44 := by kernel_rfl
noncomputable def c45 : FCode := (.seq (.run [.go (.box 41 (.tmp .o)) (.r .o),
 .go (.box 89 (.tmp (.l .o))) (.l (.l .o)),
 .go (.move (.con (.bool false))) (.r (.l .o))]) (.seq (.seq (.run [.go (.fieldAddr 1 (.tmp (.r .o))) (.l (.l (.l .o))),
 .go (.load1 (.tmp (.l (.l (.l .o))))) (.r (.l (.l .o))),
 .go (.len 0 (.tmp (.r (.l (.l .o))))) (.l (.r (.l .o))),
 .go (.move (.con (.int .i64 (.ofNat 0)))) (.r (.r (.l .o)))]) (.block 0 (.loop (.seq (.run [.go (.bin .lss 3 (.tmp (.r (.r (.l .o)))) (.tmp (.l (.r (.l .o))))) (.l (.l (.r .o)))]) (.seq (.cond (.tmp (.l (.l (.r .o)))) .skip (.exit 0)) (.seq (.block 1 (.seq (.run [.go (.move (.tmp (.r (.r (.l .o))))) (.r (.l (.r .o))),
 .go (.indexAddr none 1 (.tmp (.r (.l (.l .o)))) (.tmp (.r (.r (.l .o))))) (.l (.r (.r .o))),
 .go (.load1 (.tmp (.l (.r (.r .o))))) (.r (.r (.r .o))),
 .go (.move (.tmp (.r (.l (.r .o))))) (.l (.r .o)),
 .go (.move (.tmp (.r (.r (.r .o))))) (.r (.r .o))]) (.seq (.run [.go (.move (.tmp (.l (.r .o)))) (.l (.l (.l (.l .o)))),
 .go (.fieldAddr 1 (.tmp (.l (.l .o)))) (.r (.l (.l (.l .o)))),
 .go (.indexAddr (some 3) 1 (.tmp (.r (.l (.l (.l .o))))) (.tmp (.l (.l (.l (.l .o)))))) (.l (.r (.l (.l .o)))),
 .go (.load1 (.tmp (.l (.r (.l (.l .o)))))) (.r (.r (.l (.l .o)))),
 .go (.move (.tmp (.r (.r .o)))) (.l (.l (.r (.l .o)))),
 .go (.bin .gtr 3 (.tmp (.r (.r (.l (.l .o))))) (.tmp (.l (.l (.r (.l .o)))))) (.r (.l (.r (.l .o))))]) (.cond (.tmp (.r (.l (.r (.l .o))))) (.seq (.run [.go (.move (.con (.bool false))) (.r (.l .o))]) .ret) .skip)))) (.run [.go (.bin .add 3 (.tmp (.r (.r (.l .o)))) (.con (.int .i64 (.ofNat 1)))) (.l (.r (.r (.l .o)))),
 .go (.move (.tmp (.l (.r (.r (.l .o)))))) (.r (.r (.l .o)))]))))))) (.seq (.run [.go (.move (.con (.bool true))) (.r (.l .o))]) .ret)))
noncomputable def f45 : FFunc := .mk c45 (.n U (.n U (.n U (.n U (.n U .e .e) .e) (.n U (.n U .e .e) .e)) (.n U (.n U (.n U .e .e) .e) (.n U (.n U .e .e) .e))) (.n U (.n U (.n U (.n U .e .e) .e) (.n U (.n U .e .e) .e)) (.n U (.n U (.n U .e .e) .e) (.n U .e .e)))) [.o,(.l .o)] [.tmp (.r (.l .o))]
theorem e45 : @compF Tryd.prog (glOne Tryd.prog 1) Tryd.f45 2 = f45 := by kernel_rfl
theorem o45 : okF Tryd.prog Tryd.f45 = true := by kernel_rfl
theorem g45 : Tryd.prog.funcs[(45 : Nat)]? = some Tryd.f45 := by kernel_rfl
noncomputable def c46 : FCode := (.seq (.run [.go (.box 23 (.tmp .o)) (.l .o),
 .go (.move (.con (.int .i64 (.ofNat 0)))) (.r .o)]) (.seq (.run [.go (.fieldAddr 0 (.tmp (.l .o))) (.l (.l .o)),
 .go (.load1 (.tmp (.l (.l .o)))) (.r (.l .o)),
 .go (.move (.tmp (.r (.l .o)))) (.r .o)]) .ret))
noncomputable def f46 : FFunc := .mk c46 (.n U (.n U (.n U .e .e) .e) (.n U (.n U .e .e) .e)) [.o] [.tmp (.r .o)]
theorem e46 : @compF Tryd.prog (glOne Tryd.prog 1) Tryd.f46 1 = f46 := by kernel_rfl
theorem o46 : okF Tryd.prog Tryd.f46 = true := by kernel_rfl
theorem g46 : Tryd.prog.funcs[(46 : Nat)]? = some Tryd.f46 := by kernel_rfl
noncomputable def c47 : FCode := (.seq (.run [.go (.box 23 (.tmp .o)) (.l .o),
 .go (.move (.con (.int .i64 (.ofNat 0)))) (.r .o)]) (.seq (.run [.go (.fieldAddr 1 (.tmp (.l .o))) (.l (.l .o)),
 .go (.load1 (.tmp (.l (.l .o)))) (.r (.l .o)),
 .go (.move (.tmp (.r (.l .o)))) (.r .o)]) .ret))
noncomputable def f47 : FFunc := .mk c47 (.n U (.n U (.n U .e .e) .e) (.n U (.n U .e .e) .e)) [.o] [.tmp (.r .o)]
theorem e47 : @compF Tryd.prog (glOne Tryd.prog 1) Tryd.f47 1 = f47 := by kernel_rfl
theorem o47 : okF Tryd.prog Tryd.f47 = true := by kernel_rfl
theorem g47 : Tryd.prog.funcs[(47 : Nat)]? = some Tryd.f47 := by kernel_rfl
noncomputable def c48 : FCode := (.seq (.run [.go (.move (.con (.slice none 0 0))) (.r (.l .o))]) (.seq (.run [.go (.move (.con (.slice none 0 0))) (.l (.r .o))]) (.seq (.run [.go (.move (.tmp .o)) (.r (.l (.l .o))),
 .go (.call (.con (.func (.func 39) ⟨[]⟩ ⟨[]⟩)) [(.tmp (.r (.l (.l .o))))]) (.l (.r (.l .o))),
 .go (.move (.tmp (.l (.r (.l .o))))) (.r (.r .o))]) (.seq (.block 0 (.loop (.seq (.seq (.run [.go (.move (.tmp (.r (.r .o)))) (.r (.r (.l .o))),
 .go (.bin .neq 78 (.tmp (.r (.r (.l .o)))) (.con (.int .i64 (.ofNat 0)))) (.l (.l (.r .o)))]) (.cond (.tmp (.l (.l (.r .o)))) .skip (.exit 0))) (.block 1 (.seq (.run [.go (.move (.tmp (.l .o))) (.r (.l (.r .o))),
 .go (.bin .sub 3 (.tmp (.r (.l (.r .o)))) (.con (.int .i64 (.ofNat 1)))) (.l (.r (.r .o))),
 .go (.move (.tmp (.l (.r (.r .o))))) (.l .o)]) (.seq (.run [.go (.move (.tmp .o)) (.r (.r (.r .o))),
 .go (.move (.tmp (.r (.r .o)))) (.l (.l (.l (.l .o)))),
 .go (.move (.tmp (.l .o))) (.r (.l (.l (.l .o)))),
 .go (.call (.con (.func (.func 66) ⟨[]⟩ ⟨[]⟩)) [(.tmp (.r (.r (.r .o)))),(.tmp (.l (.l (.l (.l .o))))),(.tmp (.r (.l (.l (.l .o)))))]) (.l (.r (.l (.l .o)))),
 .go (.move (.tmp (.l (.r (.l (.l .o)))))) (.l (.l (.l .o)))]) (.seq (.run [.go (.move (.tmp (.l (.r .o)))) (.r (.r (.l (.l .o)))),
 .go (.move (.tmp (.l (.l (.l .o))))) (.l (.l (.r (.l .o)))),
 .go (.call (.con (.func (.func 67) ⟨[]⟩ ⟨[]⟩)) [(.tmp (.l (.l (.r (.l .o)))))]) (.r (.l (.r (.l .o)))),
 .go (.buildSlice 34 1 [(.slice none 0 0)] [(0,1,(.tmp (.r (.l (.r (.l .o))))))]) (.l (.r (.r (.l .o)))),
 .go (.append 34 1 24 (.tmp (.r (.r (.l (.l .o))))) (.tmp (.l (.r (.r (.l .o)))))) (.r (.r (.r (.l .o)))),
 .go (.move (.tmp (.r (.r (.r (.l .o)))))) (.l (.r .o))]) (.run [.go (.move (.tmp (.r (.r .o)))) (.l (.l (.l (.r .o)))),
 .go (.move (.tmp (.l (.l (.l .o))))) (.r (.l (.l (.r .o)))),
 .go (.bin .andNot 78 (.tmp (.l (.l (.l (.r .o))))) (.tmp (.r (.l (.l (.r .o)))))) (.l (.r (.l (.r .o)))),
 .go (.move (.tmp (.l (.r (.l (.r .o)))))) (.r (.r .o))])))))))) (.seq (.run [.go (.move (.tmp (.l (.r .o)))) (.r (.r (.l (.r .o)))),
 .go (.move (.tmp (.r (.r (.l (.r .o)))))) (.r (.l .o))]) .ret)))))
noncomputable def f48 : FFunc := .mk c48 (.n U (.n U (.n U (.n U (.n U .e .e) (.n U .e .e)) (.n U (.n U .e .e) .e)) (.n U (.n U (.n U .e .e) (.n U .e .e)) (.n U (.n U .e .e) .e))) (.n U (.n U (.n U (.n U .e .e) (.n U .e .e)) (.n U (.n U .e .e) .e)) (.n U (.n U (.n U .e .e) (.n U .e .e)) (.n U (.n U .e .e) .e)))) [.o,(.l .o)] [.tmp (.r (.l .o))]
theorem e48 : @compF Tryd.prog (glOne Tryd.prog 1) Tryd.f48 2 = f48 := by kernel_rfl
theorem o48 : okF Tryd.prog Tryd.f48 = true := by kernel_rfl
theorem g48 : Tryd.prog.funcs[(48 : Nat)]? = some Tryd.f48 := by kernel_rfl
noncomputable def c49 : FCode := (.seq (.run [.go (.box 30 (.tmp .o)) (.l .o),
 .go (.move (.con (.bool false))) (.r .o)]) (.seq (.run [.go (.fieldAddr 0 (.tmp (.l .o))) (.l (.l .o)),
 .go (.load1 (.tmp (.l (.l .o)))) (.r (.l .o)),
 .go (.loadN 7 (.tmp (.l .o))) (.l (.r .o)),
 .go (.makeFunc 69 [(.tmp (.l (.r .o)))] []) (.r (.r .o)),
 .go (.call (.con (.func (.func 68) ⟨[]⟩ ⟨[]⟩)) [(.tmp (.r (.l .o))),(.tmp (.r (.r .o)))]) (.l (.l (.l .o))),
 .go (.move (.tmp (.l (.l (.l .o))))) (.r (.l (.l .o))),
 .gd (.r (.l (.l .o))) true (.fieldAddr 1 (.tmp (.l .o))) (.l (.r (.l .o))),
 .gd (.r (.l (.l .o))) true (.load1 (.tmp (.l (.r (.l .o))))) (.r (.r (.l .o))),
 .gd (.r (.l (.l .o))) true (.loadN 7 (.tmp (.l .o))) (.l (.l (.r .o))),
 .gd (.r (.l (.l .o))) true (.makeFunc 71 [(.tmp (.l (.l (.r .o))))] []) (.r (.l (.r .o))),
 .gd (.r (.l (.l .o))) true (.call (.con (.func (.func 70) ⟨[]⟩ ⟨[]⟩)) [(.tmp (.r (.r (.l .o)))),(.tmp (.r (.l (.r .o))))]) (.l (.r (.r .o))),
 .go (.pick (.tmp (.r (.l (.l .o)))) (.tmp (.l (.r (.r .o)))) (.con (.bool false))) (.r (.r (.r .o))),
 .go (.move (.tmp (.r (.r (.r .o))))) (.l (.l (.l (.l .o)))),
 .gd (.l (.l (.l (.l .o)))) true (.fieldAddr 2 (.tmp (.l .o))) (.r (.l (.l (.l .o)))),
 .gd (.l (.l (.l (.l .o)))) true (.load1 (.tmp (.r (.l (.l (.l .o)))))) (.l (.r (.l (.l .o)))),
 .gd (.l (.l (.l (.l .o)))) true (.loadN 7 (.tmp (.l .o))) (.r (.r (.l (.l .o)))),
 .gd (.l (.l (.l (.l .o)))) true (.makeFunc 71 [(.tmp (.r (.r (.l (.l .o)))))] []) (.l (.l (.r (.l .o)))),
 .gd (.l (.l (.l (.l .o)))) true (.call (.con (.func (.func 70) ⟨[]⟩ ⟨[]⟩)) [(.tmp (.l (.r (.l (.l .o))))),(.tmp (.l (.l (.r (.l .o)))))]) (.r (.l (.r (.l .o)))),
 .go (.pick (.tmp (.l (.l (.l (.l .o))))) (.tmp (.r (.l (.r (.l .o))))) (.con (.bool false))) (.l (.r (.r (.l .o)))),
 .go (.move (.tmp (.l (.r (.r (.l .o)))))) (.r (.r (.r (.l .o)))),
 .gd (.r (.r (.r (.l .o)))) true (.fieldAddr 3 (.tmp (.l .o))) (.l (.l (.l (.r .o)))),
 .gd (.r (.r (.r (.l .o)))) true (.loadN 2 (.tmp (.l (.l (.l (.r .o)))))) (.r (.l (.l (.r .o)))),
 .gd (.r (.r (.r (.l .o)))) true (.call (.con (.func (.func 72) ⟨[]⟩ ⟨[]⟩)) [(.tmp (.r (.l (.l (.r .o))))),(.con (.int .i64 (.ofNat 100)))]) (.l (.r (.l (.r .o)))),
 .go (.pick (.tmp (.r (.r (.r (.l .o))))) (.tmp (.l (.r (.l (.r .o))))) (.con (.bool false))) (.r (.r (.l (.r .o)))),
 .go (.move (.tmp (.r (.r (.l (.r .o)))))) (.l (.l (.r (.r .o)))),
 .gd (.l (.l (.r (.r .o)))) true (.fieldAddr 5 (.tmp (.l .o))) (.r (.l (.r (.r .o)))),
 .gd (.l (.l (.r (.r .o)))) true (.loadN 2 (.tmp (.r (.l (.r (.r .o)))))) (.l (.r (.r (.r .o)))),
 .gd (.l (.l (.r (.r .o)))) true (.call (.con (.func (.func 72) ⟨[]⟩ ⟨[]⟩)) [(.tmp (.l (.r (.r (.r .o))))),(.con (.int .i64 (.ofNat 200)))]) (.r (.r (.r (.r .o)))),
 .go (.pick (.tmp (.l (.l (.r (.r .o))))) (.tmp (.r (.r (.r (.r .o))))) (.con (.bool false))) (.l (.l (.l (.l (.l .o))))),
 .go (.move (.tmp (.l (.l (.l (.l (.l .o))))))) (.r .o)]) .ret))
noncomputable def f49 : FFunc := .mk c49 (.n U (.n U (.n U (.n U (.n U (.n U .e .e) .e) (.n U .e .e)) (.n U (.n U .e .e) (.n U .e .e))) (.n U (.n U (.n U .e .e) (.n U .e .e)) (.n U (.n U .e .e) (.n U .e .e)))) (.n U (.n U (.n U (.n U .e .e) (.n U .e .e)) (.n U (.n U .e .e) (.n U .e .e))) (.n U (.n U (.n U .e .e) (.n U .e .e)) (.n U (.n U .e .e) (.n U .e .e))))) [.o] [.tmp (.r .o)]
theorem e49 : @compF Tryd.prog (glOne Tryd.prog 1) Tryd.f49 1 = f49 := by kernel_rfl
theorem o49 : okF Tryd.prog Tryd.f49 = true := by kernel_rfl
theorem g49 : Tryd.prog.funcs[(49 : Nat)]? = some Tryd.f49 := by kernel_rfl
noncomputable def c50 : FCode := (.seq (.run [.go (.move (.con (.bool false))) (.r .o)]) (.seq (.run [.go (.move (.tmp .o)) (.l (.l .o)),
 .go (.len 0 (.tmp (.l (.l .o)))) (.r (.l .o)),
 .go (.bin .leq 3 (.tmp (.r (.l .o))) (.con (.int .i64 (.ofNat 10)))) (.l (.r .o)),
 .go (.move (.tmp (.l (.r .o)))) (.r .o)]) .ret))
noncomputable def f50 : FFunc := .mk c50 (.n U (.n U (.n U .e .e) (.n U .e .e)) (.n U (.n U .e .e) .e)) [.o] [.tmp (.r .o)]
theorem e50 : @compF Tryd.prog (glOne Tryd.prog 1) Tryd.f50 1 = f50 := by kernel_rfl
theorem o50 : okF Tryd.prog Tryd.f50 = true := by kernel_rfl
theorem g50 : Tryd.prog.funcs[(50 : Nat)]? = some Tryd.f50 := by kernel_rfl
noncomputable def c51 : FCode := (.seq (.run [.go (.box 41 (.tmp .o)) (.l .o),
 .go (.move (.con (.bool false))) (.r .o)]) (.seq (.run [.go (.fieldAddr 0 (.tmp (.l .o))) (.l (.l .o)),
 .go (.load1 (.tmp (.l (.l .o)))) (.r (.l .o)),
 .go (.len 0 (.tmp (.r (.l .o)))) (.l (.r .o)),
 .go (.bin .gtr 3 (.tmp (.l (.r .o))) (.con (.int .i64 (.ofNat 0)))) (.r (.r .o)),
 .go (.move (.tmp (.r (.r .o)))) (.l (.l (.l .o))),
 .gd (.l (.l (.l .o))) true (.fieldAddr 0 (.tmp (.l .o))) (.r (.l (.l .o))),
 .gd (.l (.l (.l .o))) true (.load1 (.tmp (.r (.l (.l .o))))) (.l (.r (.l .o))),
 .gd (.l (.l (.l .o))) true (.len 0 (.tmp (.l (.r (.l .o))))) (.r (.r (.l .o))),
 .gd (.l (.l (.l .o))) true (.fieldAddr 1 (.tmp (.l .o))) (.l (.l (.r .o))),
 .gd (.l (.l (.l .o))) true (.load1 (.tmp (.l (.l (.r .o))))) (.r (.l (.r .o))),
 .gd (.l (.l (.l .o))) true (.len 0 (.tmp (.r (.l (.r .o))))) (.l (.r (.r .o))),
 .gd (.l (.l (.l .o))) true (.bin .eql 3 (.tmp (.r (.r (.l .o)))) (.tmp (.l (.r (.r .o))))) (.r (.r (.r .o))),
 .go (.pick (.tmp (.l (.l (.l .o)))) (.tmp (.r (.r (.r .o)))) (.con (.bool false))) (.l (.l (.l (.l .o)))),
 .go (.move (.tmp (.l (.l (.l (.l .o)))))) (.r (.l (.l (.l .o)))),
 .gd (.r (.l (.l (.l .o)))) true (.loadN 2 (.tmp (.l .o))) (.l (.r (.l (.l .o)))),
 .gd (.r (.l (.l (.l .o)))) true (.call (.con (.func (.func 29) ⟨[]⟩ ⟨[]⟩)) [(.tmp (.l (.r (.l (.l .o)))))]) (.r (.r (.l (.l .o)))),
 .gd (.r (.l (.l (.l .o)))) true (.bin .gtr 3 (.tmp (.r (.r (.l (.l .o))))) (.con (.int .i64 (.ofNat 0)))) (.l (.l (.r (.l .o)))),
 .go (.pick (.tmp (.r (.l (.l (.l .o))))) (.tmp (.l (.l (.r (.l .o))))) (.con (.bool false))) (.r (.l (.r (.l .o)))),
 .go (.move (.tmp (.r (.l (.r (.l .o)))))) (.l (.r (.r (.l .o)))),
 .gd (.l (.r (.r (.l .o)))) true (.fieldAddr 0 (.tmp (.l .o))) (.r (.r (.r (.l .o)))),
 .gd (.l (.r (.r (.l .o)))) true (.load1 (.tmp (.r (.r (.r (.l .o)))))) (.l (.l (.l (.r .o)))),
 .gd (.l (.r (.r (.l .o)))) true (.loadN 2 (.tmp (.l .o))) (.r (.l (.l (.r .o)))),
 .gd (.l (.r (.r (.l .o)))) true (.makeFunc 73 [(.tmp (.r (.l (.l (.r .o)))))] []) (.l (.r (.l (.r .o)))),
 .gd (.l (.r (.r (.l .o)))) true (.call (.con (.func (.func 35) ⟨[]⟩ ⟨[]⟩)) [(.tmp (.l (.l (.l (.r .o))))),(.tmp (.l (.r (.l (.r .o)))))]) (.r (.r (.l (.r .o)))),
 .go (.pick (.tmp (.l (.r (.r (.l .o))))) (.tmp (.r (.r (.l (.r .o))))) (.con (.bool false))) (.l (.l (.r (.r .o)))),
 .go (.move (.tmp (.l (.l (.r (.r .o)))))) (.r (.l (.r (.r .o)))),
 .gd (.r (.l (.r (.r .o)))) true (.fieldAddr 1 (.tmp (.l .o))) (.l (.r (.r (.r .o)))),
 .gd (.r (.l (.r (.r .o)))) true (.load1 (.tmp (.l (.r (.r (.r .o)))))) (.r (.r (.r (.r .o)))),
 .gd (.r (.l (.r (.r .o)))) true (.call (.con (.func (.func 42) ⟨[]⟩ ⟨[]⟩)) [(.tmp (.r (.r (.r (.r .o))))),(.con (.func (.func 74) ⟨[]⟩ ⟨[]⟩))]) (.l (.l (.l (.l (.l .o))))),
 .go (.pick (.tmp (.r (.l (.r (.r .o))))) (.tmp (.l (.l (.l (.l (.l .o)))))) (.con (.bool false))) (.r (.l (.l (.l (.l .o))))),
 .go (.move (.tmp (.r (.l (.l (.l (.l .o))))))) (.r .o)]) .ret))
noncomputable def f51 : FFunc := .mk c51 (.n U (.n U (.n U (.n U (.n U (.n U .e .e) .e) (.n U .e .e)) (.n U (.n U .e .e) (.n U .e .e))) (.n U (.n U (.n U .e .e) (.n U .e .e)) (.n U (.n U .e .e) (.n U .e .e)))) (.n U (.n U (.n U (.n U (.n U .e .e) .e) (.n U .e .e)) (.n U (.n U .e .e) (.n U .e .e))) (.n U (.n U (.n U .e .e) (.n U .e .e)) (.n U (.n U .e .e) (.n U .e .e))))) [.o] [.tmp (.r .o)]
theorem e51 : @compF Tryd.prog (glOne Tryd.prog 1) Tryd.f51 1 = f51 := by kernel_rfl
theorem o51 : okF Tryd.prog Tryd.f51 = true := by kernel_rfl
theorem g51 : Tryd.prog.funcs[(51 : Nat)]? = some Tryd.f51 := by kernel_rfl
noncomputable def c52 : FCode := (.seq (.run [.go (.box 23 (.tmp .o)) (.l .o),
 .go (.move (.con (.bool false))) (.r .o)]) (.seq (.run [.go (.fieldAddr 0 (.tmp (.l .o))) (.l (.l .o)),
 .go (.load1 (.tmp (.l (.l .o)))) (.r (.l .o)),
 .go (.fieldAddr 1 (.tmp (.l .o))) (.l (.r .o)),
 .go (.load1 (.tmp (.l (.r .o)))) (.r (.r .o)),
 .go (.bin .gtr 3 (.tmp (.r (.l .o))) (.tmp (.r (.r .o)))) (.l (.l (.l .o))),
 .go (.move (.tmp (.l (.l (.l .o))))) (.r .o)]) .ret))
noncomputable def f52 : FFunc := .mk c52 (.n U (.n U (.n U (.n U .e .e) .e) (.n U .e .e)) (.n U (.n U .e .e) (.n U .e .e))) [.o] [.tmp (.r .o)]
theorem e52 : @compF Tryd.prog (glOne Tryd.prog 1) Tryd.f52 1 = f52 := by kernel_rfl
theorem o52 : okF Tryd.prog Tryd.f52 = true := by kernel_rfl
theorem g52 : Tryd.prog.funcs[(52 : Nat)]? = some Tryd.f52 := by kernel_rfl
noncomputable def c53 : FCode := (.seq (.run [.go (.box 23 (.tmp .o)) (.r .o),
 .go (.box 23 (.tmp (.l .o))) (.l (.l .o)),
 .go (.alloc 23 [(.int .i64 (.ofNat 0)),(.int .i64 (.ofNat 0))]) (.r (.l .o))]) (.seq (.draw 14 [.go (.fieldAddr 0 (.tmp (.r .o))) (.l (.r .o)),
 .go (.load1 (.tmp (.l (.r .o)))) (.r (.r .o)),
 .go (.fieldAddr 0 (.tmp (.l (.l .o)))) (.l (.l (.l .o))),
 .go (.load1 (.tmp (.l (.l (.l .o))))) (.r (.l (.l .o))),
 .go (.buildSlice 3 1 [(.int .i64 (.ofNat 0))] [(0,1,(.tmp (.r (.l (.l .o)))))]) (.l (.r (.l .o))),
 .go (.call (.con (.func (.func 65) ⟨[]⟩ ⟨[]⟩)) [(.tmp (.r (.r .o))),(.tmp (.l (.r (.l .o))))]) (.r (.r (.l .o))),
 .go (.fieldAddr 1 (.tmp (.r .o))) (.l (.l (.r .o))),
 .go (.load1 (.tmp (.l (.l (.r .o))))) (.r (.l (.r .o))),
 .go (.fieldAddr 1 (.tmp (.l (.l .o)))) (.l (.r (.r .o))),
 .go (.load1 (.tmp (.l (.r (.r .o))))) (.r (.r (.r .o))),
 .go (.buildSlice 3 1 [(.int .i64 (.ofNat 0))] [(0,1,(.tmp (.r (.r (.r .o)))))]) (.l (.l (.l (.l .o)))),
 .go (.call (.con (.func (.func 57) ⟨[]⟩ ⟨[]⟩)) [(.tmp (.r (.l (.r .o)))),(.tmp (.l (.l (.l (.l .o)))))]) (.r (.l (.l (.l .o)))),
 .go (.build [(.int .i64 (.ofNat 0)),(.int .i64 (.ofNat 0))] [(0,1,(.tmp (.r (.r (.l .o))))),(1,1,(.tmp (.r (.l (.l (.l .o))))))]) (.l (.r (.l (.l .o)))),
 .un (.store 2 (.tmp (.r (.l .o))) (.tmp (.l (.r (.l (.l .o))))))] [.ok,.ok,.ok,.ok,.nw none (some (.l (.r (.l .o)))) 4 true,.ok,.ok,.rd none (.load1 (.tmp (.l (.l (.r .o))))) (some (.r (.l (.r .o)))) [0],.ok,.rd none (.load1 (.tmp (.l (.r (.r .o))))) (some (.r (.r (.r .o)))) [0],.nw none (some (.l (.l (.l (.l .o))))) 10 true,.ok,.ok,.ok]) .ret))
noncomputable def f53 : FFunc := .mk c53 (.n U (.n U (.n U (.n U (.n U .e .e) .e) (.n U .e .e)) (.n U (.n U (.n U .e .e) .e) (.n U .e .e))) (.n U (.n U (.n U (.n U .e .e) .e) (.n U .e .e)) (.n U (.n U .e .e) (.n U .e .e)))) [.o,(.l .o)] [.many (.r (.l .o)) 2]
theorem e53 : @compF Tryd.prog (glOne Tryd.prog 1) Tryd.f53 2 = f53 := by kernel_rfl
theorem o53 : okF Tryd.prog Tryd.f53 = true := by kernel_rfl
theorem g53 : Tryd.prog.funcs[(53 : Nat)]? = some Tryd.f53 := by kernel_rfl
noncomputable def c54 : FCode := (.seq (.run [.go (.move (.con (.slice none 0 0))) (.r .o)]) (.seq (.run [.go (.move (.con (.int .i64 (.ofNat 0)))) (.l (.l .o))]) (.seq (.seq (.run [.go (.move (.tmp .o)) (.l (.r (.l .o))),
 .go (.len 0 (.tmp (.l (.r (.l .o))))) (.r (.r (.l .o))),
 .go (.move (.con (.int .i64 (.ofNat 0)))) (.l (.l (.r .o)))]) (.block 0 (.loop (.seq (.run [.go (.bin .lss 3 (.tmp (.l (.l (.r .o)))) (.tmp (.r (.r (.l .o))))) (.r (.l (.r .o)))]) (.seq (.cond (.tmp (.r (.l (.r .o)))) .skip (.exit 0)) (.seq (.block 1 (.seq (.run [.go (.indexAddr none 1 (.tmp (.l (.r (.l .o)))) (.tmp (.l (.l (.r .o))))) (.l (.r (.r .o))),
 .go (.load1 (.tmp (.l (.r (.r .o))))) (.r (.r (.r .o))),
 .go (.move (.tmp (.r (.r (.r .o))))) (.l (.r .o))]) (.seq (.run [.go (.move (.tmp (.l (.l .o)))) (.l (.l (.l (.l .o)))),
 .go (.move (.tmp (.l (.r .o)))) (.r (.l (.l (.l .o)))),
 .go (.len 0 (.tmp (.r (.l (.l (.l .o)))))) (.l (.r (.l (.l .o)))),
 .go (.bin .add 3 (.tmp (.l (.l (.l (.l .o))))) (.tmp (.l (.r (.l (.l .o)))))) (.r (.r (.l (.l .o)))),
 .go (.move (.tmp (.r (.r (.l (.l .o)))))) (.l (.l .o))]) (.seq (.run [.go (.move (.tmp (.l (.l .o)))) (.l (.l (.r (.l .o)))),
 .go (.bin .lss 3 (.tmp (.l (.l (.r (.l .o))))) (.con (.int .i64 (.ofNat 0)))) (.r (.l (.r (.l .o))))]) (.cond (.tmp (.r (.l (.r (.l .o))))) (.run [.go (.call (.con (.chan none)) []) (.l (.r (.r (.l .o)))),
 .un (.call (.con (.chan none)) [])]) .skip))))) (.run [.go (.bin .add 3 (.tmp (.l (.l (.r .o)))) (.con (.int .i64 (.ofNat 1)))) (.r (.r (.r (.l .o)))),
 .go (.move (.tmp (.r (.r (.r (.l .o)))))) (.l (.l (.r .o)))]))))))) (.seq (.run [.go (.move (.tmp (.l (.l .o)))) (.l (.l (.l (.r .o)))),
 .go (.call (.con (.func (.func 75) ⟨[]⟩ ⟨[]⟩)) [(.con (.slice none 0 0)),(.tmp (.l (.l (.l (.r .o)))))]) (.r (.l (.l (.r .o)))),
 .go (.move (.tmp (.r (.l (.l (.r .o)))))) (.r (.r .o))]) (.seq (.seq (.run [.go (.move (.tmp .o)) (.l (.r (.l (.r .o)))),
 .go (.len 0 (.tmp (.l (.r (.l (.r .o)))))) (.r (.r (.l (.r .o)))),
 .go (.move (.con (.int .i64 (.ofNat 0)))) (.l (.l (.r (.r .o))))]) (.block 2 (.loop (.seq (.run [.go (.bin .lss 3 (.tmp (.l (.l (.r (.r .o))))) (.tmp (.r (.r (.l (.r .o)))))) (.r (.l (.r (.r .o))))]) (.seq (.cond (.tmp (.r (.l (.r (.r .o))))) .skip (.exit 2)) (.seq (.block 3 (.seq (.run [.go (.indexAddr none 1 (.tmp (.l (.r (.l (.r .o))))) (.tmp (.l (.l (.r (.r .o)))))) (.l (.r (.r (.r .o)))),
 .go (.load1 (.tmp (.l (.r (.r (.r .o)))))) (.r (.r (.r (.r .o)))),
 .go (.move (.tmp (.r (.r (.r (.r .o)))))) (.r (.l (.l .o)))]) (.run [.go (.move (.tmp (.r (.r .o)))) (.l (.l (.l (.l (.l .o))))),
 .go (.move (.tmp (.r (.l (.l .o))))) (.r (.l (.l (.l (.l .o))))),
 .go (.append 49 2 16 (.tmp (.l (.l (.l (.l (.l .o)))))) (.tmp (.r (.l (.l (.l (.l .o))))))) (.l (.r (.l (.l (.l .o))))),
 .go (.move (.tmp (.l (.r (.l (.l (.l .o))))))) (.r (.r .o))]))) (.run [.go (.bin .add 3 (.tmp (.l (.l (.r (.r .o))))) (.con (.int .i64 (.ofNat 1)))) (.r (.r (.l (.l (.l .o))))),
 .go (.move (.tmp (.r (.r (.l (.l (.l .o))))))) (.l (.l (.r (.r .o))))]))))))) (.seq (.run [.go (.move (.tmp (.r (.r .o)))) (.l (.l (.r (.l (.l .o))))),
 .go (.move (.tmp (.l (.l (.r (.l (.l .o))))))) (.r .o)]) .ret))))))
noncomputable def f54 : FFunc := .mk c54 (.n U (.n U (.n U (.n U (.n U (.n U .e .e) .e) (.n U .e .e)) (.n U (.n U (.n U .e .e) .e) (.n U .e .e))) (.n U (.n U (.n U (.n U .e .e) .e) (.n U .e .e)) (.n U (.n U .e .e) (.n U .e .e)))) (.n U (.n U (.n U (.n U (.n U .e .e) .e) (.n U .e .e)) (.n U (.n U .e .e) (.n U .e .e))) (.n U (.n U (.n U (.n U .e .e) .e) (.n U .e .e)) (.n U (.n U .e .e) (.n U .e .e))))) [.o] [.tmp (.r .o)]
theorem e54 : @compF Tryd.prog (glOne Tryd.prog 1) Tryd.f54 1 = f54 := by kernel_rfl
theorem o54 : okF Tryd.prog Tryd.f54 = true := by kernel_rfl
theorem g54 : Tryd.prog.funcs[(54 : Nat)]? = some Tryd.f54 := by kernel_rfl
noncomputable def c55 : FCode := (.seq (.run [.go (.box 89 (.tmp .o)) (.l (.r .o)),
 .go (.move (.con (.int .i64 (.ofNat 0)))) (.r (.r .o))]) (.seq (.seq (.run [.go (.loadN 2 (.tmp (.l .o))) (.r (.l (.r .o))),
 .go (.loadN 4 (.tmp (.l (.r .o)))) (.l (.r (.r .o))),
 .go (.call (.con (.func (.func 45) ⟨[]⟩ ⟨[]⟩)) [(.tmp (.r (.l (.r .o)))),(.tmp (.l (.r (.r .o))))]) (.r (.r (.r .o))),
 .go (.un .not (.tmp (.r (.r (.r .o))))) (.l (.l (.l (.l .o))))]) (.cond (.tmp (.l (.l (.l (.l .o))))) (.seq (.run [.go (.move (.con (.int .i64 (.ofNat 1073741824)))) (.r (.r .o))]) .ret) .skip)) (.seq (.seq (.draw 5 [.go (.fieldAddr 0 (.tmp (.l (.r .o)))) (.r (.l (.l (.l .o)))),
 .go (.load1 (.tmp (.r (.l (.l (.l .o)))))) (.l (.r (.l (.l .o)))),
 .go (.loadN 2 (.tmp (.l .o))) (.r (.r (.l (.l .o)))),
 .go (.call (.con (.func (.func 29) ⟨[]⟩ ⟨[]⟩)) [(.tmp (.r (.r (.l (.l .o)))))]) (.l (.l (.r (.l .o)))),
 .go (.bin .eql 3 (.tmp (.l (.r (.l (.l .o))))) (.tmp (.l (.l (.r (.l .o)))))) (.r (.l (.r (.l .o))))] [.ok,.rd none (.load1 (.tmp (.r (.l (.l (.l .o)))))) (some (.l (.r (.l (.l .o))))) [4],.ok,.ok,.ok]) (.cond (.tmp (.r (.l (.r (.l .o))))) (.seq (.run [.go (.loadN 4 (.tmp (.l (.r .o)))) (.l (.r (.r (.l .o)))),
 .go (.call (.con (.func (.func 56) ⟨[]⟩ ⟨[]⟩)) [(.tmp (.l (.r (.r (.l .o)))))]) (.r (.r (.r (.l .o)))),
 .go (.move (.tmp (.r (.r (.r (.l .o)))))) (.r (.r .o))]) .ret) .skip)) (.seq (.seq (.run [.go (.load1 (.tmp (.r .o))) (.r (.l (.l (.r .o)))),
 .go (.loadN 4 (.tmp (.l (.r .o)))) (.l (.r (.l (.r .o)))),
 .go (.lookup 89 (.int .i64 (.ofNat 0)) (.tmp (.r (.l (.l (.r .o))))) (.tmp (.l (.r (.l (.r .o))))) true) (.r (.r (.l (.r .o)))),
 .go (.move (.tmp (.r (.r (.l (.r .o)))))) (.l (.l (.l (.r .o)))),
 .go (.extract (.tmp (.l (.l (.l (.r .o))))) 0) (.l (.l (.r (.r .o)))),
 .go (.extract (.tmp (.l (.l (.l (.r .o))))) 1) (.r (.l (.r (.r .o)))),
 .go (.move (.tmp (.l (.l (.r (.r .o)))))) (.l (.l (.l .o))),
 .go (.move (.tmp (.r (.l (.r (.r .o)))))) (.r (.l (.l .o)))]) (.seq (.run [.go (.move (.tmp (.r (.l (.l .o))))) (.l (.r (.r (.r .o))))]) (.cond (.tmp (.l (.r (.r (.r .o))))) (.seq (.run [.go (.move (.tmp (.l (.l (.l .o))))) (.r (.r (.r (.r .o)))),
 .go (.move (.tmp (.r (.r (.r (.r .o)))))) (.r (.r .o))]) .ret) .skip))) (.seq (.run [.go (.move (.con (.int .i64 (.ofNat 1073741824)))) (.l (.r (.l .o)))]) (.seq (.seq (.run [.go (.move (.con (.int .i64 (.ofNat 0)))) (.l (.l (.l (.l (.l .o)))))]) (.block 0 (.loop (.seq (.run [.go (.bin .lss 3 (.tmp (.l (.l (.l (.l (.l .o)))))) (.con (.int .i64 (.ofNat 10)))) (.r (.l (.l (.l (.l .o)))))]) (.seq (.cond (.tmp (.r (.l (.l (.l (.l .o)))))) .skip (.exit 0)) (.seq (.block 1 (.seq (.run [.go (.move (.tmp (.l (.l (.l (.l (.l .o))))))) (.l (.r (.l (.l (.l .o))))),
 .go (.move (.tmp (.l (.r (.l (.l (.l .o))))))) (.r (.r (.l .o)))]) (.seq (.draw 7 [.go (.load1 (.tmp (.l (.l .o)))) (.r (.r (.l (.l (.l .o))))),
 .go (.loadN 2 (.tmp (.l .o))) (.l (.l (.r (.l (.l .o))))),
 .go (.loadN 4 (.tmp (.l (.r .o)))) (.r (.l (.r (.l (.l .o))))),
 .go (.move (.tmp (.r (.r (.l .o))))) (.l (.r (.r (.l (.l .o))))),
 .go (.call (.con (.func (.func 44) ⟨[]⟩ ⟨[]⟩)) [(.tmp (.l (.l (.r (.l (.l .o)))))),(.tmp (.r (.l (.r (.l (.l .o)))))),(.tmp (.l (.r (.r (.l (.l .o))))))]) (.r (.r (.r (.l (.l .o))))),
 .go (.call (.tmp (.r (.r (.l (.l (.l .o)))))) [(.tmp (.r (.r (.r (.l (.l .o))))))]) (.l (.l (.l (.r (.l .o))))),
 .go (.move (.tmp (.l (.l (.l (.r (.l .o))))))) (.l (.l (.r .o)))] [.rd none (.load1 (.tmp (.l (.l .o)))) (some (.r (.r (.l (.l (.l .o)))))) [5],.ok,.ok,.ok,.ok,.ok,.ok]) (.seq (.seq (.run [.go (.move (.tmp (.l (.l (.r .o))))) (.r (.l (.l (.r (.l .o))))),
 .go (.bin .lss 3 (.tmp (.r (.l (.l (.r (.l .o)))))) (.con (.int .i64 (.ofNat 1073741824)))) (.l (.r (.l (.r (.l .o)))))]) (.cond (.tmp (.l (.r (.l (.r (.l .o)))))) (.draw 9 [.go (.load1 (.tmp (.r (.l .o)))) (.r (.r (.l (.r (.l .o))))),
 .go (.fieldAddr 0 (.tmp (.l (.r .o)))) (.l (.l (.r (.r (.l .o))))),
 .go (.load1 (.tmp (.l (.l (.r (.r (.l .o))))))) (.r (.l (.r (.r (.l .o))))),
 .go (.move (.tmp (.r (.r (.l .o))))) (.l (.r (.r (.r (.l .o))))),
 .go (.nilCheck (.tmp (.r (.r (.l (.r (.l .o))))))) (.r (.r (.r (.r (.l .o))))),
 .go (.fieldAddr 0 (.tmp (.r (.r (.r (.r (.l .o))))))) (.l (.l (.l (.l (.r .o))))),
 .go (.indexAddr (some 10) 10 (.tmp (.l (.l (.l (.l (.r .o)))))) (.tmp (.r (.l (.r (.r (.l .o))))))) (.r (.l (.l (.l (.r .o))))),
 .go (.indexAddr (some 10) 1 (.tmp (.r (.l (.l (.l (.r .o)))))) (.tmp (.l (.r (.r (.r (.l .o))))))) (.l (.r (.l (.l (.r .o))))),
 .un (.store 1 (.tmp (.l (.r (.l (.l (.r .o)))))) (.con (.bool true)))] [.ok,.ok,.ok,.ok,.ok,.ok,.ok,.ok,.ok]) .skip)) (.run [.go (.move (.tmp (.l (.r (.l .o))))) (.r (.r (.l (.l (.r .o))))),
 .go (.move (.tmp (.l (.l (.r .o))))) (.l (.l (.r (.l (.r .o))))),
 .go (.buildSlice 3 1 [(.int .i64 (.ofNat 0))] [(0,1,(.tmp (.l (.l (.r (.l (.r .o)))))))]) (.r (.l (.r (.l (.r .o))))),
 .go (.call (.con (.func (.func 57) ⟨[]⟩ ⟨[]⟩)) [(.tmp (.r (.r (.l (.l (.r .o)))))),(.tmp (.r (.l (.r (.l (.r .o))))))]) (.l (.r (.r (.l (.r .o))))),
 .go (.move (.tmp (.l (.r (.r (.l (.r .o))))))) (.l (.r (.l .o)))]))))) (.run [.go (.bin .add 3 (.tmp (.l (.l (.l (.l (.l .o)))))) (.con (.int .i64 (.ofNat 1)))) (.r (.r (.r (.l (.r .o))))),
 .go (.move (.tmp (.r (.r (.r (.l (.r .o))))))) (.l (.l (.l (.l (.l .o)))))]))))))) (.seq (.run [.go (.load1 (.tmp (.r .o))) (.l (.l (.l (.r (.r .o))))),
 .go (.loadN 4 (.tmp (.l (.r .o)))) (.r (.l (.l (.r (.r .o))))),
 .go (.move (.tmp (.l (.r (.l .o))))) (.l (.r (.l (.r (.r .o))))),
 .un (.mapUpdate 89 (.tmp (.l (.l (.l (.r (.r .o)))))) (.tmp (.r (.l (.l (.r (.r .o)))))) (.tmp (.l (.r (.l (.r (.r .o)))))))]) (.seq (.run [.go (.move (.tmp (.l (.r (.l .o))))) (.r (.r (.l (.r (.r .o))))),
 .go (.move (.tmp (.r (.r (.l (.r (.r .o))))))) (.r (.r .o))]) .ret))))))))
noncomputable def f55 : FFunc := .mk c55 (.n U (.n U (.n U (.n U (.n U (.n U .e .e) (.n U .e .e)) (.n U (.n U .e .e) (.n U .e .e))) (.n U (.n U (.n U .e .e) (.n U .e .e)) (.n U (.n U .e .e) .e))) (.n U (.n U (.n U (.n U .e .e) (.n U .e .e)) (.n U (.n U .e .e) (.n U .e .e))) (.n U (.n U (.n U .e .e) (.n U .e .e)) (.n U (.n U .e .e) .e)))) (.n U (.n U (.n U (.n U (.n U .e .e) (.n U .e .e)) (.n U (.n U .e .e) (.n U .e .e))) (.n U (.n U (.n U .e .e) (.n U .e .e)) (.n U (.n U .e .e) .e))) (.n U (.n U (.n U (.n U .e .e) (.n U .e .e)) (.n U (.n U .e .e) (.n U .e .e))) (.n U (.n U (.n U .e .e) (.n U .e .e)) (.n U (.n U .e .e) .e))))) [.o,(.l .o),(.r .o),(.l (.l .o)),(.r (.l .o))] [.tmp (.r (.r .o))]
theorem e55 : @compF Tryd.prog (glOne Tryd.prog 1) Tryd.f55 5 = f55 := by kernel_rfl
theorem o55 : okF Tryd.prog Tryd.f55 = true := by kernel_rfl
theorem g55 : Tryd.prog.funcs[(55 : Nat)]? = some Tryd.f55 := by kernel_rfl
noncomputable def c56 : FCode := (.seq (.run [.go (.box 89 (.tmp .o)) (.l .o),
 .go (.move (.con (.int .i64 (.ofNat 0)))) (.r .o)]) (.seq (.run [.go (.move (.con (.int .i64 (.ofNat 0)))) (.l (.l .o))]) (.seq (.seq (.run [.go (.fieldAddr 1 (.tmp (.l .o))) (.r (.r .o)),
 .go (.loadN 3 (.tmp (.r (.r .o)))) (.l (.l (.l .o))),
 .go (.move (.con (.int .i64 (.ofNat 0)))) (.r (.l (.l .o)))]) (.block 0 (.loop (.seq (.run [.go (.bin .lss 3 (.tmp (.r (.l (.l .o)))) (.con (.int .i64 (.ofNat 3)))) (.l (.r (.l .o)))]) (.seq (.cond (.tmp (.l (.r (.l .o)))) .skip (.exit 0)) (.seq (.block 1 (.seq (.run [.go (.index 3 1 true (.tmp (.l (.l (.l .o)))) (.tmp (.r (.l (.l .o))))) (.r (.r (.l .o))),
 .go (.move (.tmp (.r (.r (.l .o))))) (.l (.r .o))]) (.run [.go (.move (.tmp (.l (.l .o)))) (.l (.l (.r .o))),
 .go (.move (.tmp (.l (.r .o)))) (.r (.l (.r .o))),
 .go (.bin .add 3 (.tmp (.l (.l (.r .o)))) (.tmp (.r (.l (.r .o))))) (.l (.r (.r .o))),
 .go (.move (.tmp (.l (.r (.r .o))))) (.l (.l .o))]))) (.run [.go (.bin .add 3 (.tmp (.r (.l (.l .o)))) (.con (.int .i64 (.ofNat 1)))) (.r (.r (.r .o))),
 .go (.move (.tmp (.r (.r (.r .o))))) (.r (.l (.l .o)))]))))))) (.seq (.run [.go (.move (.tmp (.l (.l .o)))) (.l (.l (.l (.l .o)))),
 .go (.move (.tmp (.l (.l (.l (.l .o)))))) (.r .o)]) .ret))))
noncomputable def f56 : FFunc := .mk c56 (.n U (.n U (.n U (.n U (.n U .e .e) .e) (.n U .e .e)) (.n U (.n U .e .e) (.n U .e .e))) (.n U (.n U (.n U .e .e) (.n U .e .e)) (.n U (.n U .e .e) (.n U .e .e)))) [.o] [.tmp (.r .o)]
theorem e56 : @compF Tryd.prog (glOne Tryd.prog 1) Tryd.f56 1 = f56 := by kernel_rfl
theorem o56 : okF Tryd.prog Tryd.f56 = true := by kernel_rfl
theorem g56 : Tryd.prog.funcs[(56 : Nat)]? = some Tryd.f56 := by kernel_rfl
noncomputable def c57 : FCode := (.seq (.run [.go (.move (.con (.int .i64 (.ofNat 0)))) (.r (.l .o))]) (.seq (.seq (.run [.go (.move (.tmp (.l .o))) (.l (.l (.l .o))),
 .go (.len 0 (.tmp (.l (.l (.l .o))))) (.r (.l (.l .o))),
 .go (.move (.con (.int .i64 (.ofNat 0)))) (.l (.r (.l .o)))]) (.block 0 (.loop (.seq (.run [.go (.bin .lss 3 (.tmp (.l (.r (.l .o)))) (.tmp (.r (.l (.l .o))))) (.r (.r (.l .o)))]) (.seq (.cond (.tmp (.r (.r (.l .o)))) .skip (.exit 0)) (.seq (.block 1 (.seq (.run [.go (.indexAddr none 1 (.tmp (.l (.l (.l .o)))) (.tmp (.l (.r (.l .o))))) (.l (.l (.r .o))),
 .go (.load1 (.tmp (.l (.l (.r .o))))) (.r (.l (.r .o))),
 .go (.move (.tmp (.r (.l (.r .o))))) (.r (.r .o))]) (.seq (.run [.go (.move (.tmp (.r (.r .o)))) (.l (.r (.r .o))),
 .go (.move (.tmp .o)) (.r (.r (.r .o))),
 .go (.bin .lss 3 (.tmp (.l (.r (.r .o)))) (.tmp (.r (.r (.r .o))))) (.l (.l (.l (.l .o))))]) (.cond (.tmp (.l (.l (.l (.l .o))))) (.run [.go (.move (.tmp (.r (.r .o)))) (.r (.l (.l (.l .o)))),
 .go (.move (.tmp (.r (.l (.l (.l .o)))))) .o]) .skip)))) (.run [.go (.bin .add 3 (.tmp (.l (.r (.l .o)))) (.con (.int .i64 (.ofNat 1)))) (.l (.r (.l (.l .o)))),
 .go (.move (.tmp (.l (.r (.l (.l .o)))))) (.l (.r (.l .o)))]))))))) (.seq (.run [.go (.move (.tmp .o)) (.r (.r (.l (.l .o)))),
 .go (.move (.tmp (.r (.r (.l (.l .o)))))) (.r (.l .o))]) .ret)))
noncomputable def f57 : FFunc := .mk c57 (.n U (.n U (.n U (.n U (.n U .e .e) .e) (.n U .e .e)) (.n U (.n U (.n U .e .e) .e) (.n U .e .e))) (.n U (.n U (.n U (.n U .e .e) .e) (.n U .e .e)) (.n U (.n U (.n U .e .e) .e) (.n U .e .e)))) [.o,(.l .o)] [.tmp (.r (.l .o))]
theorem e57 : @compF Tryd.prog (glOne Tryd.prog 1) Tryd.f57 2 = f57 := by kernel_rfl
theorem o57 : okF Tryd.prog Tryd.f57 = true := by kernel_rfl
theorem g57 : Tryd.prog.funcs[(57 : Nat)]? = some Tryd.f57 := by kernel_rfl
noncomputable def c58 : FCode := (.seq (.run [.go (.box 76 (.tmp .o)) (.l (.l .o))]) (.seq (.run [.go (.load1 (.tmp (.l .o))) (.r (.r .o)),
 .go (.makeSlice 3 1 8 [(.int .i64 (.ofNat 0))] (.tmp (.r (.r .o))) (.tmp (.r (.r .o)))) (.l (.l (.l .o))),
 .go (.alloc 34 [(.slice none 0 0)]) (.r (.l .o)),
 .un (.store 1 (.tmp (.r (.l .o))) (.tmp (.l (.l (.l .o)))))]) (.seq (.run [.go (.alloc 106 [.nilFunc]) (.l (.r .o))]) (.seq (.run [.go (.makeFunc 59 [] [(.tmp (.l .o)),(.tmp (.l (.l .o))),(.tmp (.r (.l .o))),(.tmp (.r .o)),(.tmp (.l (.r .o)))]) (.r (.l (.l .o))),
 .un (.store 1 (.tmp (.l (.r .o))) (.tmp (.r (.l (.l .o)))))]) (.run [.go (.load1 (.tmp (.l (.r .o)))) (.l (.r (.l .o))),
 .go (.call (.tmp (.l (.r (.l .o)))) [(.con (.int .i64 (.ofNat 0))),(.con (.int .i64 (.ofNat 0)))]) (.r (.r (.l .o)))])))))
noncomputable def f58 : FFunc := .mk c58 (.n U (.n U (.n U (.n U .e .e) .e) (.n U (.n U .e .e) .e)) (.n U (.n U (.n U .e .e) .e) (.n U (.n U .e .e) .e))) [.o,(.l .o),(.r .o)] []
theorem e58 : @compF Tryd.prog (glOne Tryd.prog 1) Tryd.f58 3 = f58 := by kernel_rfl
theorem o58 : okF Tryd.prog Tryd.f58 = true := by kernel_rfl
theorem g58 : Tryd.prog.funcs[(58 : Nat)]? = some Tryd.f58 := by kernel_rfl
noncomputable def c59 : FCode := (.seq (.run [.go (.move (.con (.bool false))) (.l (.r (.l .o)))]) (.seq (.seq (.run [.go (.move (.tmp .o)) (.l (.l (.r .o))),
 .go (.load1 (.tmp (.r .o))) (.r (.l (.r .o))),
 .go (.bin .eql 3 (.tmp (.l (.l (.r .o)))) (.tmp (.r (.l (.r .o))))) (.l (.r (.r .o)))]) (.cond (.tmp (.l (.r (.r .o)))) (.seq (.run [.go (.load1 (.tmp (.l (.l .o)))) (.r (.r (.r .o))),
 .go (.load1 (.tmp (.r (.l .o)))) (.l (.l (.l (.l .o)))),
 .go (.call (.tmp (.r (.r (.r .o)))) [(.tmp (.l (.l (.l (.l .o)))))]) (.r (.l (.l (.l .o)))),
 .go (.move (.tmp (.r (.l (.l (.l .o)))))) (.l (.r (.l .o)))]) .ret) .skip)) (.seq (.seq (.run [.go (.move (.tmp (.l .o))) (.l (.r (.l (.l .o)))),
 .go (.move (.tmp (.l (.r (.l (.l .o)))))) (.r (.r (.l .o)))]) (.block 0 (.loop (.seq (.seq (.run [.go (.move (.tmp (.r (.r (.l .o))))) (.r (.r (.l (.l .o)))),
 .go (.load1 (.tmp (.l (.r .o)))) (.l (.l (.r (.l .o)))),
 .go (.bin .lss 3 (.tmp (.r (.r (.l (.l .o))))) (.tmp (.l (.l (.r (.l .o)))))) (.r (.l (.r (.l .o))))]) (.cond (.tmp (.r (.l (.r (.l .o))))) .skip (.exit 0))) (.seq (.block 1 (.seq (.run [.go (.load1 (.tmp (.r (.l .o)))) (.l (.l (.l (.r .o)))),
 .go (.move (.tmp .o)) (.r (.l (.l (.r .o)))),
 .go (.move (.tmp (.r (.r (.l .o))))) (.l (.r (.l (.r .o)))),
 .go (.indexAddr none 1 (.tmp (.l (.l (.l (.r .o))))) (.tmp (.r (.l (.l (.r .o)))))) (.r (.r (.l (.r .o)))),
 .un (.store 1 (.tmp (.r (.r (.l (.r .o))))) (.tmp (.l (.r (.l (.r .o))))))]) (.seq (.run [.go (.load1 (.tmp (.r (.r .o)))) (.l (.l (.r (.r .o)))),
 .go (.move (.tmp .o)) (.r (.l (.r (.r .o)))),
 .go (.bin .add 3 (.tmp (.r (.l (.r (.r .o))))) (.con (.int .i64 (.ofNat 1)))) (.l (.r (.r (.r .o)))),
 .go (.move (.tmp (.r (.r (.l .o))))) (.r (.r (.r (.r .o)))),
 .go (.bin .add 3 (.tmp (.r (.r (.r (.r .o))))) (.con (.int .i64 (.ofNat 1)))) (.l (.l (.l (.l (.l .o))))),
 .go (.call (.tmp (.l (.l (.r (.r .o))))) [(.tmp (.l (.r (.r (.r .o))))),(.tmp (.l (.l (.l (.l (.l .o))))))]) (.r (.l (.l (.l (.l .o))))),
 .go (.un .not (.tmp (.r (.l (.l (.l (.l .o))))))) (.l (.r (.l (.l (.l .o)))))]) (.cond (.tmp (.l (.r (.l (.l (.l .o)))))) (.seq (.run [.go (.move (.con (.bool false))) (.l (.r (.l .o)))]) .ret) .skip)))) (.run [.go (.move (.tmp (.r (.r (.l .o))))) (.l (.r (.r (.l .o)))),
 .go (.bin .add 3 (.tmp (.l (.r (.r (.l .o))))) (.con (.int .i64 (.ofNat 1)))) (.r (.r (.r (.l .o)))),
 .go (.move (.tmp (.r (.r (.r (.l .o)))))) (.r (.r (.l .o)))])))))) (.seq (.run [.go (.move (.con (.bool true))) (.l (.r (.l .o)))]) .ret))))
noncomputable def f59 : FFunc := .mk c59 (.n U (.n U (.n U (.n U (.n U (.n U .e .e) .e) (.n U .e .e)) (.n U (.n U .e .e) (.n U .e .e))) (.n U (.n U (.n U (.n U .e .e) .e) (.n U .e .e)) (.n U (.n U .e .e) (.n U .e .e)))) (.n U (.n U (.n U (.n U (.n U .e .e) .e) (.n U .e .e)) (.n U (.n U .e .e) (.n U .e .e))) (.n U (.n U (.n U .e .e) (.n U .e .e)) (.n U (.n U .e .e) (.n U .e .e))))) [.o,(.l .o),(.r .o),(.l (.l .o)),(.r (.l .o)),(.l (.r .o)),(.r (.r .o))] [.tmp (.l (.r (.l .o)))]
theorem e59 : @compF Tryd.prog (glOne Tryd.prog 1) Tryd.f59 7 = f59 := by kernel_rfl
theorem o59 : okF Tryd.prog Tryd.f59 = true := by kernel_rfl
theorem g59 : Tryd.prog.funcs[(59 : Nat)]? = some Tryd.f59 := by kernel_rfl
noncomputable def c60 : FCode := (.seq (.run [.go (.move (.con (.bool false))) (.r (.l .o))]) (.seq (.run [.go (.move (.tmp .o)) (.l (.r .o)),
 .go (.move (.tmp (.l .o))) (.r (.r .o)),
 .go (.call (.con (.func (.func 76) ⟨[]⟩ ⟨[]⟩)) [(.tmp (.l (.r .o))),(.tmp (.r (.r .o)))]) (.l (.l (.l .o))),
 .go (.bin .geq 3 (.tmp (.l (.l (.l .o)))) (.con (.int .i64 (.ofNat 0)))) (.r (.l (.l .o))),
 .go (.move (.tmp (.r (.l (.l .o))))) (.r (.l .o))]) .ret))
noncomputable def f60 : FFunc := .mk c60 (.n U (.n U (.n U (.n U .e .e) .e) (.n U .e .e)) (.n U (.n U (.n U .e .e) .e) (.n U .e .e))) [.o,(.l .o)] [.tmp (.r (.l .o))]
theorem e60 : @compF Tryd.prog (glOne Tryd.prog 1) Tryd.f60 2 = f60 := by kernel_rfl
theorem o60 : okF Tryd.prog Tryd.f60 = true := by kernel_rfl
theorem g60 : Tryd.prog.funcs[(60 : Nat)]? = some Tryd.f60 := by kernel_rfl
noncomputable def c61 : FCode := (.seq (.run [.go (.move (.con (.bool false))) (.r .o)]) (.seq (.seq (.run [.go (.move (.con (.int .i64 (.ofNat 1)))) (.l (.l .o))]) (.block 0 (.loop (.seq (.seq (.run [.go (.move (.tmp (.l (.l .o)))) (.r (.l .o)),
 .go (.move (.tmp .o)) (.l (.r .o)),
 .go (.len 0 (.tmp (.l (.r .o)))) (.r (.r .o)),
 .go (.bin .lss 3 (.tmp (.r (.l .o))) (.tmp (.r (.r .o)))) (.l (.l (.l .o)))]) (.cond (.tmp (.l (.l (.l .o)))) .skip (.exit 0))) (.seq (.block 1 (.seq (.draw 10 [.go (.move (.tmp .o)) (.r (.r (.l .o))),
 .go (.move (.tmp (.l (.l .o)))) (.l (.l (.r .o))),
 .go (.bin .sub 3 (.tmp (.l (.l (.r .o)))) (.con (.int .i64 (.ofNat 1)))) (.r (.l (.r .o))),
 .go (.indexAddr none 1 (.tmp (.r (.r (.l .o)))) (.tmp (.r (.l (.r .o))))) (.l (.r (.r .o))),
 .go (.load1 (.tmp (.l (.r (.r .o))))) (.r (.r (.r .o))),
 .go (.move (.tmp .o)) (.l (.l (.l (.l .o)))),
 .go (.move (.tmp (.l (.l .o)))) (.r (.l (.l (.l .o)))),
 .go (.indexAddr none 1 (.tmp (.l (.l (.l (.l .o))))) (.tmp (.r (.l (.l (.l .o)))))) (.l (.r (.l (.l .o)))),
 .go (.load1 (.tmp (.l (.r (.l (.l .o)))))) (.r (.r (.l (.l .o)))),
 .go (.bin .geq 3 (.tmp (.r (.r (.r .o)))) (.tmp (.r (.r (.l (.l .o)))))) (.l (.l (.r (.l .o))))] [.ok,.ok,.ok,.ok,.ok,.ok,.ok,.ok,.ok,.ok]) (.cond (.tmp (.l (.l (.r (.l .o))))) (.seq (.run [.go (.move (.con (.bool false))) (.r .o)]) .ret) .skip))) (.run [.go (.move (.tmp (.l (.l .o)))) (.r (.l (.l .o))),
 .go (.bin .add 3 (.tmp (.r (.l (.l .o)))) (.con (.int .i64 (.ofNat 1)))) (.l (.r (.l .o))),
 .go (.move (.tmp (.l (.r (.l .o))))) (.l (.l .o))])))))) (.seq (.run [.go (.move (.con (.bool true))) (.r .o)]) .ret)))
noncomputable def f61 : FFunc := .mk c61 (.n U (.n U (.n U (.n U (.n U .e .e) .e) (.n U (.n U .e .e) .e)) (.n U (.n U (.n U .e .e) .e) (.n U .e .e))) (.n U (.n U (.n U (.n U .e .e) .e) (.n U .e .e)) (.n U (.n U (.n U .e .e) .e) (.n U .e .e)))) [.o] [.tmp (.r .o)]
theorem e61 : @compF Tryd.prog (glOne Tryd.prog 1) Tryd.f61 1 = f61 := by kernel_rfl
theorem o61 : okF Tryd.prog Tryd.f61 = true := by kernel_rfl
theorem g61 : Tryd.prog.funcs[(61 : Nat)]? = some Tryd.f61 := by kernel_rfl
noncomputable def c62 : FCode := (.seq (.seq (.run [.go (.move (.tmp .o)) (.r (.r (.l .o))),
 .go (.nilCheck (.tmp (.r (.r (.l .o))))) (.l (.l (.r .o))),
 .go (.fieldAddr 0 (.tmp (.l (.l (.r .o))))) (.r (.l (.r .o))),
 .go (.fieldAddr 0 (.tmp (.r (.l (.r .o))))) (.l (.r (.r .o))),
 .go (.load1 (.tmp (.l (.r (.r .o))))) (.r (.r (.r .o))),
 .go (.len 0 (.tmp (.r (.r (.r .o))))) (.l (.l (.l (.l .o)))),
 .go (.move (.con (.int .i64 (.ofNat 0)))) (.r (.l (.l (.l .o))))]) (.block 0 (.loop (.seq (.run [.go (.bin .lss 3 (.tmp (.r (.l (.l (.l .o))))) (.tmp (.l (.l (.l (.l .o)))))) (.l (.r (.l (.l .o))))]) (.seq (.cond (.tmp (.l (.r (.l (.l .o))))) .skip (.exit 0)) (.seq (.block 1 (.seq (.run [.go (.move (.tmp (.r (.l (.l (.l .o)))))) (.r (.r (.l (.l .o)))),
 .go (.indexAddr none 5 (.tmp (.r (.r (.r .o)))) (.tmp (.r (.l (.l (.l .o)))))) (.l (.l (.r (.l .o)))),
 .go (.loadN 5 (.tmp (.l (.l (.r (.l .o)))))) (.r (.l (.r (.l .o)))),
 .go (.alloc 51 [(.int .i64 (.ofNat 0)),(.int .i64 (.ofNat 0)),(.int .i64 (.ofNat 0)),(.int .i64 (.ofNat 0)),(.int .i64 (.ofNat 0))]) (.l (.l .o)),
 .go (.move (.tmp (.r (.r (.l (.l .o)))))) (.r .o),
 .un (.store 5 (.tmp (.l (.l .o))) (.tmp (.r (.l (.r (.l .o))))))]) (.seq (.draw 9 [.go (.move (.tmp .o)) (.l (.r (.r (.l .o)))),
 .go (.move (.tmp (.r .o))) (.r (.r (.r (.l .o)))),
 .go (.move (.tmp (.r .o))) (.l (.l (.l (.r .o)))),
 .go (.buildSlice 3 1 [(.int .i64 (.ofNat 0))] [(0,1,(.tmp (.l (.l (.l (.r .o))))))]) (.r (.l (.l (.r .o)))),
 .go (.call (.con (.func (.func 38) ⟨[]⟩ ⟨[]⟩)) [(.tmp (.r (.l (.l (.r .o)))))]) (.l (.r (.l (.r .o)))),
 .go (.nilCheck (.tmp (.l (.r (.r (.l .o)))))) (.r (.r (.l (.r .o)))),
 .go (.fieldAddr 7 (.tmp (.r (.r (.l (.r .o)))))) (.l (.l (.r (.r .o)))),
 .go (.indexAddr (some 10) 1 (.tmp (.l (.l (.r (.r .o))))) (.tmp (.r (.r (.r (.l .o)))))) (.r (.l (.r (.r .o)))),
 .un (.store 1 (.tmp (.r (.l (.r (.r .o))))) (.tmp (.l (.r (.l (.r .o))))))] [.ok,.ok,.ok,.ok,.ok,.ok,.ok,.ok,.ok]) (.seq (.run [.go (.move (.tmp .o)) (.l (.r (.r (.r .o)))),
 .go (.nilCheck (.tmp (.l (.r (.r (.r .o)))))) (.r (.r (.r (.r .o)))),
 .go (.fieldAddr 0 (.tmp (.r (.r (.r (.r .o)))))) (.l (.l (.l (.l (.l .o))))),
 .go (.fieldAddr 0 (.tmp (.l (.l (.l (.l (.l .o))))))) (.r (.l (.l (.l (.l .o))))),
 .go (.load1 (.tmp (.r (.l (.l (.l (.l .o))))))) (.l (.r (.l (.l (.l .o))))),
 .go (.len 0 (.tmp (.l (.r (.l (.l (.l .o))))))) (.r (.r (.l (.l (.l .o))))),
 .go (.move (.con (.int .i64 (.ofNat 0)))) (.l (.l (.r (.l (.l .o)))))]) (.block 2 (.loop (.seq (.run [.go (.bin .lss 3 (.tmp (.l (.l (.r (.l (.l .o)))))) (.tmp (.r (.r (.l (.l (.l .o))))))) (.r (.l (.r (.l (.l .o)))))]) (.seq (.cond (.tmp (.r (.l (.r (.l (.l .o)))))) .skip (.exit 2)) (.seq (.block 3 (.seq (.run [.go (.move (.tmp (.l (.l (.r (.l (.l .o))))))) (.l (.r (.r (.l (.l .o))))),
 .go (.indexAddr none 5 (.tmp (.l (.r (.l (.l (.l .o)))))) (.tmp (.l (.l (.r (.l (.l .o))))))) (.r (.r (.r (.l (.l .o))))),
 .go (.loadN 5 (.tmp (.r (.r (.r (.l (.l .o))))))) (.l (.l (.l (.r (.l .o))))),
 .go (.alloc 51 [(.int .i64 (.ofNat 0)),(.int .i64 (.ofNat 0)),(.int .i64 (.ofNat 0)),(.int .i64 (.ofNat 0)),(.int .i64 (.ofNat 0))]) (.l (.r .o)),
 .go (.move (.tmp (.l (.r (.r (.l (.l .o))))))) (.r (.l .o)),
 .un (.store 5 (.tmp (.l (.r .o))) (.tmp (.l (.l (.l (.r (.l .o)))))))]) (.seq (.run [.go (.loadN 5 (.tmp (.l (.l .o)))) (.r (.l (.l (.r (.l .o))))),
 .go (.loadN 5 (.tmp (.l (.r .o)))) (.l (.r (.l (.r (.l .o))))),
 .go (.call (.con (.func (.func 77) ⟨[]⟩ ⟨[]⟩)) [(.tmp (.r (.l (.l (.r (.l .o)))))),(.tmp (.l (.r (.l (.r (.l .o))))))]) (.r (.r (.l (.r (.l .o)))))]) (.cond (.tmp (.r (.r (.l (.r (.l .o)))))) (.draw 14 [.go (.move (.tmp .o)) (.l (.l (.r (.r (.l .o))))),
 .go (.move (.tmp (.r .o))) (.r (.l (.r (.r (.l .o))))),
 .go (.nilCheck (.tmp (.l (.l (.r (.r (.l .o))))))) (.l (.r (.r (.r (.l .o))))),
 .go (.fieldAddr 7 (.tmp (.l (.r (.r (.r (.l .o))))))) (.r (.r (.r (.r (.l .o))))),
 .go (.indexAddr (some 10) 1 (.tmp (.r (.r (.r (.r (.l .o)))))) (.tmp (.r (.l (.r (.r (.l .o))))))) (.l (.l (.l (.l (.r .o))))),
 .go (.load1 (.tmp (.l (.l (.l (.l (.r .o))))))) (.r (.l (.l (.l (.r .o))))),
 .go (.move (.tmp (.r (.l .o)))) (.l (.r (.l (.l (.r .o))))),
 .go (.buildSlice 3 1 [(.int .i64 (.ofNat 0))] [(0,1,(.tmp (.l (.r (.l (.l (.r .o)))))))]) (.r (.r (.l (.l (.r .o))))),
 .go (.call (.con (.func (.func 38) ⟨[]⟩ ⟨[]⟩)) [(.tmp (.r (.r (.l (.l (.r .o))))))]) (.l (.l (.r (.l (.r .o))))),
 .go (.bin .or 78 (.tmp (.r (.l (.l (.l (.r .o)))))) (.tmp (.l (.l (.r (.l (.r .o))))))) (.r (.l (.r (.l (.r .o))))),
 .go (.nilCheck (.tmp (.l (.l (.r (.r (.l .o))))))) (.l (.r (.r (.l (.r .o))))),
 .go (.fieldAddr 7 (.tmp (.l (.r (.r (.l (.r .o))))))) (.r (.r (.r (.l (.r .o))))),
 .go (.indexAddr (some 10) 1 (.tmp (.r (.r (.r (.l (.r .o)))))) (.tmp (.r (.l (.r (.r (.l .o))))))) (.l (.l (.l (.r (.r .o))))),
 .un (.store 1 (.tmp (.l (.l (.l (.r (.r .o)))))) (.tmp (.r (.l (.r (.l (.r .o)))))))] [.ok,.ok,.ok,.ok,.ok,.rd none (.load1 (.tmp (.l (.l (.l (.l (.r .o))))))) (some (.r (.l (.l (.l (.r .o)))))) [8,9],.ok,.ok,.ok,.ok,.ok,.ok,.ok,.ok]) .skip)))) (.run [.go (.bin .add 3 (.tmp (.l (.l (.r (.l (.l .o)))))) (.con (.int .i64 (.ofNat 1)))) (.r (.l (.l (.r (.r .o))))),
 .go (.move (.tmp (.r (.l (.l (.r (.r .o))))))) (.l (.l (.r (.l (.l .o)))))])))))))))) (.run [.go (.bin .add 3 (.tmp (.r (.l (.l (.l .o))))) (.con (.int .i64 (.ofNat 1)))) (.l (.r (.l (.r (.r .o))))),
 .go (.move (.tmp (.l (.r (.l (.r (.r .o))))))) (.r (.l (.l (.l .o))))]))))))) (.seq (.seq (.run [.go (.move (.tmp .o)) (.r (.r (.l (.r (.r .o))))),
 .go (.nilCheck (.tmp (.r (.r (.l (.r (.r .o))))))) (.l (.l (.r (.r (.r .o))))),
 .go (.fieldAddr 0 (.tmp (.l (.l (.r (.r (.r .o))))))) (.r (.l (.r (.r (.r .o))))),
 .go (.fieldAddr 2 (.tmp (.r (.l (.r (.r (.r .o))))))) (.l (.r (.r (.r (.r .o))))),
 .go (.load1 (.tmp (.l (.r (.r (.r (.r .o))))))) (.r (.r (.r (.r (.r .o))))),
 .go (.len 0 (.tmp (.r (.r (.r (.r (.r .o))))))) (.l (.l (.l (.l (.l (.l .o)))))),
 .go (.move (.con (.int .i64 (.ofNat 0)))) (.r (.l (.l (.l (.l (.l .o))))))]) (.block 4 (.loop (.seq (.run [.go (.bin .lss 3 (.tmp (.r (.l (.l (.l (.l (.l .o))))))) (.tmp (.l (.l (.l (.l (.l (.l .o)))))))) (.l (.r (.l (.l (.l (.l .o))))))]) (.seq (.cond (.tmp (.l (.r (.l (.l (.l (.l .o))))))) .skip (.exit 4)) (.seq (.block 5 (.seq (.run [.go (.indexAddr none 2 (.tmp (.r (.r (.r (.r (.r .o)))))) (.tmp (.r (.l (.l (.l (.l (.l .o)))))))) (.r (.r (.l (.l (.l (.l .o)))))),
 .go (.loadN 2 (.tmp (.r (.r (.l (.l (.l (.l .o)))))))) (.l (.l (.r (.l (.l (.l .o)))))),
 .go (.alloc 49 [(.int .i64 (.ofNat 0)),(.int .i64 (.ofNat 0))]) (.l (.l (.l .o))),
 .un (.store 2 (.tmp (.l (.l (.l .o)))) (.tmp (.l (.l (.r (.l (.l (.l .o))))))))]) (.seq (.draw 16 [.go (.move (.tmp .o)) (.r (.l (.r (.l (.l (.l .o)))))),
 .go (.fieldAddr 0 (.tmp (.l (.l (.l .o))))) (.l (.r (.r (.l (.l (.l .o)))))),
 .go (.load1 (.tmp (.l (.r (.r (.l (.l (.l .o)))))))) (.r (.r (.r (.l (.l (.l .o)))))),
 .go (.nilCheck (.tmp (.r (.l (.r (.l (.l (.l .o)))))))) (.l (.l (.l (.r (.l (.l .o)))))),
 .go (.fieldAddr 7 (.tmp (.l (.l (.l (.r (.l (.l .o)))))))) (.r (.l (.l (.r (.l (.l .o)))))),
 .go (.indexAddr (some 10) 1 (.tmp (.r (.l (.l (.r (.l (.l .o))))))) (.tmp (.r (.r (.r (.l (.l (.l .o)))))))) (.l (.r (.l (.r (.l (.l .o)))))),
 .go (.load1 (.tmp (.l (.r (.l (.r (.l (.l .o)))))))) (.r (.r (.l (.r (.l (.l .o)))))),
 .go (.fieldAddr 1 (.tmp (.l (.l (.l .o))))) (.l (.l (.r (.r (.l (.l .o)))))),
 .go (.load1 (.tmp (.l (.l (.r (.r (.l (.l .o)))))))) (.r (.l (.r (.r (.l (.l .o)))))),
 .go (.buildSlice 3 1 [(.int .i64 (.ofNat 0))] [(0,1,(.tmp (.r (.l (.r (.r (.l (.l .o))))))))]) (.l (.r (.r (.r (.l (.l .o)))))),
 .go (.call (.con (.func (.func 38) ⟨[]⟩ ⟨[]⟩)) [(.tmp (.l (.r (.r (.r (.l (.l .o)))))))]) (.r (.r (.r (.r (.l (.l .o)))))),
 .go (.bin .andNot 78 (.tmp (.r (.r (.l (.r (.l (.l .o))))))) (.tmp (.r (.r (.r (.r (.l (.l .o)))))))) (.l (.l (.l (.l (.r (.l .o)))))),
 .go (.nilCheck (.tmp (.r (.l (.r (.l (.l (.l .o)))))))) (.r (.l (.l (.l (.r (.l .o)))))),
 .go (.fieldAddr 7 (.tmp (.r (.l (.l (.l (.r (.l .o)))))))) (.l (.r (.l (.l (.r (.l .o)))))),
 .go (.indexAddr (some 10) 1 (.tmp (.l (.r (.l (.l (.r (.l .o))))))) (.tmp (.r (.r (.r (.l (.l (.l .o)))))))) (.r (.r (.l (.l (.r (.l .o)))))),
 .un (.store 1 (.tmp (.r (.r (.l (.l (.r (.l .o))))))) (.tmp (.l (.l (.l (.l (.r (.l .o))))))))] [.ok,.ok,.rd none (.load1 (.tmp (.l (.r (.r (.l (.l (.l .o)))))))) (some (.r (.r (.r (.l (.l (.l .o))))))) [10,11],.ok,.ok,.ok,.rd none (.load1 (.tmp (.l (.r (.l (.r (.l (.l .o)))))))) (some (.r (.r (.l (.r (.l (.l .o))))))) [10,11],.ok,.ok,.ok,.ok,.ok,.ok,.ok,.ok,.ok]) (.draw 16 [.go (.move (.tmp .o)) (.l (.l (.r (.l (.r (.l .o)))))),
 .go (.fieldAddr 1 (.tmp (.l (.l (.l .o))))) (.r (.l (.r (.l (.r (.l .o)))))),
 .go (.load1 (.tmp (.r (.l (.r (.l (.r (.l .o)))))))) (.l (.r (.r (.l (.r (.l .o)))))),
 .go (.nilCheck (.tmp (.l (.l (.r (.l (.r (.l .o)))))))) (.r (.r (.r (.l (.r (.l .o)))))),
 .go (.fieldAddr 7 (.tmp (.r (.r (.r (.l (.r (.l .o)))))))) (.l (.l (.l (.r (.r (.l .o)))))),
 .go (.indexAddr (some 10) 1 (.tmp (.l (.l (.l (.r (.r (.l .o))))))) (.tmp (.l (.r (.r (.l (.r (.l .o)))))))) (.r (.l (.l (.r (.r (.l .o)))))),
 .go (.load1 (.tmp (.r (.l (.l (.r (.r (.l .o)))))))) (.l (.r (.l (.r (.r (.l .o)))))),
 .go (.fieldAddr 0 (.tmp (.l (.l (.l .o))))) (.r (.r (.l (.r (.r (.l .o)))))),
 .go (.load1 (.tmp (.r (.r (.l (.r (.r (.l .o)))))))) (.l (.l (.r (.r (.r (.l .o)))))),
 .go (.buildSlice 3 1 [(.int .i64 (.ofNat 0))] [(0,1,(.tmp (.l (.l (.r (.r (.r (.l .o))))))))]) (.r (.l (.r (.r (.r (.l .o)))))),
 .go (.call (.con (.func (.func 38) ⟨[]⟩ ⟨[]⟩)) [(.tmp (.r (.l (.r (.r (.r (.l .o)))))))]) (.l (.r (.r (.r (.r (.l .o)))))),
 .go (.bin .andNot 78 (.tmp (.l (.r (.l (.r (.r (.l .o))))))) (.tmp (.l (.r (.r (.r (.r (.l .o)))))))) (.r (.r (.r (.r (.r (.l .o)))))),
 .go (.nilCheck (.tmp (.l (.l (.r (.l (.r (.l .o)))))))) (.l (.l (.l (.l (.l (.r .o)))))),
 .go (.fieldAddr 7 (.tmp (.l (.l (.l (.l (.l (.r .o)))))))) (.r (.l (.l (.l (.l (.r .o)))))),
 .go (.indexAddr (some 10) 1 (.tmp (.r (.l (.l (.l (.l (.r .o))))))) (.tmp (.l (.r (.r (.l (.r (.l .o)))))))) (.l (.r (.l (.l (.l (.r .o)))))),
 .un (.store 1 (.tmp (.l (.r (.l (.l (.l (.r .o))))))) (.tmp (.r (.r (.r (.r (.r (.l .o))))))))] [.ok,.ok,.rd none (.load1 (.tmp (.r (.l (.r (.l (.r (.l .o)))))))) (some (.l (.r (.r (.l (.r (.l .o))))))) [10,11],.ok,.ok,.ok,.rd none (.load1 (.tmp (.r (.l (.l (.r (.r (.l .o)))))))) (some (.l (.r (.l (.r (.r (.l .o))))))) [10,11],.ok,.ok,.ok,.ok,.ok,.ok,.ok,.ok,.ok])))) (.run [.go (.bin .add 3 (.tmp (.r (.l (.l (.l (.l (.l .o))))))) (.con (.int .i64 (.ofNat 1)))) (.r (.r (.l (.l (.l (.r .o)))))),
 .go (.move (.tmp (.r (.r (.l (.l (.l (.r .o)))))))) (.r (.l (.l (.l (.l (.l .o))))))]))))))) (.seq (.run [.go (.move (.tmp .o)) (.l (.l (.r (.l (.l (.r .o)))))),
 .go (.nilCheck (.tmp (.l (.l (.r (.l (.l (.r .o)))))))) (.r (.l (.r (.l (.l (.r .o)))))),
 .go (.fieldAddr 0 (.tmp (.r (.l (.r (.l (.l (.r .o)))))))) (.l (.r (.r (.l (.l (.r .o)))))),
 .go (.fieldAddr 1 (.tmp (.l (.r (.r (.l (.l (.r .o)))))))) (.r (.r (.r (.l (.l (.r .o)))))),
 .go (.load1 (.tmp (.r (.r (.r (.l (.l (.r .o)))))))) (.l (.l (.l (.r (.l (.r .o)))))),
 .go (.len 0 (.tmp (.l (.l (.l (.r (.l (.r .o)))))))) (.r (.l (.l (.r (.l (.r .o)))))),
 .go (.move (.con (.int .i64 (.ofNat 0)))) (.l (.r (.l (.r (.l (.r .o))))))]) (.block 6 (.loop (.seq (.run [.go (.bin .lss 3 (.tmp (.l (.r (.l (.r (.l (.r .o))))))) (.tmp (.r (.l (.l (.r (.l (.r .o)))))))) (.r (.r (.l (.r (.l (.r .o))))))]) (.seq (.cond (.tmp (.r (.r (.l (.r (.l (.r .o))))))) .skip (.exit 6)) (.seq (.block 7 (.seq (.run [.go (.indexAddr none 2 (.tmp (.l (.l (.l (.r (.l (.r .o))))))) (.tmp (.l (.r (.l (.r (.l (.r .o)))))))) (.l (.l (.r (.r (.l (.r .o)))))),
 .go (.loadN 2 (.tmp (.l (.l (.r (.r (.l (.r .o)))))))) (.r (.l (.r (.r (.l (.r .o)))))),
 .go (.alloc 49 [(.int .i64 (.ofNat 0)),(.int .i64 (.ofNat 0))]) (.l (.r (.l .o))),
 .un (.store 2 (.tmp (.l (.r (.l .o)))) (.tmp (.r (.l (.r (.r (.l (.r .o))))))))]) (.seq (.draw 16 [.go (.move (.tmp .o)) (.l (.r (.r (.r (.l (.r .o)))))),
 .go (.fieldAddr 0 (.tmp (.l (.r (.l .o))))) (.r (.r (.r (.r (.l (.r .o)))))),
 .go (.load1 (.tmp (.r (.r (.r (.r (.l (.r .o)))))))) (.l (.l (.l (.l (.r (.r .o)))))),
 .go (.nilCheck (.tmp (.l (.r (.r (.r (.l (.r .o)))))))) (.r (.l (.l (.l (.r (.r .o)))))),
 .go (.fieldAddr 17 (.tmp (.r (.l (.l (.l (.r (.r .o)))))))) (.l (.r (.l (.l (.r (.r .o)))))),
 .go (.indexAddr (some 10) 1 (.tmp (.l (.r (.l (.l (.r (.r .o))))))) (.tmp (.l (.l (.l (.l (.r (.r .o)))))))) (.r (.r (.l (.l (.r (.r .o)))))),
 .go (.load1 (.tmp (.r (.r (.l (.l (.r (.r .o)))))))) (.l (.l (.r (.l (.r (.r .o)))))),
 .go (.fieldAddr 1 (.tmp (.l (.r (.l .o))))) (.r (.l (.r (.l (.r (.r .o)))))),
 .go (.load1 (.tmp (.r (.l (.r (.l (.r (.r .o)))))))) (.l (.r (.r (.l (.r (.r .o)))))),
 .go (.buildSlice 3 1 [(.int .i64 (.ofNat 0))] [(0,1,(.tmp (.l (.r (.r (.l (.r (.r .o))))))))]) (.r (.r (.r (.l (.r (.r .o)))))),
 .go (.call (.con (.func (.func 38) ⟨[]⟩ ⟨[]⟩)) [(.tmp (.r (.r (.r (.l (.r (.r .o)))))))]) (.l (.l (.l (.r (.r (.r .o)))))),
 .go (.bin .or 78 (.tmp (.l (.l (.r (.l (.r (.r .o))))))) (.tmp (.l (.l (.l (.r (.r (.r .o)))))))) (.r (.l (.l (.r (.r (.r .o)))))),
 .go (.nilCheck (.tmp (.l (.r (.r (.r (.l (.r .o)))))))) (.l (.r (.l (.r (.r (.r .o)))))),
 .go (.fieldAddr 17 (.tmp (.l (.r (.l (.r (.r (.r .o)))))))) (.r (.r (.l (.r (.r (.r .o)))))),
 .go (.indexAddr (some 10) 1 (.tmp (.r (.r (.l (.r (.r (.r .o))))))) (.tmp (.l (.l (.l (.l (.r (.r .o)))))))) (.l (.l (.r (.r (.r (.r .o)))))),
 .un (.store 1 (.tmp (.l (.l (.r (.r (.r (.r .o))))))) (.tmp (.r (.l (.l (.r (.r (.r .o))))))))] [.ok,.ok,.rd none (.load1 (.tmp (.r (.r (.r (.r (.l (.r .o)))))))) (some (.l (.l (.l (.l (.r (.r .o))))))) [10,11],.ok,.ok,.ok,.rd none (.load1 (.tmp (.r (.r (.l (.l (.r (.r .o)))))))) (some (.l (.l (.r (.l (.r (.r .o))))))) [10,11],.ok,.ok,.ok,.ok,.ok,.ok,.ok,.ok,.ok]) (.draw 16 [.go (.move (.tmp .o)) (.r (.l (.r (.r (.r (.r .o)))))),
 .go (.fieldAddr 1 (.tmp (.l (.r (.l .o))))) (.l (.r (.r (.r (.r (.r .o)))))),
 .go (.load1 (.tmp (.l (.r (.r (.r (.r (.r .o)))))))) (.r (.r (.r (.r (.r (.r .o)))))),
 .go (.nilCheck (.tmp (.r (.l (.r (.r (.r (.r .o)))))))) (.l (.l (.l (.l (.l (.l (.l .o))))))),
 .go (.fieldAddr 17 (.tmp (.l (.l (.l (.l (.l (.l (.l .o))))))))) (.r (.l (.l (.l (.l (.l (.l .o))))))),
 .go (.indexAddr (some 10) 1 (.tmp (.r (.l (.l (.l (.l (.l (.l .o)))))))) (.tmp (.r (.r (.r (.r (.r (.r .o)))))))) (.l (.r (.l (.l (.l (.l (.l .o))))))),
 .go (.load1 (.tmp (.l (.r (.l (.l (.l (.l (.l .o))))))))) (.r (.r (.l (.l (.l (.l (.l .o))))))),
 .go (.fieldAddr 0 (.tmp (.l (.r (.l .o))))) (.l (.l (.r (.l (.l (.l (.l .o))))))),
 .go (.load1 (.tmp (.l (.l (.r (.l (.l (.l (.l .o))))))))) (.r (.l (.r (.l (.l (.l (.l .o))))))),
 .go (.buildSlice 3 1 [(.int .i64 (.ofNat 0))] [(0,1,(.tmp (.r (.l (.r (.l (.l (.l (.l .o)))))))))]) (.l (.r (.r (.l (.l (.l (.l .o))))))),
 .go (.call (.con (.func (.func 38) ⟨[]⟩ ⟨[]⟩)) [(.tmp (.l (.r (.r (.l (.l (.l (.l .o))))))))]) (.r (.r (.r (.l (.l (.l (.l .o))))))),
 .go (.bin .or 78 (.tmp (.r (.r (.l (.l (.l (.l (.l .o)))))))) (.tmp (.r (.r (.r (.l (.l (.l (.l .o))))))))) (.l (.l (.l (.r (.l (.l (.l .o))))))),
 .go (.nilCheck (.tmp (.r (.l (.r (.r (.r (.r .o)))))))) (.r (.l (.l (.r (.l (.l (.l .o))))))),
 .go (.fieldAddr 17 (.tmp (.r (.l (.l (.r (.l (.l (.l .o))))))))) (.l (.r (.l (.r (.l (.l (.l .o))))))),
 .go (.indexAddr (some 10) 1 (.tmp (.l (.r (.l (.r (.l (.l (.l .o)))))))) (.tmp (.r (.r (.r (.r (.r (.r .o)))))))) (.r (.r (.l (.r (.l (.l (.l .o))))))),
 .un (.store 1 (.tmp (.r (.r (.l (.r (.l (.l (.l .o)))))))) (.tmp (.l (.l (.l (.r (.l (.l (.l .o)))))))))] [.ok,.ok,.rd none (.load1 (.tmp (.l (.r (.r (.r (.r (.r .o)))))))) (some (.r (.r (.r (.r (.r (.r .o))))))) [10,11],.ok,.ok,.ok,.rd none (.load1 (.tmp (.l (.r (.l (.l (.l (.l (.l .o))))))))) (some (.r (.r (.l (.l (.l (.l (.l .o)))))))) [10,11],.ok,.ok,.ok,.ok,.ok,.ok,.ok,.ok,.ok])))) (.run [.go (.bin .add 3 (.tmp (.l (.r (.l (.r (.l (.r .o))))))) (.con (.int .i64 (.ofNat 1)))) (.l (.l (.r (.r (.l (.l (.l .o))))))),
 .go (.move (.tmp (.l (.l (.r (.r (.l (.l (.l .o))))))))) (.l (.r (.l (.r (.l (.r .o))))))])))))))))
noncomputable def f62 : FFunc := .mk c62 (.n U (.n U (.n U (.n U (.n U (.n U (.n U (.n U .e .e) .e) (.n U .e .e)) (.n U (.n U .e .e) (.n U .e .e))) (.n U (.n U (.n U (.n U .e .e) .e) (.n U .e .e)) (.n U (.n U .e .e) (.n U .e .e)))) (.n U (.n U (.n U (.n U (.n U .e .e) .e) (.n U .e .e)) (.n U (.n U .e .e) (.n U .e .e))) (.n U (.n U (.n U (.n U .e .e) .e) (.n U .e .e)) (.n U (.n U .e .e) (.n U .e .e))))) (.n U (.n U (.n U (.n U (.n U (.n U .e .e) .e) (.n U .e .e)) (.n U (.n U .e .e) (.n U .e .e))) (.n U (.n U (.n U (.n U .e .e) .e) (.n U .e .e)) (.n U (.n U .e .e) (.n U .e .e)))) (.n U (.n U (.n U (.n U (.n U .e .e) .e) (.n U .e .e)) (.n U (.n U .e .e) (.n U .e .e))) (.n U (.n U (.n U .e .e) (.n U .e .e)) (.n U (.n U .e .e) (.n U .e .e)))))) (.n U (.n U (.n U (.n U (.n U (.n U (.n U .e .e) .e) (.n U .e .e)) (.n U (.n U .e .e) (.n U .e .e))) (.n U (.n U (.n U (.n U .e .e) .e) (.n U .e .e)) (.n U (.n U .e .e) (.n U .e .e)))) (.n U (.n U (.n U (.n U (.n U .e .e) .e) (.n U .e .e)) (.n U (.n U .e .e) (.n U .e .e))) (.n U (.n U (.n U .e .e) (.n U .e .e)) (.n U (.n U .e .e) (.n U .e .e))))) (.n U (.n U (.n U (.n U (.n U (.n U .e .e) .e) (.n U .e .e)) (.n U (.n U .e .e) (.n U .e .e))) (.n U (.n U (.n U (.n U .e .e) .e) (.n U .e .e)) (.n U (.n U .e .e) (.n U .e .e)))) (.n U (.n U (.n U (.n U (.n U .e .e) .e) (.n U .e .e)) (.n U (.n U .e .e) (.n U .e .e))) (.n U (.n U (.n U .e .e) (.n U .e .e)) (.n U (.n U .e .e) (.n U .e .e))))))) [.o] []
theorem e62 : @compF Tryd.prog (glOne Tryd.prog 1) Tryd.f62 1 = f62 := by kernel_rfl
theorem o62 : okF Tryd.prog Tryd.f62 = true := by kernel_rfl
theorem g62 : Tryd.prog.funcs[(62 : Nat)]? = some Tryd.f62 := by kernel_rfl
noncomputable def c63 : FCode := (.seq (.run [.go (.box 57 (.tmp .o)) (.r .o),
 .go (.box 78 (.tmp (.l .o))) (.l (.l .o)),
 .go (.alloc 4 [(.bool false)]) (.r (.l .o))]) (.seq (.seq (.run [.go (.load1 (.tmp (.l (.l .o)))) (.r (.r .o)),
 .go (.call (.con (.func (.func 78) ⟨[]⟩ ⟨[]⟩)) [(.tmp (.r (.r .o)))]) (.l (.l (.l .o)))]) (.block 0 (.rangeFunc (.tmp (.l (.l (.l .o)))) [(.r (.l (.l .o)))] (rfA Tryd.f63 0) (rfB Tryd.f63 0) (.run [.go (.move (.tmp (.r (.l (.l .o))))) (.l (.r .o))]) (.block 1 (.seq (.draw 20 [.go (.load1 (.tmp (.l (.l .o)))) (.l (.r (.l .o))),
 .go (.load1 (.tmp (.r .o))) (.r (.r (.l .o))),
 .go (.move (.tmp (.l (.r .o)))) (.l (.l (.r .o))),
 .go (.nilCheck (.tmp (.r (.r (.l .o))))) (.r (.l (.r .o))),
 .go (.fieldAddr 7 (.tmp (.r (.l (.r .o))))) (.l (.r (.r .o))),
 .go (.indexAddr (some 10) 1 (.tmp (.l (.r (.r .o)))) (.tmp (.l (.l (.r .o))))) (.r (.r (.r .o))),
 .go (.load1 (.tmp (.r (.r (.r .o))))) (.l (.l (.l (.l .o)))),
 .go (.bin .andNot 78 (.tmp (.l (.r (.l .o)))) (.tmp (.l (.l (.l (.l .o)))))) (.r (.l (.l (.l .o)))),
 .go (.bin .neq 78 (.tmp (.r (.l (.l (.l .o))))) (.con (.int .i64 (.ofNat 0)))) (.l (.r (.l (.l .o)))),
 .go (.move (.tmp (.l (.r (.l (.l .o)))))) (.r (.r (.l (.l .o)))),
 .gd (.r (.r (.l (.l .o)))) false (.load1 (.tmp (.r .o))) (.l (.l (.r (.l .o)))),
 .gd (.r (.r (.l (.l .o)))) false (.move (.tmp (.l (.r .o)))) (.r (.l (.r (.l .o)))),
 .gd (.r (.r (.l (.l .o)))) false (.nilCheck (.tmp (.l (.l (.r (.l .o)))))) (.l (.r (.r (.l .o)))),
 .gd (.r (.r (.l (.l .o)))) false (.fieldAddr 17 (.tmp (.l (.r (.r (.l .o)))))) (.r (.r (.r (.l .o)))),
 .gd (.r (.r (.l (.l .o)))) false (.indexAddr (some 10) 1 (.tmp (.r (.r (.r (.l .o))))) (.tmp (.r (.l (.r (.l .o)))))) (.l (.l (.l (.r .o)))),
 .gd (.r (.r (.l (.l .o)))) false (.load1 (.tmp (.l (.l (.l (.r .o)))))) (.r (.l (.l (.r .o)))),
 .gd (.r (.r (.l (.l .o)))) false (.load1 (.tmp (.l (.l .o)))) (.l (.r (.l (.r .o)))),
 .gd (.r (.r (.l (.l .o)))) false (.bin .andNot 78 (.tmp (.r (.l (.l (.r .o))))) (.tmp (.l (.r (.l (.r .o)))))) (.r (.r (.l (.r .o)))),
 .gd (.r (.r (.l (.l .o)))) false (.bin .neq 78 (.tmp (.r (.r (.l (.r .o))))) (.con (.int .i64 (.ofNat 0)))) (.l (.l (.r (.r .o)))),
 .go (.pick (.tmp (.r (.r (.l (.l .o))))) (.con (.bool true)) (.tmp (.l (.l (.r (.r .o)))))) (.r (.l (.r (.r .o))))] [.ok,.ok,.ok,.ok,.ok,.ok,.ok,.ok,.ok,.ok,.ok,.ok,.ok,.ok,.ok,.ok,.ok,.ok,.ok,.ok]) (.cond (.tmp (.r (.l (.r (.r .o))))) (.seq (.run [.un (.store 1 (.tmp (.r (.l .o))) (.con (.bool false)))]) .ret) .skip)))))) (.seq (.run [.un (.store 1 (.tmp (.r (.l .o))) (.con (.bool true)))]) .ret)))
noncomputable def f63 : FFunc := .mk c63 (.n U (.n U (.n U (.n U (.n U .e .e) (.n U .e .e)) (.n U (.n U .e .e) (.n U .e .e))) (.n U (.n U (.n U .e .e) (.n U .e .e)) (.n U (.n U .e .e) .e))) (.n U (.n U (.n U (.n U .e .e) (.n U .e .e)) (.n U (.n U .e .e) (.n U .e .e))) (.n U (.n U (.n U .e .e) (.n U .e .e)) (.n U (.n U .e .e) .e)))) [.o,(.l .o)] [.one (.r (.l .o))]
theorem e63 : @compF Tryd.prog (glOne Tryd.prog 1) Tryd.f63 2 = f63 := by kernel_rfl
theorem o63 : okF Tryd.prog Tryd.f63 = true := by kernel_rfl
theorem g63 : Tryd.prog.funcs[(63 : Nat)]? = some Tryd.f63 := by kernel_rfl
noncomputable def c64 : FCode := (.seq (.run [.go (.box 57 (.tmp .o)) (.r .o),
 .go (.box 78 (.tmp (.l .o))) (.l (.l .o)),
 .go (.move (.con .nilFunc)) (.r (.l .o))]) (.seq (.run [.go (.makeFunc 79 [] [(.tmp (.l (.l .o))),(.tmp (.r .o))]) (.l (.r .o)),
 .go (.move (.tmp (.l (.r .o)))) (.r (.l .o))]) .ret))
noncomputable def f64 : FFunc := .mk c64 (.n U (.n U (.n U .e .e) (.n U .e .e)) (.n U (.n U .e .e) .e)) [.o,(.l .o)] [.tmp (.r (.l .o))]
theorem e64 : @compF Tryd.prog (glOne Tryd.prog 1) Tryd.f64 2 = f64 := by kernel_rfl
theorem o64 : okF Tryd.prog Tryd.f64 = true := by kernel_rfl
theorem g64 : Tryd.prog.funcs[(64 : Nat)]? = some Tryd.f64 := by kernel_rfl
noncomputable def c65 : FCode := (.seq (.run [.go (.move (.con (.int .i64 (.ofNat 0)))) (.r (.l .o))]) (.seq (.seq (.run [.go (.move (.tmp (.l .o))) (.l (.l (.l .o))),
 .go (.len 0 (.tmp (.l (.l (.l .o))))) (.r (.l (.l .o))),
 .go (.move (.con (.int .i64 (.ofNat 0)))) (.l (.r (.l .o)))]) (.block 0 (.loop (.seq (.run [.go (.bin .lss 3 (.tmp (.l (.r (.l .o)))) (.tmp (.r (.l (.l .o))))) (.r (.r (.l .o)))]) (.seq (.cond (.tmp (.r (.r (.l .o)))) .skip (.exit 0)) (.seq (.block 1 (.seq (.run [.go (.indexAddr none 1 (.tmp (.l (.l (.l .o)))) (.tmp (.l (.r (.l .o))))) (.l (.l (.r .o))),
 .go (.load1 (.tmp (.l (.l (.r .o))))) (.r (.l (.r .o))),
 .go (.move (.tmp (.r (.l (.r .o))))) (.r (.r .o))]) (.seq (.run [.go (.move (.tmp (.r (.r .o)))) (.l (.r (.r .o))),
 .go (.move (.tmp .o)) (.r (.r (.r .o))),
 .go (.bin .gtr 3 (.tmp (.l (.r (.r .o)))) (.tmp (.r (.r (.r .o))))) (.l (.l (.l (.l .o))))]) (.cond (.tmp (.l (.l (.l (.l .o))))) (.run [.go (.move (.tmp (.r (.r .o)))) (.r (.l (.l (.l .o)))),
 .go (.move (.tmp (.r (.l (.l (.l .o)))))) .o]) .skip)))) (.run [.go (.bin .add 3 (.tmp (.l (.r (.l .o)))) (.con (.int .i64 (.ofNat 1)))) (.l (.r (.l (.l .o)))),
 .go (.move (.tmp (.l (.r (.l (.l .o)))))) (.l (.r (.l .o)))]))))))) (.seq (.run [.go (.move (.tmp .o)) (.r (.r (.l (.l .o)))),
 .go (.move (.tmp (.r (.r (.l (.l .o)))))) (.r (.l .o))]) .ret)))
noncomputable def f65 : FFunc := .mk c65 (.n U (.n U (.n U (.n U (.n U .e .e) .e) (.n U .e .e)) (.n U (.n U (.n U .e .e) .e) (.n U .e .e))) (.n U (.n U (.n U (.n U .e .e) .e) (.n U .e .e)) (.n U (.n U (.n U .e .e) .e) (.n U .e .e)))) [.o,(.l .o)] [.tmp (.r (.l .o))]
theorem e65 : @compF Tryd.prog (glOne Tryd.prog 1) Tryd.f65 2 = f65 := by kernel_rfl
theorem o65 : okF Tryd.prog Tryd.f65 = true := by kernel_rfl
theorem g65 : Tryd.prog.funcs[(65 : Nat)]? = some Tryd.f65 := by kernel_rfl
noncomputable def c66 : FCode := (.seq (.run [.go (.box 57 (.tmp .o)) (.l (.l .o)),
 .go (.box 78 (.tmp (.l .o))) (.r (.l .o)),
 .go (.box 3 (.tmp (.r .o))) (.l (.r .o)),
 .go (.alloc 78 [(.int .i64 (.ofNat 0))]) (.r (.r .o))]) (.seq (.seq (.run [.go (.load1 (.tmp (.l (.l .o)))) (.l (.r (.l .o))),
 .go (.load1 (.tmp (.r (.l .o)))) (.r (.r (.l .o))),
 .go (.call (.con (.func (.func 64) ⟨[]⟩ ⟨[]⟩)) [(.tmp (.l (.r (.l .o)))),(.tmp (.r (.r (.l .o))))]) (.l (.l (.r .o)))]) (.block 0 (.rangeFunc (.tmp (.l (.l (.r .o)))) [(.r (.l (.r .o)))] (rfA Tryd.f66 0) (rfB Tryd.f66 0) (.run [.go (.move (.tmp (.r (.l (.r .o))))) (.l (.l (.l .o)))]) (.block 1 (.seq (.run [.go (.load1 (.tmp (.r (.l .o)))) (.l (.r (.r .o))),
 .go (.move (.tmp (.l (.l (.l .o))))) (.r (.r (.r .o))),
 .go (.bin .andNot 78 (.tmp (.l (.r (.r .o)))) (.tmp (.r (.r (.r .o))))) (.l (.l (.l (.l .o)))),
 .go (.move (.tmp (.l (.l (.l (.l .o)))))) (.r (.l (.l .o)))]) (.seq (.draw 18 [.go (.load1 (.tmp (.l (.l .o)))) (.r (.l (.l (.l .o)))),
 .go (.move (.tmp (.r (.l (.l .o))))) (.l (.r (.l (.l .o)))),
 .go (.nilCheck (.tmp (.r (.l (.l (.l .o)))))) (.r (.r (.l (.l .o)))),
 .go (.fieldAddr 1051 (.tmp (.r (.r (.l (.l .o)))))) (.l (.l (.r (.l .o)))),
 .go (.indexAddr (some 1024) 1 (.tmp (.l (.l (.r (.l .o))))) (.tmp (.l (.r (.l (.l .o)))))) (.r (.l (.r (.l .o)))),
 .go (.load1 (.tmp (.r (.l (.r (.l .o)))))) (.l (.r (.r (.l .o)))),
 .go (.load1 (.tmp (.l (.r .o)))) (.r (.r (.r (.l .o)))),
 .go (.bin .leq 3 (.tmp (.l (.r (.r (.l .o))))) (.tmp (.r (.r (.r (.l .o)))))) (.l (.l (.l (.r .o)))),
 .go (.move (.tmp (.l (.l (.l (.r .o)))))) (.r (.l (.l (.r .o)))),
 .gd (.r (.l (.l (.r .o)))) true (.load1 (.tmp (.l (.r .o)))) (.l (.r (.l (.r .o)))),
 .gd (.r (.l (.l (.r .o)))) true (.load1 (.tmp (.l (.l .o)))) (.r (.r (.l (.r .o)))),
 .gd (.r (.l (.l (.r .o)))) true (.move (.tmp (.r (.l (.l .o))))) (.l (.l (.r (.r .o)))),
 .gd (.r (.l (.l (.r .o)))) true (.nilCheck (.tmp (.r (.r (.l (.r .o)))))) (.r (.l (.r (.r .o)))),
 .gd (.r (.l (.l (.r .o)))) true (.fieldAddr 2075 (.tmp (.r (.l (.r (.r .o)))))) (.l (.r (.r (.r .o)))),
 .gd (.r (.l (.l (.r .o)))) true (.indexAddr (some 1024) 1 (.tmp (.l (.r (.r (.r .o))))) (.tmp (.l (.l (.r (.r .o)))))) (.r (.r (.r (.r .o)))),
 .gd (.r (.l (.l (.r .o)))) true (.load1 (.tmp (.r (.r (.r (.r .o)))))) (.l (.l (.l (.l (.l .o))))),
 .gd (.r (.l (.l (.r .o)))) true (.bin .leq 3 (.tmp (.l (.r (.l (.r .o))))) (.tmp (.l (.l (.l (.l (.l .o))))))) (.r (.l (.l (.l (.l .o))))),
 .go (.pick (.tmp (.r (.l (.l (.r .o))))) (.tmp (.r (.l (.l (.l (.l .o)))))) (.con (.bool false))) (.l (.r (.l (.l (.l .o)))))] [.ok,.ok,.ok,.ok,.ok,.ok,.ok,.ok,.ok,.ok,.ok,.ok,.ok,.ok,.ok,.ok,.ok,.ok]) (.cond (.tmp (.l (.r (.l (.l (.l .o)))))) (.seq (.run [.go (.move (.tmp (.l (.l (.l .o))))) (.r (.r (.l (.l (.l .o))))),
 .un (.store 1 (.tmp (.r (.r .o))) (.tmp (.r (.r (.l (.l (.l .o)))))))]) .ret) .skip))))))) (.seq (.run [.go (.load1 (.tmp (.r (.l .o)))) (.l (.l (.r (.l (.l .o))))),
 .un (.store 1 (.tmp (.r (.r .o))) (.tmp (.l (.l (.r (.l (.l .o)))))))]) .ret)))
noncomputable def f66 : FFunc := .mk c66 (.n U (.n U (.n U (.n U (.n U (.n U .e .e) .e) (.n U .e .e)) (.n U (.n U (.n U .e .e) .e) (.n U .e .e))) (.n U (.n U (.n U (.n U .e .e) .e) (.n U .e .e)) (.n U (.n U .e .e) (.n U .e .e)))) (.n U (.n U (.n U (.n U (.n U .e .e) .e) (.n U .e .e)) (.n U (.n U .e .e) (.n U .e .e))) (.n U (.n U (.n U (.n U .e .e) .e) (.n U .e .e)) (.n U (.n U .e .e) (.n U .e .e))))) [.o,(.l .o),(.r .o)] [.one (.r (.r .o))]
theorem e66 : @compF Tryd.prog (glOne Tryd.prog 1) Tryd.f66 3 = f66 := by kernel_rfl
theorem o66 : okF Tryd.prog Tryd.f66 = true := by kernel_rfl
theorem g66 : Tryd.prog.funcs[(66 : Nat)]? = some Tryd.f66 := by kernel_rfl
noncomputable def c67 : FCode := (.seq (.run [.go (.move (.con (.slice none 0 0))) (.r .o)]) (.seq (.run [.go (.move (.tmp .o)) (.l (.l .o)),
 .go (.call (.con (.func (.func 78) ⟨[]⟩ ⟨[]⟩)) [(.tmp (.l (.l .o)))]) (.r (.l .o)),
 .go (.call (.con (.func (.func 82) ⟨[]⟩ ⟨[]⟩)) [(.tmp (.r (.l .o)))]) (.l (.r .o)),
 .go (.move (.tmp (.l (.r .o)))) (.r .o)]) .ret))
noncomputable def f67 : FFunc := .mk c67 (.n U (.n U (.n U .e .e) (.n U .e .e)) (.n U (.n U .e .e) .e)) [.o] [.tmp (.r .o)]
theorem e67 : @compF Tryd.prog (glOne Tryd.prog 1) Tryd.f67 1 = f67 := by kernel_rfl
theorem o67 : okF Tryd.prog Tryd.f67 = true := by kernel_rfl
theorem g67 : Tryd.prog.funcs[(67 : Nat)]? = some Tryd.f67 := by kernel_rfl
noncomputable def c68 : FCode := (.seq (.run [.go (.move (.con (.bool false))) (.r (.l .o))]) (.seq (.seq (.run [.go (.move (.tmp .o)) (.l (.l (.l .o))),
 .go (.len 0 (.tmp (.l (.l (.l .o))))) (.r (.l (.l .o))),
 .go (.move (.con (.int .i64 (.ofNat 0)))) (.l (.r (.l .o)))]) (.block 0 (.loop (.seq (.run [.go (.bin .lss 3 (.tmp (.l (.r (.l .o)))) (.tmp (.r (.l (.l .o))))) (.r (.r (.l .o)))]) (.seq (.cond (.tmp (.r (.r (.l .o)))) .skip (.exit 0)) (.seq (.block 1 (.seq (.run [.go (.indexAddr none 5 (.tmp (.l (.l (.l .o)))) (.tmp (.l (.r (.l .o))))) (.l (.l (.r .o))),
 .go (.loadN 5 (.tmp (.l (.l (.r .o))))) (.r (.l (.r .o))),
 .go (.alloc 51 [(.int .i64 (.ofNat 0)),(.int .i64 (.ofNat 0)),(.int .i64 (.ofNat 0)),(.int .i64 (.ofNat 0)),(.int .i64 (.ofNat 0))]) (.r (.r .o)),
 .un (.store 5 (.tmp (.r (.r .o))) (.tmp (.r (.l (.r .o)))))]) (.seq (.run [.go (.move (.tmp (.l .o))) (.l (.r (.r .o))),
 .go (.loadN 5 (.tmp (.r (.r .o)))) (.r (.r (.r .o))),
 .go (.call (.tmp (.l (.r (.r .o)))) [(.tmp (.r (.r (.r .o))))]) (.l (.l (.l (.l .o)))),
 .go (.un .not (.tmp (.l (.l (.l (.l .o)))))) (.r (.l (.l (.l .o))))]) (.cond (.tmp (.r (.l (.l (.l .o))))) (.seq (.run [.go (.move (.con (.bool false))) (.r (.l .o))]) .ret) .skip)))) (.run [.go (.bin .add 3 (.tmp (.l (.r (.l .o)))) (.con (.int .i64 (.ofNat 1)))) (.l (.r (.l (.l .o)))),
 .go (.move (.tmp (.l (.r (.l (.l .o)))))) (.l (.r (.l .o)))]))))))) (.seq (.run [.go (.move (.con (.bool true))) (.r (.l .o))]) .ret)))
noncomputable def f68 : FFunc := .mk c68 (.n U (.n U (.n U (.n U (.n U .e .e) .e) (.n U .e .e)) (.n U (.n U (.n U .e .e) .e) (.n U .e .e))) (.n U (.n U (.n U (.n U .e .e) .e) (.n U .e .e)) (.n U (.n U .e .e) (.n U .e .e)))) [.o,(.l .o)] [.tmp (.r (.l .o))]
theorem e68 : @compF Tryd.prog (glOne Tryd.prog 1) Tryd.f68 2 = f68 := by kernel_rfl
theorem o68 : okF Tryd.prog Tryd.f68 = true := by kernel_rfl
theorem g68 : Tryd.prog.funcs[(68 : Nat)]? = some Tryd.f68 := by kernel_rfl
noncomputable def c69 : FCode := (.seq (.run [.go (.box 30 (.tmp .o)) (.r .o),
 .go (.box 51 (.tmp (.l .o))) (.l (.l .o)),
 .go (.move (.con (.bool false))) (.r (.l .o))]) (.seq (.run [.go (.build [(.int .i64 (.ofNat 0)),(.int .i64 (.ofNat 0))] [(0,1,(.con (.int .i64 (.ofNat 0)))),(1,1,(.con (.int .i64 (.ofNat 9))))]) (.r (.l (.l .o))),
 .go (.build [(.int .i64 (.ofNat 0)),(.int .i64 (.ofNat 0))] [(0,1,(.con (.int .i64 (.ofNat 0)))),(1,1,(.con (.int .i64 (.ofNat 1))))]) (.l (.r (.l .o))),
 .go (.build [(.int .i64 (.ofNat 0)),(.int .i64 (.ofNat 0))] [(0,1,(.con (.int .i64 (.ofNat 0)))),(1,1,(.con (.int .i64 (.ofNat 99))))]) (.r (.r (.l .o))),
 .go (.alloc 23 [(.int .i64 (.ofNat 0)),(.int .i64 (.ofNat 0))]) (.l (.r .o)),
 .go (.alloc 23 [(.int .i64 (.ofNat 0)),(.int .i64 (.ofNat 0))]) (.r (.r .o)),
 .go (.alloc 23 [(.int .i64 (.ofNat 0)),(.int .i64 (.ofNat 0))]) (.l (.l (.l .o))),
 .un (.store 2 (.tmp (.l (.r .o))) (.tmp (.r (.l (.l .o))))),
 .un (.store 2 (.tmp (.r (.r .o))) (.tmp (.l (.r (.l .o))))),
 .un (.store 2 (.tmp (.l (.l (.l .o)))) (.tmp (.r (.r (.l .o)))))]) (.seq (.run [.go (.loadN 2 (.tmp (.l (.r .o)))) (.l (.l (.r .o))),
 .go (.fieldAddr 0 (.tmp (.l (.l .o)))) (.r (.l (.r .o))),
 .go (.load1 (.tmp (.r (.l (.r .o))))) (.l (.r (.r .o))),
 .go (.call (.con (.func (.func 41) ⟨[]⟩ ⟨[]⟩)) [(.tmp (.l (.l (.r .o)))),(.tmp (.l (.r (.r .o))))]) (.r (.r (.r .o))),
 .go (.move (.tmp (.r (.r (.r .o))))) (.l (.l (.l (.l .o)))),
 .gd (.l (.l (.l (.l .o)))) true (.loadN 2 (.tmp (.r (.r .o)))) (.r (.l (.l (.l .o)))),
 .gd (.l (.l (.l (.l .o)))) true (.fieldAddr 1 (.tmp (.l (.l .o)))) (.l (.r (.l (.l .o)))),
 .gd (.l (.l (.l (.l .o)))) true (.load1 (.tmp (.l (.r (.l (.l .o)))))) (.r (.r (.l (.l .o)))),
 .gd (.l (.l (.l (.l .o)))) true (.call (.con (.func (.func 41) ⟨[]⟩ ⟨[]⟩)) [(.tmp (.r (.l (.l (.l .o))))),(.tmp (.r (.r (.l (.l .o)))))]) (.l (.l (.r (.l .o)))),
 .go (.pick (.tmp (.l (.l (.l (.l .o))))) (.tmp (.l (.l (.r (.l .o))))) (.con (.bool false))) (.r (.l (.r (.l .o)))),
 .go (.move (.tmp (.r (.l (.r (.l .o)))))) (.l (.r (.r (.l .o)))),
 .gd (.l (.r (.r (.l .o)))) true (.loadN 2 (.tmp (.l (.l (.l .o))))) (.r (.r (.r (.l .o)))),
 .gd (.l (.r (.r (.l .o)))) true (.fieldAddr 2 (.tmp (.l (.l .o)))) (.l (.l (.l (.r .o)))),
 .gd (.l (.r (.r (.l .o)))) true (.load1 (.tmp (.l (.l (.l (.r .o)))))) (.r (.l (.l (.r .o)))),
 .gd (.l (.r (.r (.l .o)))) true (.call (.con (.func (.func 41) ⟨[]⟩ ⟨[]⟩)) [(.tmp (.r (.r (.r (.l .o))))),(.tmp (.r (.l (.l (.r .o)))))]) (.l (.r (.l (.r .o)))),
 .go (.pick (.tmp (.l (.r (.r (.l .o))))) (.tmp (.l (.r (.l (.r .o))))) (.con (.bool false))) (.r (.r (.l (.r .o)))),
 .go (.move (.tmp (.r (.r (.l (.r .o)))))) (.l (.l (.r (.r .o)))),
 .gd (.l (.l (.r (.r .o)))) true (.fieldAddr 3 (.tmp (.l (.l .o)))) (.r (.l (.r (.r .o)))),
 .gd (.l (.l (.r (.r .o)))) true (.loadN 2 (.tmp (.r (.l (.r (.r .o)))))) (.l (.r (.r (.r .o)))),
 .gd (.l (.l (.r (.r .o)))) true (.call (.con (.func (.func 72) ⟨[]⟩ ⟨[]⟩)) [(.tmp (.l (.r (.r (.r .o))))),(.con (.int .i64 (.ofNat 120)))]) (.r (.r (.r (.r .o)))),
 .go (.pick (.tmp (.l (.l (.r (.r .o))))) (.tmp (.r (.r (.r (.r .o))))) (.con (.bool false))) (.l (.l (.l (.l (.l .o))))),
 .go (.move (.tmp (.l (.l (.l (.l (.l .o))))))) (.r (.l .o))]) .ret)))
noncomputable def f69 : FFunc := .mk c69 (.n U (.n U (.n U (.n U (.n U (.n U .e .e) .e) (.n U .e .e)) (.n U (.n U .e .e) (.n U .e .e))) (.n U (.n U (.n U .e .e) (.n U .e .e)) (.n U (.n U .e .e) (.n U .e .e)))) (.n U (.n U (.n U (.n U .e .e) (.n U .e .e)) (.n U (.n U .e .e) (.n U .e .e))) (.n U (.n U (.n U .e .e) (.n U .e .e)) (.n U (.n U .e .e) (.n U .e .e))))) [.o,(.l .o)] [.tmp (.r (.l .o))]
theorem e69 : @compF Tryd.prog (glOne Tryd.prog 1) Tryd.f69 2 = f69 := by kernel_rfl
theorem o69 : okF Tryd.prog Tryd.f69 = true := by kernel_rfl
theorem g69 : Tryd.prog.funcs[(69 : Nat)]? = some Tryd.f69 := by kernel_rfl
noncomputable def c70 : FCode := (.seq (.run [.go (.move (.con (.bool false))) (.r (.l .o))]) (.seq (.seq (.run [.go (.move (.tmp .o)) (.l (.l (.l .o))),
 .go (.len 0 (.tmp (.l (.l (.l .o))))) (.r (.l (.l .o))),
 .go (.move (.con (.int .i64 (.ofNat 0)))) (.l (.r (.l .o)))]) (.block 0 (.loop (.seq (.run [.go (.bin .lss 3 (.tmp (.l (.r (.l .o)))) (.tmp (.r (.l (.l .o))))) (.r (.r (.l .o)))]) (.seq (.cond (.tmp (.r (.r (.l .o)))) .skip (.exit 0)) (.seq (.block 1 (.seq (.run [.go (.indexAddr none 2 (.tmp (.l (.l (.l .o)))) (.tmp (.l (.r (.l .o))))) (.l (.l (.r .o))),
 .go (.loadN 2 (.tmp (.l (.l (.r .o))))) (.r (.l (.r .o))),
 .go (.alloc 49 [(.int .i64 (.ofNat 0)),(.int .i64 (.ofNat 0))]) (.r (.r .o)),
 .un (.store 2 (.tmp (.r (.r .o))) (.tmp (.r (.l (.r .o)))))]) (.seq (.run [.go (.move (.tmp (.l .o))) (.l (.r (.r .o))),
 .go (.loadN 2 (.tmp (.r (.r .o)))) (.r (.r (.r .o))),
 .go (.call (.tmp (.l (.r (.r .o)))) [(.tmp (.r (.r (.r .o))))]) (.l (.l (.l (.l .o)))),
 .go (.un .not (.tmp (.l (.l (.l (.l .o)))))) (.r (.l (.l (.l .o))))]) (.cond (.tmp (.r (.l (.l (.l .o))))) (.seq (.run [.go (.move (.con (.bool false))) (.r (.l .o))]) .ret) .skip)))) (.run [.go (.bin .add 3 (.tmp (.l (.r (.l .o)))) (.con (.int .i64 (.ofNat 1)))) (.l (.r (.l (.l .o)))),
 .go (.move (.tmp (.l (.r (.l (.l .o)))))) (.l (.r (.l .o)))]))))))) (.seq (.run [.go (.move (.con (.bool true))) (.r (.l .o))]) .ret)))
noncomputable def f70 : FFunc := .mk c70 (.n U (.n U (.n U (.n U (.n U .e .e) .e) (.n U .e .e)) (.n U (.n U (.n U .e .e) .e) (.n U .e .e))) (.n U (.n U (.n U (.n U .e .e) .e) (.n U .e .e)) (.n U (.n U .e .e) (.n U .e .e)))) [.o,(.l .o)] [.tmp (.r (.l .o))]
theorem e70 : @compF Tryd.prog (glOne Tryd.prog 1) Tryd.f70 2 = f70 := by kernel_rfl
theorem o70 : okF Tryd.prog Tryd.f70 = true := by kernel_rfl
theorem g70 : Tryd.prog.funcs[(70 : Nat)]? = some Tryd.f70 := by kernel_rfl
noncomputable def c71 : FCode := (.seq (.run [.go (.box 30 (.tmp .o)) (.r .o),
 .go (.box 49 (.tmp (.l .o))) (.l (.l .o)),
 .go (.move (.con (.bool false))) (.r (.l .o))]) (.seq (.run [.go (.loadN 7 (.tmp (.r .o))) (.l (.r .o)),
 .go (.fieldAddr 0 (.tmp (.l (.l .o)))) (.r (.r .o)),
 .go (.load1 (.tmp (.r (.r .o)))) (.l (.l (.l .o))),
 .go (.call (.con (.func (.func 23) ⟨[]⟩ ⟨[]⟩)) [(.tmp (.l (.r .o))),(.tmp (.l (.l (.l .o))))]) (.r (.l (.l .o))),
 .go (.move (.tmp (.r (.l (.l .o))))) (.l (.r (.l .o))),
 .gd (.l (.r (.l .o))) true (.loadN 7 (.tmp (.r .o))) (.r (.r (.l .o))),
 .gd (.l (.r (.l .o))) true (.fieldAddr 1 (.tmp (.l (.l .o)))) (.l (.l (.r .o))),
 .gd (.l (.r (.l .o))) true (.load1 (.tmp (.l (.l (.r .o))))) (.r (.l (.r .o))),
 .gd (.l (.r (.l .o))) true (.call (.con (.func (.func 23) ⟨[]⟩ ⟨[]⟩)) [(.tmp (.r (.r (.l .o)))),(.tmp (.r (.l (.r .o))))]) (.l (.r (.r .o))),
 .go (.pick (.tmp (.l (.r (.l .o)))) (.tmp (.l (.r (.r .o)))) (.con (.bool false))) (.r (.r (.r .o))),
 .go (.move (.tmp (.r (.r (.r .o))))) (.l (.l (.l (.l .o)))),
 .gd (.l (.l (.l (.l .o)))) true (.fieldAddr 0 (.tmp (.l (.l .o)))) (.r (.l (.l (.l .o)))),
 .gd (.l (.l (.l (.l .o)))) true (.load1 (.tmp (.r (.l (.l (.l .o)))))) (.l (.r (.l (.l .o)))),
 .gd (.l (.l (.l (.l .o)))) true (.fieldAddr 1 (.tmp (.l (.l .o)))) (.r (.r (.l (.l .o)))),
 .gd (.l (.l (.l (.l .o)))) true (.load1 (.tmp (.r (.r (.l (.l .o)))))) (.l (.l (.r (.l .o)))),
 .gd (.l (.l (.l (.l .o)))) true (.bin .neq 3 (.tmp (.l (.r (.l (.l .o))))) (.tmp (.l (.l (.r (.l .o)))))) (.r (.l (.r (.l .o)))),
 .go (.pick (.tmp (.l (.l (.l (.l .o))))) (.tmp (.r (.l (.r (.l .o))))) (.con (.bool false))) (.l (.r (.r (.l .o)))),
 .go (.move (.tmp (.l (.r (.r (.l .o)))))) (.r (.l .o))]) .ret))
noncomputable def f71 : FFunc := .mk c71 (.n U (.n U (.n U (.n U (.n U .e .e) .e) (.n U (.n U .e .e) .e)) (.n U (.n U (.n U .e .e) .e) (.n U (.n U .e .e) .e))) (.n U (.n U (.n U (.n U .e .e) .e) (.n U (.n U .e .e) .e)) (.n U (.n U (.n U .e .e) .e) (.n U .e .e)))) [.o,(.l .o)] [.tmp (.r (.l .o))]
theorem e71 : @compF Tryd.prog (glOne Tryd.prog 1) Tryd.f71 2 = f71 := by kernel_rfl
theorem o71 : okF Tryd.prog Tryd.f71 = true := by kernel_rfl
theorem g71 : Tryd.prog.funcs[(71 : Nat)]? = some Tryd.f71 := by kernel_rfl
noncomputable def c72 : FCode := (.seq (.run [.go (.box 23 (.tmp .o)) (.r .o),
 .go (.move (.con (.bool false))) (.r (.l .o))]) (.seq (.run [.go (.fieldAddr 0 (.tmp (.r .o))) (.l (.r .o)),
 .go (.load1 (.tmp (.l (.r .o)))) (.r (.r .o)),
 .go (.bin .leq 3 (.con (.int .i64 (.ofNat 0))) (.tmp (.r (.r .o)))) (.l (.l (.l .o))),
 .go (.move (.tmp (.l (.l (.l .o))))) (.r (.l (.l .o))),
 .gd (.r (.l (.l .o))) true (.loadN 2 (.tmp (.r .o))) (.l (.r (.l .o))),
 .gd (.r (.l (.l .o))) true (.call (.con (.func (.func 52) ⟨[]⟩ ⟨[]⟩)) [(.tmp (.l (.r (.l .o))))]) (.r (.r (.l .o))),
 .gd (.r (.l (.l .o))) true (.un .not (.tmp (.r (.r (.l .o))))) (.l (.l (.r .o))),
 .go (.pick (.tmp (.r (.l (.l .o)))) (.tmp (.l (.l (.r .o)))) (.con (.bool false))) (.r (.l (.r .o))),
 .go (.move (.tmp (.r (.l (.r .o))))) (.l (.r (.r .o))),
 .gd (.l (.r (.r .o))) true (.fieldAddr 1 (.tmp (.r .o))) (.r (.r (.r .o))),
 .gd (.l (.r (.r .o))) true (.load1 (.tmp (.r (.r (.r .o))))) (.l (.l (.l (.l .o)))),
 .gd (.l (.r (.r .o))) true (.move (.tmp (.l .o))) (.r (.l (.l (.l .o)))),
 .gd (.l (.r (.r .o))) true (.bin .leq 3 (.tmp (.l (.l (.l (.l .o))))) (.tmp (.r (.l (.l (.l .o)))))) (.l (.r (.l (.l .o)))),
 .go (.pick (.tmp (.l (.r (.r .o)))) (.tmp (.l (.r (.l (.l .o))))) (.con (.bool false))) (.r (.r (.l (.l .o)))),
 .go (.move (.tmp (.r (.r (.l (.l .o)))))) (.r (.l .o))]) .ret))
noncomputable def f72 : FFunc := .mk c72 (.n U (.n U (.n U (.n U (.n U .e .e) .e) (.n U .e .e)) (.n U (.n U (.n U .e .e) .e) (.n U .e .e))) (.n U (.n U (.n U (.n U .e .e) .e) (.n U .e .e)) (.n U (.n U (.n U .e .e) .e) (.n U .e .e)))) [.o,(.l .o)] [.tmp (.r (.l .o))]
theorem e72 : @compF Tryd.prog (glOne Tryd.prog 1) Tryd.f72 2 = f72 := by kernel_rfl
theorem o72 : okF Tryd.prog Tryd.f72 = true := by kernel_rfl
theorem g72 : Tryd.prog.funcs[(72 : Nat)]? = some Tryd.f72 := by kernel_rfl
noncomputable def c73 : FCode := (.seq (.run [.go (.box 41 (.tmp .o)) (.r .o),
 .go (.move (.con (.bool false))) (.r (.l .o))]) (.seq (.run [.go (.move (.tmp (.l .o))) (.l (.r .o)),
 .go (.len 0 (.tmp (.l (.r .o)))) (.r (.r .o)),
 .go (.loadN 2 (.tmp (.r .o))) (.l (.l (.l .o))),
 .go (.call (.con (.func (.func 29) ⟨[]⟩ ⟨[]⟩)) [(.tmp (.l (.l (.l .o))))]) (.r (.l (.l .o))),
 .go (.bin .eql 3 (.tmp (.r (.r .o))) (.tmp (.r (.l (.l .o))))) (.l (.r (.l .o))),
 .go (.move (.tmp (.l (.r (.l .o))))) (.r (.r (.l .o))),
 .gd (.r (.r (.l .o))) true (.move (.tmp (.l .o))) (.l (.l (.r .o))),
 .gd (.r (.r (.l .o))) true (.call (.con (.func (.func 42) ⟨[]⟩ ⟨[]⟩)) [(.tmp (.l (.l (.r .o)))),(.con (.func (.func 43) ⟨[]⟩ ⟨[]⟩))]) (.r (.l (.r .o))),
 .go (.pick (.tmp (.r (.r (.l .o)))) (.tmp (.r (.l (.r .o)))) (.con (.bool false))) (.l (.r (.r .o))),
 .go (.move (.tmp (.l (.r (.r .o))))) (.r (.l .o))]) .ret))
noncomputable def f73 : FFunc := .mk c73 (.n U (.n U (.n U (.n U .e .e) (.n U .e .e)) (.n U (.n U .e .e) (.n U .e .e))) (.n U (.n U (.n U .e .e) (.n U .e .e)) (.n U (.n U .e .e) .e))) [.o,(.l .o)] [.tmp (.r (.l .o))]
theorem e73 : @compF Tryd.prog (glOne Tryd.prog 1) Tryd.f73 2 = f73 := by kernel_rfl
theorem o73 : okF Tryd.prog Tryd.f73 = true := by kernel_rfl
theorem g73 : Tryd.prog.funcs[(73 : Nat)]? = some Tryd.f73 := by kernel_rfl
noncomputable def c74 : FCode := (.seq (.run [.go (.move (.con (.bool false))) (.r .o)]) (.seq (.run [.go (.move (.tmp .o)) (.l (.l .o)),
 .go (.bin .leq 3 (.con (.int .i64 (.ofNat 0))) (.tmp (.l (.l .o)))) (.r (.l .o)),
 .go (.move (.tmp (.r (.l .o)))) (.l (.r .o)),
 .gd (.l (.r .o)) true (.move (.tmp .o)) (.r (.r .o)),
 .gd (.l (.r .o)) true (.bin .leq 3 (.tmp (.r (.r .o))) (.con (.int .i64 (.ofNat 10)))) (.l (.l (.l .o))),
 .go (.pick (.tmp (.l (.r .o))) (.tmp (.l (.l (.l .o)))) (.con (.bool false))) (.r (.l (.l .o))),
 .go (.move (.tmp (.r (.l (.l .o))))) (.r .o)]) .ret))
noncomputable def f74 : FFunc := .mk c74 (.n U (.n U (.n U (.n U .e .e) .e) (.n U .e .e)) (.n U (.n U (.n U .e .e) .e) (.n U .e .e))) [.o] [.tmp (.r .o)]
theorem e74 : @compF Tryd.prog (glOne Tryd.prog 1) Tryd.f74 1 = f74 := by kernel_rfl
theorem o74 : okF Tryd.prog Tryd.f74 = true := by kernel_rfl
theorem g74 : Tryd.prog.funcs[(74 : Nat)]? = some Tryd.f74 := by kernel_rfl
noncomputable def c75 : FCode := (.seq (.run [.go (.move (.con (.slice none 0 0))) (.r (.l .o))]) (.seq (.seq (.run [.go (.move (.tmp (.l .o))) (.l (.r .o)),
 .go (.bin .lss 3 (.tmp (.l (.r .o))) (.con (.int .i64 (.ofNat 0)))) (.r (.r .o))]) (.cond (.tmp (.r (.r .o))) (.run [.go (.call (.con (.chan none)) []) (.l (.l (.l .o))),
 .un (.call (.con (.chan none)) [])]) .skip)) (.seq (.seq (.run [.go (.move (.tmp (.l .o))) (.r (.l (.l .o))),
 .go (.move (.tmp .o)) (.l (.r (.l .o))),
 .go (.cap (.tmp (.l (.r (.l .o))))) (.r (.r (.l .o))),
 .go (.move (.tmp .o)) (.l (.l (.r .o))),
 .go (.len 0 (.tmp (.l (.l (.r .o))))) (.r (.l (.r .o))),
 .go (.bin .sub 3 (.tmp (.r (.r (.l .o)))) (.tmp (.r (.l (.r .o))))) (.l (.r (.r .o))),
 .go (.bin .sub 3 (.tmp (.r (.l (.l .o)))) (.tmp (.l (.r (.r .o))))) (.r (.r (.r .o))),
 .go (.move (.tmp (.r (.r (.r .o))))) (.l .o)]) (.seq (.run [.go (.move (.tmp (.l .o))) (.l (.l (.l (.l .o)))),
 .go (.bin .gtr 3 (.tmp (.l (.l (.l (.l .o))))) (.con (.int .i64 (.ofNat 0)))) (.r (.l (.l (.l .o))))]) (.cond (.tmp (.r (.l (.l (.l .o))))) (.run [.go (.move (.tmp .o)) (.l (.r (.l (.l .o)))),
 .go (.move (.tmp .o)) (.r (.r (.l (.l .o)))),
 .go (.cap (.tmp (.r (.r (.l (.l .o)))))) (.l (.l (.r (.l .o)))),
 .go (.slice 49 2 (.tmp (.l (.r (.l (.l .o))))) none (some (.tmp (.l (.l (.r (.l .o))))))) (.r (.l (.r (.l .o)))),
 .go (.move (.tmp (.l .o))) (.l (.r (.r (.l .o)))),
 .go (.appendMk 49 2 16 [(.int .i64 (.ofNat 0)),(.int .i64 (.ofNat 0))] (.tmp (.r (.l (.r (.l .o))))) (.tmp (.l (.r (.r (.l .o)))))) (.r (.r (.r (.l .o)))),
 .go (.move (.tmp .o)) (.l (.l (.l (.r .o)))),
 .go (.len 0 (.tmp (.l (.l (.l (.r .o)))))) (.r (.l (.l (.r .o)))),
 .go (.slice 49 2 (.tmp (.r (.r (.r (.l .o))))) none (some (.tmp (.r (.l (.l (.r .o))))))) (.l (.r (.l (.r .o)))),
 .go (.move (.tmp (.l (.r (.l (.r .o)))))) .o]) .skip))) (.seq (.run [.go (.move (.tmp .o)) (.r (.r (.l (.r .o)))),
 .go (.move (.tmp (.r (.r (.l (.r .o)))))) (.r (.l .o))]) .ret))))
noncomputable def f75 : FFunc := .mk c75 (.n U (.n U (.n U (.n U (.n U .e .e) (.n U .e .e)) (.n U (.n U .e .e) .e)) (.n U (.n U (.n U .e .e) (.n U .e .e)) (.n U (.n U .e .e) .e))) (.n U (.n U (.n U (.n U .e .e) (.n U .e .e)) (.n U (.n U .e .e) .e)) (.n U (.n U (.n U .e .e) (.n U .e .e)) (.n U (.n U .e .e) .e)))) [.o,(.l .o)] [.tmp (.r (.l .o))]
theorem e75 : @compF Tryd.prog (glOne Tryd.prog 1) Tryd.f75 2 = f75 := by kernel_rfl
theorem o75 : okF Tryd.prog Tryd.f75 = true := by kernel_rfl
theorem g75 : Tryd.prog.funcs[(75 : Nat)]? = some Tryd.f75 := by kernel_rfl
noncomputable def c76 : FCode := (.seq (.run [.go (.move (.con (.int .i64 (.ofNat 0)))) (.r (.l .o))]) (.seq (.seq (.run [.go (.move (.tmp .o)) (.r (.r .o)),
 .go (.len 0 (.tmp (.r (.r .o)))) (.l (.l (.l .o))),
 .go (.move (.con (.int .i64 (.ofNat 0)))) (.r (.l (.l .o)))]) (.block 0 (.loop (.seq (.run [.go (.bin .lss 3 (.tmp (.r (.l (.l .o)))) (.tmp (.l (.l (.l .o))))) (.l (.r (.l .o)))]) (.seq (.cond (.tmp (.l (.r (.l .o)))) .skip (.exit 0)) (.seq (.block 1 (.seq (.run [.go (.move (.tmp (.r (.l (.l .o))))) (.r (.r (.l .o))),
 .go (.move (.tmp (.r (.r (.l .o))))) (.l (.r .o))]) (.seq (.run [.go (.move (.tmp (.l .o))) (.l (.l (.r .o))),
 .go (.move (.tmp .o)) (.r (.l (.r .o))),
 .go (.move (.tmp (.l (.r .o)))) (.l (.r (.r .o))),
 .go (.indexAddr none 1 (.tmp (.r (.l (.r .o)))) (.tmp (.l (.r (.r .o))))) (.r (.r (.r .o))),
 .go (.load1 (.tmp (.r (.r (.r .o))))) (.l (.l (.l (.l .o)))),
 .go (.bin .eql 3 (.tmp (.l (.l (.r .o)))) (.tmp (.l (.l (.l (.l .o)))))) (.r (.l (.l (.l .o))))]) (.cond (.tmp (.r (.l (.l (.l .o))))) (.seq (.run [.go (.move (.tmp (.l (.r .o)))) (.l (.r (.l (.l .o)))),
 .go (.move (.tmp (.l (.r (.l (.l .o)))))) (.r (.l .o))]) .ret) .skip)))) (.run [.go (.bin .add 3 (.tmp (.r (.l (.l .o)))) (.con (.int .i64 (.ofNat 1)))) (.r (.r (.l (.l .o)))),
 .go (.move (.tmp (.r (.r (.l (.l .o)))))) (.r (.l (.l .o)))]))))))) (.seq (.run [.go (.move (.con (.int .i64 (.negSucc 0)))) (.r (.l .o))]) .ret)))
noncomputable def f76 : FFunc := .mk c76 (.n U (.n U (.n U (.n U (.n U .e .e) .e) (.n U .e .e)) (.n U (.n U (.n U .e .e) .e) (.n U .e .e))) (.n U (.n U (.n U (.n U .e .e) .e) (.n U .e .e)) (.n U (.n U (.n U .e .e) .e) (.n U .e .e)))) [.o,(.l .o)] [.tmp (.r (.l .o))]
theorem e76 : @compF Tryd.prog (glOne Tryd.prog 1) Tryd.f76 2 = f76 := by kernel_rfl
theorem o76 : okF Tryd.prog Tryd.f76 = true := by kernel_rfl
theorem g76 : Tryd.prog.funcs[(76 : Nat)]? = some Tryd.f76 := by kernel_rfl
noncomputable def c77 : FCode := (.seq (.run [.go (.box 51 (.tmp .o)) (.r .o),
 .go (.box 51 (.tmp (.l .o))) (.l (.l .o)),
 .go (.move (.con (.bool false))) (.r (.l .o))]) (.seq (.run [.go (.fieldAddr 0 (.tmp (.r .o))) (.l (.r .o)),
 .go (.load1 (.tmp (.l (.r .o)))) (.r (.r .o)),
 .go (.fieldAddr 0 (.tmp (.l (.l .o)))) (.l (.l (.l .o))),
 .go (.load1 (.tmp (.l (.l (.l .o))))) (.r (.l (.l .o))),
 .go (.bin .neq 3 (.tmp (.r (.r .o))) (.tmp (.r (.l (.l .o))))) (.l (.r (.l .o))),
 .go (.move (.tmp (.l (.r (.l .o))))) (.r (.r (.l .o))),
 .gd (.r (.r (.l .o))) true (.fieldAddr 1 (.tmp (.r .o))) (.l (.l (.r .o))),
 .gd (.r (.r (.l .o))) true (.load1 (.tmp (.l (.l (.r .o))))) (.r (.l (.r .o))),
 .gd (.r (.r (.l .o))) true (.fieldAddr 1 (.tmp (.l (.l .o)))) (.l (.r (.r .o))),
 .gd (.r (.r (.l .o))) true (.load1 (.tmp (.l (.r (.r .o))))) (.r (.r (.r .o))),
 .gd (.r (.r (.l .o))) true (.bin .eql 3 (.tmp (.r (.l (.r .o)))) (.tmp (.r (.r (.r .o))))) (.l (.l (.l (.l .o)))),
 .go (.pick (.tmp (.r (.r (.l .o)))) (.tmp (.l (.l (.l (.l .o))))) (.con (.bool false))) (.r (.l (.l (.l .o)))),
 .go (.move (.tmp (.r (.l (.l (.l .o)))))) (.l (.r (.l (.l .o)))),
 .gd (.l (.r (.l (.l .o)))) true (.fieldAddr 2 (.tmp (.r .o))) (.r (.r (.l (.l .o)))),
 .gd (.l (.r (.l (.l .o)))) true (.load1 (.tmp (.r (.r (.l (.l .o)))))) (.l (.l (.r (.l .o)))),
 .gd (.l (.r (.l (.l .o)))) true (.fieldAddr 2 (.tmp (.l (.l .o)))) (.r (.l (.r (.l .o)))),
 .gd (.l (.r (.l (.l .o)))) true (.load1 (.tmp (.r (.l (.r (.l .o)))))) (.l (.r (.r (.l .o)))),
 .gd (.l (.r (.l (.l .o)))) true (.bin .eql 3 (.tmp (.l (.l (.r (.l .o))))) (.tmp (.l (.r (.r (.l .o)))))) (.r (.r (.r (.l .o)))),
 .go (.pick (.tmp (.l (.r (.l (.l .o))))) (.tmp (.r (.r (.r (.l .o))))) (.con (.bool false))) (.l (.l (.l (.r .o)))),
 .go (.move (.tmp (.l (.l (.l (.r .o)))))) (.r (.l (.l (.r .o)))),
 .gd (.r (.l (.l (.r .o)))) true (.fieldAddr 3 (.tmp (.r .o))) (.l (.r (.l (.r .o)))),
 .gd (.r (.l (.l (.r .o)))) true (.loadN 2 (.tmp (.l (.r (.l (.r .o)))))) (.r (.r (.l (.r .o)))),
 .gd (.r (.l (.l (.r .o)))) true (.fieldAddr 3 (.tmp (.l (.l .o)))) (.l (.l (.r (.r .o)))),
 .gd (.r (.l (.l (.r .o)))) true (.loadN 2 (.tmp (.l (.l (.r (.r .o)))))) (.r (.l (.r (.r .o)))),
 .gd (.r (.l (.l (.r .o)))) true (.call (.con (.func (.func 53) ⟨[]⟩ ⟨[]⟩)) [(.tmp (.r (.r (.l (.r .o))))),(.tmp (.r (.l (.r (.r .o)))))]) (.l (.r (.r (.r .o)))),
 .gd (.r (.l (.l (.r .o)))) true (.call (.con (.func (.func 52) ⟨[]⟩ ⟨[]⟩)) [(.tmp (.l (.r (.r (.r .o)))))]) (.r (.r (.r (.r .o)))),
 .gd (.r (.l (.l (.r .o)))) true (.un .not (.tmp (.r (.r (.r (.r .o)))))) (.l (.l (.l (.l (.l .o))))),
 .go (.pick (.tmp (.r (.l (.l (.r .o))))) (.tmp (.l (.l (.l (.l (.l .o)))))) (.con (.bool false))) (.r (.l (.l (.l (.l .o))))),
 .go (.move (.tmp (.r (.l (.l (.l (.l .o))))))) (.r (.l .o))]) .ret))
noncomputable def f77 : FFunc := .mk c77 (.n U (.n U (.n U (.n U (.n U (.n U .e .e) .e) (.n U .e .e)) (.n U (.n U .e .e) (.n U .e .e))) (.n U (.n U (.n U .e .e) (.n U .e .e)) (.n U (.n U .e .e) (.n U .e .e)))) (.n U (.n U (.n U (.n U (.n U .e .e) .e) (.n U .e .e)) (.n U (.n U .e .e) (.n U .e .e))) (.n U (.n U (.n U .e .e) (.n U .e .e)) (.n U (.n U .e .e) (.n U .e .e))))) [.o,(.l .o)] [.tmp (.r (.l .o))]
theorem e77 : @compF Tryd.prog (glOne Tryd.prog 1) Tryd.f77 2 = f77 := by kernel_rfl
theorem o77 : okF Tryd.prog Tryd.f77 = true := by kernel_rfl
theorem g77 : Tryd.prog.funcs[(77 : Nat)]? = some Tryd.f77 := by kernel_rfl
noncomputable def c78 : FCode := (.seq (.run [.go (.box 78 (.tmp .o)) (.l .o),
 .go (.move (.con .nilFunc)) (.r .o)]) (.seq (.run [.go (.makeFunc 83 [] [(.tmp (.l .o))]) (.l (.l .o)),
 .go (.move (.tmp (.l (.l .o)))) (.r .o)]) .ret))
noncomputable def f78 : FFunc := .mk c78 (.n U (.n U (.n U .e .e) .e) (.n U .e .e)) [.o] [.tmp (.r .o)]
theorem e78 : @compF Tryd.prog (glOne Tryd.prog 1) Tryd.f78 1 = f78 := by kernel_rfl
theorem o78 : okF Tryd.prog Tryd.f78 = true := by kernel_rfl
theorem g78 : Tryd.prog.funcs[(78 : Nat)]? = some Tryd.f78 := by kernel_rfl
noncomputable def c79 : FCode := (.seq (.run [.go (.box 108 (.tmp .o)) (.l (.l .o))]) (.seq (.run [.go (.load1 (.tmp (.l .o))) (.l (.l (.l .o))),
 .go (.call (.con (.func (.func 80) ⟨[]⟩ ⟨[]⟩)) [(.tmp (.l (.l (.l .o))))]) (.r (.l (.l .o))),
 .go (.buildSlice 3 1 [(.int .i64 (.ofNat 0))] [(0,1,(.tmp (.r (.l (.l .o)))))]) (.l (.r (.l .o))),
 .go (.call (.con (.func (.func 38) ⟨[]⟩ ⟨[]⟩)) [(.tmp (.l (.r (.l .o))))]) (.r (.r (.l .o))),
 .go (.alloc 78 [(.int .i64 (.ofNat 0))]) (.r (.l .o)),
 .un (.store 1 (.tmp (.r (.l .o))) (.tmp (.r (.r (.l .o)))))]) (.seq (.draw 12 [.go (.load1 (.tmp (.l .o))) (.l (.l (.r .o))),
 .go (.load1 (.tmp (.r .o))) (.r (.l (.r .o))),
 .go (.load1 (.tmp (.l .o))) (.l (.r (.r .o))),
 .go (.call (.con (.func (.func 80) ⟨[]⟩ ⟨[]⟩)) [(.tmp (.l (.r (.r .o))))]) (.r (.r (.r .o))),
 .go (.nilCheck (.tmp (.r (.l (.r .o))))) (.l (.l (.l (.l .o)))),
 .go (.fieldAddr 7 (.tmp (.l (.l (.l (.l .o)))))) (.r (.l (.l (.l .o)))),
 .go (.indexAddr (some 10) 1 (.tmp (.r (.l (.l (.l .o))))) (.tmp (.r (.r (.r .o))))) (.l (.r (.l (.l .o)))),
 .go (.load1 (.tmp (.l (.r (.l (.l .o)))))) (.r (.r (.l (.l .o)))),
 .go (.bin .and 78 (.tmp (.l (.l (.r .o)))) (.tmp (.r (.r (.l (.l .o)))))) (.l (.l (.r (.l .o)))),
 .go (.load1 (.tmp (.r (.l .o)))) (.r (.l (.r (.l .o)))),
 .go (.bin .andNot 78 (.tmp (.l (.l (.r (.l .o))))) (.tmp (.r (.l (.r (.l .o)))))) (.l (.r (.r (.l .o)))),
 .go (.move (.tmp (.l (.r (.r (.l .o)))))) (.l (.r .o))] [.rd none (.load1 (.tmp (.l .o))) (some (.l (.l (.r .o)))) [4],.rd none (.load1 (.tmp (.r .o))) (some (.r (.l (.r .o)))) [4],.ok,.ok,.ok,.ok,.ok,.ok,.ok,.rd none (.load1 (.tmp (.r (.l .o)))) (some (.r (.l (.r (.l .o))))) [0],.ok,.ok]) (.seq (.run [.go (.move (.tmp (.l (.r .o)))) (.r (.r (.r (.l .o)))),
 .go (.call (.con (.func (.func 81) ⟨[]⟩ ⟨[]⟩)) [(.tmp (.r (.r (.r (.l .o)))))]) (.l (.l (.l (.r .o))))]) (.block 0 (.rangeFunc (.tmp (.l (.l (.l (.r .o))))) [(.r (.l (.l (.r .o))))] (rfA Tryd.f79 0) (rfB Tryd.f79 0) (.run [.go (.move (.tmp (.r (.l (.l (.r .o)))))) (.r (.r .o))]) (.block 1 (.seq (.draw 16 [.go (.load1 (.tmp (.r .o))) (.l (.r (.l (.r .o)))),
 .go (.load1 (.tmp (.r (.l .o)))) (.r (.r (.l (.r .o)))),
 .go (.move (.tmp (.r (.r .o)))) (.l (.l (.r (.r .o)))),
 .go (.bin .or 78 (.tmp (.r (.r (.l (.r .o))))) (.tmp (.l (.l (.r (.r .o)))))) (.r (.l (.r (.r .o)))),
 .go (.nilCheck (.tmp (.l (.r (.l (.r .o)))))) (.l (.r (.r (.r .o)))),
 .go (.fieldAddr 27 (.tmp (.l (.r (.r (.r .o)))))) (.r (.r (.r (.r .o)))),
 .go (.indexAddr (some 1024) 1 (.tmp (.r (.r (.r (.r .o))))) (.tmp (.r (.l (.r (.r .o)))))) (.l (.l (.l (.l (.l .o))))),
 .go (.load1 (.tmp (.l (.l (.l (.l (.l .o))))))) (.r (.l (.l (.l (.l .o))))),
 .go (.move (.tmp (.r (.l (.l (.l (.l .o))))))) (.l (.r (.l (.l (.l .o))))),
 .gd (.l (.r (.l (.l (.l .o))))) true (.load1 (.tmp (.l (.l .o)))) (.r (.r (.l (.l (.l .o))))),
 .gd (.l (.r (.l (.l (.l .o))))) true (.load1 (.tmp (.r (.l .o)))) (.l (.l (.r (.l (.l .o))))),
 .gd (.l (.r (.l (.l (.l .o))))) true (.move (.tmp (.r (.r .o)))) (.r (.l (.r (.l (.l .o))))),
 .gd (.l (.r (.l (.l (.l .o))))) true (.bin .or 78 (.tmp (.l (.l (.r (.l (.l .o)))))) (.tmp (.r (.l (.r (.l (.l .o))))))) (.l (.r (.r (.l (.l .o))))),
 .gd (.l (.r (.l (.l (.l .o))))) true (.call (.tmp (.r (.r (.l (.l (.l .o)))))) [(.tmp (.l (.r (.r (.l (.l .o))))))]) (.r (.r (.r (.l (.l .o))))),
 .gd (.l (.r (.l (.l (.l .o))))) true (.un .not (.tmp (.r (.r (.r (.l (.l .o))))))) (.l (.l (.l (.r (.l .o))))),
 .go (.pick (.tmp (.l (.r (.l (.l (.l .o)))))) (.tmp (.l (.l (.l (.r (.l .o)))))) (.con (.bool false))) (.r (.l (.l (.r (.l .o)))))] [.ok,.ok,.ok,.ok,.ok,.ok,.ok,.ok,.ok,.ok,.ok,.ok,.ok,.ok,.ok,.ok]) (.cond (.tmp (.r (.l (.l (.r (.l .o)))))) .ret .skip)))))))))
noncomputable def f79 : FFunc := .mk c79 (.n U (.n U (.n U (.n U (.n U (.n U .e .e) .e) (.n U (.n U .e .e) .e)) (.n U (.n U (.n U .e .e) .e) (.n U .e .e))) (.n U (.n U (.n U (.n U .e .e) .e) (.n U .e .e)) (.n U (.n U (.n U .e .e) .e) (.n U .e .e)))) (.n U (.n U (.n U (.n U (.n U .e .e) .e) (.n U (.n U .e .e) .e)) (.n U (.n U (.n U .e .e) .e) (.n U .e .e))) (.n U (.n U (.n U (.n U .e .e) .e) (.n U .e .e)) (.n U (.n U (.n U .e .e) .e) (.n U .e .e))))) [.o,(.l .o),(.r .o)] []
theorem e79 : @compF Tryd.prog (glOne Tryd.prog 1) Tryd.f79 3 = f79 := by kernel_rfl
theorem o79 : okF Tryd.prog Tryd.f79 = true := by kernel_rfl
theorem g79 : Tryd.prog.funcs[(79 : Nat)]? = some Tryd.f79 := by kernel_rfl
noncomputable def c80 : FCode := (.seq (.run [.go (.move (.con (.int .i64 (.ofNat 0)))) (.r .o)]) (.seq (.run [.go (.move (.tmp .o)) (.l (.l .o)),
 .go (.conv .u64 (.tmp (.l (.l .o)))) (.r (.l .o)),
 .go (.call (.con (.func (.func 84) ⟨[]⟩ ⟨[]⟩)) [(.tmp (.r (.l .o)))]) (.l (.r .o)),
 .go (.move (.tmp (.l (.r .o)))) (.r .o)]) .ret))
noncomputable def f80 : FFunc := .mk c80 (.n U (.n U (.n U .e .e) (.n U .e .e)) (.n U (.n U .e .e) .e)) [.o] [.tmp (.r .o)]
theorem e80 : @compF Tryd.prog (glOne Tryd.prog 1) Tryd.f80 1 = f80 := by kernel_rfl
theorem o80 : okF Tryd.prog Tryd.f80 = true := by kernel_rfl
theorem g80 : Tryd.prog.funcs[(80 : Nat)]? = some Tryd.f80 := by kernel_rfl
noncomputable def c81 : FCode := (.seq (.run [.go (.box 78 (.tmp .o)) (.l .o),
 .go (.move (.con .nilFunc)) (.r .o)]) (.seq (.run [.go (.makeFunc 85 [] [(.tmp (.l .o))]) (.l (.l .o)),
 .go (.move (.tmp (.l (.l .o)))) (.r .o)]) .ret))
noncomputable def f81 : FFunc := .mk c81 (.n U (.n U (.n U .e .e) .e) (.n U .e .e)) [.o] [.tmp (.r .o)]
theorem e81 : @compF Tryd.prog (glOne Tryd.prog 1) Tryd.f81 1 = f81 := by kernel_rfl
theorem o81 : okF Tryd.prog Tryd.f81 = true := by kernel_rfl
theorem g81 : Tryd.prog.funcs[(81 : Nat)]? = some Tryd.f81 := by kernel_rfl
noncomputable def c82 : FCode := (.seq (.run [.go (.move (.con (.slice none 0 0))) (.r .o)]) (.seq (.run [.go (.move (.tmp .o)) (.l (.l .o)),
 .go (.call (.con (.func (.func 86) ⟨[]⟩ ⟨[]⟩)) [(.con (.slice none 0 0)),(.tmp (.l (.l .o)))]) (.r (.l .o)),
 .go (.move (.tmp (.r (.l .o)))) (.r .o)]) .ret))
noncomputable def f82 : FFunc := .mk c82 (.n U (.n U (.n U .e .e) .e) (.n U (.n U .e .e) .e)) [.o] [.tmp (.r .o)]
theorem e82 : @compF Tryd.prog (glOne Tryd.prog 1) Tryd.f82 1 = f82 := by kernel_rfl
theorem o82 : okF Tryd.prog Tryd.f82 = true := by kernel_rfl
theorem g82 : Tryd.prog.funcs[(82 : Nat)]? = some Tryd.f82 := by kernel_rfl
noncomputable def c83 : FCode := (.seq (.run [.go (.load1 (.tmp (.l .o))) (.r (.l .o)),
 .go (.move (.tmp (.r (.l .o)))) (.l (.l .o))]) (.block 0 (.loop (.seq (.seq (.run [.go (.move (.tmp (.l (.l .o)))) (.l (.r .o)),
 .go (.bin .neq 78 (.tmp (.l (.r .o))) (.con (.int .i64 (.ofNat 0)))) (.r (.r .o))]) (.cond (.tmp (.r (.r .o))) .skip (.exit 0))) (.seq (.block 1 (.seq (.run [.go (.move (.tmp .o)) (.l (.l (.r .o))),
 .go (.move (.tmp (.l (.l .o)))) (.r (.l (.r .o))),
 .go (.call (.con (.func (.func 80) ⟨[]⟩ ⟨[]⟩)) [(.tmp (.r (.l (.r .o))))]) (.l (.r (.r .o))),
 .go (.call (.tmp (.l (.l (.r .o)))) [(.tmp (.l (.r (.r .o))))]) (.r (.r (.r .o))),
 .go (.un .not (.tmp (.r (.r (.r .o))))) (.l (.l (.l (.l .o))))]) (.cond (.tmp (.l (.l (.l (.l .o))))) .ret .skip))) (.run [.go (.move (.tmp (.l (.l .o)))) (.l (.l (.l .o))),
 .go (.move (.tmp (.l (.l .o)))) (.r (.l (.l .o))),
 .go (.bin .sub 78 (.tmp (.r (.l (.l .o)))) (.con (.int .i64 (.ofNat 1)))) (.l (.r (.l .o))),
 .go (.bin .and 78 (.tmp (.l (.l (.l .o)))) (.tmp (.l (.r (.l .o))))) (.r (.r (.l .o))),
 .go (.move (.tmp (.r (.r (.l .o))))) (.l (.l .o))]))))))
noncomputable def f83 : FFunc := .mk c83 (.n U (.n U (.n U (.n U (.n U .e .e) .e) (.n U .e .e)) (.n U (.n U .e .e) (.n U .e .e))) (.n U (.n U (.n U .e .e) (.n U .e .e)) (.n U (.n U .e .e) (.n U .e .e)))) [.o,(.l .o)] []
theorem e83 : @compF Tryd.prog (glOne Tryd.prog 1) Tryd.f83 2 = f83 := by kernel_rfl
theorem o83 : okF Tryd.prog Tryd.f83 = true := by kernel_rfl
theorem g83 : Tryd.prog.funcs[(83 : Nat)]? = some Tryd.f83 := by kernel_rfl
noncomputable def c84 : FCode := (.seq (.run [.go (.move (.con (.int .i64 (.ofNat 0)))) (.r .o)]) (.seq (.cond (.con (.bool false)) (.seq (.run [.go (.move (.tmp .o)) (.l (.l .o)),
 .go (.conv .u32 (.tmp (.l (.l .o)))) (.r (.l .o)),
 .go (.call (.con (.func (.func 87) ⟨[]⟩ ⟨[]⟩)) [(.tmp (.r (.l .o)))]) (.l (.r .o)),
 .go (.move (.tmp (.l (.r .o)))) (.r .o)]) .ret) .skip) (.seq (.run [.go (.move (.tmp .o)) (.r (.r .o)),
 .go (.call (.con (.func (.func 88) ⟨[]⟩ ⟨[]⟩)) [(.tmp (.r (.r .o)))]) (.l (.l (.l .o))),
 .go (.move (.tmp (.l (.l (.l .o))))) (.r .o)]) .ret)))
noncomputable def f84 : FFunc := .mk c84 (.n U (.n U (.n U (.n U .e .e) .e) (.n U .e .e)) (.n U (.n U .e .e) (.n U .e .e))) [.o] [.tmp (.r .o)]
theorem e84 : @compF Tryd.prog (glOne Tryd.prog 1) Tryd.f84 1 = f84 := by kernel_rfl
theorem o84 : okF Tryd.prog Tryd.f84 = true := by kernel_rfl
theorem g84 : Tryd.prog.funcs[(84 : Nat)]? = some Tryd.f84 := by kernel_rfl
noncomputable def c85 : FCode := (.seq (.run [.go (.load1 (.tmp (.l .o))) (.r (.l .o)),
 .go (.move (.tmp (.r (.l .o)))) (.l (.l .o))]) (.block 0 (.loop (.seq (.seq (.run [.go (.move (.tmp .o)) (.l (.r .o)),
 .go (.move (.tmp (.l (.l .o)))) (.r (.r .o)),
 .go (.call (.tmp (.l (.r .o))) [(.tmp (.r (.r .o)))]) (.l (.l (.l .o))),
 .go (.move (.tmp (.l (.l (.l .o))))) (.r (.l (.l .o))),
 .gd (.r (.l (.l .o))) true (.move (.tmp (.l (.l .o)))) (.l (.r (.l .o))),
 .gd (.r (.l (.l .o))) true (.bin .neq 78 (.tmp (.l (.r (.l .o)))) (.con (.int .i64 (.ofNat 0)))) (.r (.r (.l .o))),
 .go (.pick (.tmp (.r (.l (.l .o)))) (.tmp (.r (.r (.l .o)))) (.con (.bool false))) (.l (.l (.r .o)))]) (.cond (.tmp (.l (.l (.r .o)))) .skip (.exit 0))) (.block 1 (.run [.go (.move (.tmp (.l (.l .o)))) (.r (.l (.r .o))),
 .go (.bin .sub 78 (.tmp (.r (.l (.r .o)))) (.con (.int .i64 (.ofNat 1)))) (.l (.r (.r .o))),
 .go (.load1 (.tmp (.l .o))) (.r (.r (.r .o))),
 .go (.bin .and 78 (.tmp (.l (.r (.r .o)))) (.tmp (.r (.r (.r .o))))) (.l (.l (.l (.l .o)))),
 .go (.move (.tmp (.l (.l (.l (.l .o)))))) (.l (.l .o))]))))))
noncomputable def f85 : FFunc := .mk c85 (.n U (.n U (.n U (.n U (.n U .e .e) .e) (.n U .e .e)) (.n U (.n U .e .e) (.n U .e .e))) (.n U (.n U (.n U .e .e) (.n U .e .e)) (.n U (.n U .e .e) (.n U .e .e)))) [.o,(.l .o)] []
theorem e85 : @compF Tryd.prog (glOne Tryd.prog 1) Tryd.f85 2 = f85 := by kernel_rfl
theorem o85 : okF Tryd.prog Tryd.f85 = true := by kernel_rfl
theorem g85 : Tryd.prog.funcs[(85 : Nat)]? = some Tryd.f85 := by kernel_rfl
noncomputable def c86 : FCode := (.seq (.run [.go (.box 34 (.tmp .o)) (.r .o),
 .go (.move (.con (.slice none 0 0))) (.r (.l .o))]) (.seq (.seq (.run [.go (.move (.tmp (.l .o))) (.r (.r .o))]) (.block 0 (.rangeFunc (.tmp (.r (.r .o))) [(.l (.l (.l .o)))] (rfA Tryd.f86 0) (rfB Tryd.f86 0) (.run [.go (.move (.tmp (.l (.l (.l .o))))) (.l (.r .o))]) (.block 1 (.run [.go (.load1 (.tmp (.r .o))) (.r (.l (.l .o))),
 .go (.move (.tmp (.l (.r .o)))) (.l (.r (.l .o))),
 .go (.buildSlice 3 1 [(.int .i64 (.ofNat 0))] [(0,1,(.tmp (.l (.r (.l .o)))))]) (.r (.r (.l .o))),
 .go (.append 3 1 8 (.tmp (.r (.l (.l .o)))) (.tmp (.r (.r (.l .o))))) (.l (.l (.r .o))),
 .un (.store 1 (.tmp (.r .o)) (.tmp (.l (.l (.r .o)))))]))))) (.seq (.run [.go (.load1 (.tmp (.r .o))) (.r (.l (.r .o))),
 .go (.move (.tmp (.r (.l (.r .o))))) (.r (.l .o))]) .ret)))
noncomputable def f86 : FFunc := .mk c86 (.n U (.n U (.n U (.n U .e .e) (.n U .e .e)) (.n U (.n U .e .e) .e)) (.n U (.n U (.n U .e .e) (.n U .e .e)) (.n U (.n U .e .e) .e))) [.o,(.l .o)] [.tmp (.r (.l .o))]
theorem e86 : @compF Tryd.prog (glOne Tryd.prog 1) Tryd.f86 2 = f86 := by kernel_rfl
theorem o86 : okF Tryd.prog Tryd.f86 = true := by kernel_rfl
theorem g86 : Tryd.prog.funcs[(86 : Nat)]? = some Tryd.f86 := by kernel_rfl
noncomputable def c87 : FCode := (.seq (.run [.go (.move (.con (.int .i64 (.ofNat 0)))) (.r .o)]) (.seq (.seq (.run [.go (.move (.tmp .o)) (.l (.l .o)),
 .go (.bin .eql 130 (.tmp (.l (.l .o))) (.con (.int .u32 (.ofNat 0)))) (.r (.l .o))]) (.cond (.tmp (.r (.l .o))) (.seq (.run [.go (.move (.con (.int .i64 (.ofNat 32)))) (.r .o)]) .ret) .skip)) (.seq (.run [.go (.move (.tmp .o)) (.l (.r .o)),
 .go (.move (.tmp .o)) (.r (.r .o)),
 .go (.un .neg (.tmp (.r (.r .o)))) (.l (.l (.l .o))),
 .go (.bin .and 130 (.tmp (.l (.r .o))) (.tmp (.l (.l (.l .o))))) (.r (.l (.l .o))),
 .go (.bin .mul 130 (.tmp (.r (.l (.l .o)))) (.con (.int .u32 (.ofNat 125613361)))) (.l (.r (.l .o))),
 .go (.bin .shr 130 (.tmp (.l (.r (.l .o)))) (.con (.int .u64 (.ofNat 27)))) (.r (.r (.l .o))),
 .go (.indexAddr (some 32) 1 (.con (.chan none)) (.tmp (.r (.r (.l .o))))) (.l (.l (.r .o))),
 .go (.load1 (.tmp (.l (.l (.r .o))))) (.r (.l (.r .o))),
 .go (.conv .i64 (.tmp (.r (.l (.r .o))))) (.l (.r (.r .o))),
 .go (.move (.tmp (.l (.r (.r .o))))) (.r .o)]) .ret)))
noncomputable def f87 : FFunc := .mk c87 (.n U (.n U (.n U (.n U .e .e) (.n U .e .e)) (.n U (.n U .e .e) (.n U .e .e))) (.n U (.n U (.n U .e .e) (.n U .e .e)) (.n U (.n U .e .e) .e))) [.o] [.tmp (.r .o)]
theorem e87 : @compF Tryd.prog (glOne Tryd.prog 1) Tryd.f87 1 = f87 := by kernel_rfl
theorem o87 : okF Tryd.prog Tryd.f87 = true := by kernel_rfl
theorem g87 : Tryd.prog.funcs[(87 : Nat)]? = some Tryd.f87 := by kernel_rfl
noncomputable def c88 : FCode := (.seq (.run [.go (.move (.con (.int .i64 (.ofNat 0)))) (.r .o)]) (.seq (.seq (.run [.go (.move (.tmp .o)) (.l (.l .o)),
 .go (.bin .eql 132 (.tmp (.l (.l .o))) (.con (.int .u64 (.ofNat 0)))) (.r (.l .o))]) (.cond (.tmp (.r (.l .o))) (.seq (.run [.go (.move (.con (.int .i64 (.ofNat 64)))) (.r .o)]) .ret) .skip)) (.seq (.run [.go (.move (.tmp .o)) (.l (.r .o)),
 .go (.move (.tmp .o)) (.r (.r .o)),
 .go (.un .neg (.tmp (.r (.r .o)))) (.l (.l (.l .o))),
 .go (.bin .and 132 (.tmp (.l (.r .o))) (.tmp (.l (.l (.l .o))))) (.r (.l (.l .o))),
 .go (.bin .mul 132 (.tmp (.r (.l (.l .o)))) (.con (.int .u64 (.ofNat 285870213051353865)))) (.l (.r (.l .o))),
 .go (.bin .shr 132 (.tmp (.l (.r (.l .o)))) (.con (.int .u64 (.ofNat 58)))) (.r (.r (.l .o))),
 .go (.indexAddr (some 64) 1 (.con (.pointer (some ⟨1, 0, none⟩))) (.tmp (.r (.r (.l .o))))) (.l (.l (.r .o))),
 .go (.load1 (.tmp (.l (.l (.r .o))))) (.r (.l (.r .o))),
 .go (.conv .i64 (.tmp (.r (.l (.r .o))))) (.l (.r (.r .o))),
 .go (.move (.tmp (.l (.r (.r .o))))) (.r .o)]) .ret)))
noncomputable def f88 : FFunc := .mk c88 (.n U (.n U (.n U (.n U .e .e) (.n U .e .e)) (.n U (.n U .e .e) (.n U .e .e))) (.n U (.n U (.n U .e .e) (.n U .e .e)) (.n U (.n U .e .e) .e))) [.o] [.tmp (.r .o)]
theorem e88 : @compF Tryd.prog (glOne Tryd.prog 1) Tryd.f88 1 = f88 := by kernel_rfl
theorem o88 : okF Tryd.prog Tryd.f88 = true := by kernel_rfl
theorem g88 : Tryd.prog.funcs[(88 : Nat)]? = some Tryd.f88 := by kernel_rfl
noncomputable def tbl0 : FT := (.n .bad (.n .bad (.n f3 (.n f7 (.n f15 (.n f31 (.n f63 .e .e) (.n .bad .e .e)) (.n f47 (.n f79 .e .e) .e)) (.n f23 (.n f39 (.n f71 .e .e) (.n .bad .e .e)) (.n f55 (.n f87 .e .e) .e))) (.n f11 (.n f19 (.n f35 (.n f67 .e .e) (.n .bad .e .e)) (.n f51 (.n f83 .e .e) .e)) (.n f27 (.n f43 (.n f75 .e .e) (.n .bad .e .e)) (.n f59 (.n .bad .e .e) .e)))) (.n f5 (.n f9 (.n f17 (.n f33 (.n f65 .e .e) (.n .bad .e .e)) (.n f49 (.n f81 .e .e) .e)) (.n f25 (.n f41 (.n f73 .e .e) (.n .bad .e .e)) (.n f57 (.n .bad .e .e) .e))) (.n f13 (.n f21 (.n f37 (.n f69 .e .e) (.n .bad .e .e)) (.n f53 (.n f85 .e .e) .e)) (.n f29 (.n f45 (.n f77 .e .e) (.n .bad .e .e)) (.n f61 (.n .bad .e .e) .e))))) (.n .bad (.n f4 (.n f8 (.n f16 (.n f32 (.n f64 .e .e) (.n .bad .e .e)) (.n f48 (.n f80 .e .e) .e)) (.n f24 (.n f40 (.n f72 .e .e) (.n .bad .e .e)) (.n f56 (.n f88 .e .e) .e))) (.n f12 (.n f20 (.n f36 (.n f68 .e .e) (.n .bad .e .e)) (.n f52 (.n f84 .e .e) .e)) (.n f28 (.n f44 (.n f76 .e .e) (.n .bad .e .e)) (.n f60 (.n .bad .e .e) .e)))) (.n f6 (.n f10 (.n f18 (.n f34 (.n f66 .e .e) (.n .bad .e .e)) (.n f50 (.n f82 .e .e) .e)) (.n f26 (.n f42 (.n f74 .e .e) (.n .bad .e .e)) (.n f58 (.n .bad .e .e) .e))) (.n f14 (.n f22 (.n f38 (.n f70 .e .e) (.n .bad .e .e)) (.n f54 (.n f86 .e .e) .e)) (.n f30 (.n f46 (.n f78 .e .e) (.n .bad .e .e)) (.n f62 (.n .bad .e .e) .e))))))
noncomputable def F0 (n : Nat) : FFunc := look tbl0 n
def orcs0 (_n : Nat) : Option Bool := none
theorem ok0 (O : Orc Tryd.prog) (h : O.O = orcs0) : @FnOk Tryd.prog (glOne Tryd.prog 1) O F0 := @fnOk_of Tryd.prog (glOne Tryd.prog 1) O _ (by rw [h]; exact ⟨.inl rfl, ⟨.inl rfl, ⟨.inr (.inr ⟨rfl, _, _, g3, o3, e3⟩), ⟨.inr (.inr ⟨rfl, _, _, g7, o7, e7⟩), ⟨.inr (.inr ⟨rfl, _, _, g15, o15, e15⟩), ⟨.inr (.inr ⟨rfl, _, _, g31, o31, e31⟩), ⟨.inr (.inr ⟨rfl, _, _, g63, o63, e63⟩), trivial, trivial⟩, ⟨.inl rfl, trivial, trivial⟩⟩, ⟨.inr (.inr ⟨rfl, _, _, g47, o47, e47⟩), ⟨.inr (.inr ⟨rfl, _, _, g79, o79, e79⟩), trivial, trivial⟩, trivial⟩⟩, ⟨.inr (.inr ⟨rfl, _, _, g23, o23, e23⟩), ⟨.inr (.inr ⟨rfl, _, _, g39, o39, e39⟩), ⟨.inr (.inr ⟨rfl, _, _, g71, o71, e71⟩), trivial, trivial⟩, ⟨.inl rfl, trivial, trivial⟩⟩, ⟨.inr (.inr ⟨rfl, _, _, g55, o55, e55⟩), ⟨.inr (.inr ⟨rfl, _, _, g87, o87, e87⟩), trivial, trivial⟩, trivial⟩⟩⟩, ⟨.inr (.inr ⟨rfl, _, _, g11, o11, e11⟩), ⟨.inr (.inr ⟨rfl, _, _, g19, o19, e19⟩), ⟨.inr (.inr ⟨rfl, _, _, g35, o35, e35⟩), ⟨.inr (.inr ⟨rfl, _, _, g67, o67, e67⟩), trivial, trivial⟩, ⟨.inl rfl, trivial, trivial⟩⟩, ⟨.inr (.inr ⟨rfl, _, _, g51, o51, e51⟩), ⟨.inr (.inr ⟨rfl, _, _, g83, o83, e83⟩), trivial, trivial⟩, trivial⟩⟩, ⟨.inr (.inr ⟨rfl, _, _, g27, o27, e27⟩), ⟨.inr (.inr ⟨rfl, _, _, g43, o43, e43⟩), ⟨.inr (.inr ⟨rfl, _, _, g75, o75, e75⟩), trivial, trivial⟩, ⟨.inl rfl, trivial, trivial⟩⟩, ⟨.inr (.inr ⟨rfl, _, _, g59, o59, e59⟩), ⟨.inl rfl, trivial, trivial⟩, trivial⟩⟩⟩⟩, ⟨.inr (.inr ⟨rfl, _, _, g5, o5, e5⟩), ⟨.inr (.inr ⟨rfl, _, _, g9, o9, e9⟩), ⟨.inr (.inr ⟨rfl, _, _, g17, o17, e17⟩), ⟨.inr (.inr ⟨rfl, _, _, g33, o33, e33⟩), ⟨.inr (.inr ⟨rfl, _, _, g65, o65, e65⟩), trivial, trivial⟩, ⟨.inl rfl, trivial, trivial⟩⟩, ⟨.inr (.inr ⟨rfl, _, _, g49, o49, e49⟩), ⟨.inr (.inr ⟨rfl, _, _, g81, o81, e81⟩), trivial, trivial⟩, trivial⟩⟩, ⟨.inr (.inr ⟨rfl, _, _, g25, o25, e25⟩), ⟨.inr (.inr ⟨rfl, _, _, g41, o41, e41⟩), ⟨.inr (.inr ⟨rfl, _, _, g73, o73, e73⟩), trivial, trivial⟩, ⟨.inl rfl, trivial, trivial⟩⟩, ⟨.inr (.inr ⟨rfl, _, _, g57, o57, e57⟩), ⟨.inl rfl, trivial, trivial⟩, trivial⟩⟩⟩, ⟨.inr (.inr ⟨rfl, _, _, g13, o13, e13⟩), ⟨.inr (.inr ⟨rfl, _, _, g21, o21, e21⟩), ⟨.inr (.inr ⟨rfl, _, _, g37, o37, e37⟩), ⟨.inr (.inr ⟨rfl, _, _, g69, o69, e69⟩), trivial, trivial⟩, ⟨.inl rfl, trivial, trivial⟩⟩, ⟨.inr (.inr ⟨rfl, _, _, g53, o53, e53⟩), ⟨.inr (.inr ⟨rfl, _, _, g85, o85, e85⟩), trivial, trivial⟩, trivial⟩⟩, ⟨.inr (.inr ⟨rfl, _, _, g29, o29, e29⟩), ⟨.inr (.inr ⟨rfl, _, _, g45, o45, e45⟩), ⟨.inr (.inr ⟨rfl, _, _, g77, o77, e77⟩), trivial, trivial⟩, ⟨.inl rfl, trivial, trivial⟩⟩, ⟨.inr (.inr ⟨rfl, _, _, g61, o61, e61⟩), ⟨.inl rfl, trivial, trivial⟩, trivial⟩⟩⟩⟩⟩, ⟨.inl rfl, ⟨.inr (.inr ⟨rfl, _, _, g4, o4, e4⟩), ⟨.inr (.inr ⟨rfl, _, _, g8, o8, e8⟩), ⟨.inr (.inr ⟨rfl, _, _, g16, o16, e16⟩), ⟨.inr (.inr ⟨rfl, _, _, g32, o32, e32⟩), ⟨.inr (.inr ⟨rfl, _, _, g64, o64, e64⟩), trivial, trivial⟩, ⟨.inl rfl, trivial, trivial⟩⟩, ⟨.inr (.inr ⟨rfl, _, _, g48, o48, e48⟩), ⟨.inr (.inr ⟨rfl, _, _, g80, o80, e80⟩), trivial, trivial⟩, trivial⟩⟩, ⟨.inr (.inr ⟨rfl, _, _, g24, o24, e24⟩), ⟨.inr (.inr ⟨rfl, _, _, g40, o40, e40⟩), ⟨.inr (.inr ⟨rfl, _, _, g72, o72, e72⟩), trivial, trivial⟩, ⟨.inl rfl, trivial, trivial⟩⟩, ⟨.inr (.inr ⟨rfl, _, _, g56, o56, e56⟩), ⟨.inr (.inr ⟨rfl, _, _, g88, o88, e88⟩), trivial, trivial⟩, trivial⟩⟩⟩, ⟨.inr (.inr ⟨rfl, _, _, g12, o12, e12⟩), ⟨.inr (.inr ⟨rfl, _, _, g20, o20, e20⟩), ⟨.inr (.inr ⟨rfl, _, _, g36, o36, e36⟩), ⟨.inr (.inr ⟨rfl, _, _, g68, o68, e68⟩), trivial, trivial⟩, ⟨.inl rfl, trivial, trivial⟩⟩, ⟨.inr (.inr ⟨rfl, _, _, g52, o52, e52⟩), ⟨.inr (.inr ⟨rfl, _, _, g84, o84, e84⟩), trivial, trivial⟩, trivial⟩⟩, ⟨.inr (.inr ⟨rfl, _, _, g28, o28, e28⟩), ⟨.inr (.inr ⟨rfl, _, _, g44, o44, e44⟩), ⟨.inr (.inr ⟨rfl, _, _, g76, o76, e76⟩), trivial, trivial⟩, ⟨.inl rfl, trivial, trivial⟩⟩, ⟨.inr (.inr ⟨rfl, _, _, g60, o60, e60⟩), ⟨.inl rfl, trivial, trivial⟩, trivial⟩⟩⟩⟩, ⟨.inr (.inr ⟨rfl, _, _, g6, o6, e6⟩), ⟨.inr (.inr ⟨rfl, _, _, g10, o10, e10⟩), ⟨.inr (.inr ⟨rfl, _, _, g18, o18, e18⟩), ⟨.inr (.inr ⟨rfl, _, _, g34, o34, e34⟩), ⟨.inr (.inr ⟨rfl, _, _, g66, o66, e66⟩), trivial, trivial⟩, ⟨.inl rfl, trivial, trivial⟩⟩, ⟨.inr (.inr ⟨rfl, _, _, g50, o50, e50⟩), ⟨.inr (.inr ⟨rfl, _, _, g82, o82, e82⟩), trivial, trivial⟩, trivial⟩⟩, ⟨.inr (.inr ⟨rfl, _, _, g26, o26, e26⟩), ⟨.inr (.inr ⟨rfl, _, _, g42, o42, e42⟩), ⟨.inr (.inr ⟨rfl, _, _, g74, o74, e74⟩), trivial, trivial⟩, ⟨.inl rfl, trivial, trivial⟩⟩, ⟨.inr (.inr ⟨rfl, _, _, g58, o58, e58⟩), ⟨.inl rfl, trivial, trivial⟩, trivial⟩⟩⟩, ⟨.inr (.inr ⟨rfl, _, _, g14, o14, e14⟩), ⟨.inr (.inr ⟨rfl, _, _, g22, o22, e22⟩), ⟨.inr (.inr ⟨rfl, _, _, g38, o38, e38⟩), ⟨.inr (.inr ⟨rfl, _, _, g70, o70, e70⟩), trivial, trivial⟩, ⟨.inl rfl, trivial, trivial⟩⟩, ⟨.inr (.inr ⟨rfl, _, _, g54, o54, e54⟩), ⟨.inr (.inr ⟨rfl, _, _, g86, o86, e86⟩), trivial, trivial⟩, trivial⟩⟩, ⟨.inr (.inr ⟨rfl, _, _, g30, o30, e30⟩), ⟨.inr (.inr ⟨rfl, _, _, g46, o46, e46⟩), ⟨.inr (.inr ⟨rfl, _, _, g78, o78, e78⟩), trivial, trivial⟩, ⟨.inl rfl, trivial, trivial⟩⟩, ⟨.inr (.inr ⟨rfl, _, _, g62, o62, e62⟩), ⟨.inl rfl, trivial, trivial⟩, trivial⟩⟩⟩⟩⟩⟩)
noncomputable def tbl1 : FT := (.n .bad (.n .bad (.n f3 (.n f7 (.n f15 (.n f31 (.n f63 .e .e) (.n .bad .e .e)) (.n f47 (.n f79 .e .e) .e)) (.n f23 (.n f39 (.n f71 .e .e) (.n .bad .e .e)) (.n f55 (.n f87 .e .e) .e))) (.n f11 (.n (.orc true) (.n f35 (.n f67 .e .e) (.n .bad .e .e)) (.n f51 (.n f83 .e .e) .e)) (.n f27 (.n f43 (.n f75 .e .e) (.n .bad .e .e)) (.n f59 (.n .bad .e .e) .e)))) (.n f5 (.n f9 (.n f17 (.n f33 (.n f65 .e .e) (.n .bad .e .e)) (.n f49 (.n f81 .e .e) .e)) (.n f25 (.n f41 (.n f73 .e .e) (.n .bad .e .e)) (.n f57 (.n .bad .e .e) .e))) (.n f13 (.n f21 (.n f37 (.n f69 .e .e) (.n .bad .e .e)) (.n f53 (.n f85 .e .e) .e)) (.n f29 (.n f45 (.n f77 .e .e) (.n .bad .e .e)) (.n f61 (.n .bad .e .e) .e))))) (.n .bad (.n f4 (.n f8 (.n f16 (.n f32 (.n f64 .e .e) (.n .bad .e .e)) (.n f48 (.n f80 .e .e) .e)) (.n f24 (.n f40 (.n f72 .e .e) (.n .bad .e .e)) (.n f56 (.n f88 .e .e) .e))) (.n f12 (.n f20 (.n f36 (.n f68 .e .e) (.n .bad .e .e)) (.n f52 (.n f84 .e .e) .e)) (.n f28 (.n f44 (.n f76 .e .e) (.n .bad .e .e)) (.n f60 (.n .bad .e .e) .e)))) (.n f6 (.n f10 (.n f18 (.n f34 (.n f66 .e .e) (.n .bad .e .e)) (.n f50 (.n f82 .e .e) .e)) (.n f26 (.n f42 (.n f74 .e .e) (.n .bad .e .e)) (.n f58 (.n .bad .e .e) .e))) (.n f14 (.n f22 (.n f38 (.n f70 .e .e) (.n .bad .e .e)) (.n f54 (.n f86 .e .e) .e)) (.n f30 (.n f46 (.n f78 .e .e) (.n .bad .e .e)) (.n f62 (.n .bad .e .e) .e))))))
noncomputable def F1 (n : Nat) : FFunc := look tbl1 n
def orcs1 (_n : Nat) : Option Bool := if _n = 19 then some true else none
theorem ok1 (O : Orc Tryd.prog) (h : O.O = orcs1) : @FnOk Tryd.prog (glOne Tryd.prog 1) O F1 := @fnOk_of Tryd.prog (glOne Tryd.prog 1) O _ (by rw [h]; exact ⟨.inl rfl, ⟨.inl rfl, ⟨.inr (.inr ⟨rfl, _, _, g3, o3, e3⟩), ⟨.inr (.inr ⟨rfl, _, _, g7, o7, e7⟩), ⟨.inr (.inr ⟨rfl, _, _, g15, o15, e15⟩), ⟨.inr (.inr ⟨rfl, _, _, g31, o31, e31⟩), ⟨.inr (.inr ⟨rfl, _, _, g63, o63, e63⟩), trivial, trivial⟩, ⟨.inl rfl, trivial, trivial⟩⟩, ⟨.inr (.inr ⟨rfl, _, _, g47, o47, e47⟩), ⟨.inr (.inr ⟨rfl, _, _, g79, o79, e79⟩), trivial, trivial⟩, trivial⟩⟩, ⟨.inr (.inr ⟨rfl, _, _, g23, o23, e23⟩), ⟨.inr (.inr ⟨rfl, _, _, g39, o39, e39⟩), ⟨.inr (.inr ⟨rfl, _, _, g71, o71, e71⟩), trivial, trivial⟩, ⟨.inl rfl, trivial, trivial⟩⟩, ⟨.inr (.inr ⟨rfl, _, _, g55, o55, e55⟩), ⟨.inr (.inr ⟨rfl, _, _, g87, o87, e87⟩), trivial, trivial⟩, trivial⟩⟩⟩, ⟨.inr (.inr ⟨rfl, _, _, g11, o11, e11⟩), ⟨.inr (.inl ⟨_, rfl, rfl⟩), ⟨.inr (.inr ⟨rfl, _, _, g35, o35, e35⟩), ⟨.inr (.inr ⟨rfl, _, _, g67, o67, e67⟩), trivial, trivial⟩, ⟨.inl rfl, trivial, trivial⟩⟩, ⟨.inr (.inr ⟨rfl, _, _, g51, o51, e51⟩), ⟨.inr (.inr ⟨rfl, _, _, g83, o83, e83⟩), trivial, trivial⟩, trivial⟩⟩, ⟨.inr (.inr ⟨rfl, _, _, g27, o27, e27⟩), ⟨.inr (.inr ⟨rfl, _, _, g43, o43, e43⟩), ⟨.inr (.inr ⟨rfl, _, _, g75, o75, e75⟩), trivial, trivial⟩, ⟨.inl rfl, trivial, trivial⟩⟩, ⟨.inr (.inr ⟨rfl, _, _, g59, o59, e59⟩), ⟨.inl rfl, trivial, trivial⟩, trivial⟩⟩⟩⟩, ⟨.inr (.inr ⟨rfl, _, _, g5, o5, e5⟩), ⟨.inr (.inr ⟨rfl, _, _, g9, o9, e9⟩), ⟨.inr (.inr ⟨rfl, _, _, g17, o17, e17⟩), ⟨.inr (.inr ⟨rfl, _, _, g33, o33, e33⟩), ⟨.inr (.inr ⟨rfl, _, _, g65, o65, e65⟩), trivial, trivial⟩, ⟨.inl rfl, trivial, trivial⟩⟩, ⟨.inr (.inr ⟨rfl, _, _, g49, o49, e49⟩), ⟨.inr (.inr ⟨rfl, _, _, g81, o81, e81⟩), trivial, trivial⟩, trivial⟩⟩, ⟨.inr (.inr ⟨rfl, _, _, g25, o25, e25⟩), ⟨.inr (.inr ⟨rfl, _, _, g41, o41, e41⟩), ⟨.inr (.inr ⟨rfl, _, _, g73, o73, e73⟩), trivial, trivial⟩, ⟨.inl rfl, trivial, trivial⟩⟩, ⟨.inr (.inr ⟨rfl, _, _, g57, o57, e57⟩), ⟨.inl rfl, trivial, trivial⟩, trivial⟩⟩⟩, ⟨.inr (.inr ⟨rfl, _, _, g13, o13, e13⟩), ⟨.inr (.inr ⟨rfl, _, _, g21, o21, e21⟩), ⟨.inr (.inr ⟨rfl, _, _, g37, o37, e37⟩), ⟨.inr (.inr ⟨rfl, _, _, g69, o69, e69⟩), trivial, trivial⟩, ⟨.inl rfl, trivial, trivial⟩⟩, ⟨.inr (.inr ⟨rfl, _, _, g53, o53, e53⟩), ⟨.inr (.inr ⟨rfl, _, _, g85, o85, e85⟩), trivial, trivial⟩, trivial⟩⟩, ⟨.inr (.inr ⟨rfl, _, _, g29, o29, e29⟩), ⟨.inr (.inr ⟨rfl, _, _, g45, o45, e45⟩), ⟨.inr (.inr ⟨rfl, _, _, g77, o77, e77⟩), trivial, trivial⟩, ⟨.inl rfl, trivial, trivial⟩⟩, ⟨.inr (.inr ⟨rfl, _, _, g61, o61, e61⟩), ⟨.inl rfl, trivial, trivial⟩, trivial⟩⟩⟩⟩⟩, ⟨.inl rfl, ⟨.inr (.inr ⟨rfl, _, _, g4, o4, e4⟩), ⟨.inr (.inr ⟨rfl, _, _, g8, o8, e8⟩), ⟨.inr (.inr ⟨rfl, _, _, g16, o16, e16⟩), ⟨.inr (.inr ⟨rfl, _, _, g32, o32, e32⟩), ⟨.inr (.inr ⟨rfl, _, _, g64, o64, e64⟩), trivial, trivial⟩, ⟨.inl rfl, trivial, trivial⟩⟩, ⟨.inr (.inr ⟨rfl, _, _, g48, o48, e48⟩), ⟨.inr (.inr ⟨rfl, _, _, g80, o80, e80⟩), trivial, trivial⟩, trivial⟩⟩, ⟨.inr (.inr ⟨rfl, _, _, g24, o24, e24⟩), ⟨.inr (.inr ⟨rfl, _, _, g40, o40, e40⟩), ⟨.inr (.inr ⟨rfl, _, _, g72, o72, e72⟩), trivial, trivial⟩, ⟨.inl rfl, trivial, trivial⟩⟩, ⟨.inr (.inr ⟨rfl, _, _, g56, o56, e56⟩), ⟨.inr (.inr ⟨rfl, _, _, g88, o88, e88⟩), trivial, trivial⟩, trivial⟩⟩⟩, ⟨.inr (.inr ⟨rfl, _, _, g12, o12, e12⟩), ⟨.inr (.inr ⟨rfl, _, _, g20, o20, e20⟩), ⟨.inr (.inr ⟨rfl, _, _, g36, o36, e36⟩), ⟨.inr (.inr ⟨rfl, _, _, g68, o68, e68⟩), trivial, trivial⟩, ⟨.inl rfl, trivial, trivial⟩⟩, ⟨.inr (.inr ⟨rfl, _, _, g52, o52, e52⟩), ⟨.inr (.inr ⟨rfl, _, _, g84, o84, e84⟩), trivial, trivial⟩, trivial⟩⟩, ⟨.inr (.inr ⟨rfl, _, _, g28, o28, e28⟩), ⟨.inr (.inr ⟨rfl, _, _, g44, o44, e44⟩), ⟨.inr (.inr ⟨rfl, _, _, g76, o76, e76⟩), trivial, trivial⟩, ⟨.inl rfl, trivial, trivial⟩⟩, ⟨.inr (.inr ⟨rfl, _, _, g60, o60, e60⟩), ⟨.inl rfl, trivial, trivial⟩, trivial⟩⟩⟩⟩, ⟨.inr (.inr ⟨rfl, _, _, g6, o6, e6⟩), ⟨.inr (.inr ⟨rfl, _, _, g10, o10, e10⟩), ⟨.inr (.inr ⟨rfl, _, _, g18, o18, e18⟩), ⟨.inr (.inr ⟨rfl, _, _, g34, o34, e34⟩), ⟨.inr (.inr ⟨rfl, _, _, g66, o66, e66⟩), trivial, trivial⟩, ⟨.inl rfl, trivial, trivial⟩⟩, ⟨.inr (.inr ⟨rfl, _, _, g50, o50, e50⟩), ⟨.inr (.inr ⟨rfl, _, _, g82, o82, e82⟩), trivial, trivial⟩, trivial⟩⟩, ⟨.inr (.inr ⟨rfl, _, _, g26, o26, e26⟩), ⟨.inr (.inr ⟨rfl, _, _, g42, o42, e42⟩), ⟨.inr (.inr ⟨rfl, _, _, g74, o74, e74⟩), trivial, trivial⟩, ⟨.inl rfl, trivial, trivial⟩⟩, ⟨.inr (.inr ⟨rfl, _, _, g58, o58, e58⟩), ⟨.inl rfl, trivial, trivial⟩, trivial⟩⟩⟩, ⟨.inr (.inr ⟨rfl, _, _, g14, o14, e14⟩), ⟨.inr (.inr ⟨rfl, _, _, g22, o22, e22⟩), ⟨.inr (.inr ⟨rfl, _, _, g38, o38, e38⟩), ⟨.inr (.inr ⟨rfl, _, _, g70, o70, e70⟩), trivial, trivial⟩, ⟨.inl rfl, trivial, trivial⟩⟩, ⟨.inr (.inr ⟨rfl, _, _, g54, o54, e54⟩), ⟨.inr (.inr ⟨rfl, _, _, g86, o86, e86⟩), trivial, trivial⟩, trivial⟩⟩, ⟨.inr (.inr ⟨rfl, _, _, g30, o30, e30⟩), ⟨.inr (.inr ⟨rfl, _, _, g46, o46, e46⟩), ⟨.inr (.inr ⟨rfl, _, _, g78, o78, e78⟩), trivial, trivial⟩, ⟨.inl rfl, trivial, trivial⟩⟩, ⟨.inr (.inr ⟨rfl, _, _, g62, o62, e62⟩), ⟨.inl rfl, trivial, trivial⟩, trivial⟩⟩⟩⟩⟩⟩)
@[reducible] def orcK : Orc Tryd.prog := ⟨2, TabAt 1 tab, fun _ _ h => TabAt.keep h, orcs0, fun _ _ h => by cases h⟩
end Go.Xe.TS
