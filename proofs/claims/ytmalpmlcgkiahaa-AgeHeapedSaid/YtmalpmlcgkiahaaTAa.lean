/- The code of the program's functions, their types resolved, as the machine for the kernel runs it: definitions, and for each that it is the program's own. Conditions: none. -/
import Derived.Test.YtmalpmlcgkiahaaYk
import Derived.Test.YtmalpmlcgkiahaaProg
import Derived.KernelRfl
namespace Go.Xe.TA
open Go Go.Xe Go.Proofs
set_option maxRecDepth 1000000
abbrev U : Value := .tuple ⟨[]⟩
noncomputable def c5 : FCode := (.seq (.run [.go (.move (.con (.bool false))) (.r (.l .o))]) (.seq (.seq (.run [.go (.move (.tmp .o)) (.r (.r (.l .o))),
 .go (.len 0 (.tmp (.r (.r (.l .o))))) (.l (.l (.r .o))),
 .go (.bin .gtr 3 (.tmp (.l (.l (.r .o)))) (.con (.int .i64 (.ofNat 220)))) (.r (.l (.r .o)))]) (.cond (.tmp (.r (.l (.r .o)))) (.seq (.run [.go (.call (.con (.func (.func 26) ⟨[]⟩ ⟨[]⟩)) []) (.l (.r (.r .o))),
 .go (.move (.tmp (.l (.r (.r .o))))) (.r (.l .o))]) .ret) .skip)) (.seq (.run [.go (.move (.tmp .o)) (.l (.l (.l (.l .o)))),
 .go (.call (.con (.func (.func 33) ⟨[]⟩ ⟨[]⟩)) [(.tmp (.l (.l (.l (.l .o)))))]) (.r (.l (.l (.l .o)))),
 .go (.move (.tmp (.l .o))) (.l (.r (.l (.l .o)))),
 .go (.call (.con (.func (.func 36) ⟨[]⟩ ⟨[]⟩)) [(.tmp (.r (.l (.l (.l .o))))),(.tmp (.l (.r (.l (.l .o)))))]) (.r (.r (.l (.l .o)))),
 .go (.move (.tmp (.r (.r (.l (.l .o)))))) (.r (.r (.r .o))),
 .go (.extract (.tmp (.r (.r (.r .o)))) 0) (.l (.l (.r (.l .o)))),
 .go (.extract (.tmp (.r (.r (.r .o)))) 1) (.r (.l (.r (.l .o)))),
 .go (.move (.tmp (.l (.l (.r (.l .o)))))) (.l (.r .o)),
 .go (.move (.tmp (.r (.l (.r (.l .o)))))) (.r (.r .o))]) (.seq (.run [.go (.move (.con (.int .i64 (.ofNat 0)))) (.l (.l (.l .o))),
 .go (.move (.con (.int .i64 (.ofNat 0)))) (.r (.l (.l .o)))]) (.seq (.block 0 (.seq (.run [.go (.move (.tmp .o)) (.r (.l (.r (.r (.l .o))))),
 .go (.len 0 (.tmp (.r (.l (.r (.r (.l .o))))))) (.l (.r (.r (.r (.l .o))))),
 .go (.bin .gtr 3 (.tmp (.l (.r (.r (.r (.l .o)))))) (.con (.int .i64 (.ofNat 200)))) (.r (.r (.r (.r (.l .o))))),
 .go (.move (.tmp (.r (.r (.r (.r (.l .o))))))) (.l (.l (.r (.r (.l .o)))))]) (.cond (.tmp (.l (.l (.r (.r (.l .o)))))) (.run [.go (.move (.con (.int .i64 (.ofNat 3)))) (.l (.l (.l .o)))]) (.seq (.run [.go (.move (.tmp (.l .o))) (.r (.l (.l (.l (.r .o))))),
 .go (.call (.con (.func (.func 27) ⟨[]⟩ ⟨[]⟩)) [(.tmp (.r (.l (.l (.l (.r .o)))))),(.con (.int .i64 (.ofNat 1))),(.con (.int .i64 (.ofNat 12)))]) (.l (.r (.l (.l (.r .o))))),
 .go (.un .not (.tmp (.l (.r (.l (.l (.r .o))))))) (.r (.r (.l (.l (.r .o))))),
 .go (.move (.tmp (.r (.r (.l (.l (.r .o))))))) (.l (.l (.l (.l (.r .o)))))]) (.cond (.tmp (.l (.l (.l (.l (.r .o)))))) (.run [.go (.move (.con (.int .i64 (.ofNat 1)))) (.l (.l (.l .o)))]) (.seq (.run [.go (.move (.tmp .o)) (.r (.l (.r (.l (.r .o))))),
 .go (.call (.con (.func (.func 35) ⟨[]⟩ ⟨[]⟩)) [(.tmp (.r (.l (.r (.l (.r .o))))))]) (.l (.r (.r (.l (.r .o))))),
 .go (.un .not (.tmp (.l (.r (.r (.l (.r .o))))))) (.r (.r (.r (.l (.r .o))))),
 .go (.move (.tmp (.r (.r (.r (.l (.r .o))))))) (.l (.l (.r (.l (.r .o)))))]) (.cond (.tmp (.l (.l (.r (.l (.r .o)))))) (.run [.go (.move (.con (.int .i64 (.ofNat 2)))) (.l (.l (.l .o)))]) (.seq (.run [.go (.move (.tmp .o)) (.r (.l (.l (.r (.r .o))))),
 .go (.len 0 (.tmp (.r (.l (.l (.r (.r .o))))))) (.l (.r (.l (.r (.r .o))))),
 .go (.bin .eql 3 (.tmp (.l (.r (.l (.r (.r .o)))))) (.con (.int .i64 (.ofNat 0)))) (.r (.r (.l (.r (.r .o))))),
 .go (.move (.tmp (.r (.r (.l (.r (.r .o))))))) (.l (.l (.l (.r (.r .o)))))]) (.cond (.tmp (.l (.l (.l (.r (.r .o)))))) (.run [.go (.move (.con (.int .i64 (.ofNat 7)))) (.l (.l (.l .o)))]) (.seq (.seq (.run [.go (.move (.con (.int .i64 (.ofNat 0)))) (.l (.r (.l .o)))]) (.block 1 (.loop (.seq (.seq (.run [.go (.move (.tmp (.l (.r (.l .o))))) (.l (.r (.r (.l .o)))),
 .go (.move (.tmp .o)) (.r (.r (.r (.l .o)))),
 .go (.len 0 (.tmp (.r (.r (.r (.l .o)))))) (.l (.l (.l (.r .o)))),
 .go (.bin .lss 3 (.tmp (.l (.r (.r (.l .o))))) (.tmp (.l (.l (.l (.r .o)))))) (.r (.l (.l (.r .o))))]) (.cond (.tmp (.r (.l (.l (.r .o))))) .skip (.exit 1))) (.seq (.block 2 (.seq (.run [.go (.move (.tmp .o)) (.l (.l (.r (.r .o)))),
 .go (.move (.tmp (.l (.r (.l .o))))) (.r (.l (.r (.r .o)))),
 .go (.indexAddr none 1 (.tmp (.l (.l (.r (.r .o))))) (.tmp (.r (.l (.r (.r .o)))))) (.l (.r (.r (.r .o)))),
 .go (.load1 (.tmp (.l (.r (.r (.r .o)))))) (.r (.r (.r (.r .o)))),
 .go (.move (.tmp (.l .o))) (.l (.l (.l (.l (.l .o))))),
 .go (.bin .rem 3 (.tmp (.r (.r (.r (.r .o))))) (.tmp (.l (.l (.l (.l (.l .o))))))) (.r (.l (.l (.l (.l .o))))),
 .go (.bin .eql 3 (.tmp (.r (.l (.l (.l (.l .o)))))) (.con (.int .i64 (.ofNat 0)))) (.l (.r (.l (.l (.l .o)))))]) (.cond (.tmp (.l (.r (.l (.l (.l .o)))))) (.run [.go (.move (.tmp (.r (.l (.l .o))))) (.r (.r (.l (.l (.l .o))))),
 .go (.bin .add 3 (.tmp (.r (.r (.l (.l (.l .o)))))) (.con (.int .i64 (.ofNat 1)))) (.l (.l (.r (.l (.l .o))))),
 .go (.move (.tmp (.l (.l (.r (.l (.l .o))))))) (.r (.l (.l .o)))]) .skip))) (.run [.go (.move (.tmp (.l (.r (.l .o))))) (.l (.r (.l (.r .o)))),
 .go (.bin .add 3 (.tmp (.l (.r (.l (.r .o))))) (.con (.int .i64 (.ofNat 1)))) (.r (.r (.l (.r .o)))),
 .go (.move (.tmp (.r (.r (.l (.r .o)))))) (.l (.r (.l .o)))])))))) (.run [.go (.move (.tmp (.r (.l (.l .o))))) (.r (.l (.r (.l (.l .o))))),
 .go (.move (.tmp (.l .o))) (.l (.r (.r (.l (.l .o))))),
 .go (.bin .mul 3 (.tmp (.r (.l (.r (.l (.l .o)))))) (.tmp (.l (.r (.r (.l (.l .o))))))) (.r (.r (.r (.l (.l .o))))),
 .go (.bin .mul 3 (.tmp (.r (.r (.r (.l (.l .o)))))) (.con (.int .i64 (.ofNat 1000)))) (.l (.l (.l (.r (.l .o))))),
 .go (.move (.tmp .o)) (.r (.l (.l (.r (.l .o))))),
 .go (.len 0 (.tmp (.r (.l (.l (.r (.l .o))))))) (.l (.r (.l (.r (.l .o))))),
 .go (.bin .quo 3 (.tmp (.l (.l (.l (.r (.l .o)))))) (.tmp (.l (.r (.l (.r (.l .o))))))) (.r (.r (.l (.r (.l .o))))),
 .go (.move (.tmp (.r (.r (.l (.r (.l .o))))))) (.r (.l (.l .o)))]))))))))))) (.seq (.run [.go (.move (.tmp (.r (.r .o)))) (.l (.l (.r (.r (.r .o))))),
 .go (.move (.tmp (.l (.l (.l .o))))) (.r (.l (.r (.r (.r .o))))),
 .go (.bin .eql 24 (.tmp (.l (.l (.r (.r (.r .o)))))) (.tmp (.r (.l (.r (.r (.r .o))))))) (.l (.r (.r (.r (.r .o))))),
 .go (.move (.tmp (.l (.r (.r (.r (.r .o))))))) (.r (.r (.r (.r (.r .o))))),
 .gd (.r (.r (.r (.r (.r .o))))) true (.move (.tmp (.l (.r .o)))) (.l (.l (.l (.l (.l (.l .o)))))),
 .gd (.r (.r (.r (.r (.r .o))))) true (.move (.tmp (.r (.l (.l .o))))) (.r (.l (.l (.l (.l (.l .o)))))),
 .gd (.r (.r (.r (.r (.r .o))))) true (.bin .eql 3 (.tmp (.l (.l (.l (.l (.l (.l .o))))))) (.tmp (.r (.l (.l (.l (.l (.l .o)))))))) (.l (.r (.l (.l (.l (.l .o)))))),
 .go (.pick (.tmp (.r (.r (.r (.r (.r .o)))))) (.tmp (.l (.r (.l (.l (.l (.l .o))))))) (.con (.bool false))) (.r (.r (.l (.l (.l (.l .o)))))),
 .go (.move (.tmp (.r (.r (.l (.l (.l (.l .o)))))))) (.l (.l (.r (.l (.l (.l .o)))))),
 .gd (.l (.l (.r (.l (.l (.l .o)))))) true (.call (.con (.func (.func 26) ⟨[]⟩ ⟨[]⟩)) []) (.r (.l (.r (.l (.l (.l .o)))))),
 .go (.pick (.tmp (.l (.l (.r (.l (.l (.l .o))))))) (.tmp (.r (.l (.r (.l (.l (.l .o))))))) (.con (.bool false))) (.l (.r (.r (.l (.l (.l .o)))))),
 .go (.move (.tmp (.l (.r (.r (.l (.l (.l .o)))))))) (.r (.l .o))]) .ret))))))
noncomputable def f5 : FFunc := .mk c5 (.n U (.n U (.n U (.n U (.n U (.n U (.n U .e .e) .e) (.n U .e .e)) (.n U (.n U .e .e) (.n U .e .e))) (.n U (.n U (.n U (.n U .e .e) .e) (.n U .e .e)) (.n U (.n U .e .e) (.n U .e .e)))) (.n U (.n U (.n U (.n U (.n U .e .e) .e) (.n U .e .e)) (.n U (.n U .e .e) (.n U .e .e))) (.n U (.n U (.n U (.n U .e .e) .e) (.n U .e .e)) (.n U (.n U .e .e) (.n U .e .e))))) (.n U (.n U (.n U (.n U (.n U (.n U .e .e) .e) (.n U .e .e)) (.n U (.n U .e .e) (.n U .e .e))) (.n U (.n U (.n U (.n U .e .e) .e) (.n U .e .e)) (.n U (.n U .e .e) (.n U .e .e)))) (.n U (.n U (.n U (.n U (.n U .e .e) .e) (.n U .e .e)) (.n U (.n U .e .e) (.n U .e .e))) (.n U (.n U (.n U .e .e) (.n U .e .e)) (.n U (.n U .e .e) (.n U .e .e)))))) [.o,(.l .o)] [.tmp (.r (.l .o))]
theorem e5 : @compF Try.prog (Gl.none Try.prog) Try.f5 2 = f5 := by kernel_rfl
theorem o5 : okF Try.prog Try.f5 = true := by kernel_rfl
theorem g5 : Try.prog.funcs[(5 : Nat)]? = some Try.f5 := by kernel_rfl
noncomputable def c18 : FCode := (.seq (.run [.go (.move (.con (.bool false))) (.r (.l .o))]) (.seq (.seq (.run [.go (.move (.tmp .o)) (.r (.l (.l (.l .o)))),
 .go (.len 0 (.tmp (.r (.l (.l (.l .o)))))) (.l (.r (.l (.l .o)))),
 .go (.bin .eql 3 (.tmp (.l (.r (.l (.l .o))))) (.con (.int .i64 (.ofNat 0)))) (.r (.r (.l (.l .o)))),
 .go (.move (.tmp (.r (.r (.l (.l .o)))))) (.l (.l (.r (.l .o)))),
 .gd (.l (.l (.r (.l .o)))) false (.move (.tmp .o)) (.r (.l (.r (.l .o)))),
 .gd (.l (.l (.r (.l .o)))) false (.len 0 (.tmp (.r (.l (.r (.l .o)))))) (.l (.r (.r (.l .o)))),
 .gd (.l (.l (.r (.l .o)))) false (.bin .gtr 3 (.tmp (.l (.r (.r (.l .o))))) (.con (.int .i64 (.ofNat 200)))) (.r (.r (.r (.l .o)))),
 .go (.pick (.tmp (.l (.l (.r (.l .o))))) (.con (.bool true)) (.tmp (.r (.r (.r (.l .o)))))) (.l (.l (.l (.r .o))))]) (.cond (.tmp (.l (.l (.l (.r .o))))) (.seq (.run [.go (.call (.con (.func (.func 26) ⟨[]⟩ ⟨[]⟩)) []) (.r (.l (.l (.r .o)))),
 .go (.move (.tmp (.r (.l (.l (.r .o)))))) (.r (.l .o))]) .ret) .skip)) (.seq (.run [.go (.move (.tmp (.l .o))) (.l (.r (.l (.r .o)))),
 .go (.conv .i64 (.tmp (.l (.r (.l (.r .o)))))) (.r (.r (.l (.r .o)))),
 .go (.bin .rem 3 (.tmp (.r (.r (.l (.r .o))))) (.con (.int .i64 (.ofNat 12)))) (.l (.l (.r (.r .o)))),
 .go (.bin .add 3 (.con (.int .i64 (.ofNat 1))) (.tmp (.l (.l (.r (.r .o)))))) (.r (.l (.r (.r .o)))),
 .go (.move (.tmp (.r (.l (.r (.r .o)))))) (.l (.r .o))]) (.seq (.run [.go (.move (.con (.slice none 0 0))) (.r (.r .o)),
 .go (.move (.con (.slice none 0 0))) (.l (.l (.l .o)))]) (.seq (.seq (.run [.go (.move (.con (.int .i64 (.ofNat 0)))) (.r (.l (.l .o)))]) (.block 0 (.loop (.seq (.seq (.run [.go (.move (.tmp (.r (.l (.l .o))))) (.l (.r (.r (.r .o)))),
 .go (.move (.tmp .o)) (.r (.r (.r (.r .o)))),
 .go (.len 0 (.tmp (.r (.r (.r (.r .o)))))) (.l (.l (.l (.l (.l .o))))),
 .go (.bin .lss 3 (.tmp (.l (.r (.r (.r .o))))) (.tmp (.l (.l (.l (.l (.l .o))))))) (.r (.l (.l (.l (.l .o)))))]) (.cond (.tmp (.r (.l (.l (.l (.l .o)))))) .skip (.exit 0))) (.seq (.block 1 (.seq (.run [.go (.move (.tmp .o)) (.l (.l (.r (.l (.l .o))))),
 .go (.move (.tmp (.r (.l (.l .o))))) (.r (.l (.r (.l (.l .o))))),
 .go (.indexAddr none 1 (.tmp (.l (.l (.r (.l (.l .o)))))) (.tmp (.r (.l (.r (.l (.l .o))))))) (.l (.r (.r (.l (.l .o))))),
 .go (.load1 (.tmp (.l (.r (.r (.l (.l .o))))))) (.r (.r (.r (.l (.l .o))))),
 .go (.conv .i64 (.tmp (.r (.r (.r (.l (.l .o))))))) (.l (.l (.l (.r (.l .o))))),
 .go (.bin .rem 3 (.tmp (.l (.l (.l (.r (.l .o)))))) (.con (.int .i64 (.ofNat 141)))) (.r (.l (.l (.r (.l .o))))),
 .go (.move (.tmp (.r (.l (.l (.r (.l .o))))))) (.l (.r (.l .o)))]) (.draw 14 [.go (.move (.tmp (.r (.r .o)))) (.l (.r (.l (.r (.l .o))))),
 .go (.move (.tmp (.l (.r (.l .o))))) (.r (.r (.l (.r (.l .o))))),
 .go (.buildSlice 3 1 [(.int .i64 (.ofNat 0))] [(0,1,(.tmp (.r (.r (.l (.r (.l .o)))))))]) (.l (.l (.r (.r (.l .o))))),
 .go (.append 3 1 8 (.tmp (.l (.r (.l (.r (.l .o)))))) (.tmp (.l (.l (.r (.r (.l .o))))))) (.r (.l (.r (.r (.l .o))))),
 .go (.move (.tmp (.l (.l (.l .o))))) (.l (.r (.r (.r (.l .o))))),
 .go (.move (.tmp (.l (.r (.l .o))))) (.r (.r (.r (.r (.l .o))))),
 .go (.move (.tmp (.l (.r (.l .o))))) (.l (.l (.l (.l (.r .o))))),
 .go (.move (.tmp (.l (.r .o)))) (.r (.l (.l (.l (.r .o))))),
 .go (.bin .rem 3 (.tmp (.l (.l (.l (.l (.r .o)))))) (.tmp (.r (.l (.l (.l (.r .o))))))) (.l (.r (.l (.l (.r .o))))),
 .go (.bin .sub 3 (.tmp (.r (.r (.r (.r (.l .o)))))) (.tmp (.l (.r (.l (.l (.r .o))))))) (.r (.r (.l (.l (.r .o))))),
 .go (.buildSlice 3 1 [(.int .i64 (.ofNat 0))] [(0,1,(.tmp (.r (.r (.l (.l (.r .o)))))))]) (.l (.l (.r (.l (.r .o))))),
 .go (.append 3 1 8 (.tmp (.l (.r (.r (.r (.l .o)))))) (.tmp (.l (.l (.r (.l (.r .o))))))) (.r (.l (.r (.l (.r .o))))),
 .go (.move (.tmp (.r (.l (.r (.r (.l .o))))))) (.r (.r .o)),
 .go (.move (.tmp (.r (.l (.r (.l (.r .o))))))) (.l (.l (.l .o)))] [.ok,.ok,.nw none (some (.l (.l (.r (.r (.l .o)))))) 2 true,.ok,.ok,.ok,.ok,.ok,.ok,.ok,.nw none (some (.l (.l (.r (.l (.r .o)))))) 10 true,.ok,.ok,.ok]))) (.run [.go (.move (.tmp (.r (.l (.l .o))))) (.l (.r (.l (.l (.l .o))))),
 .go (.bin .add 3 (.tmp (.l (.r (.l (.l (.l .o)))))) (.con (.int .i64 (.ofNat 1)))) (.r (.r (.l (.l (.l .o))))),
 .go (.move (.tmp (.r (.r (.l (.l (.l .o))))))) (.r (.l (.l .o)))])))))) (.seq (.run [.go (.move (.tmp (.r (.r .o)))) (.r (.r (.r (.l (.r .o))))),
 .go (.call (.con (.func (.func 36) ⟨[]⟩ ⟨[]⟩)) [(.tmp (.r (.r (.r (.l (.r .o)))))),(.con (.int .i64 (.ofNat 1)))]) (.l (.l (.l (.r (.r .o))))),
 .go (.move (.tmp (.l (.l (.l (.r (.r .o))))))) (.l (.r (.r (.l (.r .o))))),
 .go (.extract (.tmp (.l (.r (.r (.l (.r .o)))))) 0) (.r (.l (.l (.r (.r .o))))),
 .go (.extract (.tmp (.l (.r (.r (.l (.r .o)))))) 1) (.l (.r (.l (.r (.r .o))))),
 .go (.move (.tmp (.r (.l (.l (.r (.r .o))))))) (.r (.r (.l .o))),
 .go (.move (.tmp (.l (.r (.l (.r (.r .o))))))) (.l (.l (.r .o)))]) (.seq (.run [.go (.move (.tmp (.l (.l (.l .o))))) (.l (.l (.r (.r (.r .o))))),
 .go (.move (.tmp (.l (.r .o)))) (.r (.l (.r (.r (.r .o))))),
 .go (.call (.con (.func (.func 36) ⟨[]⟩ ⟨[]⟩)) [(.tmp (.l (.l (.r (.r (.r .o)))))),(.tmp (.r (.l (.r (.r (.r .o))))))]) (.l (.r (.r (.r (.r .o))))),
 .go (.move (.tmp (.l (.r (.r (.r (.r .o))))))) (.r (.r (.l (.r (.r .o))))),
 .go (.extract (.tmp (.r (.r (.l (.r (.r .o)))))) 0) (.r (.r (.r (.r (.r .o))))),
 .go (.extract (.tmp (.r (.r (.l (.r (.r .o)))))) 1) (.l (.l (.l (.l (.l (.l .o)))))),
 .go (.move (.tmp (.r (.r (.r (.r (.r .o))))))) (.r (.l (.r .o))),
 .go (.move (.tmp (.l (.l (.l (.l (.l (.l .o)))))))) (.l (.r (.r .o)))]) (.seq (.run [.go (.move (.tmp (.r (.r .o)))) (.l (.r (.l (.l (.l (.l .o)))))),
 .go (.call (.con (.func (.func 33) ⟨[]⟩ ⟨[]⟩)) [(.tmp (.l (.r (.l (.l (.l (.l .o)))))))]) (.r (.r (.l (.l (.l (.l .o)))))),
 .go (.move (.tmp (.l (.r .o)))) (.l (.l (.r (.l (.l (.l .o)))))),
 .go (.call (.con (.func (.func 36) ⟨[]⟩ ⟨[]⟩)) [(.tmp (.r (.r (.l (.l (.l (.l .o))))))),(.tmp (.l (.l (.r (.l (.l (.l .o)))))))]) (.r (.l (.r (.l (.l (.l .o)))))),
 .go (.move (.tmp (.r (.l (.r (.l (.l (.l .o)))))))) (.r (.l (.l (.l (.l (.l .o)))))),
 .go (.extract (.tmp (.r (.l (.l (.l (.l (.l .o))))))) 0) (.l (.r (.r (.l (.l (.l .o)))))),
 .go (.extract (.tmp (.r (.l (.l (.l (.l (.l .o))))))) 1) (.r (.r (.r (.l (.l (.l .o)))))),
 .go (.move (.tmp (.l (.r (.r (.l (.l (.l .o)))))))) (.r (.r (.r .o))),
 .go (.move (.tmp (.r (.r (.r (.l (.l (.l .o)))))))) (.l (.l (.l (.l .o))))]) (.seq (.run [.go (.move (.tmp (.l (.l (.r .o))))) (.l (.l (.l (.r (.l (.l .o)))))),
 .go (.bin .eql 24 (.tmp (.l (.l (.l (.r (.l (.l .o))))))) (.con (.int .i64 (.ofNat 0)))) (.r (.l (.l (.r (.l (.l .o)))))),
 .go (.move (.tmp (.r (.l (.l (.r (.l (.l .o)))))))) (.l (.r (.l (.r (.l (.l .o)))))),
 .gd (.l (.r (.l (.r (.l (.l .o)))))) true (.move (.tmp (.r (.r (.l .o))))) (.r (.r (.l (.r (.l (.l .o)))))),
 .gd (.l (.r (.l (.r (.l (.l .o)))))) true (.bin .eql 3 (.tmp (.r (.r (.l (.r (.l (.l .o))))))) (.con (.int .i64 (.ofNat 1000)))) (.l (.l (.r (.r (.l (.l .o)))))),
 .go (.pick (.tmp (.l (.r (.l (.r (.l (.l .o))))))) (.tmp (.l (.l (.r (.r (.l (.l .o))))))) (.con (.bool false))) (.r (.l (.r (.r (.l (.l .o)))))),
 .go (.move (.tmp (.r (.l (.r (.r (.l (.l .o)))))))) (.l (.r (.r (.r (.l (.l .o)))))),
 .gd (.l (.r (.r (.r (.l (.l .o)))))) true (.move (.tmp (.l (.r (.r .o))))) (.r (.r (.r (.r (.l (.l .o)))))),
 .gd (.l (.r (.r (.r (.l (.l .o)))))) true (.bin .eql 24 (.tmp (.r (.r (.r (.r (.l (.l .o))))))) (.con (.int .i64 (.ofNat 0)))) (.l (.l (.l (.l (.r (.l .o)))))),
 .go (.pick (.tmp (.l (.r (.r (.r (.l (.l .o))))))) (.tmp (.l (.l (.l (.l (.r (.l .o))))))) (.con (.bool false))) (.r (.l (.l (.l (.r (.l .o)))))),
 .go (.move (.tmp (.r (.l (.l (.l (.r (.l .o)))))))) (.l (.r (.l (.l (.r (.l .o)))))),
 .gd (.l (.r (.l (.l (.r (.l .o)))))) true (.move (.tmp (.r (.l (.r .o))))) (.r (.r (.l (.l (.r (.l .o)))))),
 .gd (.l (.r (.l (.l (.r (.l .o)))))) true (.move (.tmp (.l (.r .o)))) (.l (.l (.r (.l (.r (.l .o)))))),
 .gd (.l (.r (.l (.l (.r (.l .o)))))) true (.bin .mul 3 (.con (.int .i64 (.ofNat 1000))) (.tmp (.l (.l (.r (.l (.r (.l .o)))))))) (.r (.l (.r (.l (.r (.l .o)))))),
 .gd (.l (.r (.l (.l (.r (.l .o)))))) true (.bin .eql 3 (.tmp (.r (.r (.l (.l (.r (.l .o))))))) (.tmp (.r (.l (.r (.l (.r (.l .o)))))))) (.l (.r (.r (.l (.r (.l .o)))))),
 .go (.pick (.tmp (.l (.r (.l (.l (.r (.l .o))))))) (.tmp (.l (.r (.r (.l (.r (.l .o))))))) (.con (.bool false))) (.r (.r (.r (.l (.r (.l .o)))))),
 .go (.move (.tmp (.r (.r (.r (.l (.r (.l .o)))))))) (.l (.l (.l (.r (.r (.l .o)))))),
 .gd (.l (.l (.l (.r (.r (.l .o)))))) true (.move (.tmp (.l (.l (.l (.l .o)))))) (.r (.l (.l (.r (.r (.l .o)))))),
 .gd (.l (.l (.l (.r (.r (.l .o)))))) true (.bin .eql 24 (.tmp (.r (.l (.l (.r (.r (.l .o))))))) (.con (.int .i64 (.ofNat 0)))) (.l (.r (.l (.r (.r (.l .o)))))),
 .go (.pick (.tmp (.l (.l (.l (.r (.r (.l .o))))))) (.tmp (.l (.r (.l (.r (.r (.l .o))))))) (.con (.bool false))) (.r (.r (.l (.r (.r (.l .o)))))),
 .go (.move (.tmp (.r (.r (.l (.r (.r (.l .o)))))))) (.l (.l (.r (.r (.r (.l .o)))))),
 .gd (.l (.l (.r (.r (.r (.l .o)))))) true (.move (.tmp (.r (.r (.r .o))))) (.r (.l (.r (.r (.r (.l .o)))))),
 .gd (.l (.l (.r (.r (.r (.l .o)))))) true (.bin .geq 3 (.tmp (.r (.l (.r (.r (.r (.l .o))))))) (.con (.int .i64 (.ofNat 0)))) (.l (.r (.r (.r (.r (.l .o)))))),
 .go (.pick (.tmp (.l (.l (.r (.r (.r (.l .o))))))) (.tmp (.l (.r (.r (.r (.r (.l .o))))))) (.con (.bool false))) (.r (.r (.r (.r (.r (.l .o)))))),
 .go (.move (.tmp (.r (.r (.r (.r (.r (.l .o)))))))) (.l (.l (.l (.l (.l (.r .o)))))),
 .gd (.l (.l (.l (.l (.l (.r .o)))))) true (.move (.tmp (.r (.r (.r .o))))) (.r (.l (.l (.l (.l (.r .o)))))),
 .gd (.l (.l (.l (.l (.l (.r .o)))))) true (.move (.tmp (.l (.r .o)))) (.l (.r (.l (.l (.l (.r .o)))))),
 .gd (.l (.l (.l (.l (.l (.r .o)))))) true (.bin .mul 3 (.con (.int .i64 (.ofNat 1000))) (.tmp (.l (.r (.l (.l (.l (.r .o)))))))) (.r (.r (.l (.l (.l (.r .o)))))),
 .gd (.l (.l (.l (.l (.l (.r .o)))))) true (.bin .leq 3 (.tmp (.r (.l (.l (.l (.l (.r .o))))))) (.tmp (.r (.r (.l (.l (.l (.r .o)))))))) (.l (.l (.r (.l (.l (.r .o)))))),
 .go (.pick (.tmp (.l (.l (.l (.l (.l (.r .o))))))) (.tmp (.l (.l (.r (.l (.l (.r .o))))))) (.con (.bool false))) (.r (.l (.r (.l (.l (.r .o)))))),
 .go (.move (.tmp (.r (.l (.r (.l (.l (.r .o)))))))) (.l (.r (.r (.l (.l (.r .o)))))),
 .gd (.l (.r (.r (.l (.l (.r .o)))))) true (.call (.con (.func (.func 26) ⟨[]⟩ ⟨[]⟩)) []) (.r (.r (.r (.l (.l (.r .o)))))),
 .go (.pick (.tmp (.l (.r (.r (.l (.l (.r .o))))))) (.tmp (.r (.r (.r (.l (.l (.r .o))))))) (.con (.bool false))) (.l (.l (.l (.r (.l (.r .o)))))),
 .go (.move (.tmp (.l (.l (.l (.r (.l (.r .o)))))))) (.r (.l .o))]) .ret)))))))))
noncomputable def f18 : FFunc := .mk c18 (.n U (.n U (.n U (.n U (.n U (.n U (.n U .e .e) (.n U .e .e)) (.n U (.n U .e .e) .e)) (.n U (.n U (.n U .e .e) (.n U .e .e)) (.n U (.n U .e .e) .e))) (.n U (.n U (.n U (.n U .e .e) (.n U .e .e)) (.n U (.n U .e .e) .e)) (.n U (.n U (.n U .e .e) .e) (.n U (.n U .e .e) .e)))) (.n U (.n U (.n U (.n U (.n U .e .e) (.n U .e .e)) (.n U (.n U .e .e) .e)) (.n U (.n U (.n U .e .e) .e) (.n U (.n U .e .e) .e))) (.n U (.n U (.n U (.n U .e .e) (.n U .e .e)) (.n U (.n U .e .e) .e)) (.n U (.n U (.n U .e .e) .e) (.n U (.n U .e .e) .e))))) (.n U (.n U (.n U (.n U (.n U (.n U .e .e) (.n U .e .e)) (.n U (.n U .e .e) .e)) (.n U (.n U (.n U .e .e) .e) (.n U (.n U .e .e) .e))) (.n U (.n U (.n U (.n U .e .e) (.n U .e .e)) (.n U (.n U .e .e) .e)) (.n U (.n U (.n U .e .e) .e) (.n U (.n U .e .e) .e)))) (.n U (.n U (.n U (.n U (.n U .e .e) (.n U .e .e)) (.n U (.n U .e .e) .e)) (.n U (.n U (.n U .e .e) .e) (.n U (.n U .e .e) .e))) (.n U (.n U (.n U (.n U .e .e) (.n U .e .e)) (.n U (.n U .e .e) .e)) (.n U (.n U (.n U .e .e) .e) (.n U (.n U .e .e) .e)))))) [.o,(.l .o)] [.tmp (.r (.l .o))]
theorem e18 : @compF Try.prog (Gl.none Try.prog) Try.f18 2 = f18 := by kernel_rfl
theorem o18 : okF Try.prog Try.f18 = true := by kernel_rfl
theorem g18 : Try.prog.funcs[(18 : Nat)]? = some Try.f18 := by kernel_rfl
noncomputable def c23 : FCode := (.seq (.run [.go (.box 28 (.tmp .o)) (.r .o),
 .go (.move (.con (.slice none 0 0))) (.r (.l .o)),
 .go (.move (.con (.int .i64 (.ofNat 0)))) (.l (.r .o))]) (.seq (.seq (.run [.go (.loadN 4 (.tmp (.r .o))) (.l (.l (.l .o))),
 .go (.call (.con (.func (.func 64) ⟨[]⟩ ⟨[]⟩)) [(.tmp (.l (.l (.l .o))))]) (.r (.l (.l .o))),
 .go (.un .not (.tmp (.r (.l (.l .o))))) (.l (.r (.l .o)))]) (.cond (.tmp (.l (.r (.l .o)))) (.seq (.run [.go (.move (.con (.slice none 0 0))) (.r (.l .o)),
 .go (.move (.con (.int .i64 (.ofNat 1)))) (.l (.r .o))]) .ret) .skip)) (.seq (.seq (.run [.go (.move (.tmp (.l .o))) (.r (.r (.l .o))),
 .go (.buildSlice 3 1 [(.int .i64 (.ofNat 0))] [(0,1,(.tmp (.r (.r (.l .o)))))]) (.l (.l (.r .o))),
 .go (.call (.con (.func (.func 67) ⟨[]⟩ ⟨[]⟩)) [(.tmp (.l (.l (.r .o))))]) (.r (.l (.r .o))),
 .go (.un .not (.tmp (.r (.l (.r .o))))) (.l (.r (.r .o)))]) (.cond (.tmp (.l (.r (.r .o)))) (.seq (.run [.go (.move (.con (.slice none 0 0))) (.r (.l .o)),
 .go (.move (.con (.int .i64 (.ofNat 2)))) (.l (.r .o))]) .ret) .skip)) (.seq (.run [.go (.loadN 4 (.tmp (.r .o))) (.r (.r (.r .o))),
 .go (.move (.tmp (.l .o))) (.l (.l (.l (.l .o)))),
 .go (.build [(.int .i64 (.ofNat 0)),(.int .i64 (.ofNat 0)),(.int .i64 (.ofNat 0)),(.int .i64 (.ofNat 0)),(.int .i64 (.ofNat 0))] [(0,4,(.tmp (.r (.r (.r .o))))),(4,1,(.tmp (.l (.l (.l (.l .o))))))]) (.r (.l (.l (.l .o)))),
 .go (.call (.con (.func (.func 68) ⟨[]⟩ ⟨[]⟩)) [(.tmp (.r (.l (.l (.l .o)))))]) (.l (.r (.l (.l .o)))),
 .go (.alloc 113 [(.bool false),(.bool false),(.bool false),(.bool false),(.bool false),(.bool false),(.bool false),(.bool false),(.bool false),(.bool false),(.bool false),(.bool false),(.bool false),(.bool false),(.bool false),(.bool false),(.bool false),(.bool false),(.bool false),(.bool false),(.bool false),(.bool false),(.bool false),(.bool false),(.bool false),(.bool false),(.bool false),(.bool false),(.bool false),(.bool false),(.bool false),(.bool false),(.bool false),(.bool false),(.bool false),(.bool false),(.bool false),(.bool false),(.bool false),(.bool false),(.bool false),(.bool false),(.bool false),(.bool false),(.bool false),(.bool false),(.bool false),(.bool false),(.bool false),(.bool false),(.bool false),(.bool false),(.bool false),(.bool false),(.bool false),(.bool false),(.bool false),(.bool false),(.bool false),(.bool false),(.bool false),(.bool false),(.bool false),(.bool false),(.bool false),(.bool false),(.bool false),(.bool false),(.bool false),(.bool false),(.bool false),(.bool false),(.bool false),(.bool false),(.bool false),(.bool false),(.bool false),(.bool false),(.bool false),(.bool false),(.bool false),(.bool false),(.bool false),(.bool false),(.bool false),(.bool false),(.bool false),(.bool false),(.bool false),(.bool false),(.bool false),(.bool false),(.bool false),(.bool false),(.bool false),(.bool false),(.bool false),(.bool false),(.bool false),(.bool false),(.bool false),(.bool false),(.bool false),(.bool false),(.bool false),(.bool false),(.bool false),(.bool false),(.bool false),(.bool false),(.bool false),(.bool false),(.bool false),(.bool false),(.bool false),(.bool false),(.bool false),(.bool false),(.bool false),(.bool false),(.bool false)]) (.r (.r .o)),
 .un (.store 121 (.tmp (.r (.r .o))) (.tmp (.l (.r (.l (.l .o))))))]) (.seq (.run [.go (.loadN 121 (.tmp (.r (.r .o)))) (.r (.r (.l (.l .o)))),
 .go (.call (.con (.func (.func 69) ⟨[]⟩ ⟨[]⟩)) [(.tmp (.r (.r (.l (.l .o)))))]) (.l (.l (.r (.l .o)))),
 .go (.move (.tmp (.l (.l (.r (.l .o)))))) (.r (.l .o)),
 .go (.move (.con (.int .i64 (.ofNat 0)))) (.l (.r .o))]) .ret)))))
noncomputable def f23 : FFunc := .mk c23 (.n U (.n U (.n U (.n U (.n U .e .e) .e) (.n U (.n U .e .e) .e)) (.n U (.n U (.n U .e .e) .e) (.n U .e .e))) (.n U (.n U (.n U (.n U .e .e) .e) (.n U .e .e)) (.n U (.n U (.n U .e .e) .e) (.n U .e .e)))) [.o,(.l .o)] [.tmp (.r (.l .o)),.tmp (.l (.r .o))]
theorem e23 : @compF Try.prog (Gl.none Try.prog) Try.f23 2 = f23 := by kernel_rfl
theorem o23 : okF Try.prog Try.f23 = true := by kernel_rfl
theorem g23 : Try.prog.funcs[(23 : Nat)]? = some Try.f23 := by kernel_rfl
noncomputable def c26 : FCode := (.seq (.run [.go (.move (.con (.bool false))) .o]) (.seq (.run [.go (.call (.con (.func (.func 54) ⟨[]⟩ ⟨[]⟩)) []) (.r (.l (.r .o))),
 .go (.indexAddr none 4 (.tmp (.r (.l (.r .o)))) (.con (.int .i64 (.ofNat 1)))) (.l (.r (.r .o))),
 .go (.loadN 4 (.tmp (.l (.r (.r .o))))) (.r (.r (.r .o))),
 .go (.call (.con (.func (.func 23) ⟨[]⟩ ⟨[]⟩)) [(.tmp (.r (.r (.r .o)))),(.con (.int .i64 (.ofNat 20)))]) (.l (.l (.l (.l .o)))),
 .go (.move (.tmp (.l (.l (.l (.l .o)))))) (.l (.l (.r .o))),
 .go (.extract (.tmp (.l (.l (.r .o)))) 0) (.r (.l (.l (.l .o)))),
 .go (.extract (.tmp (.l (.l (.r .o)))) 1) (.l (.r (.l (.l .o)))),
 .go (.move (.tmp (.r (.l (.l (.l .o)))))) (.l .o),
 .go (.move (.tmp (.l (.r (.l (.l .o)))))) (.r .o)]) (.seq (.run [.go (.build [(.int .i64 (.ofNat 0)),(.int .i64 (.ofNat 0)),(.int .i64 (.ofNat 0))] [(0,1,(.con (.int .i64 (.ofNat 12000)))),(2,1,(.con (.int .i64 (.ofNat 30))))]) (.l (.l (.r (.l .o)))),
 .go (.buildSlice 89 1 [(.int .i64 (.ofNat 0)),(.int .i64 (.ofNat 0)),(.int .i64 (.ofNat 0))] [(0,3,(.tmp (.l (.l (.r (.l .o))))))]) (.r (.l (.r (.l .o)))),
 .go (.call (.con (.func (.func 55) ⟨[]⟩ ⟨[]⟩)) [(.tmp (.r (.l (.r (.l .o)))))]) (.l (.r (.r (.l .o)))),
 .go (.call (.con (.func (.func 40) ⟨[]⟩ ⟨[]⟩)) [(.tmp (.l (.r (.r (.l .o)))))]) (.r (.r (.r (.l .o)))),
 .go (.move (.tmp (.r (.r (.r (.l .o)))))) (.r (.r (.l (.l .o)))),
 .go (.extract (.tmp (.r (.r (.l (.l .o))))) 0) (.l (.l (.l (.r .o)))),
 .go (.extract (.tmp (.r (.r (.l (.l .o))))) 1) (.r (.l (.l (.r .o)))),
 .go (.move (.tmp (.l (.l (.l (.r .o)))))) (.l (.l .o)),
 .go (.move (.tmp (.r (.l (.l (.r .o)))))) (.r (.l .o))]) (.seq (.run [.go (.build [(.int .i64 (.ofNat 0)),(.int .i64 (.ofNat 0)),(.int .i64 (.ofNat 0))] [(0,1,(.con (.int .i64 (.ofNat 12000)))),(2,1,(.con (.int .i64 (.ofNat 30))))]) (.r (.r (.l (.r .o)))),
 .go (.buildSlice 89 1 [(.int .i64 (.ofNat 0)),(.int .i64 (.ofNat 0)),(.int .i64 (.ofNat 0))] [(0,3,(.tmp (.r (.r (.l (.r .o))))))]) (.l (.l (.r (.r .o)))),
 .go (.call (.con (.func (.func 55) ⟨[]⟩ ⟨[]⟩)) [(.tmp (.l (.l (.r (.r .o)))))]) (.r (.l (.r (.r .o)))),
 .go (.call (.con (.func (.func 46) ⟨[]⟩ ⟨[]⟩)) [(.tmp (.r (.l (.r (.r .o))))),(.con (.int .i64 (.ofNat 10950)))]) (.l (.r (.r (.r .o)))),
 .go (.move (.tmp (.l (.r (.r (.r .o)))))) (.l (.r (.l (.r .o)))),
 .go (.extract (.tmp (.l (.r (.l (.r .o))))) 0) (.r (.r (.r (.r .o)))),
 .go (.extract (.tmp (.l (.r (.l (.r .o))))) 1) (.l (.l (.l (.l (.l .o))))),
 .go (.move (.tmp (.r (.r (.r (.r .o)))))) (.l (.r .o)),
 .go (.move (.tmp (.l (.l (.l (.l (.l .o))))))) (.r (.r .o))]) (.seq (.run [.go (.build [(.int .i64 (.ofNat 0)),(.int .i64 (.ofNat 0)),(.int .i64 (.ofNat 0))] [(0,1,(.con (.int .i64 (.ofNat 12000)))),(2,1,(.con (.int .i64 (.ofNat 30))))]) (.l (.r (.l (.l (.l .o))))),
 .go (.build [(.int .i64 (.ofNat 0)),(.int .i64 (.ofNat 0)),(.int .i64 (.ofNat 0))] [(0,1,(.con (.int .i64 (.ofNat 12000)))),(2,1,(.con (.int .i64 (.ofNat 40))))]) (.r (.r (.l (.l (.l .o))))),
 .go (.buildSlice 89 2 [(.int .i64 (.ofNat 0)),(.int .i64 (.ofNat 0)),(.int .i64 (.ofNat 0)),(.int .i64 (.ofNat 0)),(.int .i64 (.ofNat 0)),(.int .i64 (.ofNat 0))] [(0,3,(.tmp (.l (.r (.l (.l (.l .o))))))),(3,3,(.tmp (.r (.r (.l (.l (.l .o)))))))]) (.l (.l (.r (.l (.l .o))))),
 .go (.call (.con (.func (.func 55) ⟨[]⟩ ⟨[]⟩)) [(.tmp (.l (.l (.r (.l (.l .o))))))]) (.r (.l (.r (.l (.l .o))))),
 .go (.call (.con (.func (.func 48) ⟨[]⟩ ⟨[]⟩)) [(.tmp (.r (.l (.r (.l (.l .o))))))]) (.l (.r (.r (.l (.l .o))))),
 .go (.move (.tmp (.l (.r (.r (.l (.l .o))))))) (.r (.l (.l (.l (.l .o))))),
 .go (.extract (.tmp (.r (.l (.l (.l (.l .o)))))) 0) (.r (.r (.r (.l (.l .o))))),
 .go (.extract (.tmp (.r (.l (.l (.l (.l .o)))))) 1) (.l (.l (.l (.r (.l .o))))),
 .go (.move (.tmp (.r (.r (.r (.l (.l .o))))))) (.l (.l (.l .o))),
 .go (.move (.tmp (.l (.l (.l (.r (.l .o))))))) (.r (.l (.l .o)))]) (.seq (.run [.go (.buildSlice 3 4 [(.int .i64 (.ofNat 0)),(.int .i64 (.ofNat 0)),(.int .i64 (.ofNat 0)),(.int .i64 (.ofNat 0))] [(0,1,(.con (.int .i64 (.ofNat 20)))),(1,1,(.con (.int .i64 (.ofNat 25)))),(2,1,(.con (.int .i64 (.ofNat 31)))),(3,1,(.con (.int .i64 (.ofNat 40))))]) (.l (.r (.l (.r (.l .o))))),
 .go (.call (.con (.func (.func 36) ⟨[]⟩ ⟨[]⟩)) [(.tmp (.l (.r (.l (.r (.l .o)))))),(.con (.int .i64 (.ofNat 5)))]) (.r (.r (.l (.r (.l .o))))),
 .go (.move (.tmp (.r (.r (.l (.r (.l .o))))))) (.r (.l (.l (.r (.l .o))))),
 .go (.extract (.tmp (.r (.l (.l (.r (.l .o)))))) 0) (.l (.l (.r (.r (.l .o))))),
 .go (.extract (.tmp (.r (.l (.l (.r (.l .o)))))) 1) (.r (.l (.r (.r (.l .o))))),
 .go (.move (.tmp (.l (.l (.r (.r (.l .o))))))) (.l (.r (.l .o))),
 .go (.move (.tmp (.r (.l (.r (.r (.l .o))))))) (.r (.r (.l .o)))]) (.seq (.draw 64 [.go (.move (.tmp (.r .o))) (.l (.r (.r (.r (.l .o))))),
 .go (.bin .eql 24 (.tmp (.l (.r (.r (.r (.l .o)))))) (.con (.int .i64 (.ofNat 0)))) (.r (.r (.r (.r (.l .o))))),
 .go (.move (.tmp (.r (.r (.r (.r (.l .o))))))) (.l (.l (.l (.l (.r .o))))),
 .gd (.l (.l (.l (.l (.r .o))))) true (.move (.tmp (.l .o))) (.r (.l (.l (.l (.r .o))))),
 .gd (.l (.l (.l (.l (.r .o))))) true (.len 0 (.tmp (.r (.l (.l (.l (.r .o))))))) (.l (.r (.l (.l (.r .o))))),
 .gd (.l (.l (.l (.l (.r .o))))) true (.bin .eql 3 (.tmp (.l (.r (.l (.l (.r .o)))))) (.con (.int .i64 (.ofNat 1)))) (.r (.r (.l (.l (.r .o))))),
 .go (.pick (.tmp (.l (.l (.l (.l (.r .o)))))) (.tmp (.r (.r (.l (.l (.r .o)))))) (.con (.bool false))) (.l (.l (.r (.l (.r .o))))),
 .go (.move (.tmp (.l (.l (.r (.l (.r .o))))))) (.r (.l (.r (.l (.r .o))))),
 .gd (.r (.l (.r (.l (.r .o))))) true (.move (.tmp (.l .o))) (.l (.r (.r (.l (.r .o))))),
 .gd (.r (.l (.r (.l (.r .o))))) true (.indexAddr none 2 (.tmp (.l (.r (.r (.l (.r .o)))))) (.con (.int .i64 (.ofNat 0)))) (.r (.r (.r (.l (.r .o))))),
 .gd (.r (.l (.r (.l (.r .o))))) true (.loadN 2 (.tmp (.r (.r (.r (.l (.r .o))))))) (.l (.l (.l (.r (.r .o))))),
 .gd (.r (.l (.r (.l (.r .o))))) true (.call (.con (.func (.func 34) ⟨[]⟩ ⟨[]⟩)) [(.con (.int .i64 (.ofNat 19))),(.con (.int .i64 (.ofNat 23)))]) (.r (.l (.l (.r (.r .o))))),
 .gd (.r (.l (.r (.l (.r .o))))) true (.bin .eql 48 (.tmp (.l (.l (.l (.r (.r .o)))))) (.tmp (.r (.l (.l (.r (.r .o))))))) (.l (.r (.l (.r (.r .o))))),
 .go (.pick (.tmp (.r (.l (.r (.l (.r .o)))))) (.tmp (.l (.r (.l (.r (.r .o)))))) (.con (.bool false))) (.r (.r (.l (.r (.r .o))))),
 .go (.move (.tmp (.r (.r (.l (.r (.r .o))))))) (.l (.l (.r (.r (.r .o))))),
 .gd (.l (.l (.r (.r (.r .o))))) true (.move (.tmp (.r (.l .o)))) (.r (.l (.r (.r (.r .o))))),
 .gd (.l (.l (.r (.r (.r .o))))) true (.bin .eql 24 (.tmp (.r (.l (.r (.r (.r .o)))))) (.con (.int .i64 (.ofNat 0)))) (.l (.r (.r (.r (.r .o))))),
 .go (.pick (.tmp (.l (.l (.r (.r (.r .o)))))) (.tmp (.l (.r (.r (.r (.r .o)))))) (.con (.bool false))) (.r (.r (.r (.r (.r .o))))),
 .go (.move (.tmp (.r (.r (.r (.r (.r .o))))))) (.l (.l (.l (.l (.l (.l .o)))))),
 .gd (.l (.l (.l (.l (.l (.l .o)))))) true (.move (.tmp (.l (.l .o)))) (.r (.l (.l (.l (.l (.l .o)))))),
 .gd (.l (.l (.l (.l (.l (.l .o)))))) true (.len 0 (.tmp (.r (.l (.l (.l (.l (.l .o)))))))) (.l (.r (.l (.l (.l (.l .o)))))),
 .gd (.l (.l (.l (.l (.l (.l .o)))))) true (.bin .eql 3 (.tmp (.l (.r (.l (.l (.l (.l .o))))))) (.con (.int .i64 (.ofNat 1)))) (.r (.r (.l (.l (.l (.l .o)))))),
 .go (.pick (.tmp (.l (.l (.l (.l (.l (.l .o))))))) (.tmp (.r (.r (.l (.l (.l (.l .o))))))) (.con (.bool false))) (.l (.l (.r (.l (.l (.l .o)))))),
 .go (.move (.tmp (.l (.l (.r (.l (.l (.l .o)))))))) (.r (.l (.r (.l (.l (.l .o)))))),
 .gd (.r (.l (.r (.l (.l (.l .o)))))) true (.move (.tmp (.l (.l .o)))) (.l (.r (.r (.l (.l (.l .o)))))),
 .gd (.r (.l (.r (.l (.l (.l .o)))))) true (.indexAddr none 2 (.tmp (.l (.r (.r (.l (.l (.l .o))))))) (.con (.int .i64 (.ofNat 0)))) (.r (.r (.r (.l (.l (.l .o)))))),
 .gd (.r (.l (.r (.l (.l (.l .o)))))) true (.loadN 2 (.tmp (.r (.r (.r (.l (.l (.l .o)))))))) (.l (.l (.l (.r (.l (.l .o)))))),
 .gd (.r (.l (.r (.l (.l (.l .o)))))) true (.call (.con (.func (.func 34) ⟨[]⟩ ⟨[]⟩)) [(.con (.int .i64 (.ofNat 686))),(.con (.int .i64 (.ofNat 1050)))]) (.r (.l (.l (.r (.l (.l .o)))))),
 .gd (.r (.l (.r (.l (.l (.l .o)))))) true (.bin .eql 48 (.tmp (.l (.l (.l (.r (.l (.l .o))))))) (.tmp (.r (.l (.l (.r (.l (.l .o)))))))) (.l (.r (.l (.r (.l (.l .o)))))),
 .go (.pick (.tmp (.r (.l (.r (.l (.l (.l .o))))))) (.tmp (.l (.r (.l (.r (.l (.l .o))))))) (.con (.bool false))) (.r (.r (.l (.r (.l (.l .o)))))),
 .go (.move (.tmp (.r (.r (.l (.r (.l (.l .o)))))))) (.l (.l (.r (.r (.l (.l .o)))))),
 .gd (.l (.l (.r (.r (.l (.l .o)))))) true (.move (.tmp (.r (.r .o)))) (.r (.l (.r (.r (.l (.l .o)))))),
 .gd (.l (.l (.r (.r (.l (.l .o)))))) true (.bin .eql 24 (.tmp (.r (.l (.r (.r (.l (.l .o))))))) (.con (.int .i64 (.ofNat 0)))) (.l (.r (.r (.r (.l (.l .o)))))),
 .go (.pick (.tmp (.l (.l (.r (.r (.l (.l .o))))))) (.tmp (.l (.r (.r (.r (.l (.l .o))))))) (.con (.bool false))) (.r (.r (.r (.r (.l (.l .o)))))),
 .go (.move (.tmp (.r (.r (.r (.r (.l (.l .o)))))))) (.l (.l (.l (.l (.r (.l .o)))))),
 .gd (.l (.l (.l (.l (.r (.l .o)))))) true (.move (.tmp (.l (.r .o)))) (.r (.l (.l (.l (.r (.l .o)))))),
 .gd (.l (.l (.l (.l (.r (.l .o)))))) true (.len 0 (.tmp (.r (.l (.l (.l (.r (.l .o)))))))) (.l (.r (.l (.l (.r (.l .o)))))),
 .gd (.l (.l (.l (.l (.r (.l .o)))))) true (.bin .eql 3 (.tmp (.l (.r (.l (.l (.r (.l .o))))))) (.con (.int .i64 (.ofNat 1)))) (.r (.r (.l (.l (.r (.l .o)))))),
 .go (.pick (.tmp (.l (.l (.l (.l (.r (.l .o))))))) (.tmp (.r (.r (.l (.l (.r (.l .o))))))) (.con (.bool false))) (.l (.l (.r (.l (.r (.l .o)))))),
 .go (.move (.tmp (.l (.l (.r (.l (.r (.l .o)))))))) (.r (.l (.r (.l (.r (.l .o)))))),
 .gd (.r (.l (.r (.l (.r (.l .o)))))) true (.move (.tmp (.l (.r .o)))) (.l (.r (.r (.l (.r (.l .o)))))),
 .gd (.r (.l (.r (.l (.r (.l .o)))))) true (.indexAddr none 2 (.tmp (.l (.r (.r (.l (.r (.l .o))))))) (.con (.int .i64 (.ofNat 0)))) (.r (.r (.r (.l (.r (.l .o)))))),
 .gd (.r (.l (.r (.l (.r (.l .o)))))) true (.loadN 2 (.tmp (.r (.r (.r (.l (.r (.l .o)))))))) (.l (.l (.l (.r (.r (.l .o)))))),
 .gd (.r (.l (.r (.l (.r (.l .o)))))) true (.call (.con (.func (.func 34) ⟨[]⟩ ⟨[]⟩)) [(.con (.int .i64 (.ofNat 27))),(.con (.int .i64 (.ofNat 28)))]) (.r (.l (.l (.r (.r (.l .o)))))),
 .gd (.r (.l (.r (.l (.r (.l .o)))))) true (.bin .eql 48 (.tmp (.l (.l (.l (.r (.r (.l .o))))))) (.tmp (.r (.l (.l (.r (.r (.l .o)))))))) (.l (.r (.l (.r (.r (.l .o)))))),
 .go (.pick (.tmp (.r (.l (.r (.l (.r (.l .o))))))) (.tmp (.l (.r (.l (.r (.r (.l .o))))))) (.con (.bool false))) (.r (.r (.l (.r (.r (.l .o)))))),
 .go (.move (.tmp (.r (.r (.l (.r (.r (.l .o)))))))) (.l (.l (.r (.r (.r (.l .o)))))),
 .gd (.l (.l (.r (.r (.r (.l .o)))))) true (.move (.tmp (.r (.l (.l .o))))) (.r (.l (.r (.r (.r (.l .o)))))),
 .gd (.l (.l (.r (.r (.r (.l .o)))))) true (.bin .eql 24 (.tmp (.r (.l (.r (.r (.r (.l .o))))))) (.con (.int .i64 (.ofNat 0)))) (.l (.r (.r (.r (.r (.l .o)))))),
 .go (.pick (.tmp (.l (.l (.r (.r (.r (.l .o))))))) (.tmp (.l (.r (.r (.r (.r (.l .o))))))) (.con (.bool false))) (.r (.r (.r (.r (.r (.l .o)))))),
 .go (.move (.tmp (.r (.r (.r (.r (.r (.l .o)))))))) (.l (.l (.l (.l (.l (.r .o)))))),
 .gd (.l (.l (.l (.l (.l (.r .o)))))) true (.move (.tmp (.l (.l (.l .o))))) (.r (.l (.l (.l (.l (.r .o)))))),
 .gd (.l (.l (.l (.l (.l (.r .o)))))) true (.buildSlice 3 1 [(.int .i64 (.ofNat 0))] [(0,1,(.con (.int .i64 (.ofNat 2))))]) (.l (.r (.l (.l (.l (.r .o)))))),
 .gd (.l (.l (.l (.l (.l (.r .o)))))) true (.call (.con (.func (.func 49) ⟨[]⟩ ⟨[]⟩)) [(.tmp (.r (.l (.l (.l (.l (.r .o))))))),(.tmp (.l (.r (.l (.l (.l (.r .o)))))))]) (.r (.r (.l (.l (.l (.r .o)))))),
 .go (.pick (.tmp (.l (.l (.l (.l (.l (.r .o))))))) (.tmp (.r (.r (.l (.l (.l (.r .o))))))) (.con (.bool false))) (.l (.l (.r (.l (.l (.r .o)))))),
 .go (.move (.tmp (.l (.l (.r (.l (.l (.r .o)))))))) (.r (.l (.r (.l (.l (.r .o)))))),
 .gd (.r (.l (.r (.l (.l (.r .o)))))) true (.move (.tmp (.r (.r (.l .o))))) (.l (.r (.r (.l (.l (.r .o)))))),
 .gd (.r (.l (.r (.l (.l (.r .o)))))) true (.bin .eql 24 (.tmp (.l (.r (.r (.l (.l (.r .o))))))) (.con (.int .i64 (.ofNat 0)))) (.r (.r (.r (.l (.l (.r .o)))))),
 .go (.pick (.tmp (.r (.l (.r (.l (.l (.r .o))))))) (.tmp (.r (.r (.r (.l (.l (.r .o))))))) (.con (.bool false))) (.l (.l (.l (.r (.l (.r .o)))))),
 .go (.move (.tmp (.l (.l (.l (.r (.l (.r .o)))))))) (.r (.l (.l (.r (.l (.r .o)))))),
 .gd (.r (.l (.l (.r (.l (.r .o)))))) true (.move (.tmp (.l (.r (.l .o))))) (.l (.r (.l (.r (.l (.r .o)))))),
 .gd (.r (.l (.l (.r (.l (.r .o)))))) true (.bin .eql 3 (.tmp (.l (.r (.l (.r (.l (.r .o))))))) (.con (.int .i64 (.ofNat 3750)))) (.r (.r (.l (.r (.l (.r .o)))))),
 .go (.pick (.tmp (.r (.l (.l (.r (.l (.r .o))))))) (.tmp (.r (.r (.l (.r (.l (.r .o))))))) (.con (.bool false))) (.l (.l (.r (.r (.l (.r .o)))))),
 .go (.move (.tmp (.l (.l (.r (.r (.l (.r .o)))))))) .o] [.ok,.ok,.ok,.ok,.ok,.ok,.ok,.ok,.ok,.ok,.rd (some ((.r (.l (.r (.l (.r .o))))),true)) (.loadN 2 (.tmp (.r (.r (.r (.l (.r .o))))))) (some (.l (.l (.l (.r (.r .o)))))) [12],.ok,.ok,.ok,.ok,.ok,.ok,.ok,.ok,.ok,.ok,.ok,.ok,.ok,.ok,.ok,.rd (some ((.r (.l (.r (.l (.l (.l .o)))))),true)) (.loadN 2 (.tmp (.r (.r (.r (.l (.l (.l .o)))))))) (some (.l (.l (.l (.r (.l (.l .o))))))) [28],.ok,.ok,.ok,.ok,.ok,.ok,.ok,.ok,.ok,.ok,.ok,.ok,.ok,.ok,.ok,.rd (some ((.r (.l (.r (.l (.r (.l .o)))))),true)) (.loadN 2 (.tmp (.r (.r (.r (.l (.r (.l .o)))))))) (some (.l (.l (.l (.r (.r (.l .o))))))) [44],.ok,.ok,.ok,.ok,.ok,.ok,.ok,.ok,.ok,.ok,.ok,.ok,.ok,.ok,.ok,.ok,.ok,.ok,.ok,.ok,.ok]) .ret)))))))
noncomputable def f26 : FFunc := .mk c26 (.n U (.n U (.n U (.n U (.n U (.n U (.n U .e .e) (.n U .e .e)) (.n U (.n U .e .e) .e)) (.n U (.n U (.n U .e .e) (.n U .e .e)) (.n U (.n U .e .e) .e))) (.n U (.n U (.n U (.n U .e .e) (.n U .e .e)) (.n U (.n U .e .e) .e)) (.n U (.n U (.n U .e .e) (.n U .e .e)) (.n U (.n U .e .e) .e)))) (.n U (.n U (.n U (.n U (.n U .e .e) (.n U .e .e)) (.n U (.n U .e .e) .e)) (.n U (.n U (.n U .e .e) (.n U .e .e)) (.n U (.n U .e .e) .e))) (.n U (.n U (.n U (.n U .e .e) (.n U .e .e)) (.n U (.n U .e .e) .e)) (.n U (.n U (.n U .e .e) .e) (.n U (.n U .e .e) .e))))) (.n U (.n U (.n U (.n U (.n U (.n U .e .e) (.n U .e .e)) (.n U (.n U .e .e) .e)) (.n U (.n U (.n U .e .e) (.n U .e .e)) (.n U (.n U .e .e) .e))) (.n U (.n U (.n U (.n U .e .e) (.n U .e .e)) (.n U (.n U .e .e) .e)) (.n U (.n U (.n U .e .e) .e) (.n U (.n U .e .e) .e)))) (.n U (.n U (.n U (.n U (.n U .e .e) (.n U .e .e)) (.n U (.n U .e .e) .e)) (.n U (.n U (.n U .e .e) (.n U .e .e)) (.n U (.n U .e .e) .e))) (.n U (.n U (.n U (.n U .e .e) (.n U .e .e)) (.n U (.n U .e .e) .e)) (.n U (.n U (.n U .e .e) .e) (.n U (.n U .e .e) .e)))))) [] [.tmp .o]
theorem e26 : @compF Try.prog (Gl.none Try.prog) Try.f26 0 = f26 := by kernel_rfl
theorem o26 : okF Try.prog Try.f26 = true := by kernel_rfl
theorem g26 : Try.prog.funcs[(26 : Nat)]? = some Try.f26 := by kernel_rfl
noncomputable def c27 : FCode := (.seq (.run [.go (.move (.con (.bool false))) (.r (.r .o))]) (.seq (.run [.go (.move (.tmp .o)) (.l (.l (.l .o))),
 .go (.move (.tmp (.l .o))) (.r (.l (.l .o))),
 .go (.bin .geq 3 (.tmp (.l (.l (.l .o)))) (.tmp (.r (.l (.l .o))))) (.l (.r (.l .o))),
 .go (.move (.tmp (.l (.r (.l .o))))) (.r (.r (.l .o))),
 .gd (.r (.r (.l .o))) true (.move (.tmp .o)) (.l (.l (.r .o))),
 .gd (.r (.r (.l .o))) true (.move (.tmp (.r .o))) (.r (.l (.r .o))),
 .gd (.r (.r (.l .o))) true (.bin .leq 3 (.tmp (.l (.l (.r .o)))) (.tmp (.r (.l (.r .o))))) (.l (.r (.r .o))),
 .go (.pick (.tmp (.r (.r (.l .o)))) (.tmp (.l (.r (.r .o)))) (.con (.bool false))) (.r (.r (.r .o))),
 .go (.move (.tmp (.r (.r (.r .o))))) (.r (.r .o))]) .ret))
noncomputable def f27 : FFunc := .mk c27 (.n U (.n U (.n U (.n U .e .e) (.n U .e .e)) (.n U (.n U .e .e) (.n U .e .e))) (.n U (.n U (.n U .e .e) (.n U .e .e)) (.n U (.n U .e .e) (.n U .e .e)))) [.o,(.l .o),(.r .o)] [.tmp (.r (.r .o))]
theorem e27 : @compF Try.prog (Gl.none Try.prog) Try.f27 3 = f27 := by kernel_rfl
theorem o27 : okF Try.prog Try.f27 = true := by kernel_rfl
theorem g27 : Try.prog.funcs[(27 : Nat)]? = some Try.f27 := by kernel_rfl
noncomputable def c33 : FCode := (.seq (.run [.go (.move (.con (.slice none 0 0))) (.r .o)]) (.seq (.run [.go (.move (.tmp .o)) (.l (.l .o)),
 .go (.append 3 1 8 (.con (.slice none 0 0)) (.tmp (.l (.l .o)))) (.r (.l .o)),
 .go (.move (.tmp (.r (.l .o)))) (.r .o)]) .ret))
noncomputable def f33 : FFunc := .mk c33 (.n U (.n U (.n U .e .e) .e) (.n U (.n U .e .e) .e)) [.o] [.tmp (.r .o)]
theorem e33 : @compF Try.prog (Gl.none Try.prog) Try.f33 1 = f33 := by kernel_rfl
theorem o33 : okF Try.prog Try.f33 = true := by kernel_rfl
theorem g33 : Try.prog.funcs[(33 : Nat)]? = some Try.f33 := by kernel_rfl
noncomputable def c34 : FCode := (.seq (.run [.go (.alloc 48 [(.int .i64 (.ofNat 0)),(.int .i64 (.ofNat 0))]) (.r (.l .o))]) (.seq (.run [.go (.move (.tmp .o)) (.l (.r .o)),
 .go (.move (.tmp (.l .o))) (.r (.r .o)),
 .go (.build [(.int .i64 (.ofNat 0)),(.int .i64 (.ofNat 0))] [(0,1,(.tmp (.l (.r .o)))),(1,1,(.tmp (.r (.r .o))))]) (.l (.l (.l .o))),
 .un (.store 2 (.tmp (.r (.l .o))) (.tmp (.l (.l (.l .o)))))]) .ret))
noncomputable def f34 : FFunc := .mk c34 (.n U (.n U (.n U (.n U .e .e) .e) (.n U .e .e)) (.n U (.n U .e .e) (.n U .e .e))) [.o,(.l .o)] [.many (.r (.l .o)) 2]
theorem e34 : @compF Try.prog (Gl.none Try.prog) Try.f34 2 = f34 := by kernel_rfl
theorem o34 : okF Try.prog Try.f34 = true := by kernel_rfl
theorem g34 : Try.prog.funcs[(34 : Nat)]? = some Try.f34 := by kernel_rfl
noncomputable def c35 : FCode := (.seq (.run [.go (.move (.con (.bool false))) (.r .o)]) (.seq (.seq (.run [.go (.move (.con (.int .i64 (.ofNat 0)))) (.l (.l .o))]) (.block 0 (.loop (.seq (.seq (.run [.go (.move (.tmp (.l (.l .o)))) (.r (.l .o)),
 .go (.move (.tmp .o)) (.l (.r .o)),
 .go (.len 0 (.tmp (.l (.r .o)))) (.r (.r .o)),
 .go (.bin .lss 3 (.tmp (.r (.l .o))) (.tmp (.r (.r .o)))) (.l (.l (.l .o)))]) (.cond (.tmp (.l (.l (.l .o)))) .skip (.exit 0))) (.seq (.block 1 (.seq (.run [.go (.move (.tmp .o)) (.r (.r (.l .o))),
 .go (.move (.tmp (.l (.l .o)))) (.l (.l (.r .o))),
 .go (.indexAddr none 1 (.tmp (.r (.r (.l .o)))) (.tmp (.l (.l (.r .o))))) (.r (.l (.r .o))),
 .go (.load1 (.tmp (.r (.l (.r .o))))) (.l (.r (.r .o))),
 .go (.call (.con (.func (.func 27) ⟨[]⟩ ⟨[]⟩)) [(.tmp (.l (.r (.r .o)))),(.con (.int .i64 (.ofNat 0))),(.con (.int .i64 (.ofNat 140)))]) (.r (.r (.r .o))),
 .go (.un .not (.tmp (.r (.r (.r .o))))) (.l (.l (.l (.l .o))))]) (.cond (.tmp (.l (.l (.l (.l .o))))) (.seq (.run [.go (.move (.con (.bool false))) (.r .o)]) .ret) .skip))) (.run [.go (.move (.tmp (.l (.l .o)))) (.r (.l (.l .o))),
 .go (.bin .add 3 (.tmp (.r (.l (.l .o)))) (.con (.int .i64 (.ofNat 1)))) (.l (.r (.l .o))),
 .go (.move (.tmp (.l (.r (.l .o))))) (.l (.l .o))])))))) (.seq (.run [.go (.move (.con (.bool true))) (.r .o)]) .ret)))
noncomputable def f35 : FFunc := .mk c35 (.n U (.n U (.n U (.n U (.n U .e .e) .e) (.n U .e .e)) (.n U (.n U .e .e) (.n U .e .e))) (.n U (.n U (.n U .e .e) (.n U .e .e)) (.n U (.n U .e .e) (.n U .e .e)))) [.o] [.tmp (.r .o)]
theorem e35 : @compF Try.prog (Gl.none Try.prog) Try.f35 1 = f35 := by kernel_rfl
theorem o35 : okF Try.prog Try.f35 = true := by kernel_rfl
theorem g35 : Try.prog.funcs[(35 : Nat)]? = some Try.f35 := by kernel_rfl
noncomputable def c36 : FCode := (.seq (.run [.go (.move (.con (.int .i64 (.ofNat 0)))) (.r (.l .o)),
 .go (.move (.con (.int .i64 (.ofNat 0)))) (.l (.r .o))]) (.seq (.block 0 (.seq (.run [.go (.move (.tmp .o)) (.r (.r (.l .o))),
 .go (.len 0 (.tmp (.r (.r (.l .o))))) (.l (.l (.r .o))),
 .go (.bin .gtr 3 (.tmp (.l (.l (.r .o)))) (.con (.int .i64 (.ofNat 200)))) (.r (.l (.r .o))),
 .go (.move (.tmp (.r (.l (.r .o))))) (.l (.r (.l .o)))]) (.cond (.tmp (.l (.r (.l .o)))) (.seq (.run [.go (.move (.con (.int .i64 (.ofNat 0)))) (.r (.l .o)),
 .go (.move (.con (.int .i64 (.ofNat 3)))) (.l (.r .o))]) .ret) (.seq (.run [.go (.move (.tmp (.l .o))) (.r (.r (.r .o))),
 .go (.call (.con (.func (.func 76) ⟨[]⟩ ⟨[]⟩)) [(.tmp (.r (.r (.r .o))))]) (.l (.l (.l (.l .o)))),
 .go (.un .not (.tmp (.l (.l (.l (.l .o)))))) (.r (.l (.l (.l .o)))),
 .go (.move (.tmp (.r (.l (.l (.l .o)))))) (.l (.r (.r .o)))]) (.cond (.tmp (.l (.r (.r .o)))) (.seq (.run [.go (.move (.con (.int .i64 (.ofNat 0)))) (.r (.l .o)),
 .go (.move (.con (.int .i64 (.ofNat 1)))) (.l (.r .o))]) .ret) (.seq (.run [.go (.move (.tmp .o)) (.r (.r (.l (.l .o)))),
 .go (.call (.con (.func (.func 67) ⟨[]⟩ ⟨[]⟩)) [(.tmp (.r (.r (.l (.l .o)))))]) (.l (.l (.r (.l .o)))),
 .go (.un .not (.tmp (.l (.l (.r (.l .o)))))) (.r (.l (.r (.l .o)))),
 .go (.move (.tmp (.r (.l (.r (.l .o)))))) (.l (.r (.l (.l .o))))]) (.cond (.tmp (.l (.r (.l (.l .o))))) (.seq (.run [.go (.move (.con (.int .i64 (.ofNat 0)))) (.r (.l .o)),
 .go (.move (.con (.int .i64 (.ofNat 2)))) (.l (.r .o))]) .ret) (.seq (.run [.go (.move (.tmp .o)) (.r (.r (.r (.l .o)))),
 .go (.len 0 (.tmp (.r (.r (.r (.l .o)))))) (.l (.l (.l (.r .o)))),
 .go (.bin .eql 3 (.tmp (.l (.l (.l (.r .o))))) (.con (.int .i64 (.ofNat 0)))) (.r (.l (.l (.r .o)))),
 .go (.move (.tmp (.r (.l (.l (.r .o)))))) (.l (.r (.r (.l .o))))]) (.cond (.tmp (.l (.r (.r (.l .o))))) (.seq (.run [.go (.move (.con (.int .i64 (.ofNat 0)))) (.r (.l .o)),
 .go (.move (.con (.int .i64 (.ofNat 7)))) (.l (.r .o))]) .ret) .skip))))))))) (.seq (.run [.go (.move (.con (.int .i64 (.ofNat 0)))) (.r (.r .o))]) (.seq (.seq (.run [.go (.move (.tmp .o)) (.l (.r (.l (.r .o)))),
 .go (.len 0 (.tmp (.l (.r (.l (.r .o)))))) (.r (.r (.l (.r .o)))),
 .go (.move (.con (.int .i64 (.ofNat 0)))) (.l (.l (.r (.r .o))))]) (.block 1 (.loop (.seq (.run [.go (.bin .lss 3 (.tmp (.l (.l (.r (.r .o))))) (.tmp (.r (.r (.l (.r .o)))))) (.r (.l (.r (.r .o))))]) (.seq (.cond (.tmp (.r (.l (.r (.r .o))))) .skip (.exit 1)) (.seq (.block 2 (.seq (.run [.go (.indexAddr none 1 (.tmp (.l (.r (.l (.r .o))))) (.tmp (.l (.l (.r (.r .o)))))) (.l (.r (.r (.r .o)))),
 .go (.load1 (.tmp (.l (.r (.r (.r .o)))))) (.r (.r (.r (.r .o)))),
 .go (.move (.tmp (.r (.r (.r (.r .o)))))) (.r (.l (.l .o)))]) (.seq (.run [.go (.move (.tmp (.r (.l (.l .o))))) (.l (.l (.l (.l (.l .o))))),
 .go (.move (.tmp (.l .o))) (.r (.l (.l (.l (.l .o))))),
 .go (.bin .rem 3 (.tmp (.l (.l (.l (.l (.l .o)))))) (.tmp (.r (.l (.l (.l (.l .o))))))) (.l (.r (.l (.l (.l .o))))),
 .go (.bin .eql 3 (.tmp (.l (.r (.l (.l (.l .o)))))) (.con (.int .i64 (.ofNat 0)))) (.r (.r (.l (.l (.l .o)))))]) (.cond (.tmp (.r (.r (.l (.l (.l .o)))))) (.run [.go (.move (.tmp (.r (.r .o)))) (.l (.l (.r (.l (.l .o))))),
 .go (.bin .add 3 (.tmp (.l (.l (.r (.l (.l .o)))))) (.con (.int .i64 (.ofNat 1)))) (.r (.l (.r (.l (.l .o))))),
 .go (.move (.tmp (.r (.l (.r (.l (.l .o))))))) (.r (.r .o))]) .skip)))) (.run [.go (.bin .add 3 (.tmp (.l (.l (.r (.r .o))))) (.con (.int .i64 (.ofNat 1)))) (.l (.r (.r (.l (.l .o))))),
 .go (.move (.tmp (.l (.r (.r (.l (.l .o))))))) (.l (.l (.r (.r .o))))]))))))) (.seq (.run [.go (.move (.tmp (.r (.r .o)))) (.r (.r (.r (.l (.l .o))))),
 .go (.move (.tmp (.l .o))) (.l (.l (.l (.r (.l .o))))),
 .go (.bin .mul 3 (.tmp (.r (.r (.r (.l (.l .o)))))) (.tmp (.l (.l (.l (.r (.l .o))))))) (.r (.l (.l (.r (.l .o))))),
 .go (.bin .mul 3 (.tmp (.r (.l (.l (.r (.l .o)))))) (.con (.int .i64 (.ofNat 1000)))) (.l (.r (.l (.r (.l .o))))),
 .go (.move (.tmp .o)) (.r (.r (.l (.r (.l .o))))),
 .go (.len 0 (.tmp (.r (.r (.l (.r (.l .o))))))) (.l (.l (.r (.r (.l .o))))),
 .go (.bin .quo 3 (.tmp (.l (.r (.l (.r (.l .o)))))) (.tmp (.l (.l (.r (.r (.l .o))))))) (.r (.l (.r (.r (.l .o))))),
 .go (.move (.tmp (.r (.l (.r (.r (.l .o))))))) (.r (.l .o)),
 .go (.move (.con (.int .i64 (.ofNat 0)))) (.l (.r .o))]) .ret)))))
noncomputable def f36 : FFunc := .mk c36 (.n U (.n U (.n U (.n U (.n U (.n U .e .e) .e) (.n U (.n U .e .e) .e)) (.n U (.n U (.n U .e .e) .e) (.n U (.n U .e .e) .e))) (.n U (.n U (.n U (.n U .e .e) .e) (.n U (.n U .e .e) .e)) (.n U (.n U (.n U .e .e) .e) (.n U .e .e)))) (.n U (.n U (.n U (.n U (.n U .e .e) .e) (.n U (.n U .e .e) .e)) (.n U (.n U (.n U .e .e) .e) (.n U (.n U .e .e) .e))) (.n U (.n U (.n U (.n U .e .e) .e) (.n U (.n U .e .e) .e)) (.n U (.n U (.n U .e .e) .e) (.n U .e .e))))) [.o,(.l .o)] [.tmp (.r (.l .o)),.tmp (.l (.r .o))]
theorem e36 : @compF Try.prog (Gl.none Try.prog) Try.f36 2 = f36 := by kernel_rfl
theorem o36 : okF Try.prog Try.f36 = true := by kernel_rfl
theorem g36 : Try.prog.funcs[(36 : Nat)]? = some Try.f36 := by kernel_rfl
noncomputable def c38 : FCode := (.seq (.run [.go (.box 66 (.tmp .o)) (.l .o),
 .go (.move (.con (.int .i64 (.ofNat 0)))) (.r .o)]) (.seq (.seq (.run [.go (.fieldAddr 2 (.tmp (.l .o))) (.l (.l .o)),
 .go (.load1 (.tmp (.l (.l .o)))) (.r (.l .o)),
 .go (.len 0 (.tmp (.r (.l .o)))) (.l (.r .o)),
 .go (.bin .gtr 3 (.tmp (.l (.r .o))) (.con (.int .i64 (.ofNat 4)))) (.r (.r .o)),
 .go (.move (.tmp (.r (.r .o)))) (.l (.l (.l .o))),
 .gd (.l (.l (.l .o))) false (.fieldAddr 3 (.tmp (.l .o))) (.r (.l (.l .o))),
 .gd (.l (.l (.l .o))) false (.load1 (.tmp (.r (.l (.l .o))))) (.l (.r (.l .o))),
 .gd (.l (.l (.l .o))) false (.len 0 (.tmp (.l (.r (.l .o))))) (.r (.r (.l .o))),
 .gd (.l (.l (.l .o))) false (.bin .gtr 3 (.tmp (.r (.r (.l .o)))) (.con (.int .i64 (.ofNat 8)))) (.l (.l (.r .o))),
 .go (.pick (.tmp (.l (.l (.l .o)))) (.con (.bool true)) (.tmp (.l (.l (.r .o))))) (.r (.l (.r .o)))]) (.cond (.tmp (.r (.l (.r .o)))) (.seq (.run [.go (.move (.con (.int .i64 (.ofNat 3)))) (.r .o)]) .ret) .skip)) (.seq (.seq (.run [.go (.loadN 4 (.tmp (.l .o))) (.l (.r (.r .o))),
 .go (.call (.con (.func (.func 77) ⟨[]⟩ ⟨[]⟩)) [(.tmp (.l (.r (.r .o))))]) (.r (.r (.r .o))),
 .go (.un .not (.tmp (.r (.r (.r .o))))) (.l (.l (.l (.l .o))))]) (.cond (.tmp (.l (.l (.l (.l .o))))) (.seq (.run [.go (.move (.con (.int .i64 (.ofNat 1)))) (.r .o)]) .ret) .skip)) (.seq (.run [.go (.move (.con (.int .i64 (.ofNat 0)))) (.r .o)]) .ret))))
noncomputable def f38 : FFunc := .mk c38 (.n U (.n U (.n U (.n U (.n U .e .e) .e) (.n U .e .e)) (.n U (.n U .e .e) (.n U .e .e))) (.n U (.n U (.n U .e .e) (.n U .e .e)) (.n U (.n U .e .e) (.n U .e .e)))) [.o] [.tmp (.r .o)]
theorem e38 : @compF Try.prog (Gl.none Try.prog) Try.f38 1 = f38 := by kernel_rfl
theorem o38 : okF Try.prog Try.f38 = true := by kernel_rfl
theorem g38 : Try.prog.funcs[(38 : Nat)]? = some Try.f38 := by kernel_rfl
noncomputable def c40 : FCode := (.seq (.run [.go (.box 66 (.tmp .o)) (.l .o),
 .go (.move (.con (.slice none 0 0))) (.r .o),
 .go (.move (.con (.int .i64 (.ofNat 0)))) (.l (.l .o))]) (.seq (.run [.go (.loadN 4 (.tmp (.l .o))) (.r (.l (.l .o))),
 .go (.call (.con (.func (.func 78) ⟨[]⟩ ⟨[]⟩)) [(.tmp (.r (.l (.l .o))))]) (.l (.r (.l .o))),
 .go (.move (.tmp (.l (.r (.l .o))))) (.l (.l (.l .o))),
 .go (.extract (.tmp (.l (.l (.l .o)))) 0) (.r (.r (.l .o))),
 .go (.extract (.tmp (.l (.l (.l .o)))) 1) (.l (.l (.r .o))),
 .go (.move (.tmp (.r (.r (.l .o))))) (.r (.l .o)),
 .go (.move (.tmp (.l (.l (.r .o))))) (.l (.r .o))]) (.seq (.seq (.run [.go (.move (.tmp (.l (.r .o)))) (.r (.l (.r .o))),
 .go (.bin .neq 24 (.tmp (.r (.l (.r .o)))) (.con (.int .i64 (.ofNat 0)))) (.l (.r (.r .o)))]) (.cond (.tmp (.l (.r (.r .o)))) (.seq (.run [.go (.move (.tmp (.l (.r .o)))) (.r (.r (.r .o))),
 .go (.move (.con (.slice none 0 0))) (.r .o),
 .go (.move (.tmp (.r (.r (.r .o))))) (.l (.l .o))]) .ret) .skip)) (.seq (.run [.go (.move (.tmp (.r (.l .o)))) (.l (.l (.l (.l .o)))),
 .go (.call (.con (.func (.func 79) ⟨[]⟩ ⟨[]⟩)) [(.tmp (.l (.l (.l (.l .o)))))]) (.r (.l (.l (.l .o)))),
 .go (.move (.tmp (.r (.l (.l (.l .o)))))) (.r (.r .o))]) (.seq (.seq (.run [.go (.move (.tmp (.r (.r .o)))) (.l (.r (.l (.l .o)))),
 .go (.len 0 (.tmp (.l (.r (.l (.l .o)))))) (.r (.r (.l (.l .o)))),
 .go (.bin .eql 3 (.tmp (.r (.r (.l (.l .o))))) (.con (.int .i64 (.ofNat 0)))) (.l (.l (.r (.l .o))))]) (.cond (.tmp (.l (.l (.r (.l .o))))) (.seq (.run [.go (.move (.con (.slice none 0 0))) (.r .o),
 .go (.move (.con (.int .i64 (.ofNat 9)))) (.l (.l .o))]) .ret) .skip)) (.seq (.run [.go (.move (.tmp (.r (.r .o)))) (.r (.l (.r (.l .o)))),
 .go (.move (.tmp (.r (.l (.r (.l .o)))))) (.r .o),
 .go (.move (.con (.int .i64 (.ofNat 0)))) (.l (.l .o))]) .ret))))))
noncomputable def f40 : FFunc := .mk c40 (.n U (.n U (.n U (.n U (.n U .e .e) .e) (.n U (.n U .e .e) .e)) (.n U (.n U (.n U .e .e) .e) (.n U .e .e))) (.n U (.n U (.n U (.n U .e .e) .e) (.n U (.n U .e .e) .e)) (.n U (.n U (.n U .e .e) .e) (.n U .e .e)))) [.o] [.tmp (.r .o),.tmp (.l (.l .o))]
theorem e40 : @compF Try.prog (Gl.none Try.prog) Try.f40 1 = f40 := by kernel_rfl
theorem o40 : okF Try.prog Try.f40 = true := by kernel_rfl
theorem g40 : Try.prog.funcs[(40 : Nat)]? = some Try.f40 := by kernel_rfl
noncomputable def c46 : FCode := (.seq (.run [.go (.box 66 (.tmp .o)) (.r .o),
 .go (.move (.con (.slice none 0 0))) (.r (.l .o)),
 .go (.move (.con (.int .i64 (.ofNat 0)))) (.l (.r .o))]) (.seq (.run [.go (.loadN 4 (.tmp (.r .o))) (.l (.l (.r .o))),
 .go (.call (.con (.func (.func 78) ⟨[]⟩ ⟨[]⟩)) [(.tmp (.l (.l (.r .o))))]) (.r (.l (.r .o))),
 .go (.move (.tmp (.r (.l (.r .o))))) (.r (.r (.l .o))),
 .go (.extract (.tmp (.r (.r (.l .o)))) 0) (.l (.r (.r .o))),
 .go (.extract (.tmp (.r (.r (.l .o)))) 1) (.r (.r (.r .o))),
 .go (.move (.tmp (.l (.r (.r .o))))) (.r (.r .o)),
 .go (.move (.tmp (.r (.r (.r .o))))) (.l (.l (.l .o)))]) (.seq (.seq (.run [.go (.move (.tmp (.l (.l (.l .o))))) (.l (.l (.l (.l .o)))),
 .go (.bin .neq 24 (.tmp (.l (.l (.l (.l .o))))) (.con (.int .i64 (.ofNat 0)))) (.r (.l (.l (.l .o))))]) (.cond (.tmp (.r (.l (.l (.l .o))))) (.seq (.run [.go (.move (.tmp (.l (.l (.l .o))))) (.l (.r (.l (.l .o)))),
 .go (.move (.con (.slice none 0 0))) (.r (.l .o)),
 .go (.move (.tmp (.l (.r (.l (.l .o)))))) (.l (.r .o))]) .ret) .skip)) (.seq (.seq (.run [.go (.move (.tmp (.l .o))) (.r (.r (.l (.l .o)))),
 .go (.buildSlice 3 1 [(.int .i64 (.ofNat 0))] [(0,1,(.tmp (.r (.r (.l (.l .o))))))]) (.l (.l (.r (.l .o)))),
 .go (.call (.con (.func (.func 62) ⟨[]⟩ ⟨[]⟩)) [(.tmp (.l (.l (.r (.l .o)))))]) (.r (.l (.r (.l .o)))),
 .go (.un .not (.tmp (.r (.l (.r (.l .o)))))) (.l (.r (.r (.l .o))))]) (.cond (.tmp (.l (.r (.r (.l .o))))) (.seq (.run [.go (.move (.con (.slice none 0 0))) (.r (.l .o)),
 .go (.move (.con (.int .i64 (.ofNat 2)))) (.l (.r .o))]) .ret) .skip)) (.seq (.run [.go (.move (.tmp (.r (.r .o)))) (.r (.r (.r (.l .o)))),
 .go (.call (.con (.func (.func 79) ⟨[]⟩ ⟨[]⟩)) [(.tmp (.r (.r (.r (.l .o)))))]) (.l (.l (.l (.r .o)))),
 .go (.move (.tmp (.l (.l (.l (.r .o)))))) (.r (.l (.l .o)))]) (.seq (.seq (.run [.go (.move (.tmp (.r (.l (.l .o))))) (.r (.l (.l (.r .o)))),
 .go (.len 0 (.tmp (.r (.l (.l (.r .o)))))) (.l (.r (.l (.r .o)))),
 .go (.bin .eql 3 (.tmp (.l (.r (.l (.r .o))))) (.con (.int .i64 (.ofNat 0)))) (.r (.r (.l (.r .o))))]) (.cond (.tmp (.r (.r (.l (.r .o))))) (.seq (.run [.go (.move (.con (.slice none 0 0))) (.r (.l .o)),
 .go (.move (.con (.int .i64 (.ofNat 9)))) (.l (.r .o))]) .ret) .skip)) (.seq (.run [.go (.move (.tmp (.r (.l (.l .o))))) (.l (.l (.r (.r .o)))),
 .go (.move (.tmp (.l .o))) (.r (.l (.r (.r .o)))),
 .go (.call (.con (.func (.func 85) ⟨[]⟩ ⟨[]⟩)) [(.tmp (.l (.l (.r (.r .o))))),(.tmp (.r (.l (.r (.r .o)))))]) (.l (.r (.r (.r .o)))),
 .go (.move (.tmp (.l (.r (.r (.r .o)))))) (.l (.r (.l .o)))]) (.seq (.seq (.run [.go (.move (.tmp (.l (.r (.l .o))))) (.r (.r (.r (.r .o)))),
 .go (.len 0 (.tmp (.r (.r (.r (.r .o)))))) (.l (.l (.l (.l (.l .o))))),
 .go (.bin .eql 3 (.tmp (.l (.l (.l (.l (.l .o)))))) (.con (.int .i64 (.ofNat 0)))) (.r (.l (.l (.l (.l .o)))))]) (.cond (.tmp (.r (.l (.l (.l (.l .o)))))) (.seq (.run [.go (.move (.con (.slice none 0 0))) (.r (.l .o)),
 .go (.move (.con (.int .i64 (.ofNat 7)))) (.l (.r .o))]) .ret) .skip)) (.seq (.run [.go (.move (.tmp (.l (.r (.l .o))))) (.l (.r (.l (.l (.l .o))))),
 .go (.move (.tmp (.l (.r (.l (.l (.l .o))))))) (.r (.l .o)),
 .go (.move (.con (.int .i64 (.ofNat 0)))) (.l (.r .o))]) .ret)))))))))
noncomputable def f46 : FFunc := .mk c46 (.n U (.n U (.n U (.n U (.n U (.n U .e .e) .e) (.n U .e .e)) (.n U (.n U .e .e) (.n U .e .e))) (.n U (.n U (.n U (.n U .e .e) .e) (.n U .e .e)) (.n U (.n U .e .e) (.n U .e .e)))) (.n U (.n U (.n U (.n U (.n U .e .e) .e) (.n U .e .e)) (.n U (.n U .e .e) (.n U .e .e))) (.n U (.n U (.n U .e .e) (.n U .e .e)) (.n U (.n U .e .e) (.n U .e .e))))) [.o,(.l .o)] [.tmp (.r (.l .o)),.tmp (.l (.r .o))]
theorem e46 : @compF Try.prog (Gl.none Try.prog) Try.f46 2 = f46 := by kernel_rfl
theorem o46 : okF Try.prog Try.f46 = true := by kernel_rfl
theorem g46 : Try.prog.funcs[(46 : Nat)]? = some Try.f46 := by kernel_rfl
noncomputable def c48 : FCode := (.seq (.run [.go (.box 66 (.tmp .o)) (.l .o),
 .go (.move (.con (.slice none 0 0))) (.r .o),
 .go (.move (.con (.int .i64 (.ofNat 0)))) (.l (.l .o))]) (.seq (.run [.go (.loadN 4 (.tmp (.l .o))) (.l (.l (.l .o))),
 .go (.call (.con (.func (.func 78) ⟨[]⟩ ⟨[]⟩)) [(.tmp (.l (.l (.l .o))))]) (.r (.l (.l .o))),
 .go (.move (.tmp (.r (.l (.l .o))))) (.r (.r .o)),
 .go (.extract (.tmp (.r (.r .o))) 0) (.l (.r (.l .o))),
 .go (.extract (.tmp (.r (.r .o))) 1) (.r (.r (.l .o))),
 .go (.move (.tmp (.l (.r (.l .o))))) (.r (.l .o)),
 .go (.move (.tmp (.r (.r (.l .o))))) (.l (.r .o))]) (.seq (.seq (.run [.go (.move (.tmp (.l (.r .o)))) (.l (.l (.r .o))),
 .go (.bin .neq 24 (.tmp (.l (.l (.r .o)))) (.con (.int .i64 (.ofNat 0)))) (.r (.l (.r .o)))]) (.cond (.tmp (.r (.l (.r .o)))) (.seq (.run [.go (.move (.tmp (.l (.r .o)))) (.l (.r (.r .o))),
 .go (.move (.con (.slice none 0 0))) (.r .o),
 .go (.move (.tmp (.l (.r (.r .o))))) (.l (.l .o))]) .ret) .skip)) (.seq (.run [.go (.move (.tmp (.r (.l .o)))) (.r (.r (.r .o))),
 .go (.call (.con (.func (.func 86) ⟨[]⟩ ⟨[]⟩)) [(.tmp (.r (.r (.r .o))))]) (.l (.l (.l (.l .o)))),
 .go (.move (.tmp (.l (.l (.l (.l .o)))))) (.r .o),
 .go (.move (.con (.int .i64 (.ofNat 0)))) (.l (.l .o))]) .ret))))
noncomputable def f48 : FFunc := .mk c48 (.n U (.n U (.n U (.n U (.n U .e .e) .e) (.n U .e .e)) (.n U (.n U .e .e) (.n U .e .e))) (.n U (.n U (.n U .e .e) (.n U .e .e)) (.n U (.n U .e .e) (.n U .e .e)))) [.o] [.tmp (.r .o),.tmp (.l (.l .o))]
theorem e48 : @compF Try.prog (Gl.none Try.prog) Try.f48 1 = f48 := by kernel_rfl
theorem o48 : okF Try.prog Try.f48 = true := by kernel_rfl
theorem g48 : Try.prog.funcs[(48 : Nat)]? = some Try.f48 := by kernel_rfl
noncomputable def c49 : FCode := (.seq (.run [.go (.move (.con (.bool false))) (.r (.l .o))]) (.seq (.seq (.run [.go (.move (.tmp .o)) (.r (.r .o)),
 .go (.len 0 (.tmp (.r (.r .o)))) (.l (.l (.l .o))),
 .go (.move (.tmp (.l .o))) (.r (.l (.l .o))),
 .go (.len 0 (.tmp (.r (.l (.l .o))))) (.l (.r (.l .o))),
 .go (.bin .neq 3 (.tmp (.l (.l (.l .o)))) (.tmp (.l (.r (.l .o))))) (.r (.r (.l .o)))]) (.cond (.tmp (.r (.r (.l .o)))) (.seq (.run [.go (.move (.con (.bool false))) (.r (.l .o))]) .ret) .skip)) (.seq (.seq (.run [.go (.move (.con (.int .i64 (.ofNat 0)))) (.l (.r .o))]) (.block 0 (.loop (.seq (.seq (.run [.go (.move (.tmp (.l (.r .o)))) (.l (.l (.r .o))),
 .go (.move (.tmp .o)) (.r (.l (.r .o))),
 .go (.len 0 (.tmp (.r (.l (.r .o))))) (.l (.r (.r .o))),
 .go (.bin .lss 3 (.tmp (.l (.l (.r .o)))) (.tmp (.l (.r (.r .o))))) (.r (.r (.r .o)))]) (.cond (.tmp (.r (.r (.r .o)))) .skip (.exit 0))) (.seq (.block 1 (.seq (.draw 9 [.go (.move (.tmp .o)) (.l (.r (.l (.l .o)))),
 .go (.move (.tmp (.l (.r .o)))) (.r (.r (.l (.l .o)))),
 .go (.indexAddr none 1 (.tmp (.l (.r (.l (.l .o))))) (.tmp (.r (.r (.l (.l .o)))))) (.l (.l (.r (.l .o)))),
 .go (.load1 (.tmp (.l (.l (.r (.l .o)))))) (.r (.l (.r (.l .o)))),
 .go (.move (.tmp (.l .o))) (.l (.r (.r (.l .o)))),
 .go (.move (.tmp (.l (.r .o)))) (.r (.r (.r (.l .o)))),
 .go (.indexAddr none 1 (.tmp (.l (.r (.r (.l .o))))) (.tmp (.r (.r (.r (.l .o)))))) (.l (.l (.l (.r .o)))),
 .go (.load1 (.tmp (.l (.l (.l (.r .o)))))) (.r (.l (.l (.r .o)))),
 .go (.bin .neq 3 (.tmp (.r (.l (.r (.l .o))))) (.tmp (.r (.l (.l (.r .o)))))) (.l (.r (.l (.r .o))))] [.ok,.ok,.ok,.ok,.ok,.ok,.ok,.ok,.ok]) (.cond (.tmp (.l (.r (.l (.r .o))))) (.seq (.run [.go (.move (.con (.bool false))) (.r (.l .o))]) .ret) .skip))) (.run [.go (.move (.tmp (.l (.r .o)))) (.l (.l (.l (.l .o)))),
 .go (.bin .add 3 (.tmp (.l (.l (.l (.l .o))))) (.con (.int .i64 (.ofNat 1)))) (.r (.l (.l (.l .o)))),
 .go (.move (.tmp (.r (.l (.l (.l .o)))))) (.l (.r .o))])))))) (.seq (.run [.go (.move (.con (.bool true))) (.r (.l .o))]) .ret))))
noncomputable def f49 : FFunc := .mk c49 (.n U (.n U (.n U (.n U (.n U .e .e) (.n U .e .e)) (.n U (.n U .e .e) .e)) (.n U (.n U (.n U .e .e) (.n U .e .e)) (.n U (.n U .e .e) .e))) (.n U (.n U (.n U (.n U .e .e) (.n U .e .e)) (.n U (.n U .e .e) .e)) (.n U (.n U (.n U .e .e) .e) (.n U (.n U .e .e) .e)))) [.o,(.l .o)] [.tmp (.r (.l .o))]
theorem e49 : @compF Try.prog (Gl.none Try.prog) Try.f49 2 = f49 := by kernel_rfl
theorem o49 : okF Try.prog Try.f49 = true := by kernel_rfl
theorem g49 : Try.prog.funcs[(49 : Nat)]? = some Try.f49 := by kernel_rfl
noncomputable def c54 : FCode := (.seq (.run [.go (.move (.con (.slice none 0 0))) .o]) (.seq (.run [.go (.build [(.int .i64 (.ofNat 0)),(.int .i64 (.ofNat 0)),(.int .i64 (.ofNat 0)),(.int .i64 (.ofNat 0))] [(1,1,(.con (.int .i64 (.ofNat 1))))]) (.l .o),
 .go (.build [(.int .i64 (.ofNat 0)),(.int .i64 (.ofNat 0)),(.int .i64 (.ofNat 0)),(.int .i64 (.ofNat 0))] [(0,1,(.con (.int .i64 (.ofNat 20)))),(1,1,(.con (.int .i64 (.ofNat 5)))),(2,1,(.con (.int .i64 (.ofNat 1)))),(3,1,(.con (.int .i64 (.ofNat 1))))]) (.r .o),
 .go (.buildSlice 28 2 [(.int .i64 (.ofNat 0)),(.int .i64 (.ofNat 0)),(.int .i64 (.ofNat 0)),(.int .i64 (.ofNat 0)),(.int .i64 (.ofNat 0)),(.int .i64 (.ofNat 0)),(.int .i64 (.ofNat 0)),(.int .i64 (.ofNat 0))] [(0,4,(.tmp (.l .o))),(4,4,(.tmp (.r .o)))]) (.l (.l .o)),
 .go (.move (.tmp (.l (.l .o)))) .o]) .ret))
noncomputable def f54 : FFunc := .mk c54 (.n U (.n U (.n U .e .e) .e) (.n U .e .e)) [] [.tmp .o]
theorem e54 : @compF Try.prog (Gl.none Try.prog) Try.f54 0 = f54 := by kernel_rfl
theorem o54 : okF Try.prog Try.f54 = true := by kernel_rfl
theorem g54 : Try.prog.funcs[(54 : Nat)]? = some Try.f54 := by kernel_rfl
noncomputable def c55 : FCode := (.seq (.run [.go (.alloc 66 [(.int .i64 (.ofNat 0)),(.int .i64 (.ofNat 0)),(.slice none 0 0),(.slice none 0 0)]) (.r .o)]) (.seq (.run [.go (.call (.con (.func (.func 34) ⟨[]⟩ ⟨[]⟩)) [(.con (.int .i64 (.ofNat 0))),(.con (.int .i64 (.ofNat 20000)))]) (.l (.l .o)),
 .go (.call (.con (.func (.func 54) ⟨[]⟩ ⟨[]⟩)) []) (.r (.l .o)),
 .go (.build [(.int .i64 (.ofNat 0)),(.int .i64 (.ofNat 0)),(.int .i64 (.ofNat 0))] [(0,1,(.con (.int .i64 (.ofNat 10000)))),(1,1,(.con (.int .i64 (.ofNat 1)))),(2,1,(.con (.int .i64 (.ofNat 25))))]) (.l (.r .o)),
 .go (.buildSlice 89 1 [(.int .i64 (.ofNat 0)),(.int .i64 (.ofNat 0)),(.int .i64 (.ofNat 0))] [(0,3,(.tmp (.l (.r .o))))]) (.r (.r .o)),
 .go (.move (.tmp .o)) (.l (.l (.l .o))),
 .go (.append 89 3 24 (.tmp (.r (.r .o))) (.tmp (.l (.l (.l .o))))) (.r (.l (.l .o))),
 .go (.build [(.int .i64 (.ofNat 0)),(.int .i64 (.ofNat 0)),(.slice none 0 0),(.slice none 0 0)] [(0,2,(.tmp (.l (.l .o)))),(2,1,(.tmp (.r (.l .o)))),(3,1,(.tmp (.r (.l (.l .o)))))]) (.l (.r (.l .o))),
 .un (.store 4 (.tmp (.r .o)) (.tmp (.l (.r (.l .o)))))]) .ret))
noncomputable def f55 : FFunc := .mk c55 (.n U (.n U (.n U (.n U .e .e) .e) (.n U (.n U .e .e) .e)) (.n U (.n U (.n U .e .e) .e) (.n U .e .e))) [.o] [.many (.r .o) 4]
theorem e55 : @compF Try.prog (Gl.none Try.prog) Try.f55 1 = f55 := by kernel_rfl
theorem o55 : okF Try.prog Try.f55 = true := by kernel_rfl
theorem g55 : Try.prog.funcs[(55 : Nat)]? = some Try.f55 := by kernel_rfl
noncomputable def c62 : FCode := (.seq (.run [.go (.move (.con (.bool false))) (.r .o)]) (.seq (.run [.go (.move (.tmp .o)) (.l (.l .o)),
 .go (.call (.con (.func (.func 90) ⟨[]⟩ ⟨[]⟩)) []) (.r (.l .o)),
 .go (.makeFunc 65 [(.tmp (.r (.l .o)))] []) (.l (.r .o)),
 .go (.call (.con (.func (.func 89) ⟨[]⟩ ⟨[]⟩)) [(.tmp (.l (.l .o))),(.tmp (.l (.r .o)))]) (.r (.r .o)),
 .go (.move (.tmp (.r (.r .o)))) (.r .o)]) .ret))
noncomputable def f62 : FFunc := .mk c62 (.n U (.n U (.n U .e .e) (.n U .e .e)) (.n U (.n U .e .e) (.n U .e .e))) [.o] [.tmp (.r .o)]
theorem e62 : @compF Try.prog (Gl.none Try.prog) Try.f62 1 = f62 := by kernel_rfl
theorem o62 : okF Try.prog Try.f62 = true := by kernel_rfl
theorem g62 : Try.prog.funcs[(62 : Nat)]? = some Try.f62 := by kernel_rfl
noncomputable def c63 : FCode := (.seq (.run [.go (.move (.con (.int .i64 (.ofNat 0)))) (.r (.l .o))]) (.seq (.run [.go (.move (.tmp (.l .o))) (.l (.r .o)),
 .go (.move (.tmp .o)) (.r (.r .o)),
 .go (.bin .sub 3 (.tmp (.l (.r .o))) (.tmp (.r (.r .o)))) (.l (.l (.l .o))),
 .go (.bin .quo 3 (.tmp (.l (.l (.l .o)))) (.con (.int .i64 (.ofNat 365)))) (.r (.l (.l .o))),
 .go (.move (.tmp (.r (.l (.l .o))))) (.r (.l .o))]) .ret))
noncomputable def f63 : FFunc := .mk c63 (.n U (.n U (.n U (.n U .e .e) .e) (.n U .e .e)) (.n U (.n U (.n U .e .e) .e) (.n U .e .e))) [.o,(.l .o)] [.tmp (.r (.l .o))]
theorem e63 : @compF Try.prog (Gl.none Try.prog) Try.f63 2 = f63 := by kernel_rfl
theorem o63 : okF Try.prog Try.f63 = true := by kernel_rfl
theorem g63 : Try.prog.funcs[(63 : Nat)]? = some Try.f63 := by kernel_rfl
noncomputable def c64 : FCode := (.seq (.run [.go (.box 28 (.tmp .o)) (.l .o),
 .go (.move (.con (.bool false))) (.r .o)]) (.seq (.run [.go (.call (.con (.func (.func 73) ⟨[]⟩ ⟨[]⟩)) []) (.l (.r .o)),
 .go (.build [(.int .i64 (.ofNat 0)),(.int .i64 (.ofNat 0))] [(0,1,(.con (.int .i64 (.ofNat 0)))),(1,1,(.con (.int .i64 (.ofNat 5))))]) (.r (.r .o)),
 .go (.alloc 48 [(.int .i64 (.ofNat 0)),(.int .i64 (.ofNat 0))]) (.l (.l .o)),
 .go (.alloc 48 [(.int .i64 (.ofNat 0)),(.int .i64 (.ofNat 0))]) (.r (.l .o)),
 .un (.store 2 (.tmp (.l (.l .o))) (.tmp (.l (.r .o)))),
 .un (.store 2 (.tmp (.r (.l .o))) (.tmp (.r (.r .o))))]) (.seq (.run [.go (.loadN 2 (.tmp (.l (.l .o)))) (.l (.l (.l .o))),
 .go (.fieldAddr 0 (.tmp (.l .o))) (.r (.l (.l .o))),
 .go (.load1 (.tmp (.r (.l (.l .o))))) (.l (.r (.l .o))),
 .go (.call (.con (.func (.func 65) ⟨[]⟩ ⟨[]⟩)) [(.tmp (.l (.l (.l .o)))),(.tmp (.l (.r (.l .o))))]) (.r (.r (.l .o))),
 .go (.move (.tmp (.r (.r (.l .o))))) (.l (.l (.r .o))),
 .gd (.l (.l (.r .o))) true (.fieldAddr 1 (.tmp (.l .o))) (.r (.l (.r .o))),
 .gd (.l (.l (.r .o))) true (.load1 (.tmp (.r (.l (.r .o))))) (.l (.r (.r .o))),
 .gd (.l (.l (.r .o))) true (.call (.con (.func (.func 76) ⟨[]⟩ ⟨[]⟩)) [(.tmp (.l (.r (.r .o))))]) (.r (.r (.r .o))),
 .go (.pick (.tmp (.l (.l (.r .o)))) (.tmp (.r (.r (.r .o)))) (.con (.bool false))) (.l (.l (.l (.l .o)))),
 .go (.move (.tmp (.l (.l (.l (.l .o)))))) (.r (.l (.l (.l .o)))),
 .gd (.r (.l (.l (.l .o)))) true (.fieldAddr 2 (.tmp (.l .o))) (.l (.r (.l (.l .o)))),
 .gd (.r (.l (.l (.l .o)))) true (.load1 (.tmp (.l (.r (.l (.l .o)))))) (.r (.r (.l (.l .o)))),
 .gd (.r (.l (.l (.l .o)))) true (.bin .eql 3 (.tmp (.r (.r (.l (.l .o))))) (.con (.int .i64 (.ofNat 0)))) (.l (.l (.r (.l .o)))),
 .gd (.r (.l (.l (.l .o)))) true (.move (.tmp (.l (.l (.r (.l .o)))))) (.r (.l (.r (.l .o)))),
 .gd (.r (.l (.r (.l .o)))) false (.fieldAddr 2 (.tmp (.l .o))) (.l (.r (.r (.l .o)))),
 .gd (.r (.l (.r (.l .o)))) false (.load1 (.tmp (.l (.r (.r (.l .o)))))) (.r (.r (.r (.l .o)))),
 .gd (.r (.l (.r (.l .o)))) false (.bin .eql 3 (.tmp (.r (.r (.r (.l .o))))) (.con (.int .i64 (.ofNat 1)))) (.l (.l (.l (.r .o)))),
 .gd (.r (.l (.l (.l .o)))) true (.pick (.tmp (.r (.l (.r (.l .o))))) (.con (.bool true)) (.tmp (.l (.l (.l (.r .o)))))) (.r (.l (.l (.r .o)))),
 .go (.pick (.tmp (.r (.l (.l (.l .o))))) (.tmp (.r (.l (.l (.r .o))))) (.con (.bool false))) (.l (.r (.l (.r .o)))),
 .go (.move (.tmp (.l (.r (.l (.r .o)))))) (.r (.r (.l (.r .o)))),
 .gd (.r (.r (.l (.r .o)))) true (.loadN 2 (.tmp (.r (.l .o)))) (.l (.l (.r (.r .o)))),
 .gd (.r (.r (.l (.r .o)))) true (.fieldAddr 3 (.tmp (.l .o))) (.r (.l (.r (.r .o)))),
 .gd (.r (.r (.l (.r .o)))) true (.load1 (.tmp (.r (.l (.r (.r .o)))))) (.l (.r (.r (.r .o)))),
 .gd (.r (.r (.l (.r .o)))) true (.call (.con (.func (.func 65) ⟨[]⟩ ⟨[]⟩)) [(.tmp (.l (.l (.r (.r .o))))),(.tmp (.l (.r (.r (.r .o)))))]) (.r (.r (.r (.r .o)))),
 .go (.pick (.tmp (.r (.r (.l (.r .o))))) (.tmp (.r (.r (.r (.r .o))))) (.con (.bool false))) (.l (.l (.l (.l (.l .o))))),
 .go (.move (.tmp (.l (.l (.l (.l (.l .o))))))) (.r .o)]) .ret)))
noncomputable def f64 : FFunc := .mk c64 (.n U (.n U (.n U (.n U (.n U (.n U .e .e) .e) (.n U .e .e)) (.n U (.n U .e .e) (.n U .e .e))) (.n U (.n U (.n U .e .e) (.n U .e .e)) (.n U (.n U .e .e) (.n U .e .e)))) (.n U (.n U (.n U (.n U .e .e) (.n U .e .e)) (.n U (.n U .e .e) (.n U .e .e))) (.n U (.n U (.n U .e .e) (.n U .e .e)) (.n U (.n U .e .e) (.n U .e .e))))) [.o] [.tmp (.r .o)]
theorem e64 : @compF Try.prog (Gl.none Try.prog) Try.f64 1 = f64 := by kernel_rfl
theorem o64 : okF Try.prog Try.f64 = true := by kernel_rfl
theorem g64 : Try.prog.funcs[(64 : Nat)]? = some Try.f64 := by kernel_rfl
noncomputable def c65 : FCode := (.seq (.run [.go (.box 48 (.tmp .o)) (.r .o),
 .go (.move (.con (.bool false))) (.r (.l .o))]) (.seq (.run [.go (.fieldAddr 0 (.tmp (.r .o))) (.l (.r .o)),
 .go (.load1 (.tmp (.l (.r .o)))) (.r (.r .o)),
 .go (.move (.tmp (.l .o))) (.l (.l (.l .o))),
 .go (.bin .leq 3 (.tmp (.r (.r .o))) (.tmp (.l (.l (.l .o))))) (.r (.l (.l .o))),
 .go (.move (.tmp (.r (.l (.l .o))))) (.l (.r (.l .o))),
 .gd (.l (.r (.l .o))) true (.move (.tmp (.l .o))) (.r (.r (.l .o))),
 .gd (.l (.r (.l .o))) true (.fieldAddr 1 (.tmp (.r .o))) (.l (.l (.r .o))),
 .gd (.l (.r (.l .o))) true (.load1 (.tmp (.l (.l (.r .o))))) (.r (.l (.r .o))),
 .gd (.l (.r (.l .o))) true (.bin .leq 3 (.tmp (.r (.r (.l .o)))) (.tmp (.r (.l (.r .o))))) (.l (.r (.r .o))),
 .go (.pick (.tmp (.l (.r (.l .o)))) (.tmp (.l (.r (.r .o)))) (.con (.bool false))) (.r (.r (.r .o))),
 .go (.move (.tmp (.r (.r (.r .o))))) (.r (.l .o))]) .ret))
noncomputable def f65 : FFunc := .mk c65 (.n U (.n U (.n U (.n U .e .e) (.n U .e .e)) (.n U (.n U .e .e) (.n U .e .e))) (.n U (.n U (.n U .e .e) (.n U .e .e)) (.n U (.n U .e .e) (.n U .e .e)))) [.o,(.l .o)] [.tmp (.r (.l .o))]
theorem e65 : @compF Try.prog (Gl.none Try.prog) Try.f65 2 = f65 := by kernel_rfl
theorem o65 : okF Try.prog Try.f65 = true := by kernel_rfl
theorem g65 : Try.prog.funcs[(65 : Nat)]? = some Try.f65 := by kernel_rfl
noncomputable def c66 : FCode := (.seq (.run [.go (.box 28 (.tmp .o)) (.r .o),
 .go (.move (.con (.int .i64 (.ofNat 0)))) (.r (.l .o))]) (.seq (.seq (.run [.go (.move (.tmp (.l .o))) (.l (.r .o)),
 .go (.fieldAddr 0 (.tmp (.r .o))) (.r (.r .o)),
 .go (.load1 (.tmp (.r (.r .o)))) (.l (.l (.l .o))),
 .go (.bin .lss 3 (.tmp (.l (.r .o))) (.tmp (.l (.l (.l .o))))) (.r (.l (.l .o)))]) (.cond (.tmp (.r (.l (.l .o)))) (.seq (.run [.go (.move (.tmp (.l .o))) (.l (.r (.l .o))),
 .go (.move (.tmp (.l (.r (.l .o))))) (.r (.l .o))]) .ret) .skip)) (.seq (.draw 7 [.go (.loadN 4 (.tmp (.r .o))) (.r (.r (.l .o))),
 .go (.call (.con (.func (.func 91) ⟨[]⟩ ⟨[]⟩)) [(.tmp (.r (.r (.l .o))))]) (.l (.l (.r .o))),
 .go (.field1 0 (.tmp (.l (.l (.r .o))))) (.r (.l (.r .o))),
 .go (.loadN 4 (.tmp (.r .o))) (.l (.r (.r .o))),
 .go (.move (.tmp (.l .o))) (.r (.r (.r .o))),
 .go (.call (.tmp (.r (.l (.r .o)))) [(.tmp (.l (.r (.r .o)))),(.tmp (.r (.r (.r .o))))]) (.l (.l (.l (.l .o)))),
 .go (.move (.tmp (.l (.l (.l (.l .o)))))) (.r (.l .o))] [.ok,.ok,.ok,.rd none (.loadN 4 (.tmp (.r .o))) (some (.l (.r (.r .o)))) [0],.ok,.ok,.ok]) .ret)))
noncomputable def f66 : FFunc := .mk c66 (.n U (.n U (.n U (.n U (.n U .e .e) .e) (.n U .e .e)) (.n U (.n U .e .e) (.n U .e .e))) (.n U (.n U (.n U .e .e) (.n U .e .e)) (.n U (.n U .e .e) (.n U .e .e)))) [.o,(.l .o)] [.tmp (.r (.l .o))]
theorem e66 : @compF Try.prog (Gl.none Try.prog) Try.f66 2 = f66 := by kernel_rfl
theorem o66 : okF Try.prog Try.f66 = true := by kernel_rfl
theorem g66 : Try.prog.funcs[(66 : Nat)]? = some Try.f66 := by kernel_rfl
noncomputable def c67 : FCode := (.seq (.run [.go (.move (.con (.bool false))) (.r .o)]) (.seq (.run [.go (.build [(.int .i64 (.ofNat 0)),(.int .i64 (.ofNat 0))] [(0,1,(.con (.int .i64 (.ofNat 0)))),(1,1,(.con (.int .i64 (.ofNat 140))))]) (.r (.l .o)),
 .go (.alloc 48 [(.int .i64 (.ofNat 0)),(.int .i64 (.ofNat 0))]) (.l (.l .o)),
 .un (.store 2 (.tmp (.l (.l .o))) (.tmp (.r (.l .o))))]) (.seq (.run [.go (.move (.tmp .o)) (.l (.r .o)),
 .go (.loadN 2 (.tmp (.l (.l .o)))) (.r (.r .o)),
 .go (.makeFunc 65 [(.tmp (.r (.r .o)))] []) (.l (.l (.l .o))),
 .go (.call (.con (.func (.func 89) ⟨[]⟩ ⟨[]⟩)) [(.tmp (.l (.r .o))),(.tmp (.l (.l (.l .o))))]) (.r (.l (.l .o))),
 .go (.move (.tmp (.r (.l (.l .o))))) (.r .o)]) .ret)))
noncomputable def f67 : FFunc := .mk c67 (.n U (.n U (.n U (.n U .e .e) .e) (.n U .e .e)) (.n U (.n U (.n U .e .e) .e) (.n U .e .e))) [.o] [.tmp (.r .o)]
theorem e67 : @compF Try.prog (Gl.none Try.prog) Try.f67 1 = f67 := by kernel_rfl
theorem o67 : okF Try.prog Try.f67 = true := by kernel_rfl
theorem g67 : Try.prog.funcs[(67 : Nat)]? = some Try.f67 := by kernel_rfl
noncomputable def c68 : FCode := (.seq (.run [.go (.box 115 (.tmp .o)) (.l .o),
 .go (.alloc 113 [(.bool false),(.bool false),(.bool false),(.bool false),(.bool false),(.bool false),(.bool false),(.bool false),(.bool false),(.bool false),(.bool false),(.bool false),(.bool false),(.bool false),(.bool false),(.bool false),(.bool false),(.bool false),(.bool false),(.bool false),(.bool false),(.bool false),(.bool false),(.bool false),(.bool false),(.bool false),(.bool false),(.bool false),(.bool false),(.bool false),(.bool false),(.bool false),(.bool false),(.bool false),(.bool false),(.bool false),(.bool false),(.bool false),(.bool false),(.bool false),(.bool false),(.bool false),(.bool false),(.bool false),(.bool false),(.bool false),(.bool false),(.bool false),(.bool false),(.bool false),(.bool false),(.bool false),(.bool false),(.bool false),(.bool false),(.bool false),(.bool false),(.bool false),(.bool false),(.bool false),(.bool false),(.bool false),(.bool false),(.bool false),(.bool false),(.bool false),(.bool false),(.bool false),(.bool false),(.bool false),(.bool false),(.bool false),(.bool false),(.bool false),(.bool false),(.bool false),(.bool false),(.bool false),(.bool false),(.bool false),(.bool false),(.bool false),(.bool false),(.bool false),(.bool false),(.bool false),(.bool false),(.bool false),(.bool false),(.bool false),(.bool false),(.bool false),(.bool false),(.bool false),(.bool false),(.bool false),(.bool false),(.bool false),(.bool false),(.bool false),(.bool false),(.bool false),(.bool false),(.bool false),(.bool false),(.bool false),(.bool false),(.bool false),(.bool false),(.bool false),(.bool false),(.bool false),(.bool false),(.bool false),(.bool false),(.bool false),(.bool false),(.bool false),(.bool false),(.bool false),(.bool false)]) (.r .o)]) (.seq (.run [.go (.alloc 113 [(.bool false),(.bool false),(.bool false),(.bool false),(.bool false),(.bool false),(.bool false),(.bool false),(.bool false),(.bool false),(.bool false),(.bool false),(.bool false),(.bool false),(.bool false),(.bool false),(.bool false),(.bool false),(.bool false),(.bool false),(.bool false),(.bool false),(.bool false),(.bool false),(.bool false),(.bool false),(.bool false),(.bool false),(.bool false),(.bool false),(.bool false),(.bool false),(.bool false),(.bool false),(.bool false),(.bool false),(.bool false),(.bool false),(.bool false),(.bool false),(.bool false),(.bool false),(.bool false),(.bool false),(.bool false),(.bool false),(.bool false),(.bool false),(.bool false),(.bool false),(.bool false),(.bool false),(.bool false),(.bool false),(.bool false),(.bool false),(.bool false),(.bool false),(.bool false),(.bool false),(.bool false),(.bool false),(.bool false),(.bool false),(.bool false),(.bool false),(.bool false),(.bool false),(.bool false),(.bool false),(.bool false),(.bool false),(.bool false),(.bool false),(.bool false),(.bool false),(.bool false),(.bool false),(.bool false),(.bool false),(.bool false),(.bool false),(.bool false),(.bool false),(.bool false),(.bool false),(.bool false),(.bool false),(.bool false),(.bool false),(.bool false),(.bool false),(.bool false),(.bool false),(.bool false),(.bool false),(.bool false),(.bool false),(.bool false),(.bool false),(.bool false),(.bool false),(.bool false),(.bool false),(.bool false),(.bool false),(.bool false),(.bool false),(.bool false),(.bool false),(.bool false),(.bool false),(.bool false),(.bool false),(.bool false),(.bool false),(.bool false),(.bool false),(.bool false),(.bool false),(.bool false)]) (.l (.l .o))]) (.seq (.seq (.run [.go (.move (.con (.int .i64 (.ofNat 0)))) (.r (.r .o))]) (.block 0 (.loop (.seq (.run [.go (.bin .lss 3 (.tmp (.r (.r .o))) (.con (.int .i64 (.ofNat 121)))) (.l (.l (.l .o)))]) (.seq (.cond (.tmp (.l (.l (.l .o)))) .skip (.exit 0)) (.seq (.block 1 (.seq (.run [.go (.move (.tmp (.r (.r .o)))) (.r (.l (.l .o))),
 .go (.move (.tmp (.r (.l (.l .o))))) (.r (.l .o))]) (.seq (.run [.go (.move (.tmp (.r (.l .o)))) (.l (.r (.l .o))),
 .go (.fieldAddr 0 (.tmp (.l .o))) (.r (.r (.l .o))),
 .go (.fieldAddr 3 (.tmp (.r (.r (.l .o))))) (.l (.l (.r .o))),
 .go (.load1 (.tmp (.l (.l (.r .o))))) (.r (.l (.r .o))),
 .go (.bin .sub 3 (.tmp (.l (.r (.l .o)))) (.tmp (.r (.l (.r .o))))) (.l (.r (.r .o))),
 .go (.buildSlice 3 1 [(.int .i64 (.ofNat 0))] [(0,1,(.tmp (.l (.r (.r .o)))))]) (.r (.r (.r .o))),
 .go (.call (.con (.func (.func 92) ⟨[]⟩ ⟨[]⟩)) [(.con (.int .i64 (.ofNat 0))),(.tmp (.r (.r (.r .o))))]) (.l (.l (.l (.l .o)))),
 .go (.move (.tmp (.l (.l (.l (.l .o)))))) (.l (.r .o))]) (.block 2 (.loop (.seq (.seq (.run [.go (.move (.tmp (.l (.r .o)))) (.r (.l (.l (.l .o)))),
 .go (.move (.tmp (.r (.l .o)))) (.l (.r (.l (.l .o)))),
 .go (.fieldAddr 0 (.tmp (.l .o))) (.r (.r (.l (.l .o)))),
 .go (.fieldAddr 3 (.tmp (.r (.r (.l (.l .o)))))) (.l (.l (.r (.l .o)))),
 .go (.load1 (.tmp (.l (.l (.r (.l .o)))))) (.r (.l (.r (.l .o)))),
 .go (.bin .add 3 (.tmp (.l (.r (.l (.l .o))))) (.tmp (.r (.l (.r (.l .o)))))) (.l (.r (.r (.l .o)))),
 .go (.bin .leq 3 (.tmp (.r (.l (.l (.l .o))))) (.tmp (.l (.r (.r (.l .o)))))) (.r (.r (.r (.l .o))))]) (.cond (.tmp (.r (.r (.r (.l .o))))) .skip (.exit 2))) (.seq (.block 3 (.seq (.draw 7 [.go (.fieldAddr 0 (.tmp (.l .o))) (.l (.r (.l (.r .o)))),
 .go (.loadN 4 (.tmp (.l (.r (.l (.r .o)))))) (.r (.r (.l (.r .o)))),
 .go (.move (.tmp (.l (.r .o)))) (.l (.l (.r (.r .o)))),
 .go (.call (.con (.func (.func 66) ⟨[]⟩ ⟨[]⟩)) [(.tmp (.r (.r (.l (.r .o))))),(.tmp (.l (.l (.r (.r .o)))))]) (.r (.l (.r (.r .o)))),
 .go (.fieldAddr 4 (.tmp (.l .o))) (.l (.r (.r (.r .o)))),
 .go (.load1 (.tmp (.l (.r (.r (.r .o)))))) (.r (.r (.r (.r .o)))),
 .go (.bin .eql 3 (.tmp (.r (.l (.r (.r .o))))) (.tmp (.r (.r (.r (.r .o)))))) (.l (.l (.l (.l (.l .o)))))] [.ok,.ok,.ok,.ok,.ok,.rd none (.load1 (.tmp (.l (.r (.r (.r .o)))))) (some (.r (.r (.r (.r .o))))) [0],.ok]) (.cond (.tmp (.l (.l (.l (.l (.l .o)))))) (.run [.go (.move (.tmp (.r (.l .o)))) (.r (.l (.l (.l (.l .o))))),
 .go (.indexAddr (some 121) 1 (.tmp (.l (.l .o))) (.tmp (.r (.l (.l (.l (.l .o))))))) (.l (.r (.l (.l (.l .o))))),
 .un (.store 1 (.tmp (.l (.r (.l (.l (.l .o)))))) (.con (.bool true)))]) .skip))) (.run [.go (.move (.tmp (.l (.r .o)))) (.l (.l (.l (.r .o)))),
 .go (.bin .add 3 (.tmp (.l (.l (.l (.r .o))))) (.con (.int .i64 (.ofNat 1)))) (.r (.l (.l (.r .o)))),
 .go (.move (.tmp (.r (.l (.l (.r .o)))))) (.l (.r .o))])))))))) (.run [.go (.bin .add 3 (.tmp (.r (.r .o))) (.con (.int .i64 (.ofNat 1)))) (.r (.r (.l (.l (.l .o))))),
 .go (.move (.tmp (.r (.r (.l (.l (.l .o))))))) (.r (.r .o))]))))))) (.seq (.run [.go (.loadN 121 (.tmp (.l (.l .o)))) (.l (.l (.r (.l (.l .o))))),
 .un (.store 121 (.tmp (.r .o)) (.tmp (.l (.l (.r (.l (.l .o)))))))]) .ret))))
noncomputable def f68 : FFunc := .mk c68 (.n U (.n U (.n U (.n U (.n U (.n U .e .e) .e) (.n U .e .e)) (.n U (.n U (.n U .e .e) .e) (.n U .e .e))) (.n U (.n U (.n U (.n U .e .e) .e) (.n U .e .e)) (.n U (.n U .e .e) (.n U .e .e)))) (.n U (.n U (.n U (.n U (.n U .e .e) .e) (.n U .e .e)) (.n U (.n U .e .e) (.n U .e .e))) (.n U (.n U (.n U (.n U .e .e) .e) (.n U .e .e)) (.n U (.n U .e .e) (.n U .e .e))))) [.o] [.many (.r .o) 121]
theorem e68 : @compF Try.prog (Gl.none Try.prog) Try.f68 1 = f68 := by kernel_rfl
theorem o68 : okF Try.prog Try.f68 = true := by kernel_rfl
theorem g68 : Try.prog.funcs[(68 : Nat)]? = some Try.f68 := by kernel_rfl
noncomputable def c69 : FCode := (.seq (.run [.go (.box 113 (.tmp .o)) (.l .o),
 .go (.move (.con (.slice none 0 0))) (.r .o)]) (.seq (.run [.go (.move (.con (.slice none 0 0))) (.l (.l .o))]) (.seq (.seq (.run [.go (.loadN 121 (.tmp (.l .o))) (.r (.r .o)),
 .go (.move (.con (.int .i64 (.ofNat 0)))) (.l (.l (.l .o)))]) (.block 0 (.loop (.seq (.run [.go (.bin .lss 3 (.tmp (.l (.l (.l .o)))) (.con (.int .i64 (.ofNat 121)))) (.r (.l (.l .o)))]) (.seq (.cond (.tmp (.r (.l (.l .o)))) .skip (.exit 0)) (.seq (.block 1 (.seq (.run [.go (.move (.tmp (.l (.l (.l .o))))) (.l (.r (.l .o))),
 .go (.index 121 1 true (.tmp (.r (.r .o))) (.tmp (.l (.l (.l .o))))) (.r (.r (.l .o))),
 .go (.move (.tmp (.l (.r (.l .o))))) (.r (.l .o)),
 .go (.move (.tmp (.r (.r (.l .o))))) (.l (.r .o))]) (.seq (.run [.go (.move (.tmp (.l (.r .o)))) (.l (.l (.r .o)))]) (.cond (.tmp (.l (.l (.r .o)))) (.run [.go (.move (.tmp (.l (.l .o)))) (.r (.l (.r .o))),
 .go (.move (.tmp (.r (.l .o)))) (.l (.r (.r .o))),
 .go (.move (.tmp (.r (.l .o)))) (.r (.r (.r .o))),
 .go (.build [(.int .i64 (.ofNat 0)),(.int .i64 (.ofNat 0))] [(0,1,(.tmp (.l (.r (.r .o))))),(1,1,(.tmp (.r (.r (.r .o)))))]) (.l (.l (.l (.l .o)))),
 .go (.buildSlice 48 1 [(.int .i64 (.ofNat 0)),(.int .i64 (.ofNat 0))] [(0,2,(.tmp (.l (.l (.l (.l .o))))))]) (.r (.l (.l (.l .o)))),
 .go (.append 48 2 16 (.tmp (.r (.l (.r .o)))) (.tmp (.r (.l (.l (.l .o)))))) (.l (.r (.l (.l .o)))),
 .go (.move (.tmp (.l (.r (.l (.l .o)))))) (.l (.l .o))]) .skip)))) (.run [.go (.bin .add 3 (.tmp (.l (.l (.l .o)))) (.con (.int .i64 (.ofNat 1)))) (.r (.r (.l (.l .o)))),
 .go (.move (.tmp (.r (.r (.l (.l .o)))))) (.l (.l (.l .o)))]))))))) (.seq (.run [.go (.move (.tmp (.l (.l .o)))) (.l (.l (.r (.l .o)))),
 .go (.call (.con (.func (.func 93) ⟨[]⟩ ⟨[]⟩)) [(.tmp (.l (.l (.r (.l .o)))))]) (.r (.l (.r (.l .o)))),
 .go (.move (.tmp (.r (.l (.r (.l .o)))))) (.r .o)]) .ret))))
noncomputable def f69 : FFunc := .mk c69 (.n U (.n U (.n U (.n U (.n U .e .e) .e) (.n U (.n U .e .e) .e)) (.n U (.n U (.n U .e .e) .e) (.n U .e .e))) (.n U (.n U (.n U (.n U .e .e) .e) (.n U (.n U .e .e) .e)) (.n U (.n U (.n U .e .e) .e) (.n U .e .e)))) [.o] [.tmp (.r .o)]
theorem e69 : @compF Try.prog (Gl.none Try.prog) Try.f69 1 = f69 := by kernel_rfl
theorem o69 : okF Try.prog Try.f69 = true := by kernel_rfl
theorem g69 : Try.prog.funcs[(69 : Nat)]? = some Try.f69 := by kernel_rfl
noncomputable def c72 : FCode := (.seq (.run [.go (.box 48 (.tmp .o)) (.r .o),
 .go (.box 48 (.tmp (.l .o))) (.l (.l .o)),
 .go (.move (.con (.bool false))) (.r (.l .o))]) (.seq (.run [.go (.fieldAddr 0 (.tmp (.l (.l .o)))) (.l (.r .o)),
 .go (.load1 (.tmp (.l (.r .o)))) (.r (.r .o)),
 .go (.fieldAddr 0 (.tmp (.r .o))) (.l (.l (.l .o))),
 .go (.load1 (.tmp (.l (.l (.l .o))))) (.r (.l (.l .o))),
 .go (.bin .leq 3 (.tmp (.r (.r .o))) (.tmp (.r (.l (.l .o))))) (.l (.r (.l .o))),
 .go (.move (.tmp (.l (.r (.l .o))))) (.r (.r (.l .o))),
 .gd (.r (.r (.l .o))) true (.fieldAddr 0 (.tmp (.r .o))) (.l (.l (.r .o))),
 .gd (.r (.r (.l .o))) true (.load1 (.tmp (.l (.l (.r .o))))) (.r (.l (.r .o))),
 .gd (.r (.r (.l .o))) true (.fieldAddr 1 (.tmp (.r .o))) (.l (.r (.r .o))),
 .gd (.r (.r (.l .o))) true (.load1 (.tmp (.l (.r (.r .o))))) (.r (.r (.r .o))),
 .gd (.r (.r (.l .o))) true (.bin .leq 3 (.tmp (.r (.l (.r .o)))) (.tmp (.r (.r (.r .o))))) (.l (.l (.l (.l .o)))),
 .go (.pick (.tmp (.r (.r (.l .o)))) (.tmp (.l (.l (.l (.l .o))))) (.con (.bool false))) (.r (.l (.l (.l .o)))),
 .go (.move (.tmp (.r (.l (.l (.l .o)))))) (.l (.r (.l (.l .o)))),
 .gd (.l (.r (.l (.l .o)))) true (.fieldAddr 1 (.tmp (.r .o))) (.r (.r (.l (.l .o)))),
 .gd (.l (.r (.l (.l .o)))) true (.load1 (.tmp (.r (.r (.l (.l .o)))))) (.l (.l (.r (.l .o)))),
 .gd (.l (.r (.l (.l .o)))) true (.fieldAddr 1 (.tmp (.l (.l .o)))) (.r (.l (.r (.l .o)))),
 .gd (.l (.r (.l (.l .o)))) true (.load1 (.tmp (.r (.l (.r (.l .o)))))) (.l (.r (.r (.l .o)))),
 .gd (.l (.r (.l (.l .o)))) true (.bin .leq 3 (.tmp (.l (.l (.r (.l .o))))) (.tmp (.l (.r (.r (.l .o)))))) (.r (.r (.r (.l .o)))),
 .go (.pick (.tmp (.l (.r (.l (.l .o))))) (.tmp (.r (.r (.r (.l .o))))) (.con (.bool false))) (.l (.l (.l (.r .o)))),
 .go (.move (.tmp (.l (.l (.l (.r .o)))))) (.r (.l .o))]) .ret))
noncomputable def f72 : FFunc := .mk c72 (.n U (.n U (.n U (.n U (.n U .e .e) (.n U .e .e)) (.n U (.n U .e .e) .e)) (.n U (.n U (.n U .e .e) .e) (.n U (.n U .e .e) .e))) (.n U (.n U (.n U (.n U .e .e) .e) (.n U (.n U .e .e) .e)) (.n U (.n U (.n U .e .e) .e) (.n U (.n U .e .e) .e)))) [.o,(.l .o)] [.tmp (.r (.l .o))]
theorem e72 : @compF Try.prog (Gl.none Try.prog) Try.f72 2 = f72 := by kernel_rfl
theorem o72 : okF Try.prog Try.f72 = true := by kernel_rfl
theorem g72 : Try.prog.funcs[(72 : Nat)]? = some Try.f72 := by kernel_rfl
noncomputable def c73 : FCode := (.seq (.run [.go (.alloc 48 [(.int .i64 (.ofNat 0)),(.int .i64 (.ofNat 0))]) .o]) (.seq (.run [.go (.build [(.int .i64 (.ofNat 0)),(.int .i64 (.ofNat 0))] [(0,1,(.con (.int .i64 (.ofNat 0)))),(1,1,(.con (.int .i64 (.ofNat 120))))]) (.l .o),
 .un (.store 2 (.tmp .o) (.tmp (.l .o)))]) .ret))
noncomputable def f73 : FFunc := .mk c73 (.n U (.n U .e .e) .e) [] [.many .o 2]
theorem e73 : @compF Try.prog (Gl.none Try.prog) Try.f73 0 = f73 := by kernel_rfl
theorem o73 : okF Try.prog Try.f73 = true := by kernel_rfl
theorem g73 : Try.prog.funcs[(73 : Nat)]? = some Try.f73 := by kernel_rfl
noncomputable def c74 : FCode := (.seq (.run [.go (.box 115 (.tmp (.l .o))) (.l (.l .o)),
 .go (.alloc 113 [(.bool false),(.bool false),(.bool false),(.bool false),(.bool false),(.bool false),(.bool false),(.bool false),(.bool false),(.bool false),(.bool false),(.bool false),(.bool false),(.bool false),(.bool false),(.bool false),(.bool false),(.bool false),(.bool false),(.bool false),(.bool false),(.bool false),(.bool false),(.bool false),(.bool false),(.bool false),(.bool false),(.bool false),(.bool false),(.bool false),(.bool false),(.bool false),(.bool false),(.bool false),(.bool false),(.bool false),(.bool false),(.bool false),(.bool false),(.bool false),(.bool false),(.bool false),(.bool false),(.bool false),(.bool false),(.bool false),(.bool false),(.bool false),(.bool false),(.bool false),(.bool false),(.bool false),(.bool false),(.bool false),(.bool false),(.bool false),(.bool false),(.bool false),(.bool false),(.bool false),(.bool false),(.bool false),(.bool false),(.bool false),(.bool false),(.bool false),(.bool false),(.bool false),(.bool false),(.bool false),(.bool false),(.bool false),(.bool false),(.bool false),(.bool false),(.bool false),(.bool false),(.bool false),(.bool false),(.bool false),(.bool false),(.bool false),(.bool false),(.bool false),(.bool false),(.bool false),(.bool false),(.bool false),(.bool false),(.bool false),(.bool false),(.bool false),(.bool false),(.bool false),(.bool false),(.bool false),(.bool false),(.bool false),(.bool false),(.bool false),(.bool false),(.bool false),(.bool false),(.bool false),(.bool false),(.bool false),(.bool false),(.bool false),(.bool false),(.bool false),(.bool false),(.bool false),(.bool false),(.bool false),(.bool false),(.bool false),(.bool false),(.bool false),(.bool false),(.bool false),(.bool false)]) (.r (.l .o))]) (.seq (.run [.go (.move (.tmp .o)) (.r (.l (.l .o))),
 .go (.loadN 5 (.tmp (.l (.l .o)))) (.l (.r (.l .o))),
 .go (.lookup 115 (.agg ⟨[(.bool false),(.bool false),(.bool false),(.bool false),(.bool false),(.bool false),(.bool false),(.bool false),(.bool false),(.bool false),(.bool false),(.bool false),(.bool false),(.bool false),(.bool false),(.bool false),(.bool false),(.bool false),(.bool false),(.bool false),(.bool false),(.bool false),(.bool false),(.bool false),(.bool false),(.bool false),(.bool false),(.bool false),(.bool false),(.bool false),(.bool false),(.bool false),(.bool false),(.bool false),(.bool false),(.bool false),(.bool false),(.bool false),(.bool false),(.bool false),(.bool false),(.bool false),(.bool false),(.bool false),(.bool false),(.bool false),(.bool false),(.bool false),(.bool false),(.bool false),(.bool false),(.bool false),(.bool false),(.bool false),(.bool false),(.bool false),(.bool false),(.bool false),(.bool false),(.bool false),(.bool false),(.bool false),(.bool false),(.bool false),(.bool false),(.bool false),(.bool false),(.bool false),(.bool false),(.bool false),(.bool false),(.bool false),(.bool false),(.bool false),(.bool false),(.bool false),(.bool false),(.bool false),(.bool false),(.bool false),(.bool false),(.bool false),(.bool false),(.bool false),(.bool false),(.bool false),(.bool false),(.bool false),(.bool false),(.bool false),(.bool false),(.bool false),(.bool false),(.bool false),(.bool false),(.bool false),(.bool false),(.bool false),(.bool false),(.bool false),(.bool false),(.bool false),(.bool false),(.bool false),(.bool false),(.bool false),(.bool false),(.bool false),(.bool false),(.bool false),(.bool false),(.bool false),(.bool false),(.bool false),(.bool false),(.bool false),(.bool false),(.bool false),(.bool false),(.bool false),(.bool false)]⟩) (.tmp (.r (.l (.l .o)))) (.tmp (.l (.r (.l .o)))) true) (.r (.r (.l .o))),
 .go (.move (.tmp (.r (.r (.l .o))))) (.l (.l (.l .o))),
 .go (.extract (.tmp (.l (.l (.l .o)))) 0) (.l (.l (.r .o))),
 .go (.extract (.tmp (.l (.l (.l .o)))) 1) (.r (.l (.r .o))),
 .go (.alloc 113 [(.bool false),(.bool false),(.bool false),(.bool false),(.bool false),(.bool false),(.bool false),(.bool false),(.bool false),(.bool false),(.bool false),(.bool false),(.bool false),(.bool false),(.bool false),(.bool false),(.bool false),(.bool false),(.bool false),(.bool false),(.bool false),(.bool false),(.bool false),(.bool false),(.bool false),(.bool false),(.bool false),(.bool false),(.bool false),(.bool false),(.bool false),(.bool false),(.bool false),(.bool false),(.bool false),(.bool false),(.bool false),(.bool false),(.bool false),(.bool false),(.bool false),(.bool false),(.bool false),(.bool false),(.bool false),(.bool false),(.bool false),(.bool false),(.bool false),(.bool false),(.bool false),(.bool false),(.bool false),(.bool false),(.bool false),(.bool false),(.bool false),(.bool false),(.bool false),(.bool false),(.bool false),(.bool false),(.bool false),(.bool false),(.bool false),(.bool false),(.bool false),(.bool false),(.bool false),(.bool false),(.bool false),(.bool false),(.bool false),(.bool false),(.bool false),(.bool false),(.bool false),(.bool false),(.bool false),(.bool false),(.bool false),(.bool false),(.bool false),(.bool false),(.bool false),(.bool false),(.bool false),(.bool false),(.bool false),(.bool false),(.bool false),(.bool false),(.bool false),(.bool false),(.bool false),(.bool false),(.bool false),(.bool false),(.bool false),(.bool false),(.bool false),(.bool false),(.bool false),(.bool false),(.bool false),(.bool false),(.bool false),(.bool false),(.bool false),(.bool false),(.bool false),(.bool false),(.bool false),(.bool false),(.bool false),(.bool false),(.bool false),(.bool false),(.bool false),(.bool false),(.bool false)]) (.l (.r .o)),
 .un (.store 121 (.tmp (.l (.r .o))) (.tmp (.l (.l (.r .o))))),
 .go (.move (.tmp (.r (.l (.r .o))))) (.r (.r .o))]) (.seq (.seq (.run [.go (.move (.tmp (.r (.r .o)))) (.l (.r (.r .o))),
 .go (.un .not (.tmp (.l (.r (.r .o))))) (.r (.r (.r .o)))]) (.cond (.tmp (.r (.r (.r .o)))) (.seq (.run [.go (.loadN 5 (.tmp (.l (.l .o)))) (.l (.l (.l (.l .o)))),
 .go (.call (.con (.func (.func 68) ⟨[]⟩ ⟨[]⟩)) [(.tmp (.l (.l (.l (.l .o)))))]) (.r (.l (.l (.l .o)))),
 .un (.store 121 (.tmp (.l (.r .o))) (.tmp (.r (.l (.l (.l .o))))))]) (.run [.go (.move (.tmp .o)) (.l (.r (.l (.l .o)))),
 .go (.loadN 5 (.tmp (.l (.l .o)))) (.r (.r (.l (.l .o)))),
 .go (.loadN 121 (.tmp (.l (.r .o)))) (.l (.l (.r (.l .o)))),
 .un (.mapUpdate 115 (.tmp (.l (.r (.l (.l .o))))) (.tmp (.r (.r (.l (.l .o))))) (.tmp (.l (.l (.r (.l .o))))))])) .skip)) (.seq (.run [.go (.loadN 121 (.tmp (.l (.r .o)))) (.r (.l (.r (.l .o)))),
 .un (.store 121 (.tmp (.r (.l .o))) (.tmp (.r (.l (.r (.l .o))))))]) .ret))))
noncomputable def f74 : FFunc := .mk c74 (.n U (.n U (.n U (.n U (.n U .e .e) .e) (.n U (.n U .e .e) .e)) (.n U (.n U (.n U .e .e) .e) (.n U .e .e))) (.n U (.n U (.n U (.n U .e .e) .e) (.n U (.n U .e .e) .e)) (.n U (.n U (.n U .e .e) .e) (.n U .e .e)))) [.o,(.l .o)] [.many (.r (.l .o)) 121]
theorem e74 : @compF Try.prog (Gl.none Try.prog) Try.f74 2 = f74 := by kernel_rfl
theorem o74 : okF Try.prog Try.f74 = true := by kernel_rfl
theorem g74 : Try.prog.funcs[(74 : Nat)]? = some Try.f74 := by kernel_rfl
noncomputable def c76 : FCode := (.seq (.run [.go (.move (.con (.bool false))) (.r .o)]) (.seq (.run [.go (.move (.tmp .o)) (.l (.l .o)),
 .go (.bin .leq 3 (.con (.int .i64 (.ofNat 1))) (.tmp (.l (.l .o)))) (.r (.l .o)),
 .go (.move (.tmp (.r (.l .o)))) (.l (.r .o)),
 .gd (.l (.r .o)) true (.move (.tmp .o)) (.r (.r .o)),
 .gd (.l (.r .o)) true (.bin .leq 3 (.tmp (.r (.r .o))) (.con (.int .i64 (.ofNat 12)))) (.l (.l (.l .o))),
 .go (.pick (.tmp (.l (.r .o))) (.tmp (.l (.l (.l .o)))) (.con (.bool false))) (.r (.l (.l .o))),
 .go (.move (.tmp (.r (.l (.l .o))))) (.r .o)]) .ret))
noncomputable def f76 : FFunc := .mk c76 (.n U (.n U (.n U (.n U .e .e) .e) (.n U .e .e)) (.n U (.n U (.n U .e .e) .e) (.n U .e .e))) [.o] [.tmp (.r .o)]
theorem e76 : @compF Try.prog (Gl.none Try.prog) Try.f76 1 = f76 := by kernel_rfl
theorem o76 : okF Try.prog Try.f76 = true := by kernel_rfl
theorem g76 : Try.prog.funcs[(76 : Nat)]? = some Try.f76 := by kernel_rfl
noncomputable def c77 : FCode := (.seq (.run [.go (.box 66 (.tmp .o)) (.l .o),
 .go (.move (.con (.bool false))) (.r .o)]) (.seq (.draw 23 [.go (.fieldAddr 0 (.tmp (.l .o))) (.l (.l .o)),
 .go (.loadN 2 (.tmp (.l (.l .o)))) (.r (.l .o)),
 .go (.call (.con (.func (.func 90) ⟨[]⟩ ⟨[]⟩)) []) (.l (.r .o)),
 .go (.call (.con (.func (.func 72) ⟨[]⟩ ⟨[]⟩)) [(.tmp (.r (.l .o))),(.tmp (.l (.r .o)))]) (.r (.r .o)),
 .go (.move (.tmp (.r (.r .o)))) (.l (.l (.l .o))),
 .gd (.l (.l (.l .o))) true (.fieldAddr 2 (.tmp (.l .o))) (.r (.l (.l .o))),
 .gd (.l (.l (.l .o))) true (.load1 (.tmp (.r (.l (.l .o))))) (.l (.r (.l .o))),
 .gd (.l (.l (.l .o))) true (.len 0 (.tmp (.l (.r (.l .o))))) (.r (.r (.l .o))),
 .gd (.l (.l (.l .o))) true (.bin .gtr 3 (.tmp (.r (.r (.l .o)))) (.con (.int .i64 (.ofNat 0)))) (.l (.l (.r .o))),
 .go (.pick (.tmp (.l (.l (.l .o)))) (.tmp (.l (.l (.r .o)))) (.con (.bool false))) (.r (.l (.r .o))),
 .go (.move (.tmp (.r (.l (.r .o))))) (.l (.r (.r .o))),
 .gd (.l (.r (.r .o))) true (.fieldAddr 2 (.tmp (.l .o))) (.r (.r (.r .o))),
 .gd (.l (.r (.r .o))) true (.load1 (.tmp (.r (.r (.r .o))))) (.l (.l (.l (.l .o)))),
 .gd (.l (.r (.r .o))) true (.call (.con (.func (.func 94) ⟨[]⟩ ⟨[]⟩)) [(.tmp (.l (.l (.l (.l .o))))),(.con (.func (.func 64) ⟨[]⟩ ⟨[]⟩))]) (.r (.l (.l (.l .o)))),
 .go (.pick (.tmp (.l (.r (.r .o)))) (.tmp (.r (.l (.l (.l .o))))) (.con (.bool false))) (.l (.r (.l (.l .o)))),
 .go (.move (.tmp (.l (.r (.l (.l .o)))))) (.r (.r (.l (.l .o)))),
 .gd (.r (.r (.l (.l .o)))) true (.fieldAddr 3 (.tmp (.l .o))) (.l (.l (.r (.l .o)))),
 .gd (.r (.r (.l (.l .o)))) true (.load1 (.tmp (.l (.l (.r (.l .o)))))) (.r (.l (.r (.l .o)))),
 .gd (.r (.r (.l (.l .o)))) true (.loadN 4 (.tmp (.l .o))) (.l (.r (.r (.l .o)))),
 .gd (.r (.r (.l (.l .o)))) true (.makeFunc 95 [(.tmp (.l (.r (.r (.l .o)))))] []) (.r (.r (.r (.l .o)))),
 .gd (.r (.r (.l (.l .o)))) true (.call (.con (.func (.func 80) ⟨[]⟩ ⟨[]⟩)) [(.tmp (.r (.l (.r (.l .o))))),(.tmp (.r (.r (.r (.l .o)))))]) (.l (.l (.l (.r .o)))),
 .go (.pick (.tmp (.r (.r (.l (.l .o))))) (.tmp (.l (.l (.l (.r .o))))) (.con (.bool false))) (.r (.l (.l (.r .o)))),
 .go (.move (.tmp (.r (.l (.l (.r .o)))))) (.r .o)] [.ok,.rd none (.loadN 2 (.tmp (.l (.l .o)))) (some (.r (.l .o))) [3],.ok,.ok,.ok,.ok,.ok,.ok,.ok,.ok,.ok,.ok,.ok,.ok,.ok,.ok,.ok,.ok,.ok,.ok,.ok,.ok,.ok]) .ret))
noncomputable def f77 : FFunc := .mk c77 (.n U (.n U (.n U (.n U (.n U .e .e) (.n U .e .e)) (.n U (.n U .e .e) .e)) (.n U (.n U (.n U .e .e) .e) (.n U (.n U .e .e) .e))) (.n U (.n U (.n U (.n U .e .e) (.n U .e .e)) (.n U (.n U .e .e) .e)) (.n U (.n U (.n U .e .e) .e) (.n U (.n U .e .e) .e)))) [.o] [.tmp (.r .o)]
theorem e77 : @compF Try.prog (Gl.none Try.prog) Try.f77 1 = f77 := by kernel_rfl
theorem o77 : okF Try.prog Try.f77 = true := by kernel_rfl
theorem g77 : Try.prog.funcs[(77 : Nat)]? = some Try.f77 := by kernel_rfl
noncomputable def c78 : FCode := (.seq (.run [.go (.box 66 (.tmp .o)) (.l .o),
 .go (.move (.con (.pointer none))) (.r .o),
 .go (.move (.con (.int .i64 (.ofNat 0)))) (.l (.l .o))]) (.seq (.seq (.run [.go (.loadN 4 (.tmp (.l .o))) (.r (.r (.l .o))),
 .go (.call (.con (.func (.func 38) ⟨[]⟩ ⟨[]⟩)) [(.tmp (.r (.r (.l .o))))]) (.l (.l (.r .o))),
 .go (.move (.tmp (.l (.l (.r .o))))) (.r (.l .o))]) (.seq (.run [.go (.move (.tmp (.r (.l .o)))) (.r (.l (.r .o))),
 .go (.bin .neq 24 (.tmp (.r (.l (.r .o)))) (.con (.int .i64 (.ofNat 0)))) (.l (.r (.r .o)))]) (.cond (.tmp (.l (.r (.r .o)))) (.seq (.run [.go (.move (.tmp (.r (.l .o)))) (.r (.r (.r .o))),
 .go (.move (.con (.pointer none))) (.r .o),
 .go (.move (.tmp (.r (.r (.r .o))))) (.l (.l .o))]) .ret) .skip))) (.seq (.run [.go (.loadN 4 (.tmp (.l .o))) (.l (.l (.l (.l .o)))),
 .go (.makeMap 115) (.r (.l (.l (.l .o)))),
 .go (.build [(.int .i64 (.ofNat 0)),(.int .i64 (.ofNat 0)),(.slice none 0 0),(.slice none 0 0),(.map none),(.slice none 0 0),(.slice none 0 0),(.slice none 0 0),(.slice none 0 0),(.slice none 0 0),(.slice none 0 0),(.slice none 0 0),(.slice none 0 0)] [(0,4,(.tmp (.l (.l (.l (.l .o)))))),(4,1,(.tmp (.r (.l (.l (.l .o))))))]) (.l (.r (.l (.l .o)))),
 .go (.box 149 (.tmp (.l (.r (.l (.l .o)))))) (.r (.r (.l (.l .o)))),
 .go (.move (.tmp (.r (.r (.l (.l .o)))))) (.l (.r .o))]) (.seq (.seq (.run [.go (.move (.tmp (.l (.r .o)))) (.l (.l (.r (.l .o)))),
 .go (.nilCheck (.tmp (.l (.l (.r (.l .o)))))) (.r (.l (.r (.l .o)))),
 .go (.fieldAddr 0 (.tmp (.r (.l (.r (.l .o)))))) (.l (.r (.r (.l .o)))),
 .go (.fieldAddr 3 (.tmp (.l (.r (.r (.l .o)))))) (.r (.r (.r (.l .o)))),
 .go (.load1 (.tmp (.r (.r (.r (.l .o)))))) (.l (.l (.l (.r .o)))),
 .go (.len 0 (.tmp (.l (.l (.l (.r .o)))))) (.r (.l (.l (.r .o)))),
 .go (.move (.con (.int .i64 (.ofNat 0)))) (.l (.r (.l (.r .o))))]) (.block 0 (.loop (.seq (.run [.go (.bin .lss 3 (.tmp (.l (.r (.l (.r .o))))) (.tmp (.r (.l (.l (.r .o)))))) (.r (.r (.l (.r .o))))]) (.seq (.cond (.tmp (.r (.r (.l (.r .o))))) .skip (.exit 0)) (.seq (.block 1 (.seq (.run [.go (.move (.tmp (.l (.r (.l (.r .o)))))) (.l (.l (.r (.r .o)))),
 .go (.indexAddr none 3 (.tmp (.l (.l (.l (.r .o))))) (.tmp (.l (.r (.l (.r .o)))))) (.r (.l (.r (.r .o)))),
 .go (.loadN 3 (.tmp (.r (.l (.r (.r .o)))))) (.l (.r (.r (.r .o)))),
 .go (.alloc 89 [(.int .i64 (.ofNat 0)),(.int .i64 (.ofNat 0)),(.int .i64 (.ofNat 0))]) (.l (.l (.l .o))),
 .go (.move (.tmp (.l (.l (.r (.r .o)))))) (.r (.r .o)),
 .un (.store 3 (.tmp (.l (.l (.l .o)))) (.tmp (.l (.r (.r (.r .o))))))]) (.seq (.run [.go (.alloc 30 [(.slice none 0 0)]) (.r (.l (.l .o)))]) (.seq (.seq (.run [.go (.move (.tmp (.l (.r .o)))) (.r (.r (.r (.r .o)))),
 .go (.loadN 3 (.tmp (.l (.l (.l .o))))) (.l (.l (.l (.l (.l .o))))),
 .go (.call (.con (.func (.func 96) ⟨[]⟩ ⟨[]⟩)) [(.tmp (.r (.r (.r (.r .o))))),(.tmp (.l (.l (.l (.l (.l .o))))))]) (.r (.l (.l (.l (.l .o)))))]) (.block 2 (.rangeFunc (.tmp (.r (.l (.l (.l (.l .o)))))) [(.l (.r (.l (.l (.l .o)))))] (rfA Try.f78 0) (rfB Try.f78 0) (.run [.go (.move (.tmp (.l (.r (.l (.l (.l .o))))))) (.l (.r (.l .o)))]) (.block 3 (.draw 8 [.go (.load1 (.tmp (.r (.l (.l .o))))) (.r (.r (.l (.l (.l .o))))),
 .go (.move (.tmp (.l (.r (.l .o))))) (.l (.l (.r (.l (.l .o))))),
 .go (.fieldAddr 0 (.tmp (.l (.l (.l .o))))) (.r (.l (.r (.l (.l .o))))),
 .go (.load1 (.tmp (.r (.l (.r (.l (.l .o))))))) (.l (.r (.r (.l (.l .o))))),
 .go (.call (.con (.func (.func 97) ⟨[]⟩ ⟨[]⟩)) [(.tmp (.l (.l (.r (.l (.l .o)))))),(.tmp (.l (.r (.r (.l (.l .o))))))]) (.r (.r (.r (.l (.l .o))))),
 .go (.buildSlice 48 1 [(.int .i64 (.ofNat 0)),(.int .i64 (.ofNat 0))] [(0,2,(.tmp (.r (.r (.r (.l (.l .o)))))))]) (.l (.l (.l (.r (.l .o))))),
 .go (.append 48 2 16 (.tmp (.r (.r (.l (.l (.l .o)))))) (.tmp (.l (.l (.l (.r (.l .o))))))) (.r (.l (.l (.r (.l .o))))),
 .un (.store 1 (.tmp (.r (.l (.l .o)))) (.tmp (.r (.l (.l (.r (.l .o)))))))] [.rd none (.load1 (.tmp (.r (.l (.l .o))))) (some (.r (.r (.l (.l (.l .o)))))) [5,6],.ok,.ok,.ok,.ok,.ok,.ok,.ok]))))) (.draw 8 [.go (.move (.tmp (.l (.r .o)))) (.l (.r (.l (.r (.l .o))))),
 .go (.move (.tmp (.r (.r .o)))) (.r (.r (.l (.r (.l .o))))),
 .go (.load1 (.tmp (.r (.l (.l .o))))) (.l (.l (.r (.r (.l .o))))),
 .go (.call (.con (.func (.func 93) ⟨[]⟩ ⟨[]⟩)) [(.tmp (.l (.l (.r (.r (.l .o))))))]) (.r (.l (.r (.r (.l .o))))),
 .go (.nilCheck (.tmp (.l (.r (.l (.r (.l .o))))))) (.l (.r (.r (.r (.l .o))))),
 .go (.fieldAddr 5 (.tmp (.l (.r (.r (.r (.l .o))))))) (.r (.r (.r (.r (.l .o))))),
 .go (.indexAddr (some 8) 1 (.tmp (.r (.r (.r (.r (.l .o)))))) (.tmp (.r (.r (.l (.r (.l .o))))))) (.l (.l (.l (.l (.r .o))))),
 .un (.store 1 (.tmp (.l (.l (.l (.l (.r .o)))))) (.tmp (.r (.l (.r (.r (.l .o)))))))] [.ok,.ok,.ok,.ok,.ok,.ok,.ok,.ok]))))) (.run [.go (.bin .add 3 (.tmp (.l (.r (.l (.r .o))))) (.con (.int .i64 (.ofNat 1)))) (.r (.l (.l (.l (.r .o))))),
 .go (.move (.tmp (.r (.l (.l (.l (.r .o))))))) (.l (.r (.l (.r .o))))]))))))) (.seq (.run [.go (.move (.tmp (.l (.r .o)))) (.l (.r (.l (.l (.r .o))))),
 .go (.move (.tmp (.l (.r (.l (.l (.r .o))))))) (.r .o),
 .go (.move (.con (.int .i64 (.ofNat 0)))) (.l (.l .o))]) .ret)))))
noncomputable def f78 : FFunc := .mk c78 (.n U (.n U (.n U (.n U (.n U (.n U .e .e) (.n U .e .e)) (.n U (.n U .e .e) .e)) (.n U (.n U (.n U .e .e) .e) (.n U (.n U .e .e) .e))) (.n U (.n U (.n U (.n U .e .e) (.n U .e .e)) (.n U (.n U .e .e) .e)) (.n U (.n U (.n U .e .e) .e) (.n U (.n U .e .e) .e)))) (.n U (.n U (.n U (.n U (.n U .e .e) (.n U .e .e)) (.n U (.n U .e .e) .e)) (.n U (.n U (.n U .e .e) .e) (.n U (.n U .e .e) .e))) (.n U (.n U (.n U (.n U .e .e) .e) (.n U (.n U .e .e) .e)) (.n U (.n U (.n U .e .e) .e) (.n U (.n U .e .e) .e))))) [.o] [.tmp (.r .o),.tmp (.l (.l .o))]
theorem e78 : @compF Try.prog (Gl.none Try.prog) Try.f78 1 = f78 := by kernel_rfl
theorem o78 : okF Try.prog Try.f78 = true := by kernel_rfl
theorem g78 : Try.prog.funcs[(78 : Nat)]? = some Try.f78 := by kernel_rfl
noncomputable def c79 : FCode := (.seq (.run [.go (.move (.con (.slice none 0 0))) (.r .o)]) (.seq (.run [.go (.move (.tmp .o)) (.l (.r .o)),
 .go (.nilCheck (.tmp (.l (.r .o)))) (.r (.r .o)),
 .go (.fieldAddr 0 (.tmp (.r (.r .o)))) (.l (.l (.l .o))),
 .go (.fieldAddr 0 (.tmp (.l (.l (.l .o))))) (.r (.l (.l .o))),
 .go (.loadN 2 (.tmp (.r (.l (.l .o))))) (.l (.r (.l .o))),
 .go (.buildSlice 48 1 [(.int .i64 (.ofNat 0)),(.int .i64 (.ofNat 0))] [(0,2,(.tmp (.l (.r (.l .o)))))]) (.r (.r (.l .o))),
 .go (.move (.tmp (.r (.r (.l .o))))) (.l (.l .o))]) (.seq (.seq (.run [.go (.move (.tmp .o)) (.l (.l (.r .o))),
 .go (.nilCheck (.tmp (.l (.l (.r .o))))) (.r (.l (.r .o))),
 .go (.fieldAddr 0 (.tmp (.r (.l (.r .o))))) (.l (.r (.r .o))),
 .go (.fieldAddr 3 (.tmp (.l (.r (.r .o))))) (.r (.r (.r .o))),
 .go (.load1 (.tmp (.r (.r (.r .o))))) (.l (.l (.l (.l .o)))),
 .go (.len 0 (.tmp (.l (.l (.l (.l .o)))))) (.r (.l (.l (.l .o)))),
 .go (.move (.con (.int .i64 (.ofNat 0)))) (.l (.r (.l (.l .o))))]) (.block 0 (.loop (.seq (.run [.go (.bin .lss 3 (.tmp (.l (.r (.l (.l .o))))) (.tmp (.r (.l (.l (.l .o)))))) (.r (.r (.l (.l .o))))]) (.seq (.cond (.tmp (.r (.r (.l (.l .o))))) .skip (.exit 0)) (.seq (.block 1 (.seq (.run [.go (.move (.tmp (.l (.r (.l (.l .o)))))) (.l (.l (.r (.l .o)))),
 .go (.move (.tmp (.l (.l (.r (.l .o)))))) (.r (.l .o))]) (.run [.go (.move (.tmp (.l (.l .o)))) (.r (.l (.r (.l .o)))),
 .go (.move (.tmp .o)) (.l (.r (.r (.l .o)))),
 .go (.move (.tmp (.r (.l .o)))) (.r (.r (.r (.l .o)))),
 .go (.nilCheck (.tmp (.l (.r (.r (.l .o)))))) (.l (.l (.l (.r .o)))),
 .go (.fieldAddr 5 (.tmp (.l (.l (.l (.r .o)))))) (.r (.l (.l (.r .o)))),
 .go (.indexAddr (some 8) 1 (.tmp (.r (.l (.l (.r .o))))) (.tmp (.r (.r (.r (.l .o)))))) (.l (.r (.l (.r .o)))),
 .go (.load1 (.tmp (.l (.r (.l (.r .o)))))) (.r (.r (.l (.r .o)))),
 .go (.call (.con (.func (.func 98) ⟨[]⟩ ⟨[]⟩)) [(.tmp (.r (.l (.r (.l .o))))),(.tmp (.r (.r (.l (.r .o)))))]) (.l (.l (.r (.r .o)))),
 .go (.move (.tmp (.l (.l (.r (.r .o)))))) (.l (.l .o))]))) (.run [.go (.bin .add 3 (.tmp (.l (.r (.l (.l .o))))) (.con (.int .i64 (.ofNat 1)))) (.r (.l (.r (.r .o)))),
 .go (.move (.tmp (.r (.l (.r (.r .o)))))) (.l (.r (.l (.l .o))))]))))))) (.seq (.run [.go (.move (.tmp (.l (.l .o)))) (.l (.r (.r (.r .o)))),
 .go (.move (.tmp (.l (.r (.r (.r .o)))))) (.r .o)]) .ret))))
noncomputable def f79 : FFunc := .mk c79 (.n U (.n U (.n U (.n U (.n U .e .e) (.n U .e .e)) (.n U (.n U .e .e) (.n U .e .e))) (.n U (.n U (.n U .e .e) (.n U .e .e)) (.n U (.n U .e .e) (.n U .e .e)))) (.n U (.n U (.n U (.n U .e .e) (.n U .e .e)) (.n U (.n U .e .e) (.n U .e .e))) (.n U (.n U (.n U .e .e) (.n U .e .e)) (.n U (.n U .e .e) .e)))) [.o] [.tmp (.r .o)]
theorem e79 : @compF Try.prog (Gl.none Try.prog) Try.f79 1 = f79 := by kernel_rfl
theorem o79 : okF Try.prog Try.f79 = true := by kernel_rfl
theorem g79 : Try.prog.funcs[(79 : Nat)]? = some Try.f79 := by kernel_rfl
noncomputable def c80 : FCode := (.seq (.run [.go (.move (.con (.bool false))) (.r (.l .o))]) (.seq (.seq (.run [.go (.move (.tmp .o)) (.l (.l (.l .o))),
 .go (.len 0 (.tmp (.l (.l (.l .o))))) (.r (.l (.l .o))),
 .go (.move (.con (.int .i64 (.ofNat 0)))) (.l (.r (.l .o)))]) (.block 0 (.loop (.seq (.run [.go (.bin .lss 3 (.tmp (.l (.r (.l .o)))) (.tmp (.r (.l (.l .o))))) (.r (.r (.l .o)))]) (.seq (.cond (.tmp (.r (.r (.l .o)))) .skip (.exit 0)) (.seq (.block 1 (.seq (.run [.go (.indexAddr none 3 (.tmp (.l (.l (.l .o)))) (.tmp (.l (.r (.l .o))))) (.l (.l (.r .o))),
 .go (.loadN 3 (.tmp (.l (.l (.r .o))))) (.r (.l (.r .o))),
 .go (.alloc 89 [(.int .i64 (.ofNat 0)),(.int .i64 (.ofNat 0)),(.int .i64 (.ofNat 0))]) (.r (.r .o)),
 .un (.store 3 (.tmp (.r (.r .o))) (.tmp (.r (.l (.r .o)))))]) (.seq (.run [.go (.move (.tmp (.l .o))) (.l (.r (.r .o))),
 .go (.loadN 3 (.tmp (.r (.r .o)))) (.r (.r (.r .o))),
 .go (.call (.tmp (.l (.r (.r .o)))) [(.tmp (.r (.r (.r .o))))]) (.l (.l (.l (.l .o)))),
 .go (.un .not (.tmp (.l (.l (.l (.l .o)))))) (.r (.l (.l (.l .o))))]) (.cond (.tmp (.r (.l (.l (.l .o))))) (.seq (.run [.go (.move (.con (.bool false))) (.r (.l .o))]) .ret) .skip)))) (.run [.go (.bin .add 3 (.tmp (.l (.r (.l .o)))) (.con (.int .i64 (.ofNat 1)))) (.l (.r (.l (.l .o)))),
 .go (.move (.tmp (.l (.r (.l (.l .o)))))) (.l (.r (.l .o)))]))))))) (.seq (.run [.go (.move (.con (.bool true))) (.r (.l .o))]) .ret)))
noncomputable def f80 : FFunc := .mk c80 (.n U (.n U (.n U (.n U (.n U .e .e) .e) (.n U .e .e)) (.n U (.n U (.n U .e .e) .e) (.n U .e .e))) (.n U (.n U (.n U (.n U .e .e) .e) (.n U .e .e)) (.n U (.n U .e .e) (.n U .e .e)))) [.o,(.l .o)] [.tmp (.r (.l .o))]
theorem e80 : @compF Try.prog (Gl.none Try.prog) Try.f80 2 = f80 := by kernel_rfl
theorem o80 : okF Try.prog Try.f80 = true := by kernel_rfl
theorem g80 : Try.prog.funcs[(80 : Nat)]? = some Try.f80 := by kernel_rfl
noncomputable def c85 : FCode := (.seq (.run [.go (.move (.con (.slice none 0 0))) (.r (.l .o))]) (.seq (.run [.go (.move (.con (.slice none 0 0))) (.l (.r .o))]) (.seq (.seq (.run [.go (.move (.tmp .o)) (.r (.l (.l .o))),
 .go (.move (.tmp (.l .o))) (.l (.r (.l .o))),
 .go (.build [(.int .i64 (.ofNat 0)),(.int .i64 (.ofNat 0))] [(0,1,(.con (.int .i64 (.negSucc 49999)))),(1,1,(.tmp (.l (.r (.l .o)))))]) (.r (.r (.l .o))),
 .go (.buildSlice 48 1 [(.int .i64 (.ofNat 0)),(.int .i64 (.ofNat 0))] [(0,2,(.tmp (.r (.r (.l .o)))))]) (.l (.l (.r .o))),
 .go (.call (.con (.func (.func 98) ⟨[]⟩ ⟨[]⟩)) [(.tmp (.r (.l (.l .o)))),(.tmp (.l (.l (.r .o))))]) (.r (.l (.r .o))),
 .go (.len 0 (.tmp (.r (.l (.r .o))))) (.l (.r (.r .o))),
 .go (.move (.con (.int .i64 (.ofNat 0)))) (.r (.r (.r .o)))]) (.block 0 (.loop (.seq (.run [.go (.bin .lss 3 (.tmp (.r (.r (.r .o)))) (.tmp (.l (.r (.r .o))))) (.l (.l (.l (.l .o))))]) (.seq (.cond (.tmp (.l (.l (.l (.l .o))))) .skip (.exit 0)) (.seq (.block 1 (.seq (.run [.go (.indexAddr none 2 (.tmp (.r (.l (.r .o)))) (.tmp (.r (.r (.r .o))))) (.r (.l (.l (.l .o)))),
 .go (.loadN 2 (.tmp (.r (.l (.l (.l .o)))))) (.l (.r (.l (.l .o)))),
 .go (.alloc 48 [(.int .i64 (.ofNat 0)),(.int .i64 (.ofNat 0))]) (.l (.l (.l .o))),
 .un (.store 2 (.tmp (.l (.l (.l .o)))) (.tmp (.l (.r (.l (.l .o))))))]) (.draw 13 [.go (.move (.tmp (.l (.r .o)))) (.r (.r (.l (.l .o)))),
 .go (.fieldAddr 1 (.tmp (.l (.l (.l .o))))) (.l (.l (.r (.l .o)))),
 .go (.load1 (.tmp (.l (.l (.r (.l .o)))))) (.r (.l (.r (.l .o)))),
 .go (.move (.tmp (.l .o))) (.l (.r (.r (.l .o)))),
 .go (.call (.con (.func (.func 63) ⟨[]⟩ ⟨[]⟩)) [(.tmp (.r (.l (.r (.l .o))))),(.tmp (.l (.r (.r (.l .o)))))]) (.r (.r (.r (.l .o)))),
 .go (.fieldAddr 0 (.tmp (.l (.l (.l .o))))) (.l (.l (.l (.r .o)))),
 .go (.load1 (.tmp (.l (.l (.l (.r .o)))))) (.r (.l (.l (.r .o)))),
 .go (.move (.tmp (.l .o))) (.l (.r (.l (.r .o)))),
 .go (.call (.con (.func (.func 63) ⟨[]⟩ ⟨[]⟩)) [(.tmp (.r (.l (.l (.r .o))))),(.tmp (.l (.r (.l (.r .o)))))]) (.r (.r (.l (.r .o)))),
 .go (.build [(.int .i64 (.ofNat 0)),(.int .i64 (.ofNat 0))] [(0,1,(.tmp (.r (.r (.r (.l .o)))))),(1,1,(.tmp (.r (.r (.l (.r .o))))))]) (.l (.l (.r (.r .o)))),
 .go (.buildSlice 48 1 [(.int .i64 (.ofNat 0)),(.int .i64 (.ofNat 0))] [(0,2,(.tmp (.l (.l (.r (.r .o))))))]) (.r (.l (.r (.r .o)))),
 .go (.append 48 2 16 (.tmp (.r (.r (.l (.l .o))))) (.tmp (.r (.l (.r (.r .o)))))) (.l (.r (.r (.r .o)))),
 .go (.move (.tmp (.l (.r (.r (.r .o)))))) (.l (.r .o))] [.ok,.ok,.ok,.ok,.ok,.ok,.rd none (.load1 (.tmp (.l (.l (.l (.r .o)))))) (some (.r (.l (.l (.r .o))))) [0],.ok,.ok,.ok,.ok,.ok,.ok]))) (.run [.go (.bin .add 3 (.tmp (.r (.r (.r .o)))) (.con (.int .i64 (.ofNat 1)))) (.r (.r (.r (.r .o)))),
 .go (.move (.tmp (.r (.r (.r (.r .o)))))) (.r (.r (.r .o)))]))))))) (.seq (.run [.go (.move (.tmp (.l (.r .o)))) (.l (.l (.l (.l (.l .o))))),
 .go (.call (.con (.func (.func 93) ⟨[]⟩ ⟨[]⟩)) [(.tmp (.l (.l (.l (.l (.l .o))))))]) (.r (.l (.l (.l (.l .o))))),
 .go (.move (.tmp (.r (.l (.l (.l (.l .o))))))) (.r (.l .o))]) .ret))))
noncomputable def f85 : FFunc := .mk c85 (.n U (.n U (.n U (.n U (.n U (.n U .e .e) .e) (.n U .e .e)) (.n U (.n U .e .e) (.n U .e .e))) (.n U (.n U (.n U .e .e) (.n U .e .e)) (.n U (.n U .e .e) (.n U .e .e)))) (.n U (.n U (.n U (.n U (.n U .e .e) .e) (.n U .e .e)) (.n U (.n U .e .e) (.n U .e .e))) (.n U (.n U (.n U .e .e) (.n U .e .e)) (.n U (.n U .e .e) (.n U .e .e))))) [.o,(.l .o)] [.tmp (.r (.l .o))]
theorem e85 : @compF Try.prog (Gl.none Try.prog) Try.f85 2 = f85 := by kernel_rfl
theorem o85 : okF Try.prog Try.f85 = true := by kernel_rfl
theorem g85 : Try.prog.funcs[(85 : Nat)]? = some Try.f85 := by kernel_rfl
noncomputable def c86 : FCode := (.seq (.run [.go (.move (.con (.slice none 0 0))) (.r .o)]) (.scope (.seq (.run [.go (.alloc 45 [(.slice none 0 0)]) (.l (.l .o))]) (.seq .skip (.seq (.seq (.run [.go (.move (.tmp .o)) (.l (.l (.l .o))),
 .go (.nilCheck (.tmp (.l (.l (.l .o))))) (.r (.l (.l .o))),
 .go (.fieldAddr 0 (.tmp (.r (.l (.l .o))))) (.l (.r (.l .o))),
 .go (.fieldAddr 3 (.tmp (.l (.r (.l .o))))) (.r (.r (.l .o))),
 .go (.load1 (.tmp (.r (.r (.l .o))))) (.l (.l (.r .o))),
 .go (.len 0 (.tmp (.l (.l (.r .o))))) (.r (.l (.r .o))),
 .go (.bin .add 3 (.tmp (.r (.l (.r .o)))) (.con (.int .i64 (.ofNat 1)))) (.l (.r (.r .o))),
 .go (.move (.con (.int .i64 (.ofNat 0)))) (.r (.r (.r .o)))]) (.block 0 (.loop (.seq (.run [.go (.bin .lss 3 (.tmp (.r (.r (.r .o)))) (.tmp (.l (.r (.r .o))))) (.l (.l (.l (.l .o))))]) (.seq (.cond (.tmp (.l (.l (.l (.l .o))))) .skip (.exit 0)) (.seq (.block 1 (.seq (.run [.go (.move (.tmp (.r (.r (.r .o))))) (.r (.l (.l (.l .o)))),
 .go (.move (.tmp (.r (.l (.l (.l .o)))))) (.r (.l .o))]) (.seq (.run [.go (.move (.tmp .o)) (.l (.r (.l (.l .o)))),
 .go (.move (.tmp (.r (.l .o)))) (.r (.r (.l (.l .o)))),
 .go (.call (.con (.func (.func 101) ⟨[]⟩ ⟨[]⟩)) [(.tmp (.l (.r (.l (.l .o))))),(.tmp (.r (.r (.l (.l .o)))))]) (.l (.l (.r (.l .o))))]) (.block 2 (.rangeFunc (.tmp (.l (.l (.r (.l .o))))) [(.r (.l (.r (.l .o)))),(.l (.r (.r (.l .o))))] (rfA Try.f86 0) (rfB Try.f86 0) (.seq (.run [.go (.move (.tmp (.r (.l (.r (.l .o)))))) (.l (.r .o))]) (.run [.go (.move (.tmp (.l (.r (.r (.l .o)))))) (.r (.r .o))])) (.block 3 (.seq (.run [.go (.move (.tmp (.r (.r .o)))) (.r (.r (.r (.l .o)))),
 .go (.len 0 (.tmp (.r (.r (.r (.l .o)))))) (.l (.l (.l (.r .o)))),
 .go (.bin .gtr 3 (.tmp (.l (.l (.l (.r .o))))) (.con (.int .i64 (.ofNat 0)))) (.r (.l (.l (.r .o))))]) (.cond (.tmp (.r (.l (.l (.r .o))))) (.seq (.run [.go (.move (.tmp (.l (.r .o)))) (.l (.r (.l (.r .o)))),
 .un (.store 1 (.tmp (.l (.l .o))) (.tmp (.l (.r (.l (.r .o))))))]) (.exit 0)) .skip)))))))) (.run [.go (.bin .add 3 (.tmp (.r (.r (.r .o)))) (.con (.int .i64 (.ofNat 1)))) (.r (.r (.l (.r .o)))),
 .go (.move (.tmp (.r (.r (.l (.r .o)))))) (.r (.r (.r .o)))]))))))) (.seq (.run [.go (.load1 (.tmp (.l (.l .o)))) (.l (.l (.r (.r .o)))),
 .go (.move (.tmp (.l (.l (.r (.r .o)))))) (.r .o)]) .ret))))))
noncomputable def f86 : FFunc := .mk c86 (.n U (.n U (.n U (.n U (.n U .e .e) (.n U .e .e)) (.n U (.n U .e .e) (.n U .e .e))) (.n U (.n U (.n U .e .e) (.n U .e .e)) (.n U (.n U .e .e) .e))) (.n U (.n U (.n U (.n U .e .e) (.n U .e .e)) (.n U (.n U .e .e) .e)) (.n U (.n U (.n U .e .e) (.n U .e .e)) (.n U (.n U .e .e) .e)))) [.o] [.tmp (.r .o)]
theorem e86 : @compF Try.prog (Gl.none Try.prog) Try.f86 1 = f86 := by kernel_rfl
theorem o86 : okF Try.prog Try.f86 = true := by kernel_rfl
theorem g86 : Try.prog.funcs[(86 : Nat)]? = some Try.f86 := by kernel_rfl
noncomputable def c89 : FCode := (.seq (.run [.go (.move (.con (.bool false))) (.r (.l .o))]) (.seq (.seq (.run [.go (.move (.tmp .o)) (.l (.l (.l .o))),
 .go (.len 0 (.tmp (.l (.l (.l .o))))) (.r (.l (.l .o))),
 .go (.move (.con (.int .i64 (.ofNat 0)))) (.l (.r (.l .o)))]) (.block 0 (.loop (.seq (.run [.go (.bin .lss 3 (.tmp (.l (.r (.l .o)))) (.tmp (.r (.l (.l .o))))) (.r (.r (.l .o)))]) (.seq (.cond (.tmp (.r (.r (.l .o)))) .skip (.exit 0)) (.seq (.block 1 (.seq (.run [.go (.indexAddr none 1 (.tmp (.l (.l (.l .o)))) (.tmp (.l (.r (.l .o))))) (.l (.l (.r .o))),
 .go (.load1 (.tmp (.l (.l (.r .o))))) (.r (.l (.r .o))),
 .go (.move (.tmp (.r (.l (.r .o))))) (.r (.r .o))]) (.seq (.run [.go (.move (.tmp (.l .o))) (.l (.r (.r .o))),
 .go (.move (.tmp (.r (.r .o)))) (.r (.r (.r .o))),
 .go (.call (.tmp (.l (.r (.r .o)))) [(.tmp (.r (.r (.r .o))))]) (.l (.l (.l (.l .o)))),
 .go (.un .not (.tmp (.l (.l (.l (.l .o)))))) (.r (.l (.l (.l .o))))]) (.cond (.tmp (.r (.l (.l (.l .o))))) (.seq (.run [.go (.move (.con (.bool false))) (.r (.l .o))]) .ret) .skip)))) (.run [.go (.bin .add 3 (.tmp (.l (.r (.l .o)))) (.con (.int .i64 (.ofNat 1)))) (.l (.r (.l (.l .o)))),
 .go (.move (.tmp (.l (.r (.l (.l .o)))))) (.l (.r (.l .o)))]))))))) (.seq (.run [.go (.move (.con (.bool true))) (.r (.l .o))]) .ret)))
noncomputable def f89 : FFunc := .mk c89 (.n U (.n U (.n U (.n U (.n U .e .e) .e) (.n U .e .e)) (.n U (.n U (.n U .e .e) .e) (.n U .e .e))) (.n U (.n U (.n U (.n U .e .e) .e) (.n U .e .e)) (.n U (.n U .e .e) (.n U .e .e)))) [.o,(.l .o)] [.tmp (.r (.l .o))]
theorem e89 : @compF Try.prog (Gl.none Try.prog) Try.f89 2 = f89 := by kernel_rfl
theorem o89 : okF Try.prog Try.f89 = true := by kernel_rfl
theorem g89 : Try.prog.funcs[(89 : Nat)]? = some Try.f89 := by kernel_rfl
noncomputable def c90 : FCode := (.seq (.run [.go (.alloc 48 [(.int .i64 (.ofNat 0)),(.int .i64 (.ofNat 0))]) .o]) (.seq (.run [.go (.build [(.int .i64 (.ofNat 0)),(.int .i64 (.ofNat 0))] [(0,1,(.con (.int .i64 (.negSucc 49999)))),(1,1,(.con (.int .i64 (.ofNat 50000))))]) (.l .o),
 .un (.store 2 (.tmp .o) (.tmp (.l .o)))]) .ret))
noncomputable def f90 : FFunc := .mk c90 (.n U (.n U .e .e) .e) [] [.many .o 2]
theorem e90 : @compF Try.prog (Gl.none Try.prog) Try.f90 0 = f90 := by kernel_rfl
theorem o90 : okF Try.prog Try.f90 = true := by kernel_rfl
theorem g90 : Try.prog.funcs[(90 : Nat)]? = some Try.f90 := by kernel_rfl
noncomputable def c91 : FCode := (.seq (.run [.go (.box 28 (.tmp .o)) (.l .o),
 .go (.alloc 140 [.nilFunc]) (.r .o)]) (.seq (.seq (.run [.go (.fieldAddr 2 (.tmp (.l .o))) (.l (.l .o)),
 .go (.load1 (.tmp (.l (.l .o)))) (.r (.l .o)),
 .go (.bin .eql 3 (.tmp (.r (.l .o))) (.con (.int .i64 (.ofNat 1)))) (.l (.r .o))]) (.cond (.tmp (.l (.r .o))) (.seq (.run [.go (.build [.nilFunc] [(0,1,(.con (.func (.func 102) ⟨[]⟩ ⟨[]⟩)))]) (.r (.r .o)),
 .un (.store 1 (.tmp (.r .o)) (.tmp (.r (.r .o))))]) .ret) .skip)) (.seq (.run [.go (.build [.nilFunc] [(0,1,(.con (.func (.func 103) ⟨[]⟩ ⟨[]⟩)))]) (.l (.l (.l .o))),
 .un (.store 1 (.tmp (.r .o)) (.tmp (.l (.l (.l .o)))))]) .ret)))
noncomputable def f91 : FFunc := .mk c91 (.n U (.n U (.n U (.n U .e .e) .e) (.n U .e .e)) (.n U (.n U .e .e) (.n U .e .e))) [.o] [.many (.r .o) 1]
theorem e91 : @compF Try.prog (Gl.none Try.prog) Try.f91 1 = f91 := by kernel_rfl
theorem o91 : okF Try.prog Try.f91 = true := by kernel_rfl
theorem g91 : Try.prog.funcs[(91 : Nat)]? = some Try.f91 := by kernel_rfl
noncomputable def c92 : FCode := (.seq (.run [.go (.move (.con (.int .i64 (.ofNat 0)))) (.r (.l .o))]) (.seq (.seq (.run [.go (.move (.tmp (.l .o))) (.l (.l (.l .o))),
 .go (.len 0 (.tmp (.l (.l (.l .o))))) (.r (.l (.l .o))),
 .go (.move (.con (.int .i64 (.ofNat 0)))) (.l (.r (.l .o)))]) (.block 0 (.loop (.seq (.run [.go (.bin .lss 3 (.tmp (.l (.r (.l .o)))) (.tmp (.r (.l (.l .o))))) (.r (.r (.l .o)))]) (.seq (.cond (.tmp (.r (.r (.l .o)))) .skip (.exit 0)) (.seq (.block 1 (.seq (.run [.go (.indexAddr none 1 (.tmp (.l (.l (.l .o)))) (.tmp (.l (.r (.l .o))))) (.l (.l (.r .o))),
 .go (.load1 (.tmp (.l (.l (.r .o))))) (.r (.l (.r .o))),
 .go (.move (.tmp (.r (.l (.r .o))))) (.r (.r .o))]) (.seq (.run [.go (.move (.tmp (.r (.r .o)))) (.l (.r (.r .o))),
 .go (.move (.tmp .o)) (.r (.r (.r .o))),
 .go (.bin .gtr 3 (.tmp (.l (.r (.r .o)))) (.tmp (.r (.r (.r .o))))) (.l (.l (.l (.l .o))))]) (.cond (.tmp (.l (.l (.l (.l .o))))) (.run [.go (.move (.tmp (.r (.r .o)))) (.r (.l (.l (.l .o)))),
 .go (.move (.tmp (.r (.l (.l (.l .o)))))) .o]) .skip)))) (.run [.go (.bin .add 3 (.tmp (.l (.r (.l .o)))) (.con (.int .i64 (.ofNat 1)))) (.l (.r (.l (.l .o)))),
 .go (.move (.tmp (.l (.r (.l (.l .o)))))) (.l (.r (.l .o)))]))))))) (.seq (.run [.go (.move (.tmp .o)) (.r (.r (.l (.l .o)))),
 .go (.move (.tmp (.r (.r (.l (.l .o)))))) (.r (.l .o))]) .ret)))
noncomputable def f92 : FFunc := .mk c92 (.n U (.n U (.n U (.n U (.n U .e .e) .e) (.n U .e .e)) (.n U (.n U (.n U .e .e) .e) (.n U .e .e))) (.n U (.n U (.n U (.n U .e .e) .e) (.n U .e .e)) (.n U (.n U (.n U .e .e) .e) (.n U .e .e)))) [.o,(.l .o)] [.tmp (.r (.l .o))]
theorem e92 : @compF Try.prog (Gl.none Try.prog) Try.f92 2 = f92 := by kernel_rfl
theorem o92 : okF Try.prog Try.f92 = true := by kernel_rfl
theorem g92 : Try.prog.funcs[(92 : Nat)]? = some Try.f92 := by kernel_rfl
noncomputable def c93 : FCode := (.seq (.run [.go (.move (.con (.slice none 0 0))) (.r .o)]) (.seq (.run [.go (.move (.tmp .o)) (.r (.l (.l .o))),
 .go (.call (.con (.func (.func 104) ⟨[]⟩ ⟨[]⟩)) [(.tmp (.r (.l (.l .o))))]) (.l (.r (.l .o))),
 .go (.move (.tmp (.l (.r (.l .o))))) (.l (.l .o))]) (.seq (.run [.go (.move (.tmp (.l (.l .o)))) (.r (.r (.l .o))),
 .go (.call (.con (.func (.func 105) ⟨[]⟩ ⟨[]⟩)) [(.tmp (.r (.r (.l .o)))),(.con (.func (.func 106) ⟨[]⟩ ⟨[]⟩))]) (.l (.l (.r .o)))]) (.seq (.run [.go (.move (.con (.slice none 0 0))) (.r (.l .o))]) (.seq (.seq (.run [.go (.move (.tmp (.l (.l .o)))) (.r (.l (.r .o))),
 .go (.len 0 (.tmp (.r (.l (.r .o))))) (.l (.r (.r .o))),
 .go (.move (.con (.int .i64 (.ofNat 0)))) (.r (.r (.r .o)))]) (.block 0 (.loop (.seq (.run [.go (.bin .lss 3 (.tmp (.r (.r (.r .o)))) (.tmp (.l (.r (.r .o))))) (.l (.l (.l (.l .o))))]) (.seq (.cond (.tmp (.l (.l (.l (.l .o))))) .skip (.exit 0)) (.seq (.block 1 (.seq (.run [.go (.indexAddr none 2 (.tmp (.r (.l (.r .o)))) (.tmp (.r (.r (.r .o))))) (.r (.l (.l (.l .o)))),
 .go (.loadN 2 (.tmp (.r (.l (.l (.l .o)))))) (.l (.r (.l (.l .o)))),
 .go (.alloc 48 [(.int .i64 (.ofNat 0)),(.int .i64 (.ofNat 0))]) (.r (.r .o)),
 .un (.store 2 (.tmp (.r (.r .o))) (.tmp (.l (.r (.l (.l .o))))))]) (.seq (.run [.go (.move (.tmp (.r (.l .o)))) (.r (.r (.l (.l .o)))),
 .go (.len 0 (.tmp (.r (.r (.l (.l .o)))))) (.l (.l (.r (.l .o)))),
 .go (.bin .sub 3 (.tmp (.l (.l (.r (.l .o))))) (.con (.int .i64 (.ofNat 1)))) (.r (.l (.r (.l .o)))),
 .go (.move (.tmp (.r (.l (.r (.l .o)))))) (.l (.l (.l .o)))]) (.seq (.draw 13 [.go (.move (.tmp (.l (.l (.l .o))))) (.l (.r (.r (.l .o)))),
 .go (.bin .geq 3 (.tmp (.l (.r (.r (.l .o))))) (.con (.int .i64 (.ofNat 0)))) (.r (.r (.r (.l .o)))),
 .go (.move (.tmp (.r (.r (.r (.l .o)))))) (.l (.l (.l (.r .o)))),
 .gd (.l (.l (.l (.r .o)))) true (.fieldAddr 0 (.tmp (.r (.r .o)))) (.r (.l (.l (.r .o)))),
 .gd (.l (.l (.l (.r .o)))) true (.load1 (.tmp (.r (.l (.l (.r .o)))))) (.l (.r (.l (.r .o)))),
 .gd (.l (.l (.l (.r .o)))) true (.move (.tmp (.r (.l .o)))) (.r (.r (.l (.r .o)))),
 .gd (.l (.l (.l (.r .o)))) true (.move (.tmp (.l (.l (.l .o))))) (.l (.l (.r (.r .o)))),
 .gd (.l (.l (.l (.r .o)))) true (.indexAddr none 2 (.tmp (.r (.r (.l (.r .o))))) (.tmp (.l (.l (.r (.r .o)))))) (.r (.l (.r (.r .o)))),
 .gd (.l (.l (.l (.r .o)))) true (.fieldAddr 1 (.tmp (.r (.l (.r (.r .o)))))) (.l (.r (.r (.r .o)))),
 .gd (.l (.l (.l (.r .o)))) true (.load1 (.tmp (.l (.r (.r (.r .o)))))) (.r (.r (.r (.r .o)))),
 .gd (.l (.l (.l (.r .o)))) true (.bin .add 3 (.tmp (.r (.r (.r (.r .o))))) (.con (.int .i64 (.ofNat 1)))) (.l (.l (.l (.l (.l .o))))),
 .gd (.l (.l (.l (.r .o)))) true (.bin .leq 3 (.tmp (.l (.r (.l (.r .o))))) (.tmp (.l (.l (.l (.l (.l .o))))))) (.r (.l (.l (.l (.l .o))))),
 .go (.pick (.tmp (.l (.l (.l (.r .o))))) (.tmp (.r (.l (.l (.l (.l .o)))))) (.con (.bool false))) (.l (.r (.l (.l (.l .o)))))] [.ok,.ok,.ok,.ok,.ok,.ok,.ok,.ok,.ok,.ok,.ok,.ok,.ok]) (.cond (.tmp (.l (.r (.l (.l (.l .o)))))) (.draw 14 [.go (.move (.tmp (.r (.l .o)))) (.r (.r (.l (.l (.l .o))))),
 .go (.move (.tmp (.l (.l (.l .o))))) (.l (.l (.r (.l (.l .o))))),
 .go (.move (.tmp (.r (.l .o)))) (.r (.l (.r (.l (.l .o))))),
 .go (.move (.tmp (.l (.l (.l .o))))) (.l (.r (.r (.l (.l .o))))),
 .go (.indexAddr none 2 (.tmp (.r (.l (.r (.l (.l .o)))))) (.tmp (.l (.r (.r (.l (.l .o))))))) (.r (.r (.r (.l (.l .o))))),
 .go (.fieldAddr 1 (.tmp (.r (.r (.r (.l (.l .o))))))) (.l (.l (.l (.r (.l .o))))),
 .go (.load1 (.tmp (.l (.l (.l (.r (.l .o))))))) (.r (.l (.l (.r (.l .o))))),
 .go (.fieldAddr 1 (.tmp (.r (.r .o)))) (.l (.r (.l (.r (.l .o))))),
 .go (.load1 (.tmp (.l (.r (.l (.r (.l .o))))))) (.r (.r (.l (.r (.l .o))))),
 .go (.buildSlice 3 1 [(.int .i64 (.ofNat 0))] [(0,1,(.tmp (.r (.r (.l (.r (.l .o)))))))]) (.l (.l (.r (.r (.l .o))))),
 .go (.call (.con (.func (.func 92) ⟨[]⟩ ⟨[]⟩)) [(.tmp (.r (.l (.l (.r (.l .o)))))),(.tmp (.l (.l (.r (.r (.l .o))))))]) (.r (.l (.r (.r (.l .o))))),
 .go (.indexAddr none 2 (.tmp (.r (.r (.l (.l (.l .o)))))) (.tmp (.l (.l (.r (.l (.l .o))))))) (.l (.r (.r (.r (.l .o))))),
 .go (.fieldAddr 1 (.tmp (.l (.r (.r (.r (.l .o))))))) (.r (.r (.r (.r (.l .o))))),
 .un (.store 1 (.tmp (.r (.r (.r (.r (.l .o)))))) (.tmp (.r (.l (.r (.r (.l .o)))))))] [.ok,.ok,.ok,.ok,.ok,.ok,.rd none (.load1 (.tmp (.l (.l (.l (.r (.l .o))))))) (some (.r (.l (.l (.r (.l .o)))))) [10],.ok,.ok,.ok,.ok,.ok,.ok,.ok]) (.run [.go (.move (.tmp (.r (.l .o)))) (.l (.l (.l (.l (.r .o))))),
 .go (.loadN 2 (.tmp (.r (.r .o)))) (.r (.l (.l (.l (.r .o))))),
 .go (.buildSlice 48 1 [(.int .i64 (.ofNat 0)),(.int .i64 (.ofNat 0))] [(0,2,(.tmp (.r (.l (.l (.l (.r .o)))))))]) (.l (.r (.l (.l (.r .o))))),
 .go (.append 48 2 16 (.tmp (.l (.l (.l (.l (.r .o)))))) (.tmp (.l (.r (.l (.l (.r .o))))))) (.r (.r (.l (.l (.r .o))))),
 .go (.move (.tmp (.r (.r (.l (.l (.r .o))))))) (.r (.l .o))])))))) (.run [.go (.bin .add 3 (.tmp (.r (.r (.r .o)))) (.con (.int .i64 (.ofNat 1)))) (.l (.l (.r (.l (.r .o))))),
 .go (.move (.tmp (.l (.l (.r (.l (.r .o))))))) (.r (.r (.r .o)))]))))))) (.seq (.run [.go (.move (.tmp (.r (.l .o)))) (.r (.l (.r (.l (.r .o))))),
 .go (.move (.tmp (.r (.l (.r (.l (.r .o))))))) (.r .o)]) .ret))))))
noncomputable def f93 : FFunc := .mk c93 (.n U (.n U (.n U (.n U (.n U (.n U .e .e) (.n U .e .e)) (.n U (.n U .e .e) .e)) (.n U (.n U (.n U .e .e) (.n U .e .e)) (.n U (.n U .e .e) .e))) (.n U (.n U (.n U (.n U .e .e) (.n U .e .e)) (.n U (.n U .e .e) .e)) (.n U (.n U (.n U .e .e) .e) (.n U (.n U .e .e) .e)))) (.n U (.n U (.n U (.n U (.n U .e .e) (.n U .e .e)) (.n U (.n U .e .e) .e)) (.n U (.n U (.n U .e .e) (.n U .e .e)) (.n U (.n U .e .e) .e))) (.n U (.n U (.n U (.n U .e .e) (.n U .e .e)) (.n U (.n U .e .e) .e)) (.n U (.n U (.n U .e .e) .e) (.n U (.n U .e .e) .e))))) [.o] [.tmp (.r .o)]
theorem e93 : @compF Try.prog (Gl.none Try.prog) Try.f93 1 = f93 := by kernel_rfl
theorem o93 : okF Try.prog Try.f93 = true := by kernel_rfl
theorem g93 : Try.prog.funcs[(93 : Nat)]? = some Try.f93 := by kernel_rfl
noncomputable def c94 : FCode := (.seq (.run [.go (.move (.con (.bool false))) (.r (.l .o))]) (.seq (.seq (.run [.go (.move (.tmp .o)) (.l (.l (.l .o))),
 .go (.len 0 (.tmp (.l (.l (.l .o))))) (.r (.l (.l .o))),
 .go (.move (.con (.int .i64 (.ofNat 0)))) (.l (.r (.l .o)))]) (.block 0 (.loop (.seq (.run [.go (.bin .lss 3 (.tmp (.l (.r (.l .o)))) (.tmp (.r (.l (.l .o))))) (.r (.r (.l .o)))]) (.seq (.cond (.tmp (.r (.r (.l .o)))) .skip (.exit 0)) (.seq (.block 1 (.seq (.run [.go (.indexAddr none 4 (.tmp (.l (.l (.l .o)))) (.tmp (.l (.r (.l .o))))) (.l (.l (.r .o))),
 .go (.loadN 4 (.tmp (.l (.l (.r .o))))) (.r (.l (.r .o))),
 .go (.alloc 28 [(.int .i64 (.ofNat 0)),(.int .i64 (.ofNat 0)),(.int .i64 (.ofNat 0)),(.int .i64 (.ofNat 0))]) (.r (.r .o)),
 .un (.store 4 (.tmp (.r (.r .o))) (.tmp (.r (.l (.r .o)))))]) (.seq (.run [.go (.move (.tmp (.l .o))) (.l (.r (.r .o))),
 .go (.loadN 4 (.tmp (.r (.r .o)))) (.r (.r (.r .o))),
 .go (.call (.tmp (.l (.r (.r .o)))) [(.tmp (.r (.r (.r .o))))]) (.l (.l (.l (.l .o)))),
 .go (.un .not (.tmp (.l (.l (.l (.l .o)))))) (.r (.l (.l (.l .o))))]) (.cond (.tmp (.r (.l (.l (.l .o))))) (.seq (.run [.go (.move (.con (.bool false))) (.r (.l .o))]) .ret) .skip)))) (.run [.go (.bin .add 3 (.tmp (.l (.r (.l .o)))) (.con (.int .i64 (.ofNat 1)))) (.l (.r (.l (.l .o)))),
 .go (.move (.tmp (.l (.r (.l (.l .o)))))) (.l (.r (.l .o)))]))))))) (.seq (.run [.go (.move (.con (.bool true))) (.r (.l .o))]) .ret)))
noncomputable def f94 : FFunc := .mk c94 (.n U (.n U (.n U (.n U (.n U .e .e) .e) (.n U .e .e)) (.n U (.n U (.n U .e .e) .e) (.n U .e .e))) (.n U (.n U (.n U (.n U .e .e) .e) (.n U .e .e)) (.n U (.n U .e .e) (.n U .e .e)))) [.o,(.l .o)] [.tmp (.r (.l .o))]
theorem e94 : @compF Try.prog (Gl.none Try.prog) Try.f94 2 = f94 := by kernel_rfl
theorem o94 : okF Try.prog Try.f94 = true := by kernel_rfl
theorem g94 : Try.prog.funcs[(94 : Nat)]? = some Try.f94 := by kernel_rfl
noncomputable def c95 : FCode := (.seq (.run [.go (.box 66 (.tmp .o)) (.r .o),
 .go (.box 89 (.tmp (.l .o))) (.l (.l .o)),
 .go (.move (.con (.bool false))) (.r (.l .o))]) (.seq (.run [.go (.fieldAddr 0 (.tmp (.l (.l .o)))) (.l (.r .o)),
 .go (.load1 (.tmp (.l (.r .o)))) (.r (.r .o)),
 .go (.buildSlice 3 1 [(.int .i64 (.ofNat 0))] [(0,1,(.tmp (.r (.r .o))))]) (.l (.l (.l .o))),
 .go (.call (.con (.func (.func 62) ⟨[]⟩ ⟨[]⟩)) [(.tmp (.l (.l (.l .o))))]) (.r (.l (.l .o))),
 .go (.move (.tmp (.r (.l (.l .o))))) (.l (.r (.l .o))),
 .gd (.l (.r (.l .o))) true (.fieldAddr 1 (.tmp (.l (.l .o)))) (.r (.r (.l .o))),
 .gd (.l (.r (.l .o))) true (.load1 (.tmp (.r (.r (.l .o))))) (.l (.l (.r .o))),
 .gd (.l (.r (.l .o))) true (.bin .leq 3 (.con (.int .i64 (.ofNat 0))) (.tmp (.l (.l (.r .o))))) (.r (.l (.r .o))),
 .go (.pick (.tmp (.l (.r (.l .o)))) (.tmp (.r (.l (.r .o)))) (.con (.bool false))) (.l (.r (.r .o))),
 .go (.move (.tmp (.l (.r (.r .o))))) (.r (.r (.r .o))),
 .gd (.r (.r (.r .o))) true (.fieldAddr 1 (.tmp (.l (.l .o)))) (.l (.l (.l (.l .o)))),
 .gd (.r (.r (.r .o))) true (.load1 (.tmp (.l (.l (.l (.l .o)))))) (.r (.l (.l (.l .o)))),
 .gd (.r (.r (.r .o))) true (.fieldAddr 2 (.tmp (.r .o))) (.l (.r (.l (.l .o)))),
 .gd (.r (.r (.r .o))) true (.load1 (.tmp (.l (.r (.l (.l .o)))))) (.r (.r (.l (.l .o)))),
 .gd (.r (.r (.r .o))) true (.len 0 (.tmp (.r (.r (.l (.l .o)))))) (.l (.l (.r (.l .o)))),
 .gd (.r (.r (.r .o))) true (.bin .lss 3 (.tmp (.r (.l (.l (.l .o))))) (.tmp (.l (.l (.r (.l .o)))))) (.r (.l (.r (.l .o)))),
 .go (.pick (.tmp (.r (.r (.r .o)))) (.tmp (.r (.l (.r (.l .o))))) (.con (.bool false))) (.l (.r (.r (.l .o)))),
 .go (.move (.tmp (.l (.r (.r (.l .o)))))) (.r (.r (.r (.l .o)))),
 .gd (.r (.r (.r (.l .o)))) true (.fieldAddr 2 (.tmp (.l (.l .o)))) (.l (.l (.l (.r .o)))),
 .gd (.r (.r (.r (.l .o)))) true (.load1 (.tmp (.l (.l (.l (.r .o)))))) (.r (.l (.l (.r .o)))),
 .gd (.r (.r (.r (.l .o)))) true (.buildSlice 3 1 [(.int .i64 (.ofNat 0))] [(0,1,(.tmp (.r (.l (.l (.r .o))))))]) (.l (.r (.l (.r .o)))),
 .gd (.r (.r (.r (.l .o)))) true (.call (.con (.func (.func 67) ⟨[]⟩ ⟨[]⟩)) [(.tmp (.l (.r (.l (.r .o)))))]) (.r (.r (.l (.r .o)))),
 .go (.pick (.tmp (.r (.r (.r (.l .o))))) (.tmp (.r (.r (.l (.r .o))))) (.con (.bool false))) (.l (.l (.r (.r .o)))),
 .go (.move (.tmp (.l (.l (.r (.r .o)))))) (.r (.l .o))]) .ret))
noncomputable def f95 : FFunc := .mk c95 (.n U (.n U (.n U (.n U (.n U .e .e) (.n U .e .e)) (.n U (.n U .e .e) (.n U .e .e))) (.n U (.n U (.n U .e .e) (.n U .e .e)) (.n U (.n U .e .e) .e))) (.n U (.n U (.n U (.n U .e .e) (.n U .e .e)) (.n U (.n U .e .e) .e)) (.n U (.n U (.n U .e .e) (.n U .e .e)) (.n U (.n U .e .e) .e)))) [.o,(.l .o)] [.tmp (.r (.l .o))]
theorem e95 : @compF Try.prog (Gl.none Try.prog) Try.f95 2 = f95 := by kernel_rfl
theorem o95 : okF Try.prog Try.f95 = true := by kernel_rfl
theorem g95 : Try.prog.funcs[(95 : Nat)]? = some Try.f95 := by kernel_rfl
noncomputable def c96 : FCode := (.seq (.run [.go (.box 125 (.tmp .o)) (.r .o),
 .go (.box 89 (.tmp (.l .o))) (.l (.l .o)),
 .go (.move (.con .nilFunc)) (.r (.l .o))]) (.seq (.run [.go (.makeFunc 108 [] [(.tmp (.r .o)),(.tmp (.l (.l .o)))]) (.l (.r .o)),
 .go (.move (.tmp (.l (.r .o)))) (.r (.l .o))]) .ret))
noncomputable def f96 : FFunc := .mk c96 (.n U (.n U (.n U .e .e) (.n U .e .e)) (.n U (.n U .e .e) .e)) [.o,(.l .o)] [.tmp (.r (.l .o))]
theorem e96 : @compF Try.prog (Gl.none Try.prog) Try.f96 2 = f96 := by kernel_rfl
theorem o96 : okF Try.prog Try.f96 = true := by kernel_rfl
theorem g96 : Try.prog.funcs[(96 : Nat)]? = some Try.f96 := by kernel_rfl
noncomputable def c97 : FCode := (.seq (.run [.go (.alloc 48 [(.int .i64 (.ofNat 0)),(.int .i64 (.ofNat 0))]) (.r (.l .o))]) (.seq (.run [.go (.move (.tmp (.l .o))) (.l (.r .o)),
 .go (.move (.tmp .o)) (.r (.r .o)),
 .go (.bin .add 3 (.tmp (.r (.r .o))) (.con (.int .i64 (.ofNat 1)))) (.l (.l (.l .o))),
 .go (.bin .mul 3 (.con (.int .i64 (.ofNat 365))) (.tmp (.l (.l (.l .o))))) (.r (.l (.l .o))),
 .go (.bin .sub 3 (.tmp (.l (.r .o))) (.tmp (.r (.l (.l .o))))) (.l (.r (.l .o))),
 .go (.bin .add 3 (.tmp (.l (.r (.l .o)))) (.con (.int .i64 (.ofNat 1)))) (.r (.r (.l .o))),
 .go (.move (.tmp (.l .o))) (.l (.l (.r .o))),
 .go (.move (.tmp .o)) (.r (.l (.r .o))),
 .go (.bin .mul 3 (.con (.int .i64 (.ofNat 365))) (.tmp (.r (.l (.r .o))))) (.l (.r (.r .o))),
 .go (.bin .sub 3 (.tmp (.l (.l (.r .o)))) (.tmp (.l (.r (.r .o))))) (.r (.r (.r .o))),
 .go (.build [(.int .i64 (.ofNat 0)),(.int .i64 (.ofNat 0))] [(0,1,(.tmp (.r (.r (.l .o))))),(1,1,(.tmp (.r (.r (.r .o)))))]) (.l (.l (.l (.l .o)))),
 .un (.store 2 (.tmp (.r (.l .o))) (.tmp (.l (.l (.l (.l .o))))))]) .ret))
noncomputable def f97 : FFunc := .mk c97 (.n U (.n U (.n U (.n U (.n U .e .e) .e) (.n U .e .e)) (.n U (.n U .e .e) (.n U .e .e))) (.n U (.n U (.n U .e .e) (.n U .e .e)) (.n U (.n U .e .e) (.n U .e .e)))) [.o,(.l .o)] [.many (.r (.l .o)) 2]
theorem e97 : @compF Try.prog (Gl.none Try.prog) Try.f97 2 = f97 := by kernel_rfl
theorem o97 : okF Try.prog Try.f97 = true := by kernel_rfl
theorem g97 : Try.prog.funcs[(97 : Nat)]? = some Try.f97 := by kernel_rfl
noncomputable def c98 : FCode := (.seq (.run [.go (.move (.con (.slice none 0 0))) (.r (.l .o))]) (.seq (.run [.go (.move (.con (.slice none 0 0))) (.l (.r .o))]) (.seq (.seq (.run [.go (.move (.tmp .o)) (.l (.l (.r .o))),
 .go (.len 0 (.tmp (.l (.l (.r .o))))) (.r (.l (.r .o))),
 .go (.move (.con (.int .i64 (.ofNat 0)))) (.l (.r (.r .o)))]) (.block 0 (.loop (.seq (.run [.go (.bin .lss 3 (.tmp (.l (.r (.r .o)))) (.tmp (.r (.l (.r .o))))) (.r (.r (.r .o)))]) (.seq (.cond (.tmp (.r (.r (.r .o)))) .skip (.exit 0)) (.seq (.block 1 (.seq (.run [.go (.indexAddr none 2 (.tmp (.l (.l (.r .o)))) (.tmp (.l (.r (.r .o))))) (.l (.l (.l (.l .o)))),
 .go (.loadN 2 (.tmp (.l (.l (.l (.l .o)))))) (.r (.l (.l (.l .o)))),
 .go (.alloc 48 [(.int .i64 (.ofNat 0)),(.int .i64 (.ofNat 0))]) (.l (.l (.l .o))),
 .un (.store 2 (.tmp (.l (.l (.l .o)))) (.tmp (.r (.l (.l (.l .o))))))]) (.seq (.run [.go (.move (.tmp (.l .o))) (.l (.r (.l (.l .o)))),
 .go (.len 0 (.tmp (.l (.r (.l (.l .o)))))) (.r (.r (.l (.l .o)))),
 .go (.move (.con (.int .i64 (.ofNat 0)))) (.l (.l (.r (.l .o))))]) (.block 2 (.loop (.seq (.run [.go (.bin .lss 3 (.tmp (.l (.l (.r (.l .o))))) (.tmp (.r (.r (.l (.l .o)))))) (.r (.l (.r (.l .o))))]) (.seq (.cond (.tmp (.r (.l (.r (.l .o))))) .skip (.exit 2)) (.seq (.block 3 (.seq (.run [.go (.indexAddr none 2 (.tmp (.l (.r (.l (.l .o))))) (.tmp (.l (.l (.r (.l .o)))))) (.l (.r (.r (.l .o)))),
 .go (.loadN 2 (.tmp (.l (.r (.r (.l .o)))))) (.r (.r (.r (.l .o)))),
 .go (.alloc 48 [(.int .i64 (.ofNat 0)),(.int .i64 (.ofNat 0))]) (.l (.r (.l .o))),
 .un (.store 2 (.tmp (.l (.r (.l .o)))) (.tmp (.r (.r (.r (.l .o))))))]) (.seq (.draw 15 [.go (.fieldAddr 0 (.tmp (.l (.l (.l .o))))) (.l (.l (.l (.r .o)))),
 .go (.load1 (.tmp (.l (.l (.l (.r .o)))))) (.r (.l (.l (.r .o)))),
 .go (.fieldAddr 0 (.tmp (.l (.r (.l .o))))) (.l (.r (.l (.r .o)))),
 .go (.load1 (.tmp (.l (.r (.l (.r .o)))))) (.r (.r (.l (.r .o)))),
 .go (.buildSlice 3 1 [(.int .i64 (.ofNat 0))] [(0,1,(.tmp (.r (.r (.l (.r .o))))))]) (.l (.l (.r (.r .o)))),
 .go (.call (.con (.func (.func 92) ⟨[]⟩ ⟨[]⟩)) [(.tmp (.r (.l (.l (.r .o))))),(.tmp (.l (.l (.r (.r .o)))))]) (.r (.l (.r (.r .o)))),
 .go (.fieldAddr 1 (.tmp (.l (.l (.l .o))))) (.l (.r (.r (.r .o)))),
 .go (.load1 (.tmp (.l (.r (.r (.r .o)))))) (.r (.r (.r (.r .o)))),
 .go (.fieldAddr 1 (.tmp (.l (.r (.l .o))))) (.l (.l (.l (.l (.l .o))))),
 .go (.load1 (.tmp (.l (.l (.l (.l (.l .o))))))) (.r (.l (.l (.l (.l .o))))),
 .go (.buildSlice 3 1 [(.int .i64 (.ofNat 0))] [(0,1,(.tmp (.r (.l (.l (.l (.l .o)))))))]) (.l (.r (.l (.l (.l .o))))),
 .go (.call (.con (.func (.func 109) ⟨[]⟩ ⟨[]⟩)) [(.tmp (.r (.r (.r (.r .o))))),(.tmp (.l (.r (.l (.l (.l .o))))))]) (.r (.r (.l (.l (.l .o))))),
 .go (.build [(.int .i64 (.ofNat 0)),(.int .i64 (.ofNat 0))] [(0,1,(.tmp (.r (.l (.r (.r .o)))))),(1,1,(.tmp (.r (.r (.l (.l (.l .o)))))))]) (.l (.l (.r (.l (.l .o))))),
 .go (.alloc 48 [(.int .i64 (.ofNat 0)),(.int .i64 (.ofNat 0))]) (.r (.r (.l .o))),
 .un (.store 2 (.tmp (.r (.r (.l .o)))) (.tmp (.l (.l (.r (.l (.l .o)))))))] [.ok,.ok,.ok,.ok,.nw none (some (.l (.l (.r (.r .o))))) 4 true,.ok,.ok,.rd none (.load1 (.tmp (.l (.r (.r (.r .o)))))) (some (.r (.r (.r (.r .o))))) [0],.ok,.rd none (.load1 (.tmp (.l (.l (.l (.l (.l .o))))))) (some (.r (.l (.l (.l (.l .o)))))) [0],.nw none (some (.l (.r (.l (.l (.l .o)))))) 10 true,.ok,.ok,.nw none (some (.r (.r (.l .o)))) 13 true,.ok]) (.seq (.run [.go (.fieldAddr 0 (.tmp (.r (.r (.l .o))))) (.r (.l (.r (.l (.l .o))))),
 .go (.load1 (.tmp (.r (.l (.r (.l (.l .o))))))) (.l (.r (.r (.l (.l .o))))),
 .go (.fieldAddr 1 (.tmp (.r (.r (.l .o))))) (.r (.r (.r (.l (.l .o))))),
 .go (.load1 (.tmp (.r (.r (.r (.l (.l .o))))))) (.l (.l (.l (.r (.l .o))))),
 .go (.bin .leq 3 (.tmp (.l (.r (.r (.l (.l .o)))))) (.tmp (.l (.l (.l (.r (.l .o))))))) (.r (.l (.l (.r (.l .o)))))]) (.cond (.tmp (.r (.l (.l (.r (.l .o)))))) (.run [.go (.move (.tmp (.l (.r .o)))) (.l (.r (.l (.r (.l .o))))),
 .go (.loadN 2 (.tmp (.r (.r (.l .o))))) (.r (.r (.l (.r (.l .o))))),
 .go (.buildSlice 48 1 [(.int .i64 (.ofNat 0)),(.int .i64 (.ofNat 0))] [(0,2,(.tmp (.r (.r (.l (.r (.l .o)))))))]) (.l (.l (.r (.r (.l .o))))),
 .go (.append 48 2 16 (.tmp (.l (.r (.l (.r (.l .o)))))) (.tmp (.l (.l (.r (.r (.l .o))))))) (.r (.l (.r (.r (.l .o))))),
 .go (.move (.tmp (.r (.l (.r (.r (.l .o))))))) (.l (.r .o))]) .skip))))) (.run [.go (.bin .add 3 (.tmp (.l (.l (.r (.l .o))))) (.con (.int .i64 (.ofNat 1)))) (.l (.r (.r (.r (.l .o))))),
 .go (.move (.tmp (.l (.r (.r (.r (.l .o))))))) (.l (.l (.r (.l .o))))]))))))))) (.run [.go (.bin .add 3 (.tmp (.l (.r (.r .o)))) (.con (.int .i64 (.ofNat 1)))) (.r (.r (.r (.r (.l .o))))),
 .go (.move (.tmp (.r (.r (.r (.r (.l .o))))))) (.l (.r (.r .o)))]))))))) (.seq (.run [.go (.move (.tmp (.l (.r .o)))) (.l (.l (.l (.l (.r .o))))),
 .go (.move (.tmp (.l (.l (.l (.l (.r .o))))))) (.r (.l .o))]) .ret))))
noncomputable def f98 : FFunc := .mk c98 (.n U (.n U (.n U (.n U (.n U (.n U .e .e) (.n U .e .e)) (.n U (.n U .e .e) .e)) (.n U (.n U (.n U .e .e) .e) (.n U (.n U .e .e) .e))) (.n U (.n U (.n U (.n U .e .e) .e) (.n U (.n U .e .e) .e)) (.n U (.n U (.n U .e .e) .e) (.n U (.n U .e .e) .e)))) (.n U (.n U (.n U (.n U (.n U .e .e) .e) (.n U (.n U .e .e) .e)) (.n U (.n U (.n U .e .e) .e) (.n U (.n U .e .e) .e))) (.n U (.n U (.n U (.n U .e .e) .e) (.n U (.n U .e .e) .e)) (.n U (.n U (.n U .e .e) .e) (.n U (.n U .e .e) .e))))) [.o,(.l .o)] [.tmp (.r (.l .o))]
theorem e98 : @compF Try.prog (Gl.none Try.prog) Try.f98 2 = f98 := by kernel_rfl
theorem o98 : okF Try.prog Try.f98 = true := by kernel_rfl
theorem g98 : Try.prog.funcs[(98 : Nat)]? = some Try.f98 := by kernel_rfl
noncomputable def c99 : FCode := (.seq (.run [.go (.box 89 (.tmp (.l .o))) (.l (.l .o)),
 .go (.alloc 113 [(.bool false),(.bool false),(.bool false),(.bool false),(.bool false),(.bool false),(.bool false),(.bool false),(.bool false),(.bool false),(.bool false),(.bool false),(.bool false),(.bool false),(.bool false),(.bool false),(.bool false),(.bool false),(.bool false),(.bool false),(.bool false),(.bool false),(.bool false),(.bool false),(.bool false),(.bool false),(.bool false),(.bool false),(.bool false),(.bool false),(.bool false),(.bool false),(.bool false),(.bool false),(.bool false),(.bool false),(.bool false),(.bool false),(.bool false),(.bool false),(.bool false),(.bool false),(.bool false),(.bool false),(.bool false),(.bool false),(.bool false),(.bool false),(.bool false),(.bool false),(.bool false),(.bool false),(.bool false),(.bool false),(.bool false),(.bool false),(.bool false),(.bool false),(.bool false),(.bool false),(.bool false),(.bool false),(.bool false),(.bool false),(.bool false),(.bool false),(.bool false),(.bool false),(.bool false),(.bool false),(.bool false),(.bool false),(.bool false),(.bool false),(.bool false),(.bool false),(.bool false),(.bool false),(.bool false),(.bool false),(.bool false),(.bool false),(.bool false),(.bool false),(.bool false),(.bool false),(.bool false),(.bool false),(.bool false),(.bool false),(.bool false),(.bool false),(.bool false),(.bool false),(.bool false),(.bool false),(.bool false),(.bool false),(.bool false),(.bool false),(.bool false),(.bool false),(.bool false),(.bool false),(.bool false),(.bool false),(.bool false),(.bool false),(.bool false),(.bool false),(.bool false),(.bool false),(.bool false),(.bool false),(.bool false),(.bool false),(.bool false),(.bool false),(.bool false),(.bool false),(.bool false)]) (.r (.l .o))]) (.seq (.draw 18 [.go (.move (.tmp .o)) (.l (.r .o)),
 .go (.nilCheck (.tmp (.l (.r .o)))) (.r (.r .o)),
 .go (.fieldAddr 4 (.tmp (.r (.r .o)))) (.l (.l (.l .o))),
 .go (.load1 (.tmp (.l (.l (.l .o))))) (.r (.l (.l .o))),
 .go (.move (.tmp .o)) (.l (.r (.l .o))),
 .go (.nilCheck (.tmp (.l (.r (.l .o))))) (.r (.r (.l .o))),
 .go (.fieldAddr 0 (.tmp (.r (.r (.l .o))))) (.l (.l (.r .o))),
 .go (.fieldAddr 2 (.tmp (.l (.l (.r .o))))) (.r (.l (.r .o))),
 .go (.load1 (.tmp (.r (.l (.r .o))))) (.l (.r (.r .o))),
 .go (.fieldAddr 1 (.tmp (.l (.l .o)))) (.r (.r (.r .o))),
 .go (.load1 (.tmp (.r (.r (.r .o))))) (.l (.l (.l (.l .o)))),
 .go (.indexAddr none 4 (.tmp (.l (.r (.r .o)))) (.tmp (.l (.l (.l (.l .o)))))) (.r (.l (.l (.l .o)))),
 .go (.loadN 4 (.tmp (.r (.l (.l (.l .o)))))) (.l (.r (.l (.l .o)))),
 .go (.fieldAddr 2 (.tmp (.l (.l .o)))) (.r (.r (.l (.l .o)))),
 .go (.load1 (.tmp (.r (.r (.l (.l .o)))))) (.l (.l (.r (.l .o)))),
 .go (.build [(.int .i64 (.ofNat 0)),(.int .i64 (.ofNat 0)),(.int .i64 (.ofNat 0)),(.int .i64 (.ofNat 0)),(.int .i64 (.ofNat 0))] [(0,4,(.tmp (.l (.r (.l (.l .o)))))),(4,1,(.tmp (.l (.l (.r (.l .o))))))]) (.r (.l (.r (.l .o)))),
 .go (.call (.con (.func (.func 74) ⟨[]⟩ ⟨[]⟩)) [(.tmp (.r (.l (.l .o)))),(.tmp (.r (.l (.r (.l .o)))))]) (.l (.r (.r (.l .o)))),
 .un (.store 121 (.tmp (.r (.l .o))) (.tmp (.l (.r (.r (.l .o))))))] [.ok,.ok,.ok,.ok,.ok,.ok,.ok,.ok,.ok,.ok,.ok,.ok,.ok,.ok,.ok,.ok,.ok,.ok]) .ret))
noncomputable def f99 : FFunc := .mk c99 (.n U (.n U (.n U (.n U (.n U .e .e) .e) (.n U (.n U .e .e) .e)) (.n U (.n U (.n U .e .e) .e) (.n U (.n U .e .e) .e))) (.n U (.n U (.n U (.n U .e .e) .e) (.n U (.n U .e .e) .e)) (.n U (.n U (.n U .e .e) .e) (.n U .e .e)))) [.o,(.l .o)] [.many (.r (.l .o)) 121]
theorem e99 : @compF Try.prog (Gl.none Try.prog) Try.f99 2 = f99 := by kernel_rfl
theorem o99 : okF Try.prog Try.f99 = true := by kernel_rfl
theorem g99 : Try.prog.funcs[(99 : Nat)]? = some Try.f99 := by kernel_rfl
noncomputable def c101 : FCode := (.seq (.run [.go (.box 125 (.tmp .o)) (.r .o),
 .go (.box 3 (.tmp (.l .o))) (.l (.l .o)),
 .go (.move (.con .nilFunc)) (.r (.l .o))]) (.seq (.run [.go (.makeFunc 110 [] [(.tmp (.r .o)),(.tmp (.l (.l .o)))]) (.l (.r .o)),
 .go (.move (.tmp (.l (.r .o)))) (.r (.l .o))]) .ret))
noncomputable def f101 : FFunc := .mk c101 (.n U (.n U (.n U .e .e) (.n U .e .e)) (.n U (.n U .e .e) .e)) [.o,(.l .o)] [.tmp (.r (.l .o))]
theorem e101 : @compF Try.prog (Gl.none Try.prog) Try.f101 2 = f101 := by kernel_rfl
theorem o101 : okF Try.prog Try.f101 = true := by kernel_rfl
theorem g101 : Try.prog.funcs[(101 : Nat)]? = some Try.f101 := by kernel_rfl
noncomputable def c102 : FCode := (.seq (.run [.go (.box 28 (.tmp .o)) (.r .o),
 .go (.move (.con (.int .i64 (.ofNat 0)))) (.r (.l .o))]) (.seq (.run [.go (.loadN 4 (.tmp (.r .o))) (.l (.r .o)),
 .go (.move (.tmp (.l .o))) (.r (.r .o)),
 .go (.fieldAddr 1 (.tmp (.r .o))) (.l (.l (.l .o))),
 .go (.load1 (.tmp (.l (.l (.l .o))))) (.r (.l (.l .o))),
 .go (.bin .quo 3 (.tmp (.r (.l (.l .o)))) (.con (.int .i64 (.ofNat 2)))) (.l (.r (.l .o))),
 .go (.bin .add 3 (.tmp (.r (.r .o))) (.tmp (.l (.r (.l .o))))) (.r (.r (.l .o))),
 .go (.call (.con (.func (.func 103) ⟨[]⟩ ⟨[]⟩)) [(.tmp (.l (.r .o))),(.tmp (.r (.r (.l .o))))]) (.l (.l (.r .o))),
 .go (.move (.tmp (.l (.l (.r .o))))) (.r (.l .o))]) .ret))
noncomputable def f102 : FFunc := .mk c102 (.n U (.n U (.n U (.n U .e .e) (.n U .e .e)) (.n U (.n U .e .e) .e)) (.n U (.n U (.n U .e .e) .e) (.n U (.n U .e .e) .e))) [.o,(.l .o)] [.tmp (.r (.l .o))]
theorem e102 : @compF Try.prog (Gl.none Try.prog) Try.f102 2 = f102 := by kernel_rfl
theorem o102 : okF Try.prog Try.f102 = true := by kernel_rfl
theorem g102 : Try.prog.funcs[(102 : Nat)]? = some Try.f102 := by kernel_rfl
noncomputable def c103 : FCode := (.seq (.run [.go (.box 28 (.tmp .o)) (.r .o),
 .go (.move (.con (.int .i64 (.ofNat 0)))) (.r (.l .o))]) (.seq (.run [.go (.move (.tmp (.l .o))) (.l (.r .o)),
 .go (.move (.tmp (.l .o))) (.r (.r .o)),
 .go (.fieldAddr 1 (.tmp (.r .o))) (.l (.l (.l .o))),
 .go (.load1 (.tmp (.l (.l (.l .o))))) (.r (.l (.l .o))),
 .go (.bin .rem 3 (.tmp (.r (.r .o))) (.tmp (.r (.l (.l .o))))) (.l (.r (.l .o))),
 .go (.bin .sub 3 (.tmp (.l (.r .o))) (.tmp (.l (.r (.l .o))))) (.r (.r (.l .o))),
 .go (.move (.tmp (.r (.r (.l .o))))) (.r (.l .o))]) .ret))
noncomputable def f103 : FFunc := .mk c103 (.n U (.n U (.n U (.n U .e .e) .e) (.n U (.n U .e .e) .e)) (.n U (.n U (.n U .e .e) .e) (.n U (.n U .e .e) .e))) [.o,(.l .o)] [.tmp (.r (.l .o))]
theorem e103 : @compF Try.prog (Gl.none Try.prog) Try.f103 2 = f103 := by kernel_rfl
theorem o103 : okF Try.prog Try.f103 = true := by kernel_rfl
theorem g103 : Try.prog.funcs[(103 : Nat)]? = some Try.f103 := by kernel_rfl
noncomputable def c104 : FCode := (.seq (.run [.go (.move (.con (.slice none 0 0))) (.r .o)]) (.seq (.seq (.run [.go (.move (.tmp .o)) (.l (.l .o)),
 .go (.bin .eql 30 (.tmp (.l (.l .o))) (.con (.slice none 0 0))) (.r (.l .o))]) (.cond (.tmp (.r (.l .o))) (.seq (.run [.go (.move (.con (.slice none 0 0))) (.r .o)]) .ret) .skip)) (.seq (.run [.go (.buildSlice 48 0 [] []) (.l (.r .o)),
 .go (.move (.tmp .o)) (.r (.r .o)),
 .go (.append 48 2 16 (.tmp (.l (.r .o))) (.tmp (.r (.r .o)))) (.l (.l (.l .o))),
 .go (.move (.tmp (.l (.l (.l .o))))) (.r .o)]) .ret)))
noncomputable def f104 : FFunc := .mk c104 (.n U (.n U (.n U (.n U .e .e) .e) (.n U .e .e)) (.n U (.n U .e .e) (.n U .e .e))) [.o] [.tmp (.r .o)]
theorem e104 : @compF Try.prog (Gl.none Try.prog) Try.f104 1 = f104 := by kernel_rfl
theorem o104 : okF Try.prog Try.f104 = true := by kernel_rfl
theorem g104 : Try.prog.funcs[(104 : Nat)]? = some Try.f104 := by kernel_rfl
noncomputable def c105 : FCode := (.seq (.run [.go (.move (.tmp .o)) (.l (.r .o)),
 .go (.len 0 (.tmp (.l (.r .o)))) (.r (.r .o)),
 .go (.move (.tmp (.r (.r .o)))) (.r (.l .o))]) (.run [.go (.move (.tmp .o)) (.l (.l (.l .o))),
 .go (.move (.tmp (.r (.l .o)))) (.r (.l (.l .o))),
 .go (.move (.tmp (.r (.l .o)))) (.l (.r (.l .o))),
 .go (.conv .u64 (.tmp (.l (.r (.l .o))))) (.r (.r (.l .o))),
 .go (.call (.con (.func (.func 114) ⟨[]⟩ ⟨[]⟩)) [(.tmp (.r (.r (.l .o))))]) (.l (.l (.r .o))),
 .go (.move (.tmp (.l .o))) (.r (.l (.r .o))),
 .go (.call (.con (.func (.func 113) ⟨[]⟩ ⟨[]⟩)) [(.tmp (.l (.l (.l .o)))),(.con (.int .i64 (.ofNat 0))),(.tmp (.r (.l (.l .o)))),(.tmp (.l (.l (.r .o)))),(.tmp (.r (.l (.r .o))))]) (.l (.r (.r .o)))]))
noncomputable def f105 : FFunc := .mk c105 (.n U (.n U (.n U (.n U .e .e) (.n U .e .e)) (.n U (.n U .e .e) (.n U .e .e))) (.n U (.n U (.n U .e .e) (.n U .e .e)) (.n U (.n U .e .e) .e))) [.o,(.l .o)] []
theorem e105 : @compF Try.prog (Gl.none Try.prog) Try.f105 2 = f105 := by kernel_rfl
theorem o105 : okF Try.prog Try.f105 = true := by kernel_rfl
theorem g105 : Try.prog.funcs[(105 : Nat)]? = some Try.f105 := by kernel_rfl
noncomputable def c106 : FCode := (.seq (.run [.go (.box 48 (.tmp .o)) (.r .o),
 .go (.box 48 (.tmp (.l .o))) (.l (.l .o)),
 .go (.move (.con (.int .i64 (.ofNat 0)))) (.r (.l .o))]) (.seq (.run [.go (.fieldAddr 0 (.tmp (.r .o))) (.l (.r .o)),
 .go (.load1 (.tmp (.l (.r .o)))) (.r (.r .o)),
 .go (.fieldAddr 0 (.tmp (.l (.l .o)))) (.l (.l (.l .o))),
 .go (.load1 (.tmp (.l (.l (.l .o))))) (.r (.l (.l .o))),
 .go (.call (.con (.func (.func 107) ⟨[]⟩ ⟨[]⟩)) [(.tmp (.r (.r .o))),(.tmp (.r (.l (.l .o))))]) (.l (.r (.l .o))),
 .go (.move (.tmp (.l (.r (.l .o))))) (.r (.l .o))]) .ret))
noncomputable def f106 : FFunc := .mk c106 (.n U (.n U (.n U (.n U .e .e) .e) (.n U (.n U .e .e) .e)) (.n U (.n U (.n U .e .e) .e) (.n U .e .e))) [.o,(.l .o)] [.tmp (.r (.l .o))]
theorem e106 : @compF Try.prog (Gl.none Try.prog) Try.f106 2 = f106 := by kernel_rfl
theorem o106 : okF Try.prog Try.f106 = true := by kernel_rfl
theorem g106 : Try.prog.funcs[(106 : Nat)]? = some Try.f106 := by kernel_rfl
noncomputable def c107 : FCode := (.seq (.run [.go (.move (.con (.int .i64 (.ofNat 0)))) (.r (.l .o))]) (.seq (.run [.go (.move (.tmp .o)) (.l (.l (.l .o))),
 .go (.call (.con (.func (.func 115) ⟨[]⟩ ⟨[]⟩)) [(.tmp (.l (.l (.l .o))))]) (.r (.l (.l .o))),
 .go (.move (.tmp (.r (.l (.l .o))))) (.l (.r .o))]) (.seq (.run [.go (.move (.tmp (.l .o))) (.l (.r (.l .o))),
 .go (.call (.con (.func (.func 115) ⟨[]⟩ ⟨[]⟩)) [(.tmp (.l (.r (.l .o))))]) (.r (.r (.l .o))),
 .go (.move (.tmp (.r (.r (.l .o))))) (.r (.r .o))]) (.seq (.seq (.run [.go (.move (.tmp (.l (.r .o)))) (.l (.l (.r .o)))]) (.cond (.tmp (.l (.l (.r .o)))) (.seq (.seq (.run [.go (.move (.tmp (.r (.r .o)))) (.r (.l (.r .o)))]) (.cond (.tmp (.r (.l (.r .o)))) (.seq (.run [.go (.move (.con (.int .i64 (.ofNat 0)))) (.r (.l .o))]) .ret) .skip)) (.seq (.run [.go (.move (.con (.int .i64 (.negSucc 0)))) (.r (.l .o))]) .ret)) .skip)) (.seq (.seq (.run [.go (.move (.tmp (.r (.r .o)))) (.l (.r (.r .o)))]) (.cond (.tmp (.l (.r (.r .o)))) (.seq (.run [.go (.move (.con (.int .i64 (.ofNat 1)))) (.r (.l .o))]) .ret) .skip)) (.seq (.seq (.run [.go (.move (.tmp .o)) (.r (.r (.r .o))),
 .go (.move (.tmp (.l .o))) (.l (.l (.l (.l .o)))),
 .go (.bin .lss 3 (.tmp (.r (.r (.r .o)))) (.tmp (.l (.l (.l (.l .o)))))) (.r (.l (.l (.l .o))))]) (.cond (.tmp (.r (.l (.l (.l .o))))) (.seq (.run [.go (.move (.con (.int .i64 (.negSucc 0)))) (.r (.l .o))]) .ret) .skip)) (.seq (.seq (.run [.go (.move (.tmp .o)) (.l (.r (.l (.l .o)))),
 .go (.move (.tmp (.l .o))) (.r (.r (.l (.l .o)))),
 .go (.bin .gtr 3 (.tmp (.l (.r (.l (.l .o))))) (.tmp (.r (.r (.l (.l .o)))))) (.l (.l (.r (.l .o))))]) (.cond (.tmp (.l (.l (.r (.l .o))))) (.seq (.run [.go (.move (.con (.int .i64 (.ofNat 1)))) (.r (.l .o))]) .ret) .skip)) (.seq (.run [.go (.move (.con (.int .i64 (.ofNat 0)))) (.r (.l .o))]) .ret))))))))
noncomputable def f107 : FFunc := .mk c107 (.n U (.n U (.n U (.n U (.n U .e .e) .e) (.n U (.n U .e .e) .e)) (.n U (.n U (.n U .e .e) .e) (.n U .e .e))) (.n U (.n U (.n U (.n U .e .e) .e) (.n U .e .e)) (.n U (.n U (.n U .e .e) .e) (.n U .e .e)))) [.o,(.l .o)] [.tmp (.r (.l .o))]
theorem e107 : @compF Try.prog (Gl.none Try.prog) Try.f107 2 = f107 := by kernel_rfl
theorem o107 : okF Try.prog Try.f107 = true := by kernel_rfl
theorem g107 : Try.prog.funcs[(107 : Nat)]? = some Try.f107 := by kernel_rfl
noncomputable def c108 : FCode := (.seq (.run [.go (.load1 (.tmp (.l .o))) (.r (.r .o)),
 .go (.loadN 3 (.tmp (.r .o))) (.l (.l (.l .o))),
 .go (.call (.con (.func (.func 99) ⟨[]⟩ ⟨[]⟩)) [(.tmp (.r (.r .o))),(.tmp (.l (.l (.l .o))))]) (.r (.l (.l .o))),
 .go (.move (.con (.int .i64 (.ofNat 0)))) (.l (.r (.l .o)))]) (.block 0 (.loop (.seq (.run [.go (.bin .lss 3 (.tmp (.l (.r (.l .o)))) (.con (.int .i64 (.ofNat 121)))) (.r (.r (.l .o)))]) (.seq (.cond (.tmp (.r (.r (.l .o)))) .skip (.exit 0)) (.seq (.block 1 (.seq (.run [.go (.move (.tmp (.l (.r (.l .o))))) (.l (.l (.r .o))),
 .go (.index 121 1 true (.tmp (.r (.l (.l .o)))) (.tmp (.l (.r (.l .o))))) (.r (.l (.r .o))),
 .go (.move (.tmp (.l (.l (.r .o))))) (.r (.l .o)),
 .go (.move (.tmp (.r (.l (.r .o))))) (.l (.r .o))]) (.seq (.run [.go (.move (.tmp (.l (.r .o)))) (.l (.r (.r .o))),
 .go (.move (.tmp (.l (.r (.r .o))))) (.r (.r (.r .o))),
 .gd (.r (.r (.r .o))) true (.move (.tmp .o)) (.l (.l (.l (.l .o)))),
 .gd (.r (.r (.r .o))) true (.move (.tmp (.r (.l .o)))) (.r (.l (.l (.l .o)))),
 .gd (.r (.r (.r .o))) true (.call (.tmp (.l (.l (.l (.l .o))))) [(.tmp (.r (.l (.l (.l .o)))))]) (.l (.r (.l (.l .o)))),
 .gd (.r (.r (.r .o))) true (.un .not (.tmp (.l (.r (.l (.l .o)))))) (.r (.r (.l (.l .o)))),
 .go (.pick (.tmp (.r (.r (.r .o)))) (.tmp (.r (.r (.l (.l .o))))) (.con (.bool false))) (.l (.l (.r (.l .o))))]) (.cond (.tmp (.l (.l (.r (.l .o))))) .ret .skip)))) (.run [.go (.bin .add 3 (.tmp (.l (.r (.l .o)))) (.con (.int .i64 (.ofNat 1)))) (.r (.l (.r (.l .o)))),
 .go (.move (.tmp (.r (.l (.r (.l .o)))))) (.l (.r (.l .o)))])))))))
noncomputable def f108 : FFunc := .mk c108 (.n U (.n U (.n U (.n U (.n U .e .e) .e) (.n U (.n U .e .e) .e)) (.n U (.n U (.n U .e .e) .e) (.n U .e .e))) (.n U (.n U (.n U (.n U .e .e) .e) (.n U (.n U .e .e) .e)) (.n U (.n U (.n U .e .e) .e) (.n U .e .e)))) [.o,(.l .o),(.r .o)] []
theorem e108 : @compF Try.prog (Gl.none Try.prog) Try.f108 3 = f108 := by kernel_rfl
theorem o108 : okF Try.prog Try.f108 = true := by kernel_rfl
theorem g108 : Try.prog.funcs[(108 : Nat)]? = some Try.f108 := by kernel_rfl
noncomputable def c109 : FCode := (.seq (.run [.go (.move (.con (.int .i64 (.ofNat 0)))) (.r (.l .o))]) (.seq (.seq (.run [.go (.move (.tmp (.l .o))) (.l (.l (.l .o))),
 .go (.len 0 (.tmp (.l (.l (.l .o))))) (.r (.l (.l .o))),
 .go (.move (.con (.int .i64 (.ofNat 0)))) (.l (.r (.l .o)))]) (.block 0 (.loop (.seq (.run [.go (.bin .lss 3 (.tmp (.l (.r (.l .o)))) (.tmp (.r (.l (.l .o))))) (.r (.r (.l .o)))]) (.seq (.cond (.tmp (.r (.r (.l .o)))) .skip (.exit 0)) (.seq (.block 1 (.seq (.run [.go (.indexAddr none 1 (.tmp (.l (.l (.l .o)))) (.tmp (.l (.r (.l .o))))) (.l (.l (.r .o))),
 .go (.load1 (.tmp (.l (.l (.r .o))))) (.r (.l (.r .o))),
 .go (.move (.tmp (.r (.l (.r .o))))) (.r (.r .o))]) (.seq (.run [.go (.move (.tmp (.r (.r .o)))) (.l (.r (.r .o))),
 .go (.move (.tmp .o)) (.r (.r (.r .o))),
 .go (.bin .lss 3 (.tmp (.l (.r (.r .o)))) (.tmp (.r (.r (.r .o))))) (.l (.l (.l (.l .o))))]) (.cond (.tmp (.l (.l (.l (.l .o))))) (.run [.go (.move (.tmp (.r (.r .o)))) (.r (.l (.l (.l .o)))),
 .go (.move (.tmp (.r (.l (.l (.l .o)))))) .o]) .skip)))) (.run [.go (.bin .add 3 (.tmp (.l (.r (.l .o)))) (.con (.int .i64 (.ofNat 1)))) (.l (.r (.l (.l .o)))),
 .go (.move (.tmp (.l (.r (.l (.l .o)))))) (.l (.r (.l .o)))]))))))) (.seq (.run [.go (.move (.tmp .o)) (.r (.r (.l (.l .o)))),
 .go (.move (.tmp (.r (.r (.l (.l .o)))))) (.r (.l .o))]) .ret)))
noncomputable def f109 : FFunc := .mk c109 (.n U (.n U (.n U (.n U (.n U .e .e) .e) (.n U .e .e)) (.n U (.n U (.n U .e .e) .e) (.n U .e .e))) (.n U (.n U (.n U (.n U .e .e) .e) (.n U .e .e)) (.n U (.n U (.n U .e .e) .e) (.n U .e .e)))) [.o,(.l .o)] [.tmp (.r (.l .o))]
theorem e109 : @compF Try.prog (Gl.none Try.prog) Try.f109 2 = f109 := by kernel_rfl
theorem o109 : okF Try.prog Try.f109 = true := by kernel_rfl
theorem g109 : Try.prog.funcs[(109 : Nat)]? = some Try.f109 := by kernel_rfl
end Go.Xe.TA
