/- The code of the program's functions, their types resolved, as the machine for the kernel runs it: definitions, and for each that it is the program's own. Conditions: none. -/
import Derived.Test.YtjpacpgfcnfmkaaGreatYk
import Derived.Test.YtjpacpgfcnfmkaaGreatProg
import Derived.KernelRfl
namespace Go.Xe.TL
open Go Go.Xe Go.Proofs
set_option maxRecDepth 1000000
abbrev U : Value := .tuple ⟨[]⟩
noncomputable def c3 : FCode := (.seq (.run [.go (.move (.con (.bool false))) .o]) (.seq (.run [.go (.call (.con (.func (.func 6) ⟨[]⟩ ⟨[]⟩)) []) (.l (.l (.r (.l .o)))),
 .go (.call (.con (.func (.func 5) ⟨[]⟩ ⟨[]⟩)) [(.con (.int .i64 (.ofNat 500))),(.tmp (.l (.l (.r (.l .o)))))]) (.r (.l (.r (.l .o)))),
 .go (.call (.con (.func (.func 4) ⟨[]⟩ ⟨[]⟩)) [(.tmp (.r (.l (.r (.l .o)))))]) (.l (.r (.r (.l .o)))),
 .go (.move (.tmp (.l (.r (.r (.l .o)))))) (.r (.r (.l (.l .o)))),
 .go (.extract (.tmp (.r (.r (.l (.l .o))))) 0) (.r (.r (.r (.l .o)))),
 .go (.extract (.tmp (.r (.r (.l (.l .o))))) 1) (.l (.l (.l (.r .o)))),
 .go (.move (.tmp (.r (.r (.r (.l .o)))))) (.l .o),
 .go (.move (.tmp (.l (.l (.l (.r .o)))))) (.r .o)]) (.seq (.run [.go (.call (.con (.func (.func 6) ⟨[]⟩ ⟨[]⟩)) []) (.l (.r (.l (.r .o)))),
 .go (.call (.con (.func (.func 5) ⟨[]⟩ ⟨[]⟩)) [(.con (.int .i64 (.ofNat 500))),(.tmp (.l (.r (.l (.r .o)))))]) (.r (.r (.l (.r .o)))),
 .go (.call (.con (.func (.func 7) ⟨[]⟩ ⟨[]⟩)) [(.tmp (.r (.r (.l (.r .o)))))]) (.l (.l (.r (.r .o)))),
 .go (.move (.tmp (.l (.l (.r (.r .o)))))) (.r (.l (.l (.r .o)))),
 .go (.extract (.tmp (.r (.l (.l (.r .o))))) 0) (.r (.l (.r (.r .o)))),
 .go (.extract (.tmp (.r (.l (.l (.r .o))))) 1) (.l (.r (.r (.r .o)))),
 .go (.move (.tmp (.r (.l (.r (.r .o)))))) (.l (.l .o)),
 .go (.move (.tmp (.l (.r (.r (.r .o)))))) (.r (.l .o))]) (.seq (.run [.go (.call (.con (.func (.func 6) ⟨[]⟩ ⟨[]⟩)) []) (.l (.l (.l (.l (.l .o))))),
 .go (.call (.con (.func (.func 5) ⟨[]⟩ ⟨[]⟩)) [(.con (.int .i64 (.ofNat 500))),(.tmp (.l (.l (.l (.l (.l .o))))))]) (.r (.l (.l (.l (.l .o))))),
 .go (.call (.con (.func (.func 8) ⟨[]⟩ ⟨[]⟩)) [(.tmp (.r (.l (.l (.l (.l .o))))))]) (.l (.r (.l (.l (.l .o))))),
 .go (.move (.tmp (.l (.r (.l (.l (.l .o))))))) (.r (.r (.r (.r .o)))),
 .go (.extract (.tmp (.r (.r (.r (.r .o))))) 0) (.r (.r (.l (.l (.l .o))))),
 .go (.extract (.tmp (.r (.r (.r (.r .o))))) 1) (.l (.l (.r (.l (.l .o))))),
 .go (.move (.tmp (.r (.r (.l (.l (.l .o))))))) (.l (.r .o)),
 .go (.move (.tmp (.l (.l (.r (.l (.l .o))))))) (.r (.r .o))]) (.seq (.run [.go (.call (.con (.func (.func 6) ⟨[]⟩ ⟨[]⟩)) []) (.l (.r (.r (.l (.l .o))))),
 .go (.slice 57 2 (.tmp (.l (.r (.r (.l (.l .o)))))) none (some (.con (.int .i64 (.ofNat 1))))) (.r (.r (.r (.l (.l .o))))),
 .go (.call (.con (.func (.func 5) ⟨[]⟩ ⟨[]⟩)) [(.con (.int .i64 (.ofNat 500))),(.tmp (.r (.r (.r (.l (.l .o))))))]) (.l (.l (.l (.r (.l .o))))),
 .go (.call (.con (.func (.func 4) ⟨[]⟩ ⟨[]⟩)) [(.tmp (.l (.l (.l (.r (.l .o))))))]) (.r (.l (.l (.r (.l .o))))),
 .go (.move (.tmp (.r (.l (.l (.r (.l .o))))))) (.r (.l (.r (.l (.l .o))))),
 .go (.extract (.tmp (.r (.l (.r (.l (.l .o)))))) 0) (.l (.r (.l (.r (.l .o))))),
 .go (.extract (.tmp (.r (.l (.r (.l (.l .o)))))) 1) (.r (.r (.l (.r (.l .o))))),
 .go (.move (.tmp (.l (.r (.l (.r (.l .o))))))) (.l (.l (.l .o))),
 .go (.move (.tmp (.r (.r (.l (.r (.l .o))))))) (.r (.l (.l .o)))]) (.seq (.run [.go (.call (.con (.func (.func 6) ⟨[]⟩ ⟨[]⟩)) []) (.r (.l (.r (.r (.l .o))))),
 .go (.call (.con (.func (.func 5) ⟨[]⟩ ⟨[]⟩)) [(.con (.int .i64 (.ofNat 500))),(.tmp (.r (.l (.r (.r (.l .o))))))]) (.l (.r (.r (.r (.l .o))))),
 .go (.call (.con (.func (.func 9) ⟨[]⟩ ⟨[]⟩)) [(.tmp (.l (.r (.r (.r (.l .o))))))]) (.r (.r (.r (.r (.l .o))))),
 .go (.move (.tmp (.r (.r (.r (.r (.l .o))))))) (.l (.l (.r (.r (.l .o))))),
 .go (.extract (.tmp (.l (.l (.r (.r (.l .o)))))) 0) (.l (.l (.l (.l (.r .o))))),
 .go (.extract (.tmp (.l (.l (.r (.r (.l .o)))))) 1) (.r (.l (.l (.l (.r .o))))),
 .go (.move (.tmp (.l (.l (.l (.l (.r .o))))))) (.l (.r (.l .o))),
 .go (.move (.tmp (.r (.l (.l (.l (.r .o))))))) (.r (.r (.l .o)))]) (.seq (.seq (.run [.go (.move (.tmp (.r .o))) (.l (.r (.l (.l (.r .o))))),
 .go (.bin .neq 22 (.tmp (.l (.r (.l (.l (.r .o)))))) (.con (.int .i64 (.ofNat 0)))) (.r (.r (.l (.l (.r .o))))),
 .go (.move (.tmp (.r (.r (.l (.l (.r .o))))))) (.l (.l (.r (.l (.r .o))))),
 .gd (.l (.l (.r (.l (.r .o))))) false (.move (.tmp (.l .o))) (.r (.l (.r (.l (.r .o))))),
 .gd (.l (.l (.r (.l (.r .o))))) false (.bin .neq 3 (.tmp (.r (.l (.r (.l (.r .o)))))) (.con (.int .i64 (.ofNat 3)))) (.l (.r (.r (.l (.r .o))))),
 .go (.pick (.tmp (.l (.l (.r (.l (.r .o)))))) (.con (.bool true)) (.tmp (.l (.r (.r (.l (.r .o))))))) (.r (.r (.r (.l (.r .o))))),
 .go (.move (.tmp (.r (.r (.r (.l (.r .o))))))) (.l (.l (.l (.r (.r .o))))),
 .gd (.l (.l (.l (.r (.r .o))))) false (.move (.tmp (.r (.l .o)))) (.r (.l (.l (.r (.r .o))))),
 .gd (.l (.l (.l (.r (.r .o))))) false (.bin .neq 22 (.tmp (.r (.l (.l (.r (.r .o)))))) (.con (.int .i64 (.ofNat 0)))) (.l (.r (.l (.r (.r .o))))),
 .go (.pick (.tmp (.l (.l (.l (.r (.r .o)))))) (.con (.bool true)) (.tmp (.l (.r (.l (.r (.r .o))))))) (.r (.r (.l (.r (.r .o))))),
 .go (.move (.tmp (.r (.r (.l (.r (.r .o))))))) (.l (.l (.r (.r (.r .o))))),
 .gd (.l (.l (.r (.r (.r .o))))) false (.move (.tmp (.l (.l .o)))) (.r (.l (.r (.r (.r .o))))),
 .gd (.l (.l (.r (.r (.r .o))))) false (.buildSlice 3 3 [(.int .i64 (.ofNat 0)),(.int .i64 (.ofNat 0)),(.int .i64 (.ofNat 0))] [(0,1,(.con (.int .i64 (.ofNat 0)))),(1,1,(.con (.int .i64 (.ofNat 1)))),(2,1,(.con (.int .i64 (.ofNat 2))))]) (.l (.r (.r (.r (.r .o))))),
 .gd (.l (.l (.r (.r (.r .o))))) false (.call (.con (.func (.func 10) ⟨[]⟩ ⟨[]⟩)) [(.tmp (.r (.l (.r (.r (.r .o)))))),(.tmp (.l (.r (.r (.r (.r .o))))))]) (.r (.r (.r (.r (.r .o))))),
 .gd (.l (.l (.r (.r (.r .o))))) false (.un .not (.tmp (.r (.r (.r (.r (.r .o))))))) (.l (.l (.l (.l (.l (.l .o)))))),
 .go (.pick (.tmp (.l (.l (.r (.r (.r .o)))))) (.con (.bool true)) (.tmp (.l (.l (.l (.l (.l (.l .o)))))))) (.r (.l (.l (.l (.l (.l .o)))))),
 .go (.move (.tmp (.r (.l (.l (.l (.l (.l .o)))))))) (.l (.r (.l (.l (.l (.l .o)))))),
 .gd (.l (.r (.l (.l (.l (.l .o)))))) false (.move (.tmp (.r (.r .o)))) (.r (.r (.l (.l (.l (.l .o)))))),
 .gd (.l (.r (.l (.l (.l (.l .o)))))) false (.bin .neq 22 (.tmp (.r (.r (.l (.l (.l (.l .o))))))) (.con (.int .i64 (.ofNat 0)))) (.l (.l (.r (.l (.l (.l .o)))))),
 .go (.pick (.tmp (.l (.r (.l (.l (.l (.l .o))))))) (.con (.bool true)) (.tmp (.l (.l (.r (.l (.l (.l .o)))))))) (.r (.l (.r (.l (.l (.l .o)))))),
 .go (.move (.tmp (.r (.l (.r (.l (.l (.l .o)))))))) (.l (.r (.r (.l (.l (.l .o)))))),
 .gd (.l (.r (.r (.l (.l (.l .o)))))) false (.move (.tmp (.l (.r .o)))) (.r (.r (.r (.l (.l (.l .o)))))),
 .gd (.l (.r (.r (.l (.l (.l .o)))))) false (.len 0 (.tmp (.r (.r (.r (.l (.l (.l .o)))))))) (.l (.l (.l (.r (.l (.l .o)))))),
 .gd (.l (.r (.r (.l (.l (.l .o)))))) false (.bin .neq 3 (.tmp (.l (.l (.l (.r (.l (.l .o))))))) (.con (.int .i64 (.ofNat 3)))) (.r (.l (.l (.r (.l (.l .o)))))),
 .go (.pick (.tmp (.l (.r (.r (.l (.l (.l .o))))))) (.con (.bool true)) (.tmp (.r (.l (.l (.r (.l (.l .o)))))))) (.l (.r (.l (.r (.l (.l .o)))))),
 .go (.move (.tmp (.l (.r (.l (.r (.l (.l .o)))))))) (.r (.r (.l (.r (.l (.l .o)))))),
 .gd (.r (.r (.l (.r (.l (.l .o)))))) false (.move (.tmp (.r (.l (.l .o))))) (.l (.l (.r (.r (.l (.l .o)))))),
 .gd (.r (.r (.l (.r (.l (.l .o)))))) false (.bin .neq 22 (.tmp (.l (.l (.r (.r (.l (.l .o))))))) (.con (.int .i64 (.ofNat 0)))) (.r (.l (.r (.r (.l (.l .o)))))),
 .go (.pick (.tmp (.r (.r (.l (.r (.l (.l .o))))))) (.con (.bool true)) (.tmp (.r (.l (.r (.r (.l (.l .o)))))))) (.l (.r (.r (.r (.l (.l .o)))))),
 .go (.move (.tmp (.l (.r (.r (.r (.l (.l .o)))))))) (.r (.r (.r (.r (.l (.l .o)))))),
 .gd (.r (.r (.r (.r (.l (.l .o)))))) false (.move (.tmp (.l (.l (.l .o))))) (.l (.l (.l (.l (.r (.l .o)))))),
 .gd (.r (.r (.r (.r (.l (.l .o)))))) false (.bin .neq 3 (.tmp (.l (.l (.l (.l (.r (.l .o))))))) (.con (.int .i64 (.ofNat 2)))) (.r (.l (.l (.l (.r (.l .o)))))),
 .go (.pick (.tmp (.r (.r (.r (.r (.l (.l .o))))))) (.con (.bool true)) (.tmp (.r (.l (.l (.l (.r (.l .o)))))))) (.l (.r (.l (.l (.r (.l .o)))))),
 .go (.move (.tmp (.l (.r (.l (.l (.r (.l .o)))))))) (.r (.r (.l (.l (.r (.l .o)))))),
 .gd (.r (.r (.l (.l (.r (.l .o)))))) false (.move (.tmp (.r (.r (.l .o))))) (.l (.l (.r (.l (.r (.l .o)))))),
 .gd (.r (.r (.l (.l (.r (.l .o)))))) false (.bin .neq 22 (.tmp (.l (.l (.r (.l (.r (.l .o))))))) (.con (.int .i64 (.ofNat 0)))) (.r (.l (.r (.l (.r (.l .o)))))),
 .go (.pick (.tmp (.r (.r (.l (.l (.r (.l .o))))))) (.con (.bool true)) (.tmp (.r (.l (.r (.l (.r (.l .o)))))))) (.l (.r (.r (.l (.r (.l .o)))))),
 .go (.move (.tmp (.l (.r (.r (.l (.r (.l .o)))))))) (.r (.r (.r (.l (.r (.l .o)))))),
 .gd (.r (.r (.r (.l (.r (.l .o)))))) false (.move (.tmp (.l (.r (.l .o))))) (.l (.l (.l (.r (.r (.l .o)))))),
 .gd (.r (.r (.r (.l (.r (.l .o)))))) false (.buildSlice 3 3 [(.int .i64 (.ofNat 0)),(.int .i64 (.ofNat 0)),(.int .i64 (.ofNat 0))] [(0,1,(.con (.int .i64 (.ofNat 0)))),(1,1,(.con (.int .i64 (.ofNat 1)))),(2,1,(.con (.int .i64 (.ofNat 2))))]) (.r (.l (.l (.r (.r (.l .o)))))),
 .gd (.r (.r (.r (.l (.r (.l .o)))))) false (.call (.con (.func (.func 10) ⟨[]⟩ ⟨[]⟩)) [(.tmp (.l (.l (.l (.r (.r (.l .o))))))),(.tmp (.r (.l (.l (.r (.r (.l .o)))))))]) (.l (.r (.l (.r (.r (.l .o)))))),
 .gd (.r (.r (.r (.l (.r (.l .o)))))) false (.un .not (.tmp (.l (.r (.l (.r (.r (.l .o)))))))) (.r (.r (.l (.r (.r (.l .o)))))),
 .go (.pick (.tmp (.r (.r (.r (.l (.r (.l .o))))))) (.con (.bool true)) (.tmp (.r (.r (.l (.r (.r (.l .o)))))))) (.l (.l (.r (.r (.r (.l .o)))))),
 .go (.move (.tmp (.l (.l (.r (.r (.r (.l .o)))))))) (.r (.l (.r (.r (.r (.l .o)))))),
 .gd (.r (.l (.r (.r (.r (.l .o)))))) false (.call (.con (.func (.func 6) ⟨[]⟩ ⟨[]⟩)) []) (.l (.r (.r (.r (.r (.l .o)))))),
 .gd (.r (.l (.r (.r (.r (.l .o)))))) false (.call (.con (.func (.func 5) ⟨[]⟩ ⟨[]⟩)) [(.con (.int .i64 (.ofNat 500))),(.tmp (.l (.r (.r (.r (.r (.l .o)))))))]) (.r (.r (.r (.r (.r (.l .o)))))),
 .gd (.r (.l (.r (.r (.r (.l .o)))))) false (.buildSlice 3 3 [(.int .i64 (.ofNat 0)),(.int .i64 (.ofNat 0)),(.int .i64 (.ofNat 0))] [(0,1,(.con (.int .i64 (.ofNat 2)))),(1,1,(.con (.int .i64 (.ofNat 1)))),(2,1,(.con (.int .i64 (.negSucc 0))))]) (.l (.l (.l (.l (.l (.r .o)))))),
 .gd (.r (.l (.r (.r (.r (.l .o)))))) false (.call (.con (.func (.func 11) ⟨[]⟩ ⟨[]⟩)) [(.tmp (.r (.r (.r (.r (.r (.l .o))))))),(.tmp (.l (.l (.l (.l (.l (.r .o))))))),(.con (.int .i64 (.ofNat 2)))]) (.r (.l (.l (.l (.l (.r .o)))))),
 .gd (.r (.l (.r (.r (.r (.l .o)))))) false (.un .not (.tmp (.r (.l (.l (.l (.l (.r .o)))))))) (.l (.r (.l (.l (.l (.r .o)))))),
 .go (.pick (.tmp (.r (.l (.r (.r (.r (.l .o))))))) (.con (.bool true)) (.tmp (.l (.r (.l (.l (.l (.r .o)))))))) (.r (.r (.l (.l (.l (.r .o)))))),
 .go (.move (.tmp (.r (.r (.l (.l (.l (.r .o)))))))) (.l (.l (.r (.l (.l (.r .o)))))),
 .gd (.l (.l (.r (.l (.l (.r .o)))))) false (.call (.con (.func (.func 6) ⟨[]⟩ ⟨[]⟩)) []) (.r (.l (.r (.l (.l (.r .o)))))),
 .gd (.l (.l (.r (.l (.l (.r .o)))))) false (.call (.con (.func (.func 5) ⟨[]⟩ ⟨[]⟩)) [(.con (.int .i64 (.ofNat 500))),(.tmp (.r (.l (.r (.l (.l (.r .o)))))))]) (.l (.r (.r (.l (.l (.r .o)))))),
 .gd (.l (.l (.r (.l (.l (.r .o)))))) false (.buildSlice 3 3 [(.int .i64 (.ofNat 0)),(.int .i64 (.ofNat 0)),(.int .i64 (.ofNat 0))] [(0,1,(.con (.int .i64 (.ofNat 2)))),(1,1,(.con (.int .i64 (.ofNat 1)))),(2,1,(.con (.int .i64 (.ofNat 2))))]) (.r (.r (.r (.l (.l (.r .o)))))),
 .gd (.l (.l (.r (.l (.l (.r .o)))))) false (.call (.con (.func (.func 11) ⟨[]⟩ ⟨[]⟩)) [(.tmp (.l (.r (.r (.l (.l (.r .o))))))),(.tmp (.r (.r (.r (.l (.l (.r .o))))))),(.con (.int .i64 (.ofNat 2)))]) (.l (.l (.l (.r (.l (.r .o)))))),
 .go (.pick (.tmp (.l (.l (.r (.l (.l (.r .o))))))) (.con (.bool true)) (.tmp (.l (.l (.l (.r (.l (.r .o)))))))) (.r (.l (.l (.r (.l (.r .o)))))),
 .go (.move (.tmp (.r (.l (.l (.r (.l (.r .o)))))))) (.l (.r (.l (.r (.l (.r .o)))))),
 .gd (.l (.r (.l (.r (.l (.r .o)))))) false (.call (.con (.func (.func 6) ⟨[]⟩ ⟨[]⟩)) []) (.r (.r (.l (.r (.l (.r .o)))))),
 .gd (.l (.r (.l (.r (.l (.r .o)))))) false (.call (.con (.func (.func 5) ⟨[]⟩ ⟨[]⟩)) [(.con (.int .i64 (.ofNat 500))),(.tmp (.r (.r (.l (.r (.l (.r .o)))))))]) (.l (.l (.r (.r (.l (.r .o)))))),
 .gd (.l (.r (.l (.r (.l (.r .o)))))) false (.buildSlice 3 3 [(.int .i64 (.ofNat 0)),(.int .i64 (.ofNat 0)),(.int .i64 (.ofNat 0))] [(0,1,(.con (.int .i64 (.ofNat 2)))),(1,1,(.con (.int .i64 (.ofNat 1)))),(2,1,(.con (.int .i64 (.negSucc 0))))]) (.r (.l (.r (.r (.l (.r .o)))))),
 .gd (.l (.r (.l (.r (.l (.r .o)))))) false (.call (.con (.func (.func 11) ⟨[]⟩ ⟨[]⟩)) [(.tmp (.l (.l (.r (.r (.l (.r .o))))))),(.tmp (.r (.l (.r (.r (.l (.r .o))))))),(.con (.int .i64 (.ofNat 3)))]) (.l (.r (.r (.r (.l (.r .o)))))),
 .go (.pick (.tmp (.l (.r (.l (.r (.l (.r .o))))))) (.con (.bool true)) (.tmp (.l (.r (.r (.r (.l (.r .o)))))))) (.r (.r (.r (.r (.l (.r .o)))))),
 .go (.move (.tmp (.r (.r (.r (.r (.l (.r .o)))))))) (.l (.l (.l (.l (.r (.r .o)))))),
 .gd (.l (.l (.l (.l (.r (.r .o)))))) false (.call (.con (.func (.func 6) ⟨[]⟩ ⟨[]⟩)) []) (.r (.l (.l (.l (.r (.r .o)))))),
 .gd (.l (.l (.l (.l (.r (.r .o)))))) false (.call (.con (.func (.func 5) ⟨[]⟩ ⟨[]⟩)) [(.con (.int .i64 (.ofNat 500))),(.tmp (.r (.l (.l (.l (.r (.r .o)))))))]) (.l (.r (.l (.l (.r (.r .o)))))),
 .gd (.l (.l (.l (.l (.r (.r .o)))))) false (.buildSlice 3 2 [(.int .i64 (.ofNat 0)),(.int .i64 (.ofNat 0))] [(0,1,(.con (.int .i64 (.ofNat 2)))),(1,1,(.con (.int .i64 (.ofNat 1))))]) (.r (.r (.l (.l (.r (.r .o)))))),
 .gd (.l (.l (.l (.l (.r (.r .o)))))) false (.call (.con (.func (.func 11) ⟨[]⟩ ⟨[]⟩)) [(.tmp (.l (.r (.l (.l (.r (.r .o))))))),(.tmp (.r (.r (.l (.l (.r (.r .o))))))),(.con (.int .i64 (.ofNat 2)))]) (.l (.l (.r (.l (.r (.r .o)))))),
 .go (.pick (.tmp (.l (.l (.l (.l (.r (.r .o))))))) (.con (.bool true)) (.tmp (.l (.l (.r (.l (.r (.r .o)))))))) (.r (.l (.r (.l (.r (.r .o)))))),
 .go (.move (.tmp (.r (.l (.r (.l (.r (.r .o)))))))) (.l (.r (.r (.l (.r (.r .o)))))),
 .gd (.l (.r (.r (.l (.r (.r .o)))))) false (.call (.con (.func (.func 6) ⟨[]⟩ ⟨[]⟩)) []) (.r (.r (.r (.l (.r (.r .o)))))),
 .gd (.l (.r (.r (.l (.r (.r .o)))))) false (.call (.con (.func (.func 5) ⟨[]⟩ ⟨[]⟩)) [(.con (.int .i64 (.ofNat 500))),(.tmp (.r (.r (.r (.l (.r (.r .o)))))))]) (.l (.l (.l (.r (.r (.r .o)))))),
 .gd (.l (.r (.r (.l (.r (.r .o)))))) false (.buildSlice 3 2 [(.int .i64 (.ofNat 0)),(.int .i64 (.ofNat 0))] [(0,1,(.con (.int .i64 (.ofNat 0)))),(1,1,(.con (.int .i64 (.ofNat 1))))]) (.r (.l (.l (.r (.r (.r .o)))))),
 .gd (.l (.r (.r (.l (.r (.r .o)))))) false (.buildSlice 3 1 [(.int .i64 (.ofNat 0))] [(0,1,(.con (.int .i64 (.ofNat 2))))]) (.l (.r (.l (.r (.r (.r .o)))))),
 .gd (.l (.r (.r (.l (.r (.r .o)))))) false (.call (.con (.func (.func 12) ⟨[]⟩ ⟨[]⟩)) [(.tmp (.l (.l (.l (.r (.r (.r .o))))))),(.tmp (.r (.l (.l (.r (.r (.r .o))))))),(.tmp (.l (.r (.l (.r (.r (.r .o))))))),(.con (.int .i64 (.ofNat 3)))]) (.r (.r (.l (.r (.r (.r .o)))))),
 .gd (.l (.r (.r (.l (.r (.r .o)))))) false (.un .not (.tmp (.r (.r (.l (.r (.r (.r .o)))))))) (.l (.l (.r (.r (.r (.r .o)))))),
 .go (.pick (.tmp (.l (.r (.r (.l (.r (.r .o))))))) (.con (.bool true)) (.tmp (.l (.l (.r (.r (.r (.r .o)))))))) (.r (.l (.r (.r (.r (.r .o)))))),
 .go (.move (.tmp (.r (.l (.r (.r (.r (.r .o)))))))) (.l (.r (.r (.r (.r (.r .o)))))),
 .gd (.l (.r (.r (.r (.r (.r .o)))))) false (.call (.con (.func (.func 6) ⟨[]⟩ ⟨[]⟩)) []) (.r (.r (.r (.r (.r (.r .o)))))),
 .gd (.l (.r (.r (.r (.r (.r .o)))))) false (.call (.con (.func (.func 5) ⟨[]⟩ ⟨[]⟩)) [(.con (.int .i64 (.ofNat 500))),(.tmp (.r (.r (.r (.r (.r (.r .o)))))))]) (.l (.l (.l (.l (.l (.l (.l .o))))))),
 .gd (.l (.r (.r (.r (.r (.r .o)))))) false (.buildSlice 3 2 [(.int .i64 (.ofNat 0)),(.int .i64 (.ofNat 0))] [(0,1,(.con (.int .i64 (.ofNat 0)))),(1,1,(.con (.int .i64 (.ofNat 1))))]) (.r (.l (.l (.l (.l (.l (.l .o))))))),
 .gd (.l (.r (.r (.r (.r (.r .o)))))) false (.call (.con (.func (.func 12) ⟨[]⟩ ⟨[]⟩)) [(.tmp (.l (.l (.l (.l (.l (.l (.l .o)))))))),(.tmp (.r (.l (.l (.l (.l (.l (.l .o)))))))),(.con (.slice none 0 0)),(.con (.int .i64 (.ofNat 3)))]) (.l (.r (.l (.l (.l (.l (.l .o))))))),
 .go (.pick (.tmp (.l (.r (.r (.r (.r (.r .o))))))) (.con (.bool true)) (.tmp (.l (.r (.l (.l (.l (.l (.l .o))))))))) (.r (.r (.l (.l (.l (.l (.l .o))))))),
 .go (.move (.tmp (.r (.r (.l (.l (.l (.l (.l .o))))))))) (.l (.l (.r (.l (.l (.l (.l .o))))))),
 .gd (.l (.l (.r (.l (.l (.l (.l .o))))))) false (.call (.con (.func (.func 6) ⟨[]⟩ ⟨[]⟩)) []) (.r (.l (.r (.l (.l (.l (.l .o))))))),
 .gd (.l (.l (.r (.l (.l (.l (.l .o))))))) false (.call (.con (.func (.func 5) ⟨[]⟩ ⟨[]⟩)) [(.con (.int .i64 (.ofNat 500))),(.tmp (.r (.l (.r (.l (.l (.l (.l .o))))))))]) (.l (.r (.r (.l (.l (.l (.l .o))))))),
 .gd (.l (.l (.r (.l (.l (.l (.l .o))))))) false (.buildSlice 3 2 [(.int .i64 (.ofNat 0)),(.int .i64 (.ofNat 0))] [(0,1,(.con (.int .i64 (.ofNat 0)))),(1,1,(.con (.int .i64 (.ofNat 1))))]) (.r (.r (.r (.l (.l (.l (.l .o))))))),
 .gd (.l (.l (.r (.l (.l (.l (.l .o))))))) false (.buildSlice 3 1 [(.int .i64 (.ofNat 0))] [(0,1,(.con (.int .i64 (.ofNat 2))))]) (.l (.l (.l (.r (.l (.l (.l .o))))))),
 .gd (.l (.l (.r (.l (.l (.l (.l .o))))))) false (.call (.con (.func (.func 12) ⟨[]⟩ ⟨[]⟩)) [(.tmp (.l (.r (.r (.l (.l (.l (.l .o)))))))),(.tmp (.r (.r (.r (.l (.l (.l (.l .o)))))))),(.tmp (.l (.l (.l (.r (.l (.l (.l .o)))))))),(.con (.int .i64 (.ofNat 2)))]) (.r (.l (.l (.r (.l (.l (.l .o))))))),
 .go (.pick (.tmp (.l (.l (.r (.l (.l (.l (.l .o)))))))) (.con (.bool true)) (.tmp (.r (.l (.l (.r (.l (.l (.l .o))))))))) (.l (.r (.l (.r (.l (.l (.l .o)))))))]) (.cond (.tmp (.l (.r (.l (.r (.l (.l (.l .o)))))))) (.seq (.run [.go (.move (.con (.bool false))) .o]) .ret) .skip)) (.seq (.run [.go (.call (.con (.func (.func 6) ⟨[]⟩ ⟨[]⟩)) []) (.l (.l (.r (.r (.l (.l (.l .o))))))),
 .go (.call (.con (.func (.func 5) ⟨[]⟩ ⟨[]⟩)) [(.con (.int .i64 (.ofNat 500))),(.tmp (.l (.l (.r (.r (.l (.l (.l .o))))))))]) (.r (.l (.r (.r (.l (.l (.l .o))))))),
 .go (.call (.con (.func (.func 13) ⟨[]⟩ ⟨[]⟩)) [(.tmp (.r (.l (.r (.r (.l (.l (.l .o)))))))),(.con (.int .i64 (.ofNat 0))),(.con (.int .i64 (.ofNat 1)))]) (.l (.r (.r (.r (.l (.l (.l .o))))))),
 .go (.move (.tmp (.l (.r (.r (.r (.l (.l (.l .o))))))))) (.r (.r (.l (.r (.l (.l (.l .o))))))),
 .go (.extract (.tmp (.r (.r (.l (.r (.l (.l (.l .o)))))))) 0) (.r (.r (.r (.r (.l (.l (.l .o))))))),
 .go (.extract (.tmp (.r (.r (.l (.r (.l (.l (.l .o)))))))) 1) (.l (.l (.l (.l (.r (.l (.l .o))))))),
 .go (.move (.tmp (.l (.l (.l (.l (.r (.l (.l .o))))))))) (.r .o)]) (.seq (.run [.go (.call (.con (.func (.func 6) ⟨[]⟩ ⟨[]⟩)) []) (.l (.r (.l (.l (.r (.l (.l .o))))))),
 .go (.call (.con (.func (.func 5) ⟨[]⟩ ⟨[]⟩)) [(.con (.int .i64 (.ofNat 500))),(.tmp (.l (.r (.l (.l (.r (.l (.l .o))))))))]) (.r (.r (.l (.l (.r (.l (.l .o))))))),
 .go (.call (.con (.func (.func 13) ⟨[]⟩ ⟨[]⟩)) [(.tmp (.r (.r (.l (.l (.r (.l (.l .o)))))))),(.con (.int .i64 (.ofNat 3))),(.con (.int .i64 (.ofNat 1)))]) (.l (.l (.r (.l (.r (.l (.l .o))))))),
 .go (.move (.tmp (.l (.l (.r (.l (.r (.l (.l .o))))))))) (.r (.l (.l (.l (.r (.l (.l .o))))))),
 .go (.extract (.tmp (.r (.l (.l (.l (.r (.l (.l .o)))))))) 0) (.r (.l (.r (.l (.r (.l (.l .o))))))),
 .go (.extract (.tmp (.r (.l (.l (.l (.r (.l (.l .o)))))))) 1) (.l (.r (.r (.l (.r (.l (.l .o))))))),
 .go (.move (.tmp (.l (.r (.r (.l (.r (.l (.l .o))))))))) (.r (.l .o))]) (.seq (.run [.go (.call (.con (.func (.func 5) ⟨[]⟩ ⟨[]⟩)) [(.con (.int .i64 (.ofNat 500))),(.con (.slice none 0 0))]) (.r (.r (.r (.l (.r (.l (.l .o))))))),
 .go (.call (.con (.func (.func 5) ⟨[]⟩ ⟨[]⟩)) [(.con (.int .i64 (.ofNat 500))),(.con (.slice none 0 0))]) (.l (.l (.l (.r (.r (.l (.l .o))))))),
 .go (.call (.con (.func (.func 5) ⟨[]⟩ ⟨[]⟩)) [(.con (.int .i64 (.ofNat 500))),(.con (.slice none 0 0))]) (.r (.l (.l (.r (.r (.l (.l .o))))))),
 .go (.call (.con (.func (.func 5) ⟨[]⟩ ⟨[]⟩)) [(.con (.int .i64 (.ofNat 500))),(.con (.slice none 0 0))]) (.l (.r (.l (.r (.r (.l (.l .o))))))),
 .go (.call (.con (.func (.func 5) ⟨[]⟩ ⟨[]⟩)) [(.con (.int .i64 (.ofNat 500))),(.con (.slice none 0 0))]) (.r (.r (.l (.r (.r (.l (.l .o))))))),
 .go (.call (.con (.func (.func 5) ⟨[]⟩ ⟨[]⟩)) [(.con (.int .i64 (.ofNat 500))),(.con (.slice none 0 0))]) (.l (.l (.r (.r (.r (.l (.l .o))))))),
 .go (.alloc 28 [(.slice none 0 0),(.slice none 0 0),(.slice none 0 0)]) (.l (.l (.r .o))),
 .go (.alloc 28 [(.slice none 0 0),(.slice none 0 0),(.slice none 0 0)]) (.r (.l (.r .o))),
 .go (.alloc 28 [(.slice none 0 0),(.slice none 0 0),(.slice none 0 0)]) (.l (.r (.r .o))),
 .go (.alloc 28 [(.slice none 0 0),(.slice none 0 0),(.slice none 0 0)]) (.r (.r (.r .o))),
 .go (.alloc 28 [(.slice none 0 0),(.slice none 0 0),(.slice none 0 0)]) (.l (.l (.l (.l .o)))),
 .go (.alloc 28 [(.slice none 0 0),(.slice none 0 0),(.slice none 0 0)]) (.r (.l (.l (.l .o)))),
 .un (.store 3 (.tmp (.l (.l (.r .o)))) (.tmp (.r (.r (.r (.l (.r (.l (.l .o))))))))),
 .un (.store 3 (.tmp (.r (.l (.r .o)))) (.tmp (.l (.l (.l (.r (.r (.l (.l .o))))))))),
 .un (.store 3 (.tmp (.l (.r (.r .o)))) (.tmp (.r (.l (.l (.r (.r (.l (.l .o))))))))),
 .un (.store 3 (.tmp (.r (.r (.r .o)))) (.tmp (.l (.r (.l (.r (.r (.l (.l .o))))))))),
 .un (.store 3 (.tmp (.l (.l (.l (.l .o))))) (.tmp (.r (.r (.l (.r (.r (.l (.l .o))))))))),
 .un (.store 3 (.tmp (.r (.l (.l (.l .o))))) (.tmp (.l (.l (.r (.r (.r (.l (.l .o)))))))))]) (.seq (.run [.go (.makeSlice 48 7 104 [(.int .i64 (.ofNat 0)),(.int .i64 (.ofNat 0)),(.slice none 0 0),(.slice none 0 0),(.int .i64 (.ofNat 0)),(.slice none 0 0),(.int .i64 (.ofNat 0))] (.con (.int .i64 (.ofNat 9))) (.con (.int .i64 (.ofNat 9)))) (.r (.l (.r (.r (.r (.l (.l .o))))))),
 .go (.fieldAddr 1 (.tmp (.l (.l (.r .o))))) (.l (.r (.r (.r (.r (.l (.l .o))))))),
 .un (.store 1 (.tmp (.l (.r (.r (.r (.r (.l (.l .o)))))))) (.tmp (.r (.l (.r (.r (.r (.l (.l .o)))))))))]) (.seq (.run [.go (.makeSlice 57 2 16 [(.int .i64 (.ofNat 0)),(.int .i64 (.ofNat 0))] (.con (.int .i64 (.ofNat 17))) (.con (.int .i64 (.ofNat 17)))) (.r (.r (.r (.r (.r (.l (.l .o))))))),
 .go (.fieldAddr 2 (.tmp (.r (.l (.r .o))))) (.l (.l (.l (.l (.l (.r (.l .o))))))),
 .un (.store 1 (.tmp (.l (.l (.l (.l (.l (.r (.l .o)))))))) (.tmp (.r (.r (.r (.r (.r (.l (.l .o)))))))))]) (.seq (.draw 6 [.go (.fieldAddr 0 (.tmp (.l (.r (.r .o))))) (.r (.l (.l (.l (.l (.r (.l .o))))))),
 .go (.load1 (.tmp (.r (.l (.l (.l (.l (.r (.l .o))))))))) (.l (.r (.l (.l (.l (.r (.l .o))))))),
 .go (.makeSlice 3 1 8 [(.int .i64 (.ofNat 0))] (.con (.int .i64 (.ofNat 5))) (.con (.int .i64 (.ofNat 5)))) (.r (.r (.l (.l (.l (.r (.l .o))))))),
 .go (.indexAddr none 7 (.tmp (.l (.r (.l (.l (.l (.r (.l .o)))))))) (.con (.int .i64 (.ofNat 0)))) (.l (.l (.r (.l (.l (.r (.l .o))))))),
 .go (.fieldAddr 5 (.tmp (.l (.l (.r (.l (.l (.r (.l .o))))))))) (.r (.l (.r (.l (.l (.r (.l .o))))))),
 .un (.store 1 (.tmp (.r (.l (.r (.l (.l (.r (.l .o)))))))) (.tmp (.r (.r (.l (.l (.l (.r (.l .o)))))))))] [.ok,.rd none (.load1 (.tmp (.r (.l (.l (.l (.l (.r (.l .o))))))))) (some (.l (.r (.l (.l (.l (.r (.l .o)))))))) [3],.ok,.ok,.ok,.ok]) (.seq (.draw 7 [.go (.fieldAddr 1 (.tmp (.r (.r (.r .o))))) (.l (.r (.r (.l (.l (.r (.l .o))))))),
 .go (.load1 (.tmp (.l (.r (.r (.l (.l (.r (.l .o))))))))) (.r (.r (.r (.l (.l (.r (.l .o))))))),
 .go (.makeSlice 91 4 32 [(.int .i64 (.ofNat 0)),(.int .i64 (.ofNat 0)),(.int .i64 (.ofNat 0)),(.int .i64 (.ofNat 0))] (.con (.int .i64 (.ofNat 5))) (.con (.int .i64 (.ofNat 5)))) (.l (.l (.l (.r (.l (.r (.l .o))))))),
 .go (.indexAddr none 7 (.tmp (.r (.r (.r (.l (.l (.r (.l .o)))))))) (.con (.int .i64 (.ofNat 1)))) (.r (.l (.l (.r (.l (.r (.l .o))))))),
 .go (.fieldAddr 0 (.tmp (.r (.l (.l (.r (.l (.r (.l .o))))))))) (.l (.r (.l (.r (.l (.r (.l .o))))))),
 .go (.fieldAddr 2 (.tmp (.l (.r (.l (.r (.l (.r (.l .o))))))))) (.r (.r (.l (.r (.l (.r (.l .o))))))),
 .un (.store 1 (.tmp (.r (.r (.l (.r (.l (.r (.l .o)))))))) (.tmp (.l (.l (.l (.r (.l (.r (.l .o)))))))))] [.ok,.rd none (.load1 (.tmp (.l (.r (.r (.l (.l (.r (.l .o))))))))) (some (.r (.r (.r (.l (.l (.r (.l .o)))))))) [3],.ok,.ok,.ok,.ok,.ok]) (.seq (.run [.go (.fieldAddr 0 (.tmp (.l (.l (.l (.l .o)))))) (.l (.l (.r (.r (.l (.r (.l .o))))))),
 .go (.load1 (.tmp (.l (.l (.r (.r (.l (.r (.l .o))))))))) (.r (.l (.r (.r (.l (.r (.l .o))))))),
 .go (.indexAddr none 7 (.tmp (.r (.l (.r (.r (.l (.r (.l .o)))))))) (.con (.int .i64 (.ofNat 0)))) (.l (.r (.r (.r (.l (.r (.l .o))))))),
 .go (.fieldAddr 4 (.tmp (.l (.r (.r (.r (.l (.r (.l .o))))))))) (.r (.r (.r (.r (.l (.r (.l .o))))))),
 .un (.store 1 (.tmp (.r (.r (.r (.r (.l (.r (.l .o)))))))) (.con (.int .i64 (.ofNat 3))))]) (.seq (.run [.go (.fieldAddr 1 (.tmp (.r (.l (.l (.l .o)))))) (.l (.l (.l (.l (.r (.r (.l .o))))))),
 .go (.load1 (.tmp (.l (.l (.l (.l (.r (.r (.l .o))))))))) (.r (.l (.l (.l (.r (.r (.l .o))))))),
 .go (.buildSlice 3 2 [(.int .i64 (.ofNat 0)),(.int .i64 (.ofNat 0))] [(0,1,(.con (.int .i64 (.ofNat 5)))),(1,1,(.con (.int .i64 (.ofNat 5))))]) (.l (.r (.l (.l (.r (.r (.l .o))))))),
 .go (.indexAddr none 7 (.tmp (.r (.l (.l (.l (.r (.r (.l .o)))))))) (.con (.int .i64 (.ofNat 0)))) (.r (.r (.l (.l (.r (.r (.l .o))))))),
 .go (.fieldAddr 5 (.tmp (.r (.r (.l (.l (.r (.r (.l .o))))))))) (.l (.l (.r (.l (.r (.r (.l .o))))))),
 .un (.store 1 (.tmp (.l (.l (.r (.l (.r (.r (.l .o)))))))) (.tmp (.l (.r (.l (.l (.r (.r (.l .o)))))))))]) (.seq (.run [.go (.build [(.slice none 0 0),(.slice none 0 0),(.slice none 0 0)] []) (.l (.r (.r (.l (.r (.r (.l .o))))))),
 .go (.call (.con (.func (.func 14) ⟨[]⟩ ⟨[]⟩)) [(.tmp (.l (.r (.r (.l (.r (.r (.l .o))))))))]) (.r (.r (.r (.l (.r (.r (.l .o))))))),
 .go (.move (.tmp (.r (.r (.r (.l (.r (.r (.l .o))))))))) (.r (.l (.r (.l (.r (.r (.l .o))))))),
 .go (.extract (.tmp (.r (.l (.r (.l (.r (.r (.l .o)))))))) 0) (.l (.l (.l (.r (.r (.r (.l .o))))))),
 .go (.extract (.tmp (.r (.l (.r (.l (.r (.r (.l .o)))))))) 1) (.r (.l (.l (.r (.r (.r (.l .o))))))),
 .go (.move (.tmp (.l (.l (.l (.r (.r (.r (.l .o))))))))) (.l (.r (.l (.l .o)))),
 .go (.move (.tmp (.r (.l (.l (.r (.r (.r (.l .o))))))))) (.r (.r .o))]) (.seq (.run [.go (.move (.tmp (.r .o))) (.l (.r (.l (.r (.r (.r (.l .o))))))),
 .go (.bin .eql 22 (.tmp (.l (.r (.l (.r (.r (.r (.l .o)))))))) (.con (.int .i64 (.ofNat 7)))) (.r (.r (.l (.r (.r (.r (.l .o))))))),
 .go (.move (.tmp (.r (.r (.l (.r (.r (.r (.l .o))))))))) (.l (.l (.r (.r (.r (.r (.l .o))))))),
 .gd (.l (.l (.r (.r (.r (.r (.l .o))))))) true (.move (.tmp (.r (.l .o)))) (.r (.l (.r (.r (.r (.r (.l .o))))))),
 .gd (.l (.l (.r (.r (.r (.r (.l .o))))))) true (.bin .eql 22 (.tmp (.r (.l (.r (.r (.r (.r (.l .o)))))))) (.con (.int .i64 (.ofNat 2)))) (.l (.r (.r (.r (.r (.r (.l .o))))))),
 .go (.pick (.tmp (.l (.l (.r (.r (.r (.r (.l .o)))))))) (.tmp (.l (.r (.r (.r (.r (.r (.l .o)))))))) (.con (.bool false))) (.r (.r (.r (.r (.r (.r (.l .o))))))),
 .go (.move (.tmp (.r (.r (.r (.r (.r (.r (.l .o))))))))) (.l (.l (.l (.l (.l (.l (.r .o))))))),
 .gd (.l (.l (.l (.l (.l (.l (.r .o))))))) true (.loadN 3 (.tmp (.l (.l (.r .o))))) (.r (.l (.l (.l (.l (.l (.r .o))))))),
 .gd (.l (.l (.l (.l (.l (.l (.r .o))))))) true (.call (.con (.func (.func 15) ⟨[]⟩ ⟨[]⟩)) [(.tmp (.r (.l (.l (.l (.l (.l (.r .o))))))))]) (.l (.r (.l (.l (.l (.l (.r .o))))))),
 .gd (.l (.l (.l (.l (.l (.l (.r .o))))))) true (.bin .eql 22 (.tmp (.l (.r (.l (.l (.l (.l (.r .o)))))))) (.con (.int .i64 (.ofNat 3)))) (.r (.r (.l (.l (.l (.l (.r .o))))))),
 .go (.pick (.tmp (.l (.l (.l (.l (.l (.l (.r .o)))))))) (.tmp (.r (.r (.l (.l (.l (.l (.r .o)))))))) (.con (.bool false))) (.l (.l (.r (.l (.l (.l (.r .o))))))),
 .go (.move (.tmp (.l (.l (.r (.l (.l (.l (.r .o))))))))) (.r (.l (.r (.l (.l (.l (.r .o))))))),
 .gd (.r (.l (.r (.l (.l (.l (.r .o))))))) true (.loadN 3 (.tmp (.r (.l (.r .o))))) (.l (.r (.r (.l (.l (.l (.r .o))))))),
 .gd (.r (.l (.r (.l (.l (.l (.r .o))))))) true (.call (.con (.func (.func 15) ⟨[]⟩ ⟨[]⟩)) [(.tmp (.l (.r (.r (.l (.l (.l (.r .o))))))))]) (.r (.r (.r (.l (.l (.l (.r .o))))))),
 .gd (.r (.l (.r (.l (.l (.l (.r .o))))))) true (.bin .eql 22 (.tmp (.r (.r (.r (.l (.l (.l (.r .o)))))))) (.con (.int .i64 (.ofNat 3)))) (.l (.l (.l (.r (.l (.l (.r .o))))))),
 .go (.pick (.tmp (.r (.l (.r (.l (.l (.l (.r .o)))))))) (.tmp (.l (.l (.l (.r (.l (.l (.r .o)))))))) (.con (.bool false))) (.r (.l (.l (.r (.l (.l (.r .o))))))),
 .go (.move (.tmp (.r (.l (.l (.r (.l (.l (.r .o))))))))) (.l (.r (.l (.r (.l (.l (.r .o))))))),
 .gd (.l (.r (.l (.r (.l (.l (.r .o))))))) true (.loadN 3 (.tmp (.l (.r (.r .o))))) (.r (.r (.l (.r (.l (.l (.r .o))))))),
 .gd (.l (.r (.l (.r (.l (.l (.r .o))))))) true (.call (.con (.func (.func 15) ⟨[]⟩ ⟨[]⟩)) [(.tmp (.r (.r (.l (.r (.l (.l (.r .o))))))))]) (.l (.l (.r (.r (.l (.l (.r .o))))))),
 .gd (.l (.r (.l (.r (.l (.l (.r .o))))))) true (.bin .eql 22 (.tmp (.l (.l (.r (.r (.l (.l (.r .o)))))))) (.con (.int .i64 (.ofNat 3)))) (.r (.l (.r (.r (.l (.l (.r .o))))))),
 .go (.pick (.tmp (.l (.r (.l (.r (.l (.l (.r .o)))))))) (.tmp (.r (.l (.r (.r (.l (.l (.r .o)))))))) (.con (.bool false))) (.l (.r (.r (.r (.l (.l (.r .o))))))),
 .go (.move (.tmp (.l (.r (.r (.r (.l (.l (.r .o))))))))) (.r (.r (.r (.r (.l (.l (.r .o))))))),
 .gd (.r (.r (.r (.r (.l (.l (.r .o))))))) true (.loadN 3 (.tmp (.r (.r (.r .o))))) (.l (.l (.l (.l (.r (.l (.r .o))))))),
 .gd (.r (.r (.r (.r (.l (.l (.r .o))))))) true (.call (.con (.func (.func 15) ⟨[]⟩ ⟨[]⟩)) [(.tmp (.l (.l (.l (.l (.r (.l (.r .o))))))))]) (.r (.l (.l (.l (.r (.l (.r .o))))))),
 .gd (.r (.r (.r (.r (.l (.l (.r .o))))))) true (.bin .eql 22 (.tmp (.r (.l (.l (.l (.r (.l (.r .o)))))))) (.con (.int .i64 (.ofNat 3)))) (.l (.r (.l (.l (.r (.l (.r .o))))))),
 .go (.pick (.tmp (.r (.r (.r (.r (.l (.l (.r .o)))))))) (.tmp (.l (.r (.l (.l (.r (.l (.r .o)))))))) (.con (.bool false))) (.r (.r (.l (.l (.r (.l (.r .o))))))),
 .go (.move (.tmp (.r (.r (.l (.l (.r (.l (.r .o))))))))) (.l (.l (.r (.l (.r (.l (.r .o))))))),
 .gd (.l (.l (.r (.l (.r (.l (.r .o))))))) true (.loadN 3 (.tmp (.l (.l (.l (.l .o)))))) (.r (.l (.r (.l (.r (.l (.r .o))))))),
 .gd (.l (.l (.r (.l (.r (.l (.r .o))))))) true (.call (.con (.func (.func 15) ⟨[]⟩ ⟨[]⟩)) [(.tmp (.r (.l (.r (.l (.r (.l (.r .o))))))))]) (.l (.r (.r (.l (.r (.l (.r .o))))))),
 .gd (.l (.l (.r (.l (.r (.l (.r .o))))))) true (.bin .eql 22 (.tmp (.l (.r (.r (.l (.r (.l (.r .o)))))))) (.con (.int .i64 (.ofNat 1)))) (.r (.r (.r (.l (.r (.l (.r .o))))))),
 .go (.pick (.tmp (.l (.l (.r (.l (.r (.l (.r .o)))))))) (.tmp (.r (.r (.r (.l (.r (.l (.r .o)))))))) (.con (.bool false))) (.l (.l (.l (.r (.r (.l (.r .o))))))),
 .go (.move (.tmp (.l (.l (.l (.r (.r (.l (.r .o))))))))) (.r (.l (.l (.r (.r (.l (.r .o))))))),
 .gd (.r (.l (.l (.r (.r (.l (.r .o))))))) true (.loadN 3 (.tmp (.r (.l (.l (.l .o)))))) (.l (.r (.l (.r (.r (.l (.r .o))))))),
 .gd (.r (.l (.l (.r (.r (.l (.r .o))))))) true (.call (.con (.func (.func 15) ⟨[]⟩ ⟨[]⟩)) [(.tmp (.l (.r (.l (.r (.r (.l (.r .o))))))))]) (.r (.r (.l (.r (.r (.l (.r .o))))))),
 .gd (.r (.l (.l (.r (.r (.l (.r .o))))))) true (.bin .eql 22 (.tmp (.r (.r (.l (.r (.r (.l (.r .o)))))))) (.con (.int .i64 (.ofNat 1)))) (.l (.l (.r (.r (.r (.l (.r .o))))))),
 .go (.pick (.tmp (.r (.l (.l (.r (.r (.l (.r .o)))))))) (.tmp (.l (.l (.r (.r (.r (.l (.r .o)))))))) (.con (.bool false))) (.r (.l (.r (.r (.r (.l (.r .o))))))),
 .go (.move (.tmp (.r (.l (.r (.r (.r (.l (.r .o))))))))) (.l (.r (.r (.r (.r (.l (.r .o))))))),
 .gd (.l (.r (.r (.r (.r (.l (.r .o))))))) true (.move (.tmp (.l (.r (.l (.l .o)))))) (.r (.r (.r (.r (.r (.l (.r .o))))))),
 .gd (.l (.r (.r (.r (.r (.l (.r .o))))))) true (.len 0 (.tmp (.r (.r (.r (.r (.r (.l (.r .o))))))))) (.l (.l (.l (.l (.l (.r (.r .o))))))),
 .gd (.l (.r (.r (.r (.r (.l (.r .o))))))) true (.bin .eql 3 (.tmp (.l (.l (.l (.l (.l (.r (.r .o)))))))) (.con (.int .i64 (.ofNat 0)))) (.r (.l (.l (.l (.l (.r (.r .o))))))),
 .go (.pick (.tmp (.l (.r (.r (.r (.r (.l (.r .o)))))))) (.tmp (.r (.l (.l (.l (.l (.r (.r .o)))))))) (.con (.bool false))) (.l (.r (.l (.l (.l (.r (.r .o))))))),
 .go (.move (.tmp (.l (.r (.l (.l (.l (.r (.r .o))))))))) (.r (.r (.l (.l (.l (.r (.r .o))))))),
 .gd (.r (.r (.l (.l (.l (.r (.r .o))))))) true (.move (.tmp (.r (.r .o)))) (.l (.l (.r (.l (.l (.r (.r .o))))))),
 .gd (.r (.r (.l (.l (.l (.r (.r .o))))))) true (.bin .eql 22 (.tmp (.l (.l (.r (.l (.l (.r (.r .o)))))))) (.con (.int .i64 (.ofNat 0)))) (.r (.l (.r (.l (.l (.r (.r .o))))))),
 .go (.pick (.tmp (.r (.r (.l (.l (.l (.r (.r .o)))))))) (.tmp (.r (.l (.r (.l (.l (.r (.r .o)))))))) (.con (.bool false))) (.l (.r (.r (.l (.l (.r (.r .o))))))),
 .go (.move (.tmp (.l (.r (.r (.l (.l (.r (.r .o))))))))) (.r (.r (.r (.l (.l (.r (.r .o))))))),
 .gd (.r (.r (.r (.l (.l (.r (.r .o))))))) true (.call (.con (.func (.func 16) ⟨[]⟩ ⟨[]⟩)) []) (.l (.l (.l (.r (.l (.r (.r .o))))))),
 .go (.pick (.tmp (.r (.r (.r (.l (.l (.r (.r .o)))))))) (.tmp (.l (.l (.l (.r (.l (.r (.r .o)))))))) (.con (.bool false))) (.r (.l (.l (.r (.l (.r (.r .o))))))),
 .go (.move (.tmp (.r (.l (.l (.r (.l (.r (.r .o))))))))) .o]) .ret))))))))))))))))))
noncomputable def f3 : FFunc := .mk c3 (.n U (.n U (.n U (.n U (.n U (.n U (.n U (.n U .e .e) (.n U .e .e)) (.n U (.n U .e .e) (.n U .e .e))) (.n U (.n U (.n U .e .e) (.n U .e .e)) (.n U (.n U .e .e) .e))) (.n U (.n U (.n U (.n U .e .e) (.n U .e .e)) (.n U (.n U .e .e) (.n U .e .e))) (.n U (.n U (.n U .e .e) (.n U .e .e)) (.n U (.n U .e .e) .e)))) (.n U (.n U (.n U (.n U (.n U .e .e) (.n U .e .e)) (.n U (.n U .e .e) (.n U .e .e))) (.n U (.n U (.n U .e .e) (.n U .e .e)) (.n U (.n U .e .e) .e))) (.n U (.n U (.n U (.n U .e .e) (.n U .e .e)) (.n U (.n U .e .e) .e)) (.n U (.n U (.n U .e .e) (.n U .e .e)) (.n U (.n U .e .e) .e))))) (.n U (.n U (.n U (.n U (.n U (.n U .e .e) (.n U .e .e)) (.n U (.n U .e .e) (.n U .e .e))) (.n U (.n U (.n U .e .e) (.n U .e .e)) (.n U (.n U .e .e) .e))) (.n U (.n U (.n U (.n U .e .e) (.n U .e .e)) (.n U (.n U .e .e) .e)) (.n U (.n U (.n U .e .e) (.n U .e .e)) (.n U (.n U .e .e) .e)))) (.n U (.n U (.n U (.n U (.n U .e .e) (.n U .e .e)) (.n U (.n U .e .e) (.n U .e .e))) (.n U (.n U (.n U .e .e) (.n U .e .e)) (.n U (.n U .e .e) .e))) (.n U (.n U (.n U (.n U .e .e) (.n U .e .e)) (.n U (.n U .e .e) .e)) (.n U (.n U (.n U .e .e) (.n U .e .e)) (.n U (.n U .e .e) .e)))))) (.n U (.n U (.n U (.n U (.n U (.n U (.n U .e .e) (.n U .e .e)) (.n U (.n U .e .e) (.n U .e .e))) (.n U (.n U (.n U .e .e) (.n U .e .e)) (.n U (.n U .e .e) .e))) (.n U (.n U (.n U (.n U .e .e) (.n U .e .e)) (.n U (.n U .e .e) (.n U .e .e))) (.n U (.n U (.n U .e .e) (.n U .e .e)) (.n U (.n U .e .e) .e)))) (.n U (.n U (.n U (.n U (.n U .e .e) (.n U .e .e)) (.n U (.n U .e .e) (.n U .e .e))) (.n U (.n U (.n U .e .e) (.n U .e .e)) (.n U (.n U .e .e) .e))) (.n U (.n U (.n U (.n U .e .e) (.n U .e .e)) (.n U (.n U .e .e) .e)) (.n U (.n U (.n U .e .e) (.n U .e .e)) (.n U (.n U .e .e) .e))))) (.n U (.n U (.n U (.n U (.n U (.n U .e .e) (.n U .e .e)) (.n U (.n U .e .e) (.n U .e .e))) (.n U (.n U (.n U .e .e) (.n U .e .e)) (.n U (.n U .e .e) .e))) (.n U (.n U (.n U (.n U .e .e) (.n U .e .e)) (.n U (.n U .e .e) .e)) (.n U (.n U (.n U .e .e) (.n U .e .e)) (.n U (.n U .e .e) .e)))) (.n U (.n U (.n U (.n U (.n U .e .e) (.n U .e .e)) (.n U (.n U .e .e) (.n U .e .e))) (.n U (.n U (.n U .e .e) (.n U .e .e)) (.n U (.n U .e .e) .e))) (.n U (.n U (.n U (.n U .e .e) (.n U .e .e)) (.n U (.n U .e .e) .e)) (.n U (.n U (.n U .e .e) (.n U .e .e)) (.n U (.n U .e .e) .e))))))) [] [.tmp .o]
theorem e3 : @compF Tryz.prog (Gl.none Tryz.prog) Tryz.f3 0 = f3 := by kernel_rfl
theorem o3 : okF Tryz.prog Tryz.f3 = true := by kernel_rfl
theorem g3 : Tryz.prog.funcs[(3 : Nat)]? = some Tryz.f3 := by kernel_rfl
noncomputable def c4 : FCode := (.seq (.run [.go (.box 28 (.tmp .o)) (.l .o),
 .go (.move (.con (.int .i64 (.ofNat 0)))) (.r .o),
 .go (.move (.con (.int .i64 (.ofNat 0)))) (.l (.l .o))]) (.seq (.run [.go (.loadN 3 (.tmp (.l .o))) (.l (.l (.l .o))),
 .go (.call (.con (.func (.func 17) ⟨[]⟩ ⟨[]⟩)) [(.tmp (.l (.l (.l .o))))]) (.r (.l (.l .o))),
 .go (.move (.tmp (.r (.l (.l .o))))) (.r (.r .o)),
 .go (.extract (.tmp (.r (.r .o))) 0) (.l (.r (.l .o))),
 .go (.extract (.tmp (.r (.r .o))) 1) (.r (.r (.l .o))),
 .go (.move (.tmp (.l (.r (.l .o))))) (.r (.l .o)),
 .go (.move (.tmp (.r (.r (.l .o))))) (.l (.r .o))]) (.seq (.seq (.run [.go (.move (.tmp (.l (.r .o)))) (.l (.l (.r .o))),
 .go (.bin .neq 22 (.tmp (.l (.l (.r .o)))) (.con (.int .i64 (.ofNat 0)))) (.r (.l (.r .o)))]) (.cond (.tmp (.r (.l (.r .o)))) (.seq (.run [.go (.move (.tmp (.l (.r .o)))) (.l (.r (.r .o))),
 .go (.move (.con (.int .i64 (.ofNat 0)))) (.r .o),
 .go (.move (.tmp (.l (.r (.r .o))))) (.l (.l .o))]) .ret) .skip)) (.seq (.run [.go (.move (.tmp (.r (.l .o)))) (.r (.r (.r .o))),
 .go (.call (.con (.func (.func 18) ⟨[]⟩ ⟨[]⟩)) [(.tmp (.r (.r (.r .o))))]) (.l (.l (.l (.l .o)))),
 .go (.move (.tmp (.l (.l (.l (.l .o)))))) (.r .o),
 .go (.move (.con (.int .i64 (.ofNat 0)))) (.l (.l .o))]) .ret))))
noncomputable def f4 : FFunc := .mk c4 (.n U (.n U (.n U (.n U (.n U .e .e) .e) (.n U .e .e)) (.n U (.n U .e .e) (.n U .e .e))) (.n U (.n U (.n U .e .e) (.n U .e .e)) (.n U (.n U .e .e) (.n U .e .e)))) [.o] [.tmp (.r .o),.tmp (.l (.l .o))]
theorem e4 : @compF Tryz.prog (Gl.none Tryz.prog) Tryz.f4 1 = f4 := by kernel_rfl
theorem o4 : okF Tryz.prog Tryz.f4 = true := by kernel_rfl
theorem g4 : Tryz.prog.funcs[(4 : Nat)]? = some Tryz.f4 := by kernel_rfl
noncomputable def c5 : FCode := (.seq (.run [.go (.alloc 28 [(.slice none 0 0),(.slice none 0 0),(.slice none 0 0)]) (.r (.l .o))]) (.seq (.run [.go (.buildSlice 3 1 [(.int .i64 (.ofNat 0))] [(0,1,(.con (.int .i64 (.ofNat 5))))]) (.l (.r .o)),
 .go (.call (.con (.func (.func 19) ⟨[]⟩ ⟨[]⟩)) [(.con (.int .i64 (.ofNat 0))),(.con (.int .i64 (.ofNat 1))),(.con (.int .i64 (.ofNat 0))),(.con (.int .i64 (.ofNat 1000))),(.tmp (.l (.r .o)))]) (.r (.r .o)),
 .go (.buildSlice 3 2 [(.int .i64 (.ofNat 0)),(.int .i64 (.ofNat 0))] [(0,1,(.con (.int .i64 (.ofNat 7)))),(1,1,(.con (.int .i64 (.ofNat 9))))]) (.l (.l (.l .o))),
 .go (.call (.con (.func (.func 19) ⟨[]⟩ ⟨[]⟩)) [(.con (.int .i64 (.ofNat 1))),(.con (.int .i64 (.ofNat 1))),(.con (.int .i64 (.ofNat 0))),(.con (.int .i64 (.ofNat 1000))),(.tmp (.l (.l (.l .o))))]) (.r (.l (.l .o))),
 .go (.move (.tmp .o)) (.l (.r (.l .o))),
 .go (.buildSlice 3 1 [(.int .i64 (.ofNat 0))] [(0,1,(.con (.int .i64 (.ofNat 5))))]) (.r (.r (.l .o))),
 .go (.call (.con (.func (.func 19) ⟨[]⟩ ⟨[]⟩)) [(.con (.int .i64 (.ofNat 0))),(.con (.int .i64 (.ofNat 2))),(.tmp (.l (.r (.l .o)))),(.con (.int .i64 (.ofNat 2000))),(.tmp (.r (.r (.l .o))))]) (.l (.l (.r .o))),
 .go (.buildSlice 48 3 [(.int .i64 (.ofNat 0)),(.int .i64 (.ofNat 0)),(.slice none 0 0),(.slice none 0 0),(.int .i64 (.ofNat 0)),(.slice none 0 0),(.int .i64 (.ofNat 0)),(.int .i64 (.ofNat 0)),(.int .i64 (.ofNat 0)),(.slice none 0 0),(.slice none 0 0),(.int .i64 (.ofNat 0)),(.slice none 0 0),(.int .i64 (.ofNat 0)),(.int .i64 (.ofNat 0)),(.int .i64 (.ofNat 0)),(.slice none 0 0),(.slice none 0 0),(.int .i64 (.ofNat 0)),(.slice none 0 0),(.int .i64 (.ofNat 0))] [(0,7,(.tmp (.r (.r .o)))),(7,7,(.tmp (.r (.l (.l .o))))),(14,7,(.tmp (.l (.l (.r .o)))))]) (.r (.l (.r .o))),
 .go (.buildSlice 3 1 [(.int .i64 (.ofNat 0))] [(0,1,(.con (.int .i64 (.ofNat 5))))]) (.l (.r (.r .o))),
 .go (.call (.con (.func (.func 19) ⟨[]⟩ ⟨[]⟩)) [(.con (.int .i64 (.ofNat 0))),(.con (.int .i64 (.ofNat 1))),(.con (.int .i64 (.ofNat 400))),(.con (.int .i64 (.ofNat 900))),(.tmp (.l (.r (.r .o))))]) (.r (.r (.r .o))),
 .go (.buildSlice 3 1 [(.int .i64 (.ofNat 0))] [(0,1,(.con (.int .i64 (.ofNat 7))))]) (.l (.l (.l (.l .o)))),
 .go (.call (.con (.func (.func 19) ⟨[]⟩ ⟨[]⟩)) [(.con (.int .i64 (.ofNat 2))),(.con (.int .i64 (.ofNat 3))),(.con (.int .i64 (.ofNat 1000))),(.con (.int .i64 (.ofNat 1500))),(.tmp (.l (.l (.l (.l .o)))))]) (.r (.l (.l (.l .o)))),
 .go (.buildSlice 3 2 [(.int .i64 (.ofNat 0)),(.int .i64 (.ofNat 0))] [(0,1,(.con (.int .i64 (.ofNat 5)))),(1,1,(.con (.int .i64 (.ofNat 6))))]) (.l (.r (.l (.l .o)))),
 .go (.call (.con (.func (.func 19) ⟨[]⟩ ⟨[]⟩)) [(.con (.int .i64 (.ofNat 0))),(.con (.int .i64 (.ofNat 2))),(.con (.int .i64 (.ofNat 100))),(.con (.int .i64 (.ofNat 600))),(.tmp (.l (.r (.l (.l .o)))))]) (.r (.r (.l (.l .o)))),
 .go (.buildSlice 48 3 [(.int .i64 (.ofNat 0)),(.int .i64 (.ofNat 0)),(.slice none 0 0),(.slice none 0 0),(.int .i64 (.ofNat 0)),(.slice none 0 0),(.int .i64 (.ofNat 0)),(.int .i64 (.ofNat 0)),(.int .i64 (.ofNat 0)),(.slice none 0 0),(.slice none 0 0),(.int .i64 (.ofNat 0)),(.slice none 0 0),(.int .i64 (.ofNat 0)),(.int .i64 (.ofNat 0)),(.int .i64 (.ofNat 0)),(.slice none 0 0),(.slice none 0 0),(.int .i64 (.ofNat 0)),(.slice none 0 0),(.int .i64 (.ofNat 0))] [(0,7,(.tmp (.r (.r (.r .o))))),(7,7,(.tmp (.r (.l (.l (.l .o)))))),(14,7,(.tmp (.r (.r (.l (.l .o))))))]) (.l (.l (.r (.l .o)))),
 .go (.move (.tmp (.l .o))) (.r (.l (.r (.l .o)))),
 .go (.build [(.slice none 0 0),(.slice none 0 0),(.slice none 0 0)] [(0,1,(.tmp (.r (.l (.r .o))))),(1,1,(.tmp (.l (.l (.r (.l .o)))))),(2,1,(.tmp (.r (.l (.r (.l .o))))))]) (.l (.r (.r (.l .o)))),
 .un (.store 3 (.tmp (.r (.l .o))) (.tmp (.l (.r (.r (.l .o))))))]) .ret))
noncomputable def f5 : FFunc := .mk c5 (.n U (.n U (.n U (.n U (.n U .e .e) .e) (.n U (.n U .e .e) .e)) (.n U (.n U (.n U .e .e) .e) (.n U (.n U .e .e) .e))) (.n U (.n U (.n U (.n U .e .e) .e) (.n U (.n U .e .e) .e)) (.n U (.n U (.n U .e .e) .e) (.n U .e .e)))) [.o,(.l .o)] [.many (.r (.l .o)) 3]
theorem e5 : @compF Tryz.prog (Gl.none Tryz.prog) Tryz.f5 2 = f5 := by kernel_rfl
theorem o5 : okF Tryz.prog Tryz.f5 = true := by kernel_rfl
theorem g5 : Tryz.prog.funcs[(5 : Nat)]? = some Tryz.f5 := by kernel_rfl
noncomputable def c6 : FCode := (.seq (.run [.go (.move (.con (.slice none 0 0))) .o]) (.seq (.run [.go (.build [(.int .i64 (.ofNat 0)),(.int .i64 (.ofNat 0))] [(0,1,(.con (.int .i64 (.ofNat 1)))),(1,1,(.con (.int .i64 (.ofNat 2))))]) (.l .o),
 .go (.build [(.int .i64 (.ofNat 0)),(.int .i64 (.ofNat 0))] [(0,1,(.con (.int .i64 (.ofNat 1)))),(1,1,(.con (.int .i64 (.ofNat 3))))]) (.r .o),
 .go (.buildSlice 57 2 [(.int .i64 (.ofNat 0)),(.int .i64 (.ofNat 0)),(.int .i64 (.ofNat 0)),(.int .i64 (.ofNat 0))] [(0,2,(.tmp (.l .o))),(2,2,(.tmp (.r .o)))]) (.l (.l .o)),
 .go (.move (.tmp (.l (.l .o)))) .o]) .ret))
noncomputable def f6 : FFunc := .mk c6 (.n U (.n U (.n U .e .e) .e) (.n U .e .e)) [] [.tmp .o]
theorem e6 : @compF Tryz.prog (Gl.none Tryz.prog) Tryz.f6 0 = f6 := by kernel_rfl
theorem o6 : okF Tryz.prog Tryz.f6 = true := by kernel_rfl
theorem g6 : Tryz.prog.funcs[(6 : Nat)]? = some Tryz.f6 := by kernel_rfl
noncomputable def c7 : FCode := (.seq (.run [.go (.box 28 (.tmp .o)) (.l .o),
 .go (.move (.con (.slice none 0 0))) (.r .o),
 .go (.move (.con (.int .i64 (.ofNat 0)))) (.l (.l .o))]) (.seq (.run [.go (.loadN 3 (.tmp (.l .o))) (.l (.l (.l .o))),
 .go (.call (.con (.func (.func 17) ⟨[]⟩ ⟨[]⟩)) [(.tmp (.l (.l (.l .o))))]) (.r (.l (.l .o))),
 .go (.move (.tmp (.r (.l (.l .o))))) (.r (.r .o)),
 .go (.extract (.tmp (.r (.r .o))) 0) (.l (.r (.l .o))),
 .go (.extract (.tmp (.r (.r .o))) 1) (.r (.r (.l .o))),
 .go (.move (.tmp (.l (.r (.l .o))))) (.r (.l .o)),
 .go (.move (.tmp (.r (.r (.l .o))))) (.l (.r .o))]) (.seq (.seq (.run [.go (.move (.tmp (.l (.r .o)))) (.l (.l (.r .o))),
 .go (.bin .neq 22 (.tmp (.l (.l (.r .o)))) (.con (.int .i64 (.ofNat 0)))) (.r (.l (.r .o)))]) (.cond (.tmp (.r (.l (.r .o)))) (.seq (.run [.go (.move (.tmp (.l (.r .o)))) (.l (.r (.r .o))),
 .go (.move (.con (.slice none 0 0))) (.r .o),
 .go (.move (.tmp (.l (.r (.r .o))))) (.l (.l .o))]) .ret) .skip)) (.seq (.run [.go (.move (.tmp (.r (.l .o)))) (.r (.r (.r .o))),
 .go (.move (.tmp (.r (.l .o)))) (.l (.l (.l (.l .o)))),
 .go (.call (.con (.func (.func 21) ⟨[]⟩ ⟨[]⟩)) [(.tmp (.l (.l (.l (.l .o)))))]) (.r (.l (.l (.l .o)))),
 .go (.call (.con (.func (.func 20) ⟨[]⟩ ⟨[]⟩)) [(.tmp (.r (.r (.r .o)))),(.tmp (.r (.l (.l (.l .o)))))]) (.l (.r (.l (.l .o)))),
 .go (.move (.tmp (.l (.r (.l (.l .o)))))) (.r .o),
 .go (.move (.con (.int .i64 (.ofNat 0)))) (.l (.l .o))]) .ret))))
noncomputable def f7 : FFunc := .mk c7 (.n U (.n U (.n U (.n U (.n U .e .e) .e) (.n U .e .e)) (.n U (.n U (.n U .e .e) .e) (.n U .e .e))) (.n U (.n U (.n U (.n U .e .e) .e) (.n U .e .e)) (.n U (.n U .e .e) (.n U .e .e)))) [.o] [.tmp (.r .o),.tmp (.l (.l .o))]
theorem e7 : @compF Tryz.prog (Gl.none Tryz.prog) Tryz.f7 1 = f7 := by kernel_rfl
theorem o7 : okF Tryz.prog Tryz.f7 = true := by kernel_rfl
theorem g7 : Tryz.prog.funcs[(7 : Nat)]? = some Tryz.f7 := by kernel_rfl
noncomputable def c8 : FCode := (.seq (.run [.go (.box 28 (.tmp .o)) (.l .o),
 .go (.move (.con (.slice none 0 0))) (.r .o),
 .go (.move (.con (.int .i64 (.ofNat 0)))) (.l (.l .o))]) (.seq (.run [.go (.loadN 3 (.tmp (.l .o))) (.l (.l (.l .o))),
 .go (.call (.con (.func (.func 17) ⟨[]⟩ ⟨[]⟩)) [(.tmp (.l (.l (.l .o))))]) (.r (.l (.l .o))),
 .go (.move (.tmp (.r (.l (.l .o))))) (.r (.r .o)),
 .go (.extract (.tmp (.r (.r .o))) 0) (.l (.r (.l .o))),
 .go (.extract (.tmp (.r (.r .o))) 1) (.r (.r (.l .o))),
 .go (.move (.tmp (.l (.r (.l .o))))) (.r (.l .o)),
 .go (.move (.tmp (.r (.r (.l .o))))) (.l (.r .o))]) (.seq (.seq (.run [.go (.move (.tmp (.l (.r .o)))) (.l (.l (.r .o))),
 .go (.bin .neq 22 (.tmp (.l (.l (.r .o)))) (.con (.int .i64 (.ofNat 0)))) (.r (.l (.r .o)))]) (.cond (.tmp (.r (.l (.r .o)))) (.seq (.run [.go (.move (.tmp (.l (.r .o)))) (.l (.r (.r .o))),
 .go (.move (.con (.slice none 0 0))) (.r .o),
 .go (.move (.tmp (.l (.r (.r .o))))) (.l (.l .o))]) .ret) .skip)) (.seq (.run [.go (.move (.tmp (.r (.l .o)))) (.r (.r (.r .o))),
 .go (.move (.tmp (.r (.l .o)))) (.l (.l (.l (.l .o)))),
 .go (.makeFunc 23 [(.tmp (.l (.l (.l (.l .o)))))] []) (.r (.l (.l (.l .o)))),
 .go (.call (.con (.func (.func 22) ⟨[]⟩ ⟨[]⟩)) [(.tmp (.r (.r (.r .o)))),(.tmp (.r (.l (.l (.l .o)))))]) (.l (.r (.l (.l .o)))),
 .go (.move (.tmp (.l (.r (.l (.l .o)))))) (.r .o),
 .go (.move (.con (.int .i64 (.ofNat 0)))) (.l (.l .o))]) .ret))))
noncomputable def f8 : FFunc := .mk c8 (.n U (.n U (.n U (.n U (.n U .e .e) .e) (.n U .e .e)) (.n U (.n U (.n U .e .e) .e) (.n U .e .e))) (.n U (.n U (.n U (.n U .e .e) .e) (.n U .e .e)) (.n U (.n U .e .e) (.n U .e .e)))) [.o] [.tmp (.r .o),.tmp (.l (.l .o))]
theorem e8 : @compF Tryz.prog (Gl.none Tryz.prog) Tryz.f8 1 = f8 := by kernel_rfl
theorem o8 : okF Tryz.prog Tryz.f8 = true := by kernel_rfl
theorem g8 : Tryz.prog.funcs[(8 : Nat)]? = some Tryz.f8 := by kernel_rfl
noncomputable def c9 : FCode := (.seq (.run [.go (.box 28 (.tmp .o)) (.l .o),
 .go (.move (.con (.slice none 0 0))) (.r .o),
 .go (.move (.con (.int .i64 (.ofNat 0)))) (.l (.l .o))]) (.seq (.run [.go (.loadN 3 (.tmp (.l .o))) (.r (.l (.l .o))),
 .go (.call (.con (.func (.func 17) ⟨[]⟩ ⟨[]⟩)) [(.tmp (.r (.l (.l .o))))]) (.l (.r (.l .o))),
 .go (.move (.tmp (.l (.r (.l .o))))) (.l (.l (.l .o))),
 .go (.extract (.tmp (.l (.l (.l .o)))) 0) (.r (.r (.l .o))),
 .go (.extract (.tmp (.l (.l (.l .o)))) 1) (.l (.l (.r .o))),
 .go (.move (.tmp (.r (.r (.l .o))))) (.r (.l .o)),
 .go (.move (.tmp (.l (.l (.r .o))))) (.l (.r .o))]) (.seq (.seq (.run [.go (.move (.tmp (.l (.r .o)))) (.r (.l (.r .o))),
 .go (.bin .neq 22 (.tmp (.r (.l (.r .o)))) (.con (.int .i64 (.ofNat 0)))) (.l (.r (.r .o)))]) (.cond (.tmp (.l (.r (.r .o)))) (.seq (.run [.go (.move (.tmp (.l (.r .o)))) (.r (.r (.r .o))),
 .go (.move (.con (.slice none 0 0))) (.r .o),
 .go (.move (.tmp (.r (.r (.r .o))))) (.l (.l .o))]) .ret) .skip)) (.seq (.run [.go (.move (.tmp (.r (.l .o)))) (.l (.l (.l (.l .o)))),
 .go (.call (.con (.func (.func 21) ⟨[]⟩ ⟨[]⟩)) [(.tmp (.l (.l (.l (.l .o)))))]) (.r (.l (.l (.l .o)))),
 .go (.alloc 60 [(.int .i64 (.ofNat 0)),(.int .i64 (.ofNat 0)),(.int .i64 (.ofNat 0)),(.int .i64 (.ofNat 0)),(.int .i64 (.ofNat 0)),(.int .i64 (.ofNat 0)),(.int .i64 (.ofNat 0)),(.int .i64 (.ofNat 0))]) (.r (.r .o)),
 .un (.store 8 (.tmp (.r (.r .o))) (.tmp (.r (.l (.l (.l .o))))))]) (.seq (.seq (.run [.go (.move (.tmp (.r (.l .o)))) (.l (.r (.l (.l .o)))),
 .go (.loadN 8 (.tmp (.r (.r .o)))) (.r (.r (.l (.l .o)))),
 .go (.call (.con (.func (.func 24) ⟨[]⟩ ⟨[]⟩)) [(.tmp (.l (.r (.l (.l .o))))),(.tmp (.r (.r (.l (.l .o)))))]) (.l (.l (.r (.l .o))))]) (.cond (.tmp (.l (.l (.r (.l .o))))) (.seq (.run [.go (.move (.con (.slice none 0 0))) (.r .o),
 .go (.move (.con (.int .i64 (.ofNat 10)))) (.l (.l .o))]) .ret) .skip)) (.seq (.run [.go (.move (.tmp (.r (.l .o)))) (.r (.l (.r (.l .o)))),
 .go (.loadN 8 (.tmp (.r (.r .o)))) (.l (.r (.r (.l .o)))),
 .go (.call (.con (.func (.func 20) ⟨[]⟩ ⟨[]⟩)) [(.tmp (.r (.l (.r (.l .o))))),(.tmp (.l (.r (.r (.l .o)))))]) (.r (.r (.r (.l .o)))),
 .go (.move (.tmp (.r (.r (.r (.l .o)))))) (.r .o),
 .go (.move (.con (.int .i64 (.ofNat 0)))) (.l (.l .o))]) .ret))))))
noncomputable def f9 : FFunc := .mk c9 (.n U (.n U (.n U (.n U (.n U .e .e) .e) (.n U (.n U .e .e) .e)) (.n U (.n U (.n U .e .e) .e) (.n U (.n U .e .e) .e))) (.n U (.n U (.n U (.n U .e .e) .e) (.n U (.n U .e .e) .e)) (.n U (.n U (.n U .e .e) .e) (.n U (.n U .e .e) .e)))) [.o] [.tmp (.r .o),.tmp (.l (.l .o))]
theorem e9 : @compF Tryz.prog (Gl.none Tryz.prog) Tryz.f9 1 = f9 := by kernel_rfl
theorem o9 : okF Tryz.prog Tryz.f9 = true := by kernel_rfl
theorem g9 : Tryz.prog.funcs[(9 : Nat)]? = some Tryz.f9 := by kernel_rfl
noncomputable def c10 : FCode := (.seq (.run [.go (.move (.con (.bool false))) (.r (.l .o))]) (.seq (.seq (.run [.go (.move (.tmp .o)) (.r (.r .o)),
 .go (.len 0 (.tmp (.r (.r .o)))) (.l (.l (.l .o))),
 .go (.move (.tmp (.l .o))) (.r (.l (.l .o))),
 .go (.len 0 (.tmp (.r (.l (.l .o))))) (.l (.r (.l .o))),
 .go (.bin .neq 3 (.tmp (.l (.l (.l .o)))) (.tmp (.l (.r (.l .o))))) (.r (.r (.l .o)))]) (.cond (.tmp (.r (.r (.l .o)))) (.seq (.run [.go (.move (.con (.bool false))) (.r (.l .o))]) .ret) .skip)) (.seq (.seq (.run [.go (.move (.con (.int .i64 (.ofNat 0)))) (.l (.r .o))]) (.block 0 (.loop (.seq (.seq (.run [.go (.move (.tmp (.l (.r .o)))) (.l (.l (.r .o))),
 .go (.move (.tmp .o)) (.r (.l (.r .o))),
 .go (.len 0 (.tmp (.r (.l (.r .o))))) (.l (.r (.r .o))),
 .go (.bin .lss 3 (.tmp (.l (.l (.r .o)))) (.tmp (.l (.r (.r .o))))) (.r (.r (.r .o)))]) (.cond (.tmp (.r (.r (.r .o)))) .skip (.exit 0))) (.seq (.block 1 (.seq (.draw 9 [.go (.move (.tmp .o)) (.l (.r (.l (.l .o)))),
 .go (.move (.tmp (.l (.r .o)))) (.r (.r (.l (.l .o)))),
 .go (.indexAddr none 1 (.tmp (.l (.r (.l (.l .o))))) (.tmp (.r (.r (.l (.l .o)))))) (.l (.l (.r (.l .o)))),
 .go (.load1 (.tmp (.l (.l (.r (.l .o)))))) (.r (.l (.r (.l .o)))),
 .go (.move (.tmp (.l .o))) (.l (.r (.r (.l .o)))),
 .go (.move (.tmp (.l (.r .o)))) (.r (.r (.r (.l .o)))),
 .go (.indexAddr none 1 (.tmp (.l (.r (.r (.l .o))))) (.tmp (.r (.r (.r (.l .o)))))) (.l (.l (.l (.r .o)))),
 .go (.load1 (.tmp (.l (.l (.l (.r .o)))))) (.r (.l (.l (.r .o)))),
 .go (.bin .neq 3 (.tmp (.r (.l (.r (.l .o))))) (.tmp (.r (.l (.l (.r .o)))))) (.l (.r (.l (.r .o))))] [.ok,.ok,.ok,.ok,.ok,.ok,.ok,.ok,.ok]) (.cond (.tmp (.l (.r (.l (.r .o))))) (.seq (.run [.go (.move (.con (.bool false))) (.r (.l .o))]) .ret) .skip))) (.run [.go (.move (.tmp (.l (.r .o)))) (.l (.l (.l (.l .o)))),
 .go (.bin .add 3 (.tmp (.l (.l (.l (.l .o))))) (.con (.int .i64 (.ofNat 1)))) (.r (.l (.l (.l .o)))),
 .go (.move (.tmp (.r (.l (.l (.l .o)))))) (.l (.r .o))])))))) (.seq (.run [.go (.move (.con (.bool true))) (.r (.l .o))]) .ret))))
noncomputable def f10 : FFunc := .mk c10 (.n U (.n U (.n U (.n U (.n U .e .e) (.n U .e .e)) (.n U (.n U .e .e) .e)) (.n U (.n U (.n U .e .e) (.n U .e .e)) (.n U (.n U .e .e) .e))) (.n U (.n U (.n U (.n U .e .e) (.n U .e .e)) (.n U (.n U .e .e) .e)) (.n U (.n U (.n U .e .e) .e) (.n U (.n U .e .e) .e)))) [.o,(.l .o)] [.tmp (.r (.l .o))]
theorem e10 : @compF Tryz.prog (Gl.none Tryz.prog) Tryz.f10 2 = f10 := by kernel_rfl
theorem o10 : okF Tryz.prog Tryz.f10 = true := by kernel_rfl
theorem g10 : Tryz.prog.funcs[(10 : Nat)]? = some Tryz.f10 := by kernel_rfl
noncomputable def c11 : FCode := (.seq (.run [.go (.box 28 (.tmp .o)) (.l (.l .o)),
 .go (.move (.con (.bool false))) (.r (.r .o))]) (.seq (.run [.go (.loadN 3 (.tmp (.l (.l .o)))) (.r (.r (.l .o))),
 .go (.call (.con (.func (.func 17) ⟨[]⟩ ⟨[]⟩)) [(.tmp (.r (.r (.l .o))))]) (.l (.l (.r .o))),
 .go (.move (.tmp (.l (.l (.r .o))))) (.l (.r (.l .o))),
 .go (.extract (.tmp (.l (.r (.l .o)))) 0) (.r (.l (.r .o))),
 .go (.extract (.tmp (.l (.r (.l .o)))) 1) (.l (.r (.r .o))),
 .go (.move (.tmp (.r (.l (.r .o))))) (.l (.l (.l .o))),
 .go (.move (.tmp (.l (.r (.r .o))))) (.r (.l (.l .o)))]) (.seq (.run [.go (.move (.tmp (.r (.l (.l .o))))) (.r (.r (.r .o))),
 .go (.bin .eql 22 (.tmp (.r (.r (.r .o)))) (.con (.int .i64 (.ofNat 0)))) (.l (.l (.l (.l .o)))),
 .go (.move (.tmp (.l (.l (.l (.l .o)))))) (.r (.l (.l (.l .o)))),
 .gd (.r (.l (.l (.l .o)))) true (.move (.tmp (.l (.l (.l .o))))) (.l (.r (.l (.l .o)))),
 .gd (.r (.l (.l (.l .o)))) true (.move (.tmp (.l .o))) (.r (.r (.l (.l .o)))),
 .gd (.r (.l (.l (.l .o)))) true (.call (.con (.func (.func 25) ⟨[]⟩ ⟨[]⟩)) [(.tmp (.l (.r (.l (.l .o))))),(.tmp (.r (.r (.l (.l .o)))))]) (.l (.l (.r (.l .o)))),
 .go (.pick (.tmp (.r (.l (.l (.l .o))))) (.tmp (.l (.l (.r (.l .o))))) (.con (.bool false))) (.r (.l (.r (.l .o)))),
 .go (.move (.tmp (.r (.l (.r (.l .o)))))) (.l (.r (.r (.l .o)))),
 .gd (.l (.r (.r (.l .o)))) true (.move (.tmp (.l .o))) (.r (.r (.r (.l .o)))),
 .gd (.l (.r (.r (.l .o)))) true (.call (.con (.func (.func 26) ⟨[]⟩ ⟨[]⟩)) [(.tmp (.r (.r (.r (.l .o)))))]) (.l (.l (.l (.r .o)))),
 .gd (.l (.r (.r (.l .o)))) true (.move (.tmp (.r .o))) (.r (.l (.l (.r .o)))),
 .gd (.l (.r (.r (.l .o)))) true (.bin .geq 3 (.tmp (.l (.l (.l (.r .o))))) (.tmp (.r (.l (.l (.r .o)))))) (.l (.r (.l (.r .o)))),
 .go (.pick (.tmp (.l (.r (.r (.l .o))))) (.tmp (.l (.r (.l (.r .o))))) (.con (.bool false))) (.r (.r (.l (.r .o)))),
 .go (.move (.tmp (.r (.r (.l (.r .o)))))) (.r (.r .o))]) .ret)))
noncomputable def f11 : FFunc := .mk c11 (.n U (.n U (.n U (.n U (.n U .e .e) (.n U .e .e)) (.n U (.n U .e .e) .e)) (.n U (.n U (.n U .e .e) (.n U .e .e)) (.n U (.n U .e .e) .e))) (.n U (.n U (.n U (.n U .e .e) (.n U .e .e)) (.n U (.n U .e .e) .e)) (.n U (.n U (.n U .e .e) (.n U .e .e)) (.n U (.n U .e .e) .e)))) [.o,(.l .o),(.r .o)] [.tmp (.r (.r .o))]
theorem e11 : @compF Tryz.prog (Gl.none Tryz.prog) Tryz.f11 3 = f11 := by kernel_rfl
theorem o11 : okF Tryz.prog Tryz.f11 = true := by kernel_rfl
theorem g11 : Tryz.prog.funcs[(11 : Nat)]? = some Tryz.f11 := by kernel_rfl
noncomputable def c12 : FCode := (.seq (.run [.go (.box 28 (.tmp .o)) (.r (.l .o)),
 .go (.move (.con (.bool false))) (.r (.l (.l .o)))]) (.seq (.run [.go (.loadN 3 (.tmp (.r (.l .o)))) (.r (.l (.r .o))),
 .go (.call (.con (.func (.func 17) ⟨[]⟩ ⟨[]⟩)) [(.tmp (.r (.l (.r .o))))]) (.l (.r (.r .o))),
 .go (.move (.tmp (.l (.r (.r .o))))) (.l (.l (.r .o))),
 .go (.extract (.tmp (.l (.l (.r .o)))) 0) (.r (.r (.r .o))),
 .go (.extract (.tmp (.l (.l (.r .o)))) 1) (.l (.l (.l (.l .o)))),
 .go (.move (.tmp (.r (.r (.r .o))))) (.l (.r (.l .o))),
 .go (.move (.tmp (.l (.l (.l (.l .o)))))) (.r (.r (.l .o)))]) (.seq (.run [.go (.move (.tmp (.r (.r (.l .o))))) (.r (.l (.l (.l .o)))),
 .go (.bin .eql 22 (.tmp (.r (.l (.l (.l .o))))) (.con (.int .i64 (.ofNat 0)))) (.l (.r (.l (.l .o)))),
 .go (.move (.tmp (.l (.r (.l (.l .o)))))) (.r (.r (.l (.l .o)))),
 .gd (.r (.r (.l (.l .o)))) true (.move (.tmp (.l (.r (.l .o))))) (.l (.l (.r (.l .o)))),
 .gd (.r (.r (.l (.l .o)))) true (.move (.tmp (.l .o))) (.r (.l (.r (.l .o)))),
 .gd (.r (.r (.l (.l .o)))) true (.move (.tmp (.r .o))) (.l (.r (.r (.l .o)))),
 .gd (.r (.r (.l (.l .o)))) true (.call (.con (.func (.func 27) ⟨[]⟩ ⟨[]⟩)) [(.tmp (.l (.l (.r (.l .o))))),(.tmp (.r (.l (.r (.l .o))))),(.tmp (.l (.r (.r (.l .o)))))]) (.r (.r (.r (.l .o)))),
 .go (.pick (.tmp (.r (.r (.l (.l .o))))) (.tmp (.r (.r (.r (.l .o))))) (.con (.bool false))) (.l (.l (.l (.r .o)))),
 .go (.move (.tmp (.l (.l (.l (.r .o)))))) (.r (.l (.l (.r .o)))),
 .gd (.r (.l (.l (.r .o)))) true (.move (.tmp (.l .o))) (.l (.r (.l (.r .o)))),
 .gd (.r (.l (.l (.r .o)))) true (.move (.tmp (.r .o))) (.r (.r (.l (.r .o)))),
 .gd (.r (.l (.l (.r .o)))) true (.buildSlice 31 2 [(.slice none 0 0),(.slice none 0 0)] [(0,1,(.tmp (.l (.r (.l (.r .o)))))),(1,1,(.tmp (.r (.r (.l (.r .o))))))]) (.l (.l (.r (.r .o)))),
 .gd (.r (.l (.l (.r .o)))) true (.call (.con (.func (.func 28) ⟨[]⟩ ⟨[]⟩)) [(.tmp (.l (.l (.r (.r .o)))))]) (.r (.l (.r (.r .o)))),
 .gd (.r (.l (.l (.r .o)))) true (.move (.tmp (.l (.l .o)))) (.l (.r (.r (.r .o)))),
 .gd (.r (.l (.l (.r .o)))) true (.bin .leq 3 (.tmp (.r (.l (.r (.r .o))))) (.tmp (.l (.r (.r (.r .o)))))) (.r (.r (.r (.r .o)))),
 .go (.pick (.tmp (.r (.l (.l (.r .o))))) (.tmp (.r (.r (.r (.r .o))))) (.con (.bool false))) (.l (.l (.l (.l (.l .o))))),
 .go (.move (.tmp (.l (.l (.l (.l (.l .o))))))) (.r (.l (.l .o)))]) .ret)))
noncomputable def f12 : FFunc := .mk c12 (.n U (.n U (.n U (.n U (.n U (.n U .e .e) .e) (.n U .e .e)) (.n U (.n U .e .e) (.n U .e .e))) (.n U (.n U (.n U .e .e) (.n U .e .e)) (.n U (.n U .e .e) (.n U .e .e)))) (.n U (.n U (.n U (.n U .e .e) (.n U .e .e)) (.n U (.n U .e .e) (.n U .e .e))) (.n U (.n U (.n U .e .e) (.n U .e .e)) (.n U (.n U .e .e) (.n U .e .e))))) [.o,(.l .o),(.r .o),(.l (.l .o))] [.tmp (.r (.l (.l .o)))]
theorem e12 : @compF Tryz.prog (Gl.none Tryz.prog) Tryz.f12 4 = f12 := by kernel_rfl
theorem o12 : okF Tryz.prog Tryz.f12 = true := by kernel_rfl
theorem g12 : Tryz.prog.funcs[(12 : Nat)]? = some Tryz.f12 := by kernel_rfl
noncomputable def c13 : FCode := (.seq (.run [.go (.box 28 (.tmp .o)) (.l (.l .o)),
 .go (.move (.con (.int .i64 (.ofNat 0)))) (.r (.r .o)),
 .go (.move (.con (.int .i64 (.ofNat 0)))) (.l (.l (.l .o)))]) (.seq (.run [.go (.loadN 3 (.tmp (.l (.l .o)))) (.r (.l (.r .o))),
 .go (.call (.con (.func (.func 17) ⟨[]⟩ ⟨[]⟩)) [(.tmp (.r (.l (.r .o))))]) (.l (.r (.r .o))),
 .go (.move (.tmp (.l (.r (.r .o))))) (.l (.l (.r .o))),
 .go (.extract (.tmp (.l (.l (.r .o)))) 0) (.r (.r (.r .o))),
 .go (.extract (.tmp (.l (.l (.r .o)))) 1) (.l (.l (.l (.l .o)))),
 .go (.move (.tmp (.r (.r (.r .o))))) (.r (.l (.l .o))),
 .go (.move (.tmp (.l (.l (.l (.l .o)))))) (.l (.r (.l .o)))]) (.seq (.seq (.run [.go (.move (.tmp (.l (.r (.l .o))))) (.r (.l (.l (.l .o)))),
 .go (.bin .neq 22 (.tmp (.r (.l (.l (.l .o))))) (.con (.int .i64 (.ofNat 0)))) (.l (.r (.l (.l .o))))]) (.cond (.tmp (.l (.r (.l (.l .o))))) (.seq (.run [.go (.move (.tmp (.l (.r (.l .o))))) (.r (.r (.l (.l .o)))),
 .go (.move (.con (.int .i64 (.ofNat 0)))) (.r (.r .o)),
 .go (.move (.tmp (.r (.r (.l (.l .o)))))) (.l (.l (.l .o)))]) .ret) .skip)) (.seq (.seq (.run [.go (.move (.tmp (.r (.l (.l .o))))) (.l (.l (.r (.l .o)))),
 .go (.move (.tmp (.l .o))) (.r (.l (.r (.l .o)))),
 .go (.move (.tmp (.r .o))) (.l (.r (.r (.l .o)))),
 .go (.call (.con (.func (.func 29) ⟨[]⟩ ⟨[]⟩)) [(.tmp (.l (.l (.r (.l .o))))),(.tmp (.r (.l (.r (.l .o))))),(.tmp (.l (.r (.r (.l .o)))))]) (.r (.r (.r (.l .o)))),
 .go (.un .not (.tmp (.r (.r (.r (.l .o)))))) (.l (.l (.l (.r .o))))]) (.cond (.tmp (.l (.l (.l (.r .o))))) (.seq (.run [.go (.move (.con (.int .i64 (.ofNat 0)))) (.r (.r .o)),
 .go (.move (.con (.int .i64 (.ofNat 2)))) (.l (.l (.l .o)))]) .ret) .skip)) (.seq (.run [.go (.move (.tmp (.l .o))) (.r (.l (.l (.r .o)))),
 .go (.move (.tmp (.r .o))) (.l (.r (.l (.r .o)))),
 .go (.build [(.int .i64 (.ofNat 0)),(.int .i64 (.ofNat 0))] [(0,1,(.tmp (.r (.l (.l (.r .o)))))),(1,1,(.tmp (.l (.r (.l (.r .o))))))]) (.r (.r (.l (.r .o)))),
 .go (.alloc 70 [(.int .i64 (.ofNat 0)),(.int .i64 (.ofNat 0))]) (.r (.r (.l .o))),
 .un (.store 2 (.tmp (.r (.r (.l .o)))) (.tmp (.r (.r (.l (.r .o))))))]) (.seq (.seq (.run [.go (.move (.tmp (.r (.l (.l .o))))) (.l (.l (.r (.r .o)))),
 .go (.loadN 2 (.tmp (.r (.r (.l .o))))) (.r (.l (.r (.r .o)))),
 .go (.call (.con (.func (.func 30) ⟨[]⟩ ⟨[]⟩)) [(.tmp (.l (.l (.r (.r .o))))),(.tmp (.r (.l (.r (.r .o)))))]) (.l (.r (.r (.r .o)))),
 .go (.un .not (.tmp (.l (.r (.r (.r .o)))))) (.r (.r (.r (.r .o))))]) (.cond (.tmp (.r (.r (.r (.r .o))))) (.seq (.run [.go (.move (.con (.int .i64 (.ofNat 0)))) (.r (.r .o)),
 .go (.move (.con (.int .i64 (.ofNat 7)))) (.l (.l (.l .o)))]) .ret) .skip)) (.seq (.run [.go (.move (.tmp (.r (.l (.l .o))))) (.l (.l (.l (.l (.l .o))))),
 .go (.loadN 2 (.tmp (.r (.r (.l .o))))) (.r (.l (.l (.l (.l .o))))),
 .go (.call (.con (.func (.func 31) ⟨[]⟩ ⟨[]⟩)) [(.tmp (.l (.l (.l (.l (.l .o)))))),(.tmp (.r (.l (.l (.l (.l .o))))))]) (.l (.r (.l (.l (.l .o))))),
 .go (.move (.tmp (.l (.r (.l (.l (.l .o))))))) (.r (.r .o)),
 .go (.move (.con (.int .i64 (.ofNat 0)))) (.l (.l (.l .o)))]) .ret)))))))
noncomputable def f13 : FFunc := .mk c13 (.n U (.n U (.n U (.n U (.n U (.n U .e .e) .e) (.n U .e .e)) (.n U (.n U .e .e) (.n U .e .e))) (.n U (.n U (.n U (.n U .e .e) .e) (.n U .e .e)) (.n U (.n U .e .e) (.n U .e .e)))) (.n U (.n U (.n U (.n U (.n U .e .e) .e) (.n U .e .e)) (.n U (.n U .e .e) (.n U .e .e))) (.n U (.n U (.n U .e .e) (.n U .e .e)) (.n U (.n U .e .e) (.n U .e .e))))) [.o,(.l .o),(.r .o)] [.tmp (.r (.r .o)),.tmp (.l (.l (.l .o)))]
theorem e13 : @compF Tryz.prog (Gl.none Tryz.prog) Tryz.f13 3 = f13 := by kernel_rfl
theorem o13 : okF Tryz.prog Tryz.f13 = true := by kernel_rfl
theorem g13 : Tryz.prog.funcs[(13 : Nat)]? = some Tryz.f13 := by kernel_rfl
noncomputable def c14 : FCode := (.seq (.run [.go (.box 28 (.tmp .o)) (.l .o),
 .go (.move (.con (.slice none 0 0))) (.r .o),
 .go (.move (.con (.int .i64 (.ofNat 0)))) (.l (.l .o))]) (.seq (.run [.go (.loadN 3 (.tmp (.l .o))) (.l (.l (.l .o))),
 .go (.call (.con (.func (.func 17) ⟨[]⟩ ⟨[]⟩)) [(.tmp (.l (.l (.l .o))))]) (.r (.l (.l .o))),
 .go (.move (.tmp (.r (.l (.l .o))))) (.r (.r .o)),
 .go (.extract (.tmp (.r (.r .o))) 0) (.l (.r (.l .o))),
 .go (.extract (.tmp (.r (.r .o))) 1) (.r (.r (.l .o))),
 .go (.move (.tmp (.l (.r (.l .o))))) (.r (.l .o)),
 .go (.move (.tmp (.r (.r (.l .o))))) (.l (.r .o))]) (.seq (.seq (.run [.go (.move (.tmp (.l (.r .o)))) (.l (.l (.r .o))),
 .go (.bin .neq 22 (.tmp (.l (.l (.r .o)))) (.con (.int .i64 (.ofNat 0)))) (.r (.l (.r .o)))]) (.cond (.tmp (.r (.l (.r .o)))) (.seq (.run [.go (.move (.tmp (.l (.r .o)))) (.l (.r (.r .o))),
 .go (.move (.con (.slice none 0 0))) (.r .o),
 .go (.move (.tmp (.l (.r (.r .o))))) (.l (.l .o))]) .ret) .skip)) (.seq (.run [.go (.move (.tmp (.r (.l .o)))) (.r (.r (.r .o))),
 .go (.move (.tmp (.r (.l .o)))) (.l (.l (.l (.l .o)))),
 .go (.makeFunc 30 [(.tmp (.l (.l (.l (.l .o)))))] []) (.r (.l (.l (.l .o)))),
 .go (.call (.con (.func (.func 22) ⟨[]⟩ ⟨[]⟩)) [(.tmp (.r (.r (.r .o)))),(.tmp (.r (.l (.l (.l .o)))))]) (.l (.r (.l (.l .o)))),
 .go (.move (.tmp (.l (.r (.l (.l .o)))))) (.r .o),
 .go (.move (.con (.int .i64 (.ofNat 0)))) (.l (.l .o))]) .ret))))
noncomputable def f14 : FFunc := .mk c14 (.n U (.n U (.n U (.n U (.n U .e .e) .e) (.n U .e .e)) (.n U (.n U (.n U .e .e) .e) (.n U .e .e))) (.n U (.n U (.n U (.n U .e .e) .e) (.n U .e .e)) (.n U (.n U .e .e) (.n U .e .e)))) [.o] [.tmp (.r .o),.tmp (.l (.l .o))]
theorem e14 : @compF Tryz.prog (Gl.none Tryz.prog) Tryz.f14 1 = f14 := by kernel_rfl
theorem o14 : okF Tryz.prog Tryz.f14 = true := by kernel_rfl
theorem g14 : Tryz.prog.funcs[(14 : Nat)]? = some Tryz.f14 := by kernel_rfl
noncomputable def c15 : FCode := (.seq (.run [.go (.box 28 (.tmp .o)) (.l .o),
 .go (.move (.con (.int .i64 (.ofNat 0)))) (.r .o)]) (.seq (.seq (.run [.go (.loadN 3 (.tmp (.l .o))) (.r (.l .o)),
 .go (.call (.con (.func (.func 32) ⟨[]⟩ ⟨[]⟩)) [(.tmp (.r (.l .o)))]) (.l (.r .o)),
 .go (.un .not (.tmp (.l (.r .o)))) (.r (.r .o))]) (.cond (.tmp (.r (.r .o))) (.seq (.run [.go (.move (.con (.int .i64 (.ofNat 3)))) (.r .o)]) .ret) .skip)) (.seq (.seq (.run [.go (.fieldAddr 0 (.tmp (.l .o))) (.l (.l (.l .o))),
 .go (.load1 (.tmp (.l (.l (.l .o))))) (.r (.l (.l .o))),
 .go (.fieldAddr 1 (.tmp (.l .o))) (.l (.r (.l .o))),
 .go (.load1 (.tmp (.l (.r (.l .o))))) (.r (.r (.l .o))),
 .go (.buildSlice 25 2 [(.slice none 0 0),(.slice none 0 0)] [(0,1,(.tmp (.r (.l (.l .o))))),(1,1,(.tmp (.r (.r (.l .o)))))]) (.l (.l (.r .o))),
 .go (.call (.con (.func (.func 33) ⟨[]⟩ ⟨[]⟩)) [(.tmp (.l (.l (.r .o))))]) (.r (.l (.r .o))),
 .go (.move (.tmp (.r (.l (.r .o))))) (.l (.l .o))]) (.seq (.run [.go (.move (.tmp (.l (.l .o)))) (.l (.r (.r .o))),
 .go (.bin .neq 22 (.tmp (.l (.r (.r .o)))) (.con (.int .i64 (.ofNat 0)))) (.r (.r (.r .o)))]) (.cond (.tmp (.r (.r (.r .o)))) (.seq (.run [.go (.move (.tmp (.l (.l .o)))) (.l (.l (.l (.l .o)))),
 .go (.move (.tmp (.l (.l (.l (.l .o)))))) (.r .o)]) .ret) .skip))) (.seq (.seq (.run [.go (.loadN 3 (.tmp (.l .o))) (.r (.l (.l (.l .o)))),
 .go (.call (.con (.func (.func 34) ⟨[]⟩ ⟨[]⟩)) [(.tmp (.r (.l (.l (.l .o)))))]) (.l (.r (.l (.l .o)))),
 .go (.un .not (.tmp (.l (.r (.l (.l .o)))))) (.r (.r (.l (.l .o))))]) (.cond (.tmp (.r (.r (.l (.l .o))))) (.seq (.run [.go (.move (.con (.int .i64 (.ofNat 1)))) (.r .o)]) .ret) .skip)) (.seq (.run [.go (.move (.con (.int .i64 (.ofNat 0)))) (.r .o)]) .ret)))))
noncomputable def f15 : FFunc := .mk c15 (.n U (.n U (.n U (.n U (.n U .e .e) .e) (.n U .e .e)) (.n U (.n U (.n U .e .e) .e) (.n U .e .e))) (.n U (.n U (.n U (.n U .e .e) .e) (.n U .e .e)) (.n U (.n U (.n U .e .e) .e) (.n U .e .e)))) [.o] [.tmp (.r .o)]
theorem e15 : @compF Tryz.prog (Gl.none Tryz.prog) Tryz.f15 1 = f15 := by kernel_rfl
theorem o15 : okF Tryz.prog Tryz.f15 = true := by kernel_rfl
theorem g15 : Tryz.prog.funcs[(15 : Nat)]? = some Tryz.f15 := by kernel_rfl
noncomputable def c16 : FCode := (.seq (.run [.go (.move (.con (.bool false))) .o]) (.seq (.run [.go (.call (.con (.func (.func 6) ⟨[]⟩ ⟨[]⟩)) []) (.l (.r (.r .o))),
 .go (.call (.con (.func (.func 5) ⟨[]⟩ ⟨[]⟩)) [(.con (.int .i64 (.ofNat 500))),(.tmp (.l (.r (.r .o))))]) (.r (.r (.r .o))),
 .go (.call (.con (.func (.func 14) ⟨[]⟩ ⟨[]⟩)) [(.tmp (.r (.r (.r .o))))]) (.l (.l (.l (.l .o)))),
 .go (.move (.tmp (.l (.l (.l (.l .o)))))) (.r (.l (.r .o))),
 .go (.extract (.tmp (.r (.l (.r .o)))) 0) (.r (.l (.l (.l .o)))),
 .go (.extract (.tmp (.r (.l (.r .o)))) 1) (.l (.r (.l (.l .o)))),
 .go (.move (.tmp (.r (.l (.l (.l .o)))))) (.l .o),
 .go (.move (.tmp (.l (.r (.l (.l .o)))))) (.r .o)]) (.seq (.run [.go (.call (.con (.func (.func 6) ⟨[]⟩ ⟨[]⟩)) []) (.l (.l (.r (.l .o)))),
 .go (.call (.con (.func (.func 5) ⟨[]⟩ ⟨[]⟩)) [(.con (.int .i64 (.ofNat 500))),(.tmp (.l (.l (.r (.l .o)))))]) (.r (.l (.r (.l .o)))),
 .go (.call (.con (.func (.func 35) ⟨[]⟩ ⟨[]⟩)) [(.tmp (.r (.l (.r (.l .o)))))]) (.l (.r (.r (.l .o)))),
 .go (.move (.tmp (.l (.r (.r (.l .o)))))) (.r (.r (.l (.l .o)))),
 .go (.extract (.tmp (.r (.r (.l (.l .o))))) 0) (.r (.r (.r (.l .o)))),
 .go (.extract (.tmp (.r (.r (.l (.l .o))))) 1) (.l (.l (.l (.r .o)))),
 .go (.move (.tmp (.r (.r (.r (.l .o)))))) (.l (.l .o)),
 .go (.move (.tmp (.l (.l (.l (.r .o)))))) (.r (.l .o))]) (.seq (.run [.go (.call (.con (.func (.func 6) ⟨[]⟩ ⟨[]⟩)) []) (.l (.r (.l (.r .o)))),
 .go (.slice 57 2 (.tmp (.l (.r (.l (.r .o))))) none (some (.con (.int .i64 (.ofNat 1))))) (.r (.r (.l (.r .o)))),
 .go (.call (.con (.func (.func 5) ⟨[]⟩ ⟨[]⟩)) [(.con (.int .i64 (.ofNat 500))),(.tmp (.r (.r (.l (.r .o)))))]) (.l (.l (.r (.r .o)))),
 .go (.call (.con (.func (.func 36) ⟨[]⟩ ⟨[]⟩)) [(.tmp (.l (.l (.r (.r .o)))))]) (.r (.l (.r (.r .o)))),
 .go (.move (.tmp (.r (.l (.r (.r .o)))))) (.r (.l (.l (.r .o)))),
 .go (.extract (.tmp (.r (.l (.l (.r .o))))) 0) (.l (.r (.r (.r .o)))),
 .go (.extract (.tmp (.r (.l (.l (.r .o))))) 1) (.r (.r (.r (.r .o)))),
 .go (.extract (.tmp (.r (.l (.l (.r .o))))) 2) (.l (.l (.l (.l (.l .o))))),
 .go (.move (.tmp (.l (.r (.r (.r .o)))))) (.l (.r .o)),
 .go (.move (.tmp (.r (.r (.r (.r .o)))))) (.r (.r .o)),
 .go (.move (.tmp (.l (.l (.l (.l (.l .o))))))) (.l (.l (.l .o)))]) (.seq (.run [.go (.call (.con (.func (.func 6) ⟨[]⟩ ⟨[]⟩)) []) (.l (.r (.l (.l (.l .o))))),
 .go (.call (.con (.func (.func 5) ⟨[]⟩ ⟨[]⟩)) [(.con (.int .i64 (.ofNat 700))),(.tmp (.l (.r (.l (.l (.l .o))))))]) (.r (.r (.l (.l (.l .o))))),
 .go (.call (.con (.func (.func 9) ⟨[]⟩ ⟨[]⟩)) [(.tmp (.r (.r (.l (.l (.l .o))))))]) (.l (.l (.r (.l (.l .o))))),
 .go (.move (.tmp (.l (.l (.r (.l (.l .o))))))) (.r (.l (.l (.l (.l .o))))),
 .go (.extract (.tmp (.r (.l (.l (.l (.l .o)))))) 0) (.r (.l (.r (.l (.l .o))))),
 .go (.extract (.tmp (.r (.l (.l (.l (.l .o)))))) 1) (.l (.r (.r (.l (.l .o))))),
 .go (.move (.tmp (.r (.l (.r (.l (.l .o))))))) (.r (.l (.l .o))),
 .go (.move (.tmp (.l (.r (.r (.l (.l .o))))))) (.l (.r (.l .o)))]) (.seq (.run [.go (.call (.con (.func (.func 6) ⟨[]⟩ ⟨[]⟩)) []) (.l (.l (.l (.r (.l .o))))),
 .go (.call (.con (.func (.func 5) ⟨[]⟩ ⟨[]⟩)) [(.con (.int .i64 (.ofNat 500))),(.tmp (.l (.l (.l (.r (.l .o))))))]) (.r (.l (.l (.r (.l .o))))),
 .go (.call (.con (.func (.func 13) ⟨[]⟩ ⟨[]⟩)) [(.tmp (.r (.l (.l (.r (.l .o)))))),(.con (.int .i64 (.ofNat 0))),(.con (.int .i64 (.ofNat 2)))]) (.l (.r (.l (.r (.l .o))))),
 .go (.move (.tmp (.l (.r (.l (.r (.l .o))))))) (.r (.r (.r (.l (.l .o))))),
 .go (.extract (.tmp (.r (.r (.r (.l (.l .o)))))) 0) (.r (.r (.l (.r (.l .o))))),
 .go (.extract (.tmp (.r (.r (.r (.l (.l .o)))))) 1) (.l (.l (.r (.r (.l .o))))),
 .go (.move (.tmp (.r (.r (.l (.r (.l .o))))))) (.r (.r (.l .o))),
 .go (.move (.tmp (.l (.l (.r (.r (.l .o))))))) (.l (.l (.r .o)))]) (.seq (.run [.go (.move (.tmp (.r .o))) (.r (.l (.r (.r (.l .o))))),
 .go (.bin .eql 22 (.tmp (.r (.l (.r (.r (.l .o)))))) (.con (.int .i64 (.ofNat 0)))) (.l (.r (.r (.r (.l .o))))),
 .go (.move (.tmp (.l (.r (.r (.r (.l .o))))))) (.r (.r (.r (.r (.l .o))))),
 .gd (.r (.r (.r (.r (.l .o))))) true (.move (.tmp (.l .o))) (.l (.l (.l (.l (.r .o))))),
 .gd (.r (.r (.r (.r (.l .o))))) true (.build [(.int .i64 (.ofNat 0)),(.int .i64 (.ofNat 0))] []) (.r (.l (.l (.l (.r .o))))),
 .gd (.r (.r (.r (.r (.l .o))))) true (.build [(.int .i64 (.ofNat 0)),(.int .i64 (.ofNat 0))] [(1,1,(.con (.int .i64 (.ofNat 2))))]) (.l (.r (.l (.l (.r .o))))),
 .gd (.r (.r (.r (.r (.l .o))))) true (.build [(.int .i64 (.ofNat 0)),(.int .i64 (.ofNat 0))] [(0,1,(.con (.int .i64 (.ofNat 1)))),(1,1,(.con (.int .i64 (.ofNat 1))))]) (.r (.r (.l (.l (.r .o))))),
 .gd (.r (.r (.r (.r (.l .o))))) true (.build [(.int .i64 (.ofNat 0)),(.int .i64 (.ofNat 0))] [(0,1,(.con (.int .i64 (.ofNat 2)))),(1,1,(.con (.int .i64 (.ofNat 2))))]) (.l (.l (.r (.l (.r .o))))),
 .gd (.r (.r (.r (.r (.l .o))))) true (.buildSlice 76 4 [(.int .i64 (.ofNat 0)),(.int .i64 (.ofNat 0)),(.int .i64 (.ofNat 0)),(.int .i64 (.ofNat 0)),(.int .i64 (.ofNat 0)),(.int .i64 (.ofNat 0)),(.int .i64 (.ofNat 0)),(.int .i64 (.ofNat 0))] [(0,2,(.tmp (.r (.l (.l (.l (.r .o))))))),(2,2,(.tmp (.l (.r (.l (.l (.r .o))))))),(4,2,(.tmp (.r (.r (.l (.l (.r .o))))))),(6,2,(.tmp (.l (.l (.r (.l (.r .o)))))))]) (.r (.l (.r (.l (.r .o))))),
 .gd (.r (.r (.r (.r (.l .o))))) true (.call (.con (.func (.func 37) ⟨[]⟩ ⟨[]⟩)) [(.tmp (.l (.l (.l (.l (.r .o)))))),(.tmp (.r (.l (.r (.l (.r .o))))))]) (.l (.r (.r (.l (.r .o))))),
 .go (.pick (.tmp (.r (.r (.r (.r (.l .o)))))) (.tmp (.l (.r (.r (.l (.r .o)))))) (.con (.bool false))) (.r (.r (.r (.l (.r .o))))),
 .go (.move (.tmp (.r (.r (.r (.l (.r .o))))))) (.l (.l (.l (.r (.r .o))))),
 .gd (.l (.l (.l (.r (.r .o))))) true (.move (.tmp (.r (.l .o)))) (.r (.l (.l (.r (.r .o))))),
 .gd (.l (.l (.l (.r (.r .o))))) true (.bin .eql 22 (.tmp (.r (.l (.l (.r (.r .o)))))) (.con (.int .i64 (.ofNat 0)))) (.l (.r (.l (.r (.r .o))))),
 .go (.pick (.tmp (.l (.l (.l (.r (.r .o)))))) (.tmp (.l (.r (.l (.r (.r .o)))))) (.con (.bool false))) (.r (.r (.l (.r (.r .o))))),
 .go (.move (.tmp (.r (.r (.l (.r (.r .o))))))) (.l (.l (.r (.r (.r .o))))),
 .gd (.l (.l (.r (.r (.r .o))))) true (.move (.tmp (.l (.l .o)))) (.r (.l (.r (.r (.r .o))))),
 .gd (.l (.l (.r (.r (.r .o))))) true (.build [(.int .i64 (.ofNat 0)),(.int .i64 (.ofNat 0))] []) (.l (.r (.r (.r (.r .o))))),
 .gd (.l (.l (.r (.r (.r .o))))) true (.build [(.int .i64 (.ofNat 0)),(.int .i64 (.ofNat 0))] [(0,1,(.con (.int .i64 (.ofNat 1)))),(1,1,(.con (.int .i64 (.ofNat 1))))]) (.r (.r (.r (.r (.r .o))))),
 .gd (.l (.l (.r (.r (.r .o))))) true (.build [(.int .i64 (.ofNat 0)),(.int .i64 (.ofNat 0))] [(0,1,(.con (.int .i64 (.ofNat 2)))),(1,1,(.con (.int .i64 (.ofNat 2))))]) (.l (.l (.l (.l (.l (.l .o)))))),
 .gd (.l (.l (.r (.r (.r .o))))) true (.buildSlice 76 3 [(.int .i64 (.ofNat 0)),(.int .i64 (.ofNat 0)),(.int .i64 (.ofNat 0)),(.int .i64 (.ofNat 0)),(.int .i64 (.ofNat 0)),(.int .i64 (.ofNat 0))] [(0,2,(.tmp (.l (.r (.r (.r (.r .o))))))),(2,2,(.tmp (.r (.r (.r (.r (.r .o))))))),(4,2,(.tmp (.l (.l (.l (.l (.l (.l .o))))))))]) (.r (.l (.l (.l (.l (.l .o)))))),
 .gd (.l (.l (.r (.r (.r .o))))) true (.call (.con (.func (.func 37) ⟨[]⟩ ⟨[]⟩)) [(.tmp (.r (.l (.r (.r (.r .o)))))),(.tmp (.r (.l (.l (.l (.l (.l .o)))))))]) (.l (.r (.l (.l (.l (.l .o)))))),
 .go (.pick (.tmp (.l (.l (.r (.r (.r .o)))))) (.tmp (.l (.r (.l (.l (.l (.l .o))))))) (.con (.bool false))) (.r (.r (.l (.l (.l (.l .o)))))),
 .go (.move (.tmp (.r (.r (.l (.l (.l (.l .o)))))))) (.l (.l (.r (.l (.l (.l .o)))))),
 .gd (.l (.l (.r (.l (.l (.l .o)))))) true (.move (.tmp (.l (.l (.l .o))))) (.r (.l (.r (.l (.l (.l .o)))))),
 .gd (.l (.l (.r (.l (.l (.l .o)))))) true (.bin .eql 22 (.tmp (.r (.l (.r (.l (.l (.l .o))))))) (.con (.int .i64 (.ofNat 0)))) (.l (.r (.r (.l (.l (.l .o)))))),
 .go (.pick (.tmp (.l (.l (.r (.l (.l (.l .o))))))) (.tmp (.l (.r (.r (.l (.l (.l .o))))))) (.con (.bool false))) (.r (.r (.r (.l (.l (.l .o)))))),
 .go (.move (.tmp (.r (.r (.r (.l (.l (.l .o)))))))) (.l (.l (.l (.r (.l (.l .o)))))),
 .gd (.l (.l (.l (.r (.l (.l .o)))))) true (.move (.tmp (.l (.r .o)))) (.r (.l (.l (.r (.l (.l .o)))))),
 .gd (.l (.l (.l (.r (.l (.l .o)))))) true (.buildSlice 3 2 [(.int .i64 (.ofNat 0)),(.int .i64 (.ofNat 0))] [(0,1,(.con (.int .i64 (.ofNat 0)))),(1,1,(.con (.int .i64 (.ofNat 2))))]) (.l (.r (.l (.r (.l (.l .o)))))),
 .gd (.l (.l (.l (.r (.l (.l .o)))))) true (.call (.con (.func (.func 10) ⟨[]⟩ ⟨[]⟩)) [(.tmp (.r (.l (.l (.r (.l (.l .o))))))),(.tmp (.l (.r (.l (.r (.l (.l .o)))))))]) (.r (.r (.l (.r (.l (.l .o)))))),
 .go (.pick (.tmp (.l (.l (.l (.r (.l (.l .o))))))) (.tmp (.r (.r (.l (.r (.l (.l .o))))))) (.con (.bool false))) (.l (.l (.r (.r (.l (.l .o)))))),
 .go (.move (.tmp (.l (.l (.r (.r (.l (.l .o)))))))) (.r (.l (.r (.r (.l (.l .o)))))),
 .gd (.r (.l (.r (.r (.l (.l .o)))))) true (.move (.tmp (.r (.r .o)))) (.l (.r (.r (.r (.l (.l .o)))))),
 .gd (.r (.l (.r (.r (.l (.l .o)))))) true (.buildSlice 3 2 [(.int .i64 (.ofNat 0)),(.int .i64 (.ofNat 0))] [(0,1,(.con (.int .i64 (.ofNat 0)))),(1,1,(.con (.int .i64 (.ofNat 2))))]) (.r (.r (.r (.r (.l (.l .o)))))),
 .gd (.r (.l (.r (.r (.l (.l .o)))))) true (.call (.con (.func (.func 10) ⟨[]⟩ ⟨[]⟩)) [(.tmp (.l (.r (.r (.r (.l (.l .o))))))),(.tmp (.r (.r (.r (.r (.l (.l .o)))))))]) (.l (.l (.l (.l (.r (.l .o)))))),
 .go (.pick (.tmp (.r (.l (.r (.r (.l (.l .o))))))) (.tmp (.l (.l (.l (.l (.r (.l .o))))))) (.con (.bool false))) (.r (.l (.l (.l (.r (.l .o)))))),
 .go (.move (.tmp (.r (.l (.l (.l (.r (.l .o)))))))) (.l (.r (.l (.l (.r (.l .o)))))),
 .gd (.l (.r (.l (.l (.r (.l .o)))))) true (.move (.tmp (.l (.r (.l .o))))) (.r (.r (.l (.l (.r (.l .o)))))),
 .gd (.l (.r (.l (.l (.r (.l .o)))))) true (.bin .eql 22 (.tmp (.r (.r (.l (.l (.r (.l .o))))))) (.con (.int .i64 (.ofNat 10)))) (.l (.l (.r (.l (.r (.l .o)))))),
 .go (.pick (.tmp (.l (.r (.l (.l (.r (.l .o))))))) (.tmp (.l (.l (.r (.l (.r (.l .o))))))) (.con (.bool false))) (.r (.l (.r (.l (.r (.l .o)))))),
 .go (.move (.tmp (.r (.l (.r (.l (.r (.l .o)))))))) (.l (.r (.r (.l (.r (.l .o)))))),
 .gd (.l (.r (.r (.l (.r (.l .o)))))) true (.move (.tmp (.l (.l (.r .o))))) (.r (.r (.r (.l (.r (.l .o)))))),
 .gd (.l (.r (.r (.l (.r (.l .o)))))) true (.bin .eql 22 (.tmp (.r (.r (.r (.l (.r (.l .o))))))) (.con (.int .i64 (.ofNat 0)))) (.l (.l (.l (.r (.r (.l .o)))))),
 .go (.pick (.tmp (.l (.r (.r (.l (.r (.l .o))))))) (.tmp (.l (.l (.l (.r (.r (.l .o))))))) (.con (.bool false))) (.r (.l (.l (.r (.r (.l .o)))))),
 .go (.move (.tmp (.r (.l (.l (.r (.r (.l .o)))))))) (.l (.r (.l (.r (.r (.l .o)))))),
 .gd (.l (.r (.l (.r (.r (.l .o)))))) true (.move (.tmp (.r (.r (.l .o))))) (.r (.r (.l (.r (.r (.l .o)))))),
 .gd (.l (.r (.l (.r (.r (.l .o)))))) true (.bin .eql 3 (.tmp (.r (.r (.l (.r (.r (.l .o))))))) (.con (.int .i64 (.ofNat 1)))) (.l (.l (.r (.r (.r (.l .o)))))),
 .go (.pick (.tmp (.l (.r (.l (.r (.r (.l .o))))))) (.tmp (.l (.l (.r (.r (.r (.l .o))))))) (.con (.bool false))) (.r (.l (.r (.r (.r (.l .o)))))),
 .go (.move (.tmp (.r (.l (.r (.r (.r (.l .o)))))))) .o]) .ret)))))))
noncomputable def f16 : FFunc := .mk c16 (.n U (.n U (.n U (.n U (.n U (.n U (.n U .e .e) .e) (.n U (.n U .e .e) .e)) (.n U (.n U (.n U .e .e) .e) (.n U (.n U .e .e) .e))) (.n U (.n U (.n U (.n U .e .e) .e) (.n U (.n U .e .e) .e)) (.n U (.n U (.n U .e .e) .e) (.n U (.n U .e .e) .e)))) (.n U (.n U (.n U (.n U (.n U .e .e) .e) (.n U (.n U .e .e) .e)) (.n U (.n U (.n U .e .e) .e) (.n U (.n U .e .e) .e))) (.n U (.n U (.n U (.n U .e .e) .e) (.n U (.n U .e .e) .e)) (.n U (.n U (.n U .e .e) .e) (.n U .e .e))))) (.n U (.n U (.n U (.n U (.n U (.n U .e .e) .e) (.n U (.n U .e .e) .e)) (.n U (.n U (.n U .e .e) .e) (.n U (.n U .e .e) .e))) (.n U (.n U (.n U (.n U .e .e) .e) (.n U (.n U .e .e) .e)) (.n U (.n U (.n U .e .e) .e) (.n U (.n U .e .e) .e)))) (.n U (.n U (.n U (.n U (.n U .e .e) .e) (.n U (.n U .e .e) .e)) (.n U (.n U (.n U .e .e) .e) (.n U (.n U .e .e) .e))) (.n U (.n U (.n U (.n U .e .e) .e) (.n U (.n U .e .e) .e)) (.n U (.n U (.n U .e .e) .e) (.n U .e .e)))))) [] [.tmp .o]
theorem e16 : @compF Tryz.prog (Gl.none Tryz.prog) Tryz.f16 0 = f16 := by kernel_rfl
theorem o16 : okF Tryz.prog Tryz.f16 = true := by kernel_rfl
theorem g16 : Tryz.prog.funcs[(16 : Nat)]? = some Tryz.f16 := by kernel_rfl
noncomputable def c17 : FCode := (.seq (.run [.go (.box 28 (.tmp .o)) (.l .o),
 .go (.move (.con (.pointer none))) (.r .o),
 .go (.move (.con (.int .i64 (.ofNat 0)))) (.l (.l .o))]) (.seq (.seq (.run [.go (.loadN 3 (.tmp (.l .o))) (.r (.l (.r .o))),
 .go (.call (.con (.func (.func 15) ⟨[]⟩ ⟨[]⟩)) [(.tmp (.r (.l (.r .o))))]) (.l (.r (.r .o))),
 .go (.move (.tmp (.l (.r (.r .o))))) (.r (.l .o))]) (.seq (.run [.go (.move (.tmp (.r (.l .o)))) (.r (.r (.r .o))),
 .go (.bin .neq 22 (.tmp (.r (.r (.r .o)))) (.con (.int .i64 (.ofNat 0)))) (.l (.l (.l (.l .o))))]) (.cond (.tmp (.l (.l (.l (.l .o))))) (.seq (.run [.go (.move (.tmp (.r (.l .o)))) (.r (.l (.l (.l .o)))),
 .go (.move (.con (.pointer none))) (.r .o),
 .go (.move (.tmp (.r (.l (.l (.l .o)))))) (.l (.l .o))]) .ret) .skip))) (.seq (.run [.go (.loadN 3 (.tmp (.l .o))) (.l (.r (.l (.l .o)))),
 .go (.makeMap 57) (.r (.r (.l (.l .o)))),
 .go (.build [(.slice none 0 0),(.slice none 0 0),(.slice none 0 0),(.map none),(.bool false),(.bool false),(.bool false),(.bool false),(.bool false),(.bool false),(.bool false),(.bool false),(.bool false),(.bool false),(.bool false),(.bool false),(.bool false),(.bool false),(.bool false),(.bool false),(.bool false),(.bool false),(.bool false),(.bool false),(.bool false),(.bool false),(.bool false),(.bool false),(.bool false),(.bool false),(.bool false),(.bool false),(.bool false),(.bool false),(.bool false),(.bool false),(.bool false),(.bool false),(.bool false),(.bool false),(.bool false),(.bool false),(.bool false),(.bool false),(.bool false),(.bool false),(.bool false),(.bool false),(.bool false),(.bool false),(.bool false),(.bool false),(.bool false),(.bool false),(.bool false),(.bool false),(.bool false),(.bool false),(.bool false),(.bool false),(.bool false),(.bool false),(.bool false),(.bool false),(.bool false),(.bool false),(.bool false),(.bool false)] [(0,3,(.tmp (.l (.r (.l (.l .o)))))),(3,1,(.tmp (.r (.r (.l (.l .o))))))]) (.l (.l (.r (.l .o)))),
 .go (.box 82 (.tmp (.l (.l (.r (.l .o)))))) (.r (.l (.r (.l .o)))),
 .go (.alloc 51 [(.pointer none)]) (.l (.r .o)),
 .un (.store 1 (.tmp (.l (.r .o))) (.tmp (.r (.l (.r (.l .o))))))]) (.seq (.seq (.run [.go (.load1 (.tmp (.l (.r .o)))) (.l (.r (.r (.l .o)))),
 .go (.nilCheck (.tmp (.l (.r (.r (.l .o)))))) (.r (.r (.r (.l .o)))),
 .go (.fieldAddr 0 (.tmp (.r (.r (.r (.l .o)))))) (.l (.l (.l (.r .o)))),
 .go (.fieldAddr 2 (.tmp (.l (.l (.l (.r .o)))))) (.r (.l (.l (.r .o)))),
 .go (.load1 (.tmp (.r (.l (.l (.r .o)))))) (.l (.r (.l (.r .o)))),
 .go (.len 0 (.tmp (.l (.r (.l (.r .o)))))) (.r (.r (.l (.r .o)))),
 .go (.move (.con (.int .i64 (.ofNat 0)))) (.l (.l (.r (.r .o))))]) (.block 0 (.loop (.seq (.run [.go (.bin .lss 3 (.tmp (.l (.l (.r (.r .o))))) (.tmp (.r (.r (.l (.r .o)))))) (.r (.l (.r (.r .o))))]) (.seq (.cond (.tmp (.r (.l (.r (.r .o))))) .skip (.exit 0)) (.seq (.block 1 (.seq (.run [.go (.indexAddr none 2 (.tmp (.l (.r (.l (.r .o))))) (.tmp (.l (.l (.r (.r .o)))))) (.l (.r (.r (.r .o)))),
 .go (.loadN 2 (.tmp (.l (.r (.r (.r .o)))))) (.r (.r (.r (.r .o)))),
 .go (.alloc 57 [(.int .i64 (.ofNat 0)),(.int .i64 (.ofNat 0))]) (.l (.l (.l .o))),
 .un (.store 2 (.tmp (.l (.l (.l .o)))) (.tmp (.r (.r (.r (.r .o))))))]) (.draw 6 [.go (.load1 (.tmp (.l (.r .o)))) (.l (.l (.l (.l (.l .o))))),
 .go (.nilCheck (.tmp (.l (.l (.l (.l (.l .o))))))) (.r (.l (.l (.l (.l .o))))),
 .go (.fieldAddr 3 (.tmp (.r (.l (.l (.l (.l .o))))))) (.l (.r (.l (.l (.l .o))))),
 .go (.load1 (.tmp (.l (.r (.l (.l (.l .o))))))) (.r (.r (.l (.l (.l .o))))),
 .go (.loadN 2 (.tmp (.l (.l (.l .o))))) (.l (.l (.r (.l (.l .o))))),
 .un (.mapUpdate 57 (.tmp (.r (.r (.l (.l (.l .o)))))) (.tmp (.l (.l (.r (.l (.l .o)))))) (.con (.bool true)))] [.ok,.ok,.ok,.ok,.ok,.ok]))) (.run [.go (.bin .add 3 (.tmp (.l (.l (.r (.r .o))))) (.con (.int .i64 (.ofNat 1)))) (.r (.l (.r (.l (.l .o))))),
 .go (.move (.tmp (.r (.l (.r (.l (.l .o))))))) (.l (.l (.r (.r .o))))]))))))) (.seq (.seq (.run [.go (.load1 (.tmp (.l (.r .o)))) (.l (.r (.r (.l (.l .o))))),
 .go (.nilCheck (.tmp (.l (.r (.r (.l (.l .o))))))) (.r (.r (.r (.l (.l .o))))),
 .go (.fieldAddr 0 (.tmp (.r (.r (.r (.l (.l .o))))))) (.l (.l (.l (.r (.l .o))))),
 .go (.fieldAddr 0 (.tmp (.l (.l (.l (.r (.l .o))))))) (.r (.l (.l (.r (.l .o))))),
 .go (.load1 (.tmp (.r (.l (.l (.r (.l .o))))))) (.l (.r (.l (.r (.l .o))))),
 .go (.len 0 (.tmp (.l (.r (.l (.r (.l .o))))))) (.r (.r (.l (.r (.l .o))))),
 .go (.move (.con (.int .i64 (.ofNat 0)))) (.l (.l (.r (.r (.l .o)))))]) (.block 2 (.loop (.seq (.run [.go (.bin .lss 3 (.tmp (.l (.l (.r (.r (.l .o)))))) (.tmp (.r (.r (.l (.r (.l .o))))))) (.r (.l (.r (.r (.l .o)))))]) (.seq (.cond (.tmp (.r (.l (.r (.r (.l .o)))))) .skip (.exit 2)) (.seq (.block 3 (.seq (.run [.go (.move (.tmp (.l (.l (.r (.r (.l .o))))))) (.l (.r (.r (.r (.l .o))))),
 .go (.indexAddr none 7 (.tmp (.l (.r (.l (.r (.l .o)))))) (.tmp (.l (.l (.r (.r (.l .o))))))) (.r (.r (.r (.r (.l .o))))),
 .go (.loadN 7 (.tmp (.r (.r (.r (.r (.l .o))))))) (.l (.l (.l (.l (.r .o))))),
 .go (.alloc 48 [(.int .i64 (.ofNat 0)),(.int .i64 (.ofNat 0)),(.slice none 0 0),(.slice none 0 0),(.int .i64 (.ofNat 0)),(.slice none 0 0),(.int .i64 (.ofNat 0))]) (.l (.r (.l .o))),
 .go (.move (.tmp (.l (.r (.r (.r (.l .o))))))) (.r (.l (.l .o))),
 .un (.store 7 (.tmp (.l (.r (.l .o)))) (.tmp (.l (.l (.l (.l (.r .o)))))))]) (.seq (.run [.go (.load1 (.tmp (.l (.r .o)))) (.r (.l (.l (.l (.r .o))))),
 .go (.nilCheck (.tmp (.r (.l (.l (.l (.r .o))))))) (.l (.r (.l (.l (.r .o))))),
 .go (.fieldAddr 0 (.tmp (.l (.r (.l (.l (.r .o))))))) (.r (.r (.l (.l (.r .o))))),
 .go (.fieldAddr 1 (.tmp (.r (.r (.l (.l (.r .o))))))) (.l (.l (.r (.l (.r .o))))),
 .go (.load1 (.tmp (.l (.l (.r (.l (.r .o))))))) (.r (.l (.r (.l (.r .o))))),
 .go (.len 0 (.tmp (.r (.l (.r (.l (.r .o))))))) (.l (.r (.r (.l (.r .o))))),
 .go (.move (.con (.int .i64 (.ofNat 0)))) (.r (.r (.r (.l (.r .o)))))]) (.block 4 (.loop (.seq (.run [.go (.bin .lss 3 (.tmp (.r (.r (.r (.l (.r .o)))))) (.tmp (.l (.r (.r (.l (.r .o))))))) (.l (.l (.l (.r (.r .o)))))]) (.seq (.cond (.tmp (.l (.l (.l (.r (.r .o)))))) .skip (.exit 4)) (.seq (.block 5 (.seq (.run [.go (.move (.tmp (.r (.r (.r (.l (.r .o))))))) (.r (.l (.l (.r (.r .o))))),
 .go (.indexAddr none 7 (.tmp (.r (.l (.r (.l (.r .o)))))) (.tmp (.r (.r (.r (.l (.r .o))))))) (.l (.r (.l (.r (.r .o))))),
 .go (.loadN 7 (.tmp (.l (.r (.l (.r (.r .o))))))) (.r (.r (.l (.r (.r .o))))),
 .go (.alloc 48 [(.int .i64 (.ofNat 0)),(.int .i64 (.ofNat 0)),(.slice none 0 0),(.slice none 0 0),(.int .i64 (.ofNat 0)),(.slice none 0 0),(.int .i64 (.ofNat 0))]) (.l (.l (.r .o))),
 .go (.move (.tmp (.r (.l (.l (.r (.r .o))))))) (.r (.r (.l .o))),
 .un (.store 7 (.tmp (.l (.l (.r .o)))) (.tmp (.r (.r (.l (.r (.r .o)))))))]) (.draw 11 [.go (.load1 (.tmp (.l (.r .o)))) (.l (.l (.r (.r (.r .o))))),
 .go (.move (.tmp (.r (.l (.l .o))))) (.r (.l (.r (.r (.r .o))))),
 .go (.move (.tmp (.r (.r (.l .o))))) (.l (.r (.r (.r (.r .o))))),
 .go (.call (.con (.func (.func 39) ⟨[]⟩ ⟨[]⟩)) []) (.r (.r (.r (.r (.r .o))))),
 .go (.makeFunc 40 [] [(.tmp (.l (.r .o))),(.tmp (.l (.r (.l .o)))),(.tmp (.l (.l (.r .o))))]) (.l (.l (.l (.l (.l (.l .o)))))),
 .go (.call (.con (.func (.func 38) ⟨[]⟩ ⟨[]⟩)) [(.tmp (.r (.r (.r (.r (.r .o)))))),(.tmp (.l (.l (.l (.l (.l (.l .o)))))))]) (.r (.l (.l (.l (.l (.l .o)))))),
 .go (.nilCheck (.tmp (.l (.l (.r (.r (.r .o))))))) (.l (.r (.l (.l (.l (.l .o)))))),
 .go (.fieldAddr 4 (.tmp (.l (.r (.l (.l (.l (.l .o)))))))) (.r (.r (.l (.l (.l (.l .o)))))),
 .go (.indexAddr (some 8) 8 (.tmp (.r (.r (.l (.l (.l (.l .o))))))) (.tmp (.r (.l (.r (.r (.r .o))))))) (.l (.l (.r (.l (.l (.l .o)))))),
 .go (.indexAddr (some 8) 1 (.tmp (.l (.l (.r (.l (.l (.l .o))))))) (.tmp (.l (.r (.r (.r (.r .o))))))) (.r (.l (.r (.l (.l (.l .o)))))),
 .un (.store 1 (.tmp (.r (.l (.r (.l (.l (.l .o))))))) (.tmp (.r (.l (.l (.l (.l (.l .o))))))))] [.rd none (.load1 (.tmp (.l (.r .o)))) (some (.l (.l (.r (.r (.r .o)))))) [4,6],.ok,.ok,.ok,.ok,.ok,.ok,.ok,.ok,.ok,.ok]))) (.run [.go (.bin .add 3 (.tmp (.r (.r (.r (.l (.r .o)))))) (.con (.int .i64 (.ofNat 1)))) (.l (.r (.r (.l (.l (.l .o)))))),
 .go (.move (.tmp (.l (.r (.r (.l (.l (.l .o)))))))) (.r (.r (.r (.l (.r .o)))))]))))))))) (.run [.go (.bin .add 3 (.tmp (.l (.l (.r (.r (.l .o)))))) (.con (.int .i64 (.ofNat 1)))) (.r (.r (.r (.l (.l (.l .o)))))),
 .go (.move (.tmp (.r (.r (.r (.l (.l (.l .o)))))))) (.l (.l (.r (.r (.l .o)))))]))))))) (.seq (.run [.go (.load1 (.tmp (.l (.r .o)))) (.l (.l (.l (.r (.l (.l .o)))))),
 .go (.move (.tmp (.l (.l (.l (.r (.l (.l .o)))))))) (.r .o),
 .go (.move (.con (.int .i64 (.ofNat 0)))) (.l (.l .o))]) .ret))))))
noncomputable def f17 : FFunc := .mk c17 (.n U (.n U (.n U (.n U (.n U (.n U (.n U .e .e) .e) (.n U .e .e)) (.n U (.n U (.n U .e .e) .e) (.n U .e .e))) (.n U (.n U (.n U (.n U .e .e) .e) (.n U .e .e)) (.n U (.n U .e .e) (.n U .e .e)))) (.n U (.n U (.n U (.n U (.n U .e .e) .e) (.n U .e .e)) (.n U (.n U .e .e) (.n U .e .e))) (.n U (.n U (.n U (.n U .e .e) .e) (.n U .e .e)) (.n U (.n U .e .e) (.n U .e .e))))) (.n U (.n U (.n U (.n U (.n U (.n U .e .e) .e) (.n U .e .e)) (.n U (.n U .e .e) (.n U .e .e))) (.n U (.n U (.n U (.n U .e .e) .e) (.n U .e .e)) (.n U (.n U .e .e) (.n U .e .e)))) (.n U (.n U (.n U (.n U (.n U .e .e) .e) (.n U .e .e)) (.n U (.n U .e .e) (.n U .e .e))) (.n U (.n U (.n U (.n U .e .e) .e) (.n U .e .e)) (.n U (.n U .e .e) (.n U .e .e)))))) [.o] [.tmp (.r .o),.tmp (.l (.l .o))]
theorem e17 : @compF Tryz.prog (Gl.none Tryz.prog) Tryz.f17 1 = f17 := by kernel_rfl
theorem o17 : okF Tryz.prog Tryz.f17 = true := by kernel_rfl
theorem g17 : Tryz.prog.funcs[(17 : Nat)]? = some Tryz.f17 := by kernel_rfl
noncomputable def c18 : FCode := (.seq (.run [.go (.move (.con (.int .i64 (.ofNat 0)))) (.r .o)]) (.seq (.run [.go (.move (.tmp .o)) (.l (.l .o)),
 .go (.move (.tmp .o)) (.r (.l .o)),
 .go (.call (.con (.func (.func 21) ⟨[]⟩ ⟨[]⟩)) [(.tmp (.r (.l .o)))]) (.l (.r .o)),
 .go (.call (.con (.func (.func 20) ⟨[]⟩ ⟨[]⟩)) [(.tmp (.l (.l .o))),(.tmp (.l (.r .o)))]) (.r (.r .o)),
 .go (.call (.con (.func (.func 26) ⟨[]⟩ ⟨[]⟩)) [(.tmp (.r (.r .o)))]) (.l (.l (.l .o))),
 .go (.move (.tmp (.l (.l (.l .o))))) (.r .o)]) .ret))
noncomputable def f18 : FFunc := .mk c18 (.n U (.n U (.n U (.n U .e .e) .e) (.n U .e .e)) (.n U (.n U .e .e) (.n U .e .e))) [.o] [.tmp (.r .o)]
theorem e18 : @compF Tryz.prog (Gl.none Tryz.prog) Tryz.f18 1 = f18 := by kernel_rfl
theorem o18 : okF Tryz.prog Tryz.f18 = true := by kernel_rfl
theorem g18 : Tryz.prog.funcs[(18 : Nat)]? = some Tryz.f18 := by kernel_rfl
noncomputable def c19 : FCode := (.seq (.run [.go (.alloc 48 [(.int .i64 (.ofNat 0)),(.int .i64 (.ofNat 0)),(.slice none 0 0),(.slice none 0 0),(.int .i64 (.ofNat 0)),(.slice none 0 0),(.int .i64 (.ofNat 0))]) (.r (.r (.l .o)))]) (.seq (.run [.go (.move (.tmp (.r .o))) (.l (.l (.r .o))),
 .go (.move (.tmp (.l (.l .o)))) (.r (.l (.r .o))),
 .go (.build [(.int .i64 (.ofNat 0)),(.int .i64 (.ofNat 0))] [(0,1,(.tmp (.l (.l (.r .o))))),(1,1,(.tmp (.r (.l (.r .o)))))]) (.l (.r (.r .o))),
 .go (.build [(.int .i64 (.ofNat 0)),(.int .i64 (.ofNat 0)),(.int .i64 (.ofNat 0)),(.int .i64 (.ofNat 0))] [(1,1,(.con (.int .i64 (.ofNat 1))))]) (.r (.r (.r .o))),
 .go (.buildSlice 91 1 [(.int .i64 (.ofNat 0)),(.int .i64 (.ofNat 0)),(.int .i64 (.ofNat 0)),(.int .i64 (.ofNat 0))] [(0,4,(.tmp (.r (.r (.r .o)))))]) (.l (.l (.l (.l .o)))),
 .go (.build [(.int .i64 (.ofNat 0)),(.int .i64 (.ofNat 0)),(.slice none 0 0),(.slice none 0 0)] [(0,2,(.tmp (.l (.r (.r .o))))),(2,1,(.tmp (.l (.l (.l (.l .o))))))]) (.r (.l (.l (.l .o)))),
 .go (.move (.tmp .o)) (.l (.r (.l (.l .o)))),
 .go (.move (.tmp (.r (.l .o)))) (.r (.r (.l (.l .o)))),
 .go (.move (.tmp (.l .o))) (.l (.l (.r (.l .o)))),
 .go (.build [(.int .i64 (.ofNat 0)),(.int .i64 (.ofNat 0)),(.slice none 0 0),(.slice none 0 0),(.int .i64 (.ofNat 0)),(.slice none 0 0),(.int .i64 (.ofNat 0))] [(0,4,(.tmp (.r (.l (.l (.l .o)))))),(4,1,(.tmp (.l (.r (.l (.l .o)))))),(5,1,(.tmp (.r (.r (.l (.l .o)))))),(6,1,(.tmp (.l (.l (.r (.l .o))))))]) (.r (.l (.r (.l .o)))),
 .un (.store 7 (.tmp (.r (.r (.l .o)))) (.tmp (.r (.l (.r (.l .o))))))]) .ret))
noncomputable def f19 : FFunc := .mk c19 (.n U (.n U (.n U (.n U (.n U .e .e) .e) (.n U (.n U .e .e) .e)) (.n U (.n U (.n U .e .e) .e) (.n U .e .e))) (.n U (.n U (.n U (.n U .e .e) .e) (.n U (.n U .e .e) .e)) (.n U (.n U (.n U .e .e) .e) (.n U .e .e)))) [.o,(.l .o),(.r .o),(.l (.l .o)),(.r (.l .o))] [.many (.r (.r (.l .o))) 7]
theorem e19 : @compF Tryz.prog (Gl.none Tryz.prog) Tryz.f19 5 = f19 := by kernel_rfl
theorem o19 : okF Tryz.prog Tryz.f19 = true := by kernel_rfl
theorem g19 : Tryz.prog.funcs[(19 : Nat)]? = some Tryz.f19 := by kernel_rfl
noncomputable def c20 : FCode := (.seq (.run [.go (.box 60 (.tmp (.l .o))) (.l (.l .o)),
 .go (.move (.con (.slice none 0 0))) (.r (.l .o))]) (.seq (.run [.go (.move (.con (.slice none 0 0))) (.l (.r .o))]) (.seq (.seq (.run [.go (.move (.tmp .o)) (.r (.l (.l .o))),
 .go (.nilCheck (.tmp (.r (.l (.l .o))))) (.l (.r (.l .o))),
 .go (.fieldAddr 0 (.tmp (.l (.r (.l .o))))) (.r (.r (.l .o))),
 .go (.fieldAddr 0 (.tmp (.r (.r (.l .o))))) (.l (.l (.r .o))),
 .go (.load1 (.tmp (.l (.l (.r .o))))) (.r (.l (.r .o))),
 .go (.len 0 (.tmp (.r (.l (.r .o))))) (.l (.r (.r .o))),
 .go (.move (.con (.int .i64 (.ofNat 0)))) (.r (.r (.r .o)))]) (.block 0 (.loop (.seq (.run [.go (.bin .lss 3 (.tmp (.r (.r (.r .o)))) (.tmp (.l (.r (.r .o))))) (.l (.l (.l (.l .o))))]) (.seq (.cond (.tmp (.l (.l (.l (.l .o))))) .skip (.exit 0)) (.seq (.block 1 (.run [.go (.move (.tmp (.l (.r .o)))) (.r (.l (.l (.l .o)))),
 .go (.buildSlice 3 1 [(.int .i64 (.ofNat 0))] [(0,1,(.con (.int .i64 (.negSucc 0))))]) (.l (.r (.l (.l .o)))),
 .go (.append 3 1 8 (.tmp (.r (.l (.l (.l .o))))) (.tmp (.l (.r (.l (.l .o)))))) (.r (.r (.l (.l .o)))),
 .go (.move (.tmp (.r (.r (.l (.l .o)))))) (.l (.r .o))])) (.run [.go (.bin .add 3 (.tmp (.r (.r (.r .o)))) (.con (.int .i64 (.ofNat 1)))) (.l (.l (.r (.l .o)))),
 .go (.move (.tmp (.l (.l (.r (.l .o)))))) (.r (.r (.r .o)))]))))))) (.seq (.seq (.run [.go (.loadN 8 (.tmp (.l (.l .o)))) (.r (.l (.r (.l .o)))),
 .go (.move (.con (.int .i64 (.ofNat 0)))) (.l (.r (.r (.l .o))))]) (.block 2 (.loop (.seq (.run [.go (.bin .lss 3 (.tmp (.l (.r (.r (.l .o))))) (.con (.int .i64 (.ofNat 8)))) (.r (.r (.r (.l .o))))]) (.seq (.cond (.tmp (.r (.r (.r (.l .o))))) .skip (.exit 2)) (.seq (.block 3 (.seq (.run [.go (.move (.tmp (.l (.r (.r (.l .o)))))) (.l (.l (.l (.r .o)))),
 .go (.index 8 1 true (.tmp (.r (.l (.r (.l .o))))) (.tmp (.l (.r (.r (.l .o)))))) (.r (.l (.l (.r .o)))),
 .go (.move (.tmp (.l (.l (.l (.r .o)))))) (.r (.r .o)),
 .go (.move (.tmp (.r (.l (.l (.r .o)))))) (.l (.l (.l .o)))]) (.seq (.run [.go (.move (.tmp (.l (.l (.l .o))))) (.l (.r (.l (.r .o)))),
 .go (.bin .neq 3 (.tmp (.l (.r (.l (.r .o))))) (.con (.int .i64 (.negSucc 0)))) (.r (.r (.l (.r .o))))]) (.cond (.tmp (.r (.r (.l (.r .o))))) (.run [.go (.move (.tmp (.l (.r .o)))) (.l (.l (.r (.r .o)))),
 .go (.move (.tmp (.l (.l (.l .o))))) (.r (.l (.r (.r .o)))),
 .go (.move (.tmp (.r (.r .o)))) (.l (.r (.r (.r .o)))),
 .go (.indexAddr none 1 (.tmp (.l (.l (.r (.r .o))))) (.tmp (.r (.l (.r (.r .o)))))) (.r (.r (.r (.r .o)))),
 .un (.store 1 (.tmp (.r (.r (.r (.r .o))))) (.tmp (.l (.r (.r (.r .o))))))]) .skip)))) (.run [.go (.bin .add 3 (.tmp (.l (.r (.r (.l .o))))) (.con (.int .i64 (.ofNat 1)))) (.l (.l (.l (.l (.l .o))))),
 .go (.move (.tmp (.l (.l (.l (.l (.l .o))))))) (.l (.r (.r (.l .o))))]))))))) (.seq (.run [.go (.move (.tmp (.l (.r .o)))) (.r (.l (.l (.l (.l .o))))),
 .go (.move (.tmp (.r (.l (.l (.l (.l .o))))))) (.r (.l .o))]) .ret)))))
noncomputable def f20 : FFunc := .mk c20 (.n U (.n U (.n U (.n U (.n U (.n U .e .e) .e) (.n U .e .e)) (.n U (.n U .e .e) (.n U .e .e))) (.n U (.n U (.n U .e .e) (.n U .e .e)) (.n U (.n U .e .e) (.n U .e .e)))) (.n U (.n U (.n U (.n U (.n U .e .e) .e) (.n U .e .e)) (.n U (.n U .e .e) (.n U .e .e))) (.n U (.n U (.n U .e .e) (.n U .e .e)) (.n U (.n U .e .e) (.n U .e .e))))) [.o,(.l .o)] [.tmp (.r (.l .o))]
theorem e20 : @compF Tryz.prog (Gl.none Tryz.prog) Tryz.f20 2 = f20 := by kernel_rfl
theorem o20 : okF Tryz.prog Tryz.f20 = true := by kernel_rfl
theorem g20 : Tryz.prog.funcs[(20 : Nat)]? = some Tryz.f20 := by kernel_rfl
noncomputable def c21 : FCode := (.seq (.run [.go (.box 51 (.tmp .o)) (.l .o),
 .go (.alloc 60 [(.int .i64 (.ofNat 0)),(.int .i64 (.ofNat 0)),(.int .i64 (.ofNat 0)),(.int .i64 (.ofNat 0)),(.int .i64 (.ofNat 0)),(.int .i64 (.ofNat 0)),(.int .i64 (.ofNat 0)),(.int .i64 (.ofNat 0))]) (.r .o)]) (.seq (.run [.go (.call (.con (.func (.func 41) ⟨[]⟩ ⟨[]⟩)) []) (.l (.l (.l .o))),
 .go (.alloc 60 [(.int .i64 (.ofNat 0)),(.int .i64 (.ofNat 0)),(.int .i64 (.ofNat 0)),(.int .i64 (.ofNat 0)),(.int .i64 (.ofNat 0)),(.int .i64 (.ofNat 0)),(.int .i64 (.ofNat 0)),(.int .i64 (.ofNat 0))]) (.l (.l .o)),
 .un (.store 8 (.tmp (.l (.l .o))) (.tmp (.l (.l (.l .o)))))]) (.seq (.seq (.run [.go (.load1 (.tmp (.l .o))) (.r (.l (.l .o))),
 .go (.nilCheck (.tmp (.r (.l (.l .o))))) (.l (.r (.l .o))),
 .go (.fieldAddr 0 (.tmp (.l (.r (.l .o))))) (.r (.r (.l .o))),
 .go (.fieldAddr 0 (.tmp (.r (.r (.l .o))))) (.l (.l (.r .o))),
 .go (.load1 (.tmp (.l (.l (.r .o))))) (.r (.l (.r .o))),
 .go (.len 0 (.tmp (.r (.l (.r .o))))) (.l (.r (.r .o))),
 .go (.move (.con (.int .i64 (.ofNat 0)))) (.r (.r (.r .o)))]) (.block 0 (.loop (.seq (.run [.go (.bin .lss 3 (.tmp (.r (.r (.r .o)))) (.tmp (.l (.r (.r .o))))) (.l (.l (.l (.l .o))))]) (.seq (.cond (.tmp (.l (.l (.l (.l .o))))) .skip (.exit 0)) (.seq (.block 1 (.seq (.run [.go (.move (.tmp (.r (.r (.r .o))))) (.r (.l (.l (.l .o)))),
 .go (.move (.tmp (.r (.l (.l (.l .o)))))) (.r (.l .o))]) (.seq (.run [.go (.alloc 79 [(.bool false),(.bool false),(.bool false),(.bool false),(.bool false),(.bool false),(.bool false),(.bool false)]) (.l (.r .o))]) (.seq (.run [.go (.alloc 92 [.nilFunc]) (.r (.r .o))]) (.seq (.run [.go (.makeFunc 42 [] [(.tmp (.l .o)),(.tmp (.l (.r .o))),(.tmp (.l (.l .o))),(.tmp (.r (.r .o)))]) (.l (.r (.l (.l .o)))),
 .un (.store 1 (.tmp (.r (.r .o))) (.tmp (.l (.r (.l (.l .o))))))]) (.run [.go (.load1 (.tmp (.r (.r .o)))) (.r (.r (.l (.l .o)))),
 .go (.move (.tmp (.r (.l .o)))) (.l (.l (.r (.l .o)))),
 .go (.call (.tmp (.r (.r (.l (.l .o))))) [(.tmp (.l (.l (.r (.l .o)))))]) (.r (.l (.r (.l .o))))])))))) (.run [.go (.bin .add 3 (.tmp (.r (.r (.r .o)))) (.con (.int .i64 (.ofNat 1)))) (.l (.r (.r (.l .o)))),
 .go (.move (.tmp (.l (.r (.r (.l .o)))))) (.r (.r (.r .o)))]))))))) (.seq (.run [.go (.loadN 8 (.tmp (.l (.l .o)))) (.r (.r (.r (.l .o)))),
 .un (.store 8 (.tmp (.r .o)) (.tmp (.r (.r (.r (.l .o))))))]) .ret))))
noncomputable def f21 : FFunc := .mk c21 (.n U (.n U (.n U (.n U (.n U .e .e) .e) (.n U (.n U .e .e) .e)) (.n U (.n U (.n U .e .e) .e) (.n U (.n U .e .e) .e))) (.n U (.n U (.n U (.n U .e .e) .e) (.n U (.n U .e .e) .e)) (.n U (.n U (.n U .e .e) .e) (.n U (.n U .e .e) .e)))) [.o] [.many (.r .o) 8]
theorem e21 : @compF Tryz.prog (Gl.none Tryz.prog) Tryz.f21 1 = f21 := by kernel_rfl
theorem o21 : okF Tryz.prog Tryz.f21 = true := by kernel_rfl
theorem g21 : Tryz.prog.funcs[(21 : Nat)]? = some Tryz.f21 := by kernel_rfl
noncomputable def c22 : FCode := (.seq (.run [.go (.box 63 (.tmp (.l .o))) (.l (.l .o)),
 .go (.move (.con (.slice none 0 0))) (.r (.l .o))]) (.seq (.run [.go (.alloc 34 [(.slice none 0 0)]) (.l (.r .o))]) (.seq (.seq (.run [.go (.move (.tmp .o)) (.l (.r (.l .o))),
 .go (.nilCheck (.tmp (.l (.r (.l .o))))) (.r (.r (.l .o))),
 .go (.fieldAddr 0 (.tmp (.r (.r (.l .o))))) (.l (.l (.r .o))),
 .go (.fieldAddr 0 (.tmp (.l (.l (.r .o))))) (.r (.l (.r .o))),
 .go (.load1 (.tmp (.r (.l (.r .o))))) (.l (.r (.r .o))),
 .go (.len 0 (.tmp (.l (.r (.r .o))))) (.r (.r (.r .o))),
 .go (.move (.con (.int .i64 (.ofNat 0)))) (.l (.l (.l (.l .o))))]) (.block 0 (.loop (.seq (.run [.go (.bin .lss 3 (.tmp (.l (.l (.l (.l .o))))) (.tmp (.r (.r (.r .o))))) (.r (.l (.l (.l .o))))]) (.seq (.cond (.tmp (.r (.l (.l (.l .o))))) .skip (.exit 0)) (.seq (.block 1 (.seq (.run [.go (.move (.tmp (.l (.l (.l (.l .o)))))) (.l (.r (.l (.l .o)))),
 .go (.alloc 3 [(.int .i64 (.ofNat 0))]) (.r (.r .o)),
 .un (.store 1 (.tmp (.r (.r .o))) (.tmp (.l (.r (.l (.l .o))))))]) (.seq (.run [.go (.move (.tmp .o)) (.r (.r (.l (.l .o)))),
 .go (.load1 (.tmp (.r (.r .o)))) (.l (.l (.r (.l .o)))),
 .go (.call (.con (.func (.func 43) ⟨[]⟩ ⟨[]⟩)) [(.tmp (.r (.r (.l (.l .o))))),(.tmp (.l (.l (.r (.l .o)))))]) (.r (.l (.r (.l .o))))]) (.block 2 (.rangeFunc (.tmp (.r (.l (.r (.l .o))))) [(.l (.r (.r (.l .o))))] (rfA Tryz.f22 0) (rfB Tryz.f22 0) (.run [.go (.move (.tmp (.l (.r (.r (.l .o)))))) (.l (.l (.l .o)))]) (.block 3 (.seq (.run [.go (.load1 (.tmp (.r (.r .o)))) (.r (.r (.r (.l .o)))),
 .go (.move (.tmp (.l (.l (.l .o))))) (.l (.l (.l (.r .o)))),
 .go (.build [(.int .i64 (.ofNat 0)),(.int .i64 (.ofNat 0))] [(0,1,(.tmp (.r (.r (.r (.l .o)))))),(1,1,(.tmp (.l (.l (.l (.r .o))))))]) (.r (.l (.l (.r .o)))),
 .go (.alloc 70 [(.int .i64 (.ofNat 0)),(.int .i64 (.ofNat 0))]) (.r (.l (.l .o))),
 .un (.store 2 (.tmp (.r (.l (.l .o)))) (.tmp (.r (.l (.l (.r .o))))))]) (.seq (.run [.go (.load1 (.tmp (.l (.l .o)))) (.l (.r (.l (.r .o)))),
 .go (.loadN 2 (.tmp (.r (.l (.l .o))))) (.r (.r (.l (.r .o)))),
 .go (.call (.tmp (.l (.r (.l (.r .o))))) [(.tmp (.r (.r (.l (.r .o)))))]) (.l (.l (.r (.r .o))))]) (.cond (.tmp (.l (.l (.r (.r .o))))) (.run [.go (.load1 (.tmp (.l (.r .o)))) (.r (.l (.r (.r .o)))),
 .go (.loadN 2 (.tmp (.r (.l (.l .o))))) (.l (.r (.r (.r .o)))),
 .go (.buildSlice 70 1 [(.int .i64 (.ofNat 0)),(.int .i64 (.ofNat 0))] [(0,2,(.tmp (.l (.r (.r (.r .o))))))]) (.r (.r (.r (.r .o)))),
 .go (.append 70 2 16 (.tmp (.r (.l (.r (.r .o))))) (.tmp (.r (.r (.r (.r .o)))))) (.l (.l (.l (.l (.l .o))))),
 .un (.store 1 (.tmp (.l (.r .o))) (.tmp (.l (.l (.l (.l (.l .o)))))))]) .skip))))))))) (.run [.go (.bin .add 3 (.tmp (.l (.l (.l (.l .o))))) (.con (.int .i64 (.ofNat 1)))) (.r (.l (.l (.l (.l .o))))),
 .go (.move (.tmp (.r (.l (.l (.l (.l .o))))))) (.l (.l (.l (.l .o))))]))))))) (.seq (.run [.go (.load1 (.tmp (.l (.r .o)))) (.l (.r (.l (.l (.l .o))))),
 .go (.move (.tmp (.l (.r (.l (.l (.l .o))))))) (.r (.l .o))]) .ret))))
noncomputable def f22 : FFunc := .mk c22 (.n U (.n U (.n U (.n U (.n U (.n U .e .e) .e) (.n U .e .e)) (.n U (.n U .e .e) (.n U .e .e))) (.n U (.n U (.n U (.n U .e .e) .e) (.n U .e .e)) (.n U (.n U .e .e) (.n U .e .e)))) (.n U (.n U (.n U (.n U (.n U .e .e) .e) (.n U .e .e)) (.n U (.n U .e .e) (.n U .e .e))) (.n U (.n U (.n U .e .e) (.n U .e .e)) (.n U (.n U .e .e) (.n U .e .e))))) [.o,(.l .o)] [.tmp (.r (.l .o))]
theorem e22 : @compF Tryz.prog (Gl.none Tryz.prog) Tryz.f22 2 = f22 := by kernel_rfl
theorem o22 : okF Tryz.prog Tryz.f22 = true := by kernel_rfl
theorem g22 : Tryz.prog.funcs[(22 : Nat)]? = some Tryz.f22 := by kernel_rfl
noncomputable def c23 : FCode := (.seq (.run [.go (.box 70 (.tmp (.l .o))) (.l (.l .o)),
 .go (.move (.con (.bool false))) (.r (.l .o))]) (.seq (.run [.go (.move (.tmp .o)) (.l (.r .o)),
 .go (.loadN 2 (.tmp (.l (.l .o)))) (.r (.r .o)),
 .go (.call (.con (.func (.func 31) ⟨[]⟩ ⟨[]⟩)) [(.tmp (.l (.r .o))),(.tmp (.r (.r .o)))]) (.l (.l (.l .o))),
 .go (.bin .eql 3 (.tmp (.l (.l (.l .o)))) (.con (.int .i64 (.ofNat 0)))) (.r (.l (.l .o))),
 .go (.move (.tmp (.r (.l (.l .o))))) (.r (.l .o))]) .ret))
noncomputable def f23 : FFunc := .mk c23 (.n U (.n U (.n U (.n U .e .e) .e) (.n U .e .e)) (.n U (.n U (.n U .e .e) .e) (.n U .e .e))) [.o,(.l .o)] [.tmp (.r (.l .o))]
theorem e23 : @compF Tryz.prog (Gl.none Tryz.prog) Tryz.f23 2 = f23 := by kernel_rfl
theorem o23 : okF Tryz.prog Tryz.f23 = true := by kernel_rfl
theorem g23 : Tryz.prog.funcs[(23 : Nat)]? = some Tryz.f23 := by kernel_rfl
noncomputable def c24 : FCode := (.seq (.run [.go (.box 60 (.tmp (.l .o))) (.l (.l .o)),
 .go (.move (.con (.bool false))) (.r (.l .o))]) (.scope (.seq (.run [.go (.move (.con (.bool false))) (.l (.r .o))]) (.seq .skip (.seq (.seq (.run [.go (.loadN 8 (.tmp (.l (.l .o)))) (.r (.l (.l .o))),
 .go (.move (.con (.int .i64 (.ofNat 0)))) (.l (.r (.l .o)))]) (.block 0 (.loop (.seq (.run [.go (.bin .lss 3 (.tmp (.l (.r (.l .o)))) (.con (.int .i64 (.ofNat 8)))) (.r (.r (.l .o)))]) (.seq (.cond (.tmp (.r (.r (.l .o)))) .skip (.exit 0)) (.seq (.block 1 (.seq (.run [.go (.move (.tmp (.l (.r (.l .o))))) (.l (.l (.r .o))),
 .go (.index 8 1 true (.tmp (.r (.l (.l .o)))) (.tmp (.l (.r (.l .o))))) (.r (.l (.r .o))),
 .go (.move (.tmp (.l (.l (.r .o))))) (.r (.r .o)),
 .go (.move (.tmp (.r (.l (.r .o))))) (.l (.l (.l .o)))]) (.seq (.run [.go (.move (.tmp (.l (.l (.l .o))))) (.l (.r (.r .o))),
 .go (.bin .neq 3 (.tmp (.l (.r (.r .o)))) (.con (.int .i64 (.negSucc 0)))) (.r (.r (.r .o))),
 .go (.move (.tmp (.r (.r (.r .o))))) (.l (.l (.l (.l .o)))),
 .gd (.l (.l (.l (.l .o)))) true (.move (.tmp .o)) (.r (.l (.l (.l .o)))),
 .gd (.l (.l (.l (.l .o)))) true (.move (.tmp (.l (.l (.l .o))))) (.l (.r (.l (.l .o)))),
 .gd (.l (.l (.l (.l .o)))) true (.move (.tmp (.r (.r .o)))) (.r (.r (.l (.l .o)))),
 .gd (.l (.l (.l (.l .o)))) true (.build [(.int .i64 (.ofNat 0)),(.int .i64 (.ofNat 0))] [(0,1,(.tmp (.l (.r (.l (.l .o)))))),(1,1,(.tmp (.r (.r (.l (.l .o))))))]) (.l (.l (.r (.l .o)))),
 .gd (.l (.l (.l (.l .o)))) true (.call (.con (.func (.func 44) ⟨[]⟩ ⟨[]⟩)) [(.tmp (.r (.l (.l (.l .o))))),(.tmp (.l (.l (.r (.l .o)))))]) (.r (.l (.r (.l .o)))),
 .gd (.l (.l (.l (.l .o)))) true (.un .not (.tmp (.r (.l (.r (.l .o)))))) (.l (.r (.r (.l .o)))),
 .go (.pick (.tmp (.l (.l (.l (.l .o))))) (.tmp (.l (.r (.r (.l .o))))) (.con (.bool false))) (.r (.r (.r (.l .o))))]) (.cond (.tmp (.r (.r (.r (.l .o))))) (.seq (.run [.go (.move (.con (.bool true))) (.l (.r .o))]) (.exit 0)) .skip)))) (.run [.go (.bin .add 3 (.tmp (.l (.r (.l .o)))) (.con (.int .i64 (.ofNat 1)))) (.l (.l (.l (.r .o)))),
 .go (.move (.tmp (.l (.l (.l (.r .o)))))) (.l (.r (.l .o)))]))))))) (.seq (.run [.go (.move (.tmp (.l (.r .o)))) (.r (.l (.l (.r .o)))),
 .go (.move (.tmp (.r (.l (.l (.r .o)))))) (.r (.l .o))]) .ret))))))
noncomputable def f24 : FFunc := .mk c24 (.n U (.n U (.n U (.n U (.n U .e .e) (.n U .e .e)) (.n U (.n U .e .e) .e)) (.n U (.n U (.n U .e .e) .e) (.n U (.n U .e .e) .e))) (.n U (.n U (.n U (.n U .e .e) (.n U .e .e)) (.n U (.n U .e .e) .e)) (.n U (.n U (.n U .e .e) .e) (.n U (.n U .e .e) .e)))) [.o,(.l .o)] [.tmp (.r (.l .o))]
theorem e24 : @compF Tryz.prog (Gl.none Tryz.prog) Tryz.f24 2 = f24 := by kernel_rfl
theorem o24 : okF Tryz.prog Tryz.f24 = true := by kernel_rfl
theorem g24 : Tryz.prog.funcs[(24 : Nat)]? = some Tryz.f24 := by kernel_rfl
noncomputable def c25 : FCode := (.seq (.run [.go (.move (.con (.bool false))) (.r (.l .o))]) (.seq (.seq (.run [.go (.move (.tmp (.l .o))) (.r (.l (.l .o))),
 .go (.len 0 (.tmp (.r (.l (.l .o))))) (.l (.r (.l .o))),
 .go (.move (.tmp .o)) (.r (.r (.l .o))),
 .go (.nilCheck (.tmp (.r (.r (.l .o))))) (.l (.l (.r .o))),
 .go (.fieldAddr 0 (.tmp (.l (.l (.r .o))))) (.r (.l (.r .o))),
 .go (.fieldAddr 0 (.tmp (.r (.l (.r .o))))) (.l (.r (.r .o))),
 .go (.load1 (.tmp (.l (.r (.r .o))))) (.r (.r (.r .o))),
 .go (.len 0 (.tmp (.r (.r (.r .o))))) (.l (.l (.l (.l .o)))),
 .go (.bin .neq 3 (.tmp (.l (.r (.l .o)))) (.tmp (.l (.l (.l (.l .o)))))) (.r (.l (.l (.l .o))))]) (.cond (.tmp (.r (.l (.l (.l .o))))) (.seq (.run [.go (.move (.con (.bool false))) (.r (.l .o))]) .ret) .skip)) (.seq (.run [.go (.alloc 79 [(.bool false),(.bool false),(.bool false),(.bool false),(.bool false),(.bool false),(.bool false),(.bool false)]) (.l (.r .o))]) (.seq (.seq (.run [.go (.move (.tmp (.l .o))) (.l (.r (.l (.l .o)))),
 .go (.len 0 (.tmp (.l (.r (.l (.l .o)))))) (.r (.r (.l (.l .o)))),
 .go (.move (.con (.int .i64 (.ofNat 0)))) (.l (.l (.r (.l .o))))]) (.block 0 (.loop (.seq (.run [.go (.bin .lss 3 (.tmp (.l (.l (.r (.l .o))))) (.tmp (.r (.r (.l (.l .o)))))) (.r (.l (.r (.l .o))))]) (.seq (.cond (.tmp (.r (.l (.r (.l .o))))) .skip (.exit 0)) (.seq (.block 1 (.seq (.run [.go (.move (.tmp (.l (.l (.r (.l .o)))))) (.l (.r (.r (.l .o)))),
 .go (.indexAddr none 1 (.tmp (.l (.r (.l (.l .o))))) (.tmp (.l (.l (.r (.l .o)))))) (.r (.r (.r (.l .o)))),
 .go (.load1 (.tmp (.r (.r (.r (.l .o)))))) (.l (.l (.l (.r .o)))),
 .go (.move (.tmp (.l (.r (.r (.l .o)))))) (.r (.r .o)),
 .go (.move (.tmp (.l (.l (.l (.r .o)))))) (.l (.l (.l .o)))]) (.seq (.seq (.run [.go (.move (.tmp (.l (.l (.l .o))))) (.r (.l (.l (.r .o)))),
 .go (.bin .eql 3 (.tmp (.r (.l (.l (.r .o))))) (.con (.int .i64 (.negSucc 0)))) (.l (.r (.l (.r .o))))]) (.cond (.tmp (.l (.r (.l (.r .o))))) (.exit 1) .skip)) (.seq (.seq (.run [.go (.move (.tmp .o)) (.r (.r (.l (.r .o)))),
 .go (.move (.tmp (.r (.r .o)))) (.l (.l (.r (.r .o)))),
 .go (.move (.tmp (.l (.l (.l .o))))) (.r (.l (.r (.r .o)))),
 .go (.call (.con (.func (.func 29) ⟨[]⟩ ⟨[]⟩)) [(.tmp (.r (.r (.l (.r .o))))),(.tmp (.l (.l (.r (.r .o))))),(.tmp (.r (.l (.r (.r .o)))))]) (.l (.r (.r (.r .o)))),
 .go (.un .not (.tmp (.l (.r (.r (.r .o)))))) (.r (.r (.r (.r .o)))),
 .go (.move (.tmp (.r (.r (.r (.r .o)))))) (.l (.l (.l (.l (.l .o))))),
 .gd (.l (.l (.l (.l (.l .o))))) false (.move (.tmp .o)) (.r (.l (.l (.l (.l .o))))),
 .gd (.l (.l (.l (.l (.l .o))))) false (.move (.tmp (.r (.r .o)))) (.l (.r (.l (.l (.l .o))))),
 .gd (.l (.l (.l (.l (.l .o))))) false (.move (.tmp (.l (.l (.l .o))))) (.r (.r (.l (.l (.l .o))))),
 .gd (.l (.l (.l (.l (.l .o))))) false (.build [(.int .i64 (.ofNat 0)),(.int .i64 (.ofNat 0))] [(0,1,(.tmp (.l (.r (.l (.l (.l .o))))))),(1,1,(.tmp (.r (.r (.l (.l (.l .o)))))))]) (.l (.l (.r (.l (.l .o))))),
 .gd (.l (.l (.l (.l (.l .o))))) false (.call (.con (.func (.func 30) ⟨[]⟩ ⟨[]⟩)) [(.tmp (.r (.l (.l (.l (.l .o)))))),(.tmp (.l (.l (.r (.l (.l .o))))))]) (.r (.l (.r (.l (.l .o))))),
 .gd (.l (.l (.l (.l (.l .o))))) false (.un .not (.tmp (.r (.l (.r (.l (.l .o))))))) (.l (.r (.r (.l (.l .o))))),
 .go (.pick (.tmp (.l (.l (.l (.l (.l .o)))))) (.con (.bool true)) (.tmp (.l (.r (.r (.l (.l .o))))))) (.r (.r (.r (.l (.l .o))))),
 .go (.move (.tmp (.r (.r (.r (.l (.l .o))))))) (.l (.l (.l (.r (.l .o))))),
 .gd (.l (.l (.l (.r (.l .o))))) false (.move (.tmp (.l (.l (.l .o))))) (.r (.l (.l (.r (.l .o))))),
 .gd (.l (.l (.l (.r (.l .o))))) false (.indexAddr (some 8) 1 (.tmp (.l (.r .o))) (.tmp (.r (.l (.l (.r (.l .o))))))) (.l (.r (.l (.r (.l .o))))),
 .gd (.l (.l (.l (.r (.l .o))))) false (.load1 (.tmp (.l (.r (.l (.r (.l .o))))))) (.r (.r (.l (.r (.l .o))))),
 .go (.pick (.tmp (.l (.l (.l (.r (.l .o)))))) (.con (.bool true)) (.tmp (.r (.r (.l (.r (.l .o))))))) (.l (.l (.r (.r (.l .o)))))]) (.cond (.tmp (.l (.l (.r (.r (.l .o)))))) (.seq (.run [.go (.move (.con (.bool false))) (.r (.l .o))]) .ret) .skip)) (.run [.go (.move (.tmp (.l (.l (.l .o))))) (.r (.l (.r (.r (.l .o))))),
 .go (.indexAddr (some 8) 1 (.tmp (.l (.r .o))) (.tmp (.r (.l (.r (.r (.l .o))))))) (.l (.r (.r (.r (.l .o))))),
 .un (.store 1 (.tmp (.l (.r (.r (.r (.l .o)))))) (.con (.bool true)))]))))) (.run [.go (.bin .add 3 (.tmp (.l (.l (.r (.l .o))))) (.con (.int .i64 (.ofNat 1)))) (.r (.r (.r (.r (.l .o))))),
 .go (.move (.tmp (.r (.r (.r (.r (.l .o))))))) (.l (.l (.r (.l .o))))]))))))) (.seq (.run [.go (.move (.con (.bool true))) (.r (.l .o))]) .ret)))))
noncomputable def f25 : FFunc := .mk c25 (.n U (.n U (.n U (.n U (.n U (.n U .e .e) .e) (.n U (.n U .e .e) .e)) (.n U (.n U (.n U .e .e) .e) (.n U (.n U .e .e) .e))) (.n U (.n U (.n U (.n U .e .e) .e) (.n U (.n U .e .e) .e)) (.n U (.n U (.n U .e .e) .e) (.n U (.n U .e .e) .e)))) (.n U (.n U (.n U (.n U (.n U .e .e) .e) (.n U (.n U .e .e) .e)) (.n U (.n U (.n U .e .e) .e) (.n U (.n U .e .e) .e))) (.n U (.n U (.n U (.n U .e .e) .e) (.n U (.n U .e .e) .e)) (.n U (.n U (.n U .e .e) .e) (.n U (.n U .e .e) .e))))) [.o,(.l .o)] [.tmp (.r (.l .o))]
theorem e25 : @compF Tryz.prog (Gl.none Tryz.prog) Tryz.f25 2 = f25 := by kernel_rfl
theorem o25 : okF Tryz.prog Tryz.f25 = true := by kernel_rfl
theorem g25 : Tryz.prog.funcs[(25 : Nat)]? = some Tryz.f25 := by kernel_rfl
noncomputable def c26 : FCode := (.seq (.run [.go (.move (.con (.int .i64 (.ofNat 0)))) (.r .o)]) (.seq (.run [.go (.move (.con (.int .i64 (.ofNat 0)))) (.l (.l .o))]) (.seq (.seq (.run [.go (.move (.tmp .o)) (.r (.r .o)),
 .go (.len 0 (.tmp (.r (.r .o)))) (.l (.l (.l .o))),
 .go (.move (.con (.int .i64 (.ofNat 0)))) (.r (.l (.l .o)))]) (.block 0 (.loop (.seq (.run [.go (.bin .lss 3 (.tmp (.r (.l (.l .o)))) (.tmp (.l (.l (.l .o))))) (.l (.r (.l .o)))]) (.seq (.cond (.tmp (.l (.r (.l .o)))) .skip (.exit 0)) (.seq (.block 1 (.seq (.run [.go (.indexAddr none 1 (.tmp (.r (.r .o))) (.tmp (.r (.l (.l .o))))) (.r (.r (.l .o))),
 .go (.load1 (.tmp (.r (.r (.l .o))))) (.l (.l (.r .o))),
 .go (.move (.tmp (.l (.l (.r .o))))) (.l (.r .o))]) (.seq (.run [.go (.move (.tmp (.l (.r .o)))) (.r (.l (.r .o))),
 .go (.bin .neq 3 (.tmp (.r (.l (.r .o)))) (.con (.int .i64 (.negSucc 0)))) (.l (.r (.r .o)))]) (.cond (.tmp (.l (.r (.r .o)))) (.run [.go (.move (.tmp (.l (.l .o)))) (.r (.r (.r .o))),
 .go (.bin .add 3 (.tmp (.r (.r (.r .o)))) (.con (.int .i64 (.ofNat 1)))) (.l (.l (.l (.l .o)))),
 .go (.move (.tmp (.l (.l (.l (.l .o)))))) (.l (.l .o))]) .skip)))) (.run [.go (.bin .add 3 (.tmp (.r (.l (.l .o)))) (.con (.int .i64 (.ofNat 1)))) (.r (.l (.l (.l .o)))),
 .go (.move (.tmp (.r (.l (.l (.l .o)))))) (.r (.l (.l .o)))]))))))) (.seq (.run [.go (.move (.tmp (.l (.l .o)))) (.l (.r (.l (.l .o)))),
 .go (.move (.tmp (.l (.r (.l (.l .o)))))) (.r .o)]) .ret))))
noncomputable def f26 : FFunc := .mk c26 (.n U (.n U (.n U (.n U (.n U .e .e) .e) (.n U .e .e)) (.n U (.n U (.n U .e .e) .e) (.n U .e .e))) (.n U (.n U (.n U (.n U .e .e) .e) (.n U .e .e)) (.n U (.n U .e .e) (.n U .e .e)))) [.o] [.tmp (.r .o)]
theorem e26 : @compF Tryz.prog (Gl.none Tryz.prog) Tryz.f26 1 = f26 := by kernel_rfl
theorem o26 : okF Tryz.prog Tryz.f26 = true := by kernel_rfl
theorem g26 : Tryz.prog.funcs[(26 : Nat)]? = some Tryz.f26 := by kernel_rfl
noncomputable def c27 : FCode := (.seq (.run [.go (.box 31 (.tmp (.l .o))) (.r (.l .o)),
 .go (.box 31 (.tmp (.r .o))) (.l (.r .o)),
 .go (.move (.con (.bool false))) (.r (.r .o))]) (.seq (.seq (.draw 22 [.go (.load1 (.tmp (.r (.l .o)))) (.r (.l (.l .o))),
 .go (.move (.tmp .o)) (.l (.r (.l .o))),
 .go (.nilCheck (.tmp (.l (.r (.l .o))))) (.r (.r (.l .o))),
 .go (.fieldAddr 0 (.tmp (.r (.r (.l .o))))) (.l (.l (.r .o))),
 .go (.fieldAddr 0 (.tmp (.l (.l (.r .o))))) (.r (.l (.r .o))),
 .go (.load1 (.tmp (.r (.l (.r .o))))) (.l (.r (.r .o))),
 .go (.len 0 (.tmp (.l (.r (.r .o))))) (.r (.r (.r .o))),
 .go (.bin .sub 3 (.tmp (.r (.r (.r .o)))) (.con (.int .i64 (.ofNat 1)))) (.l (.l (.l (.l .o)))),
 .go (.call (.con (.func (.func 45) ⟨[]⟩ ⟨[]⟩)) [(.tmp (.r (.l (.l .o)))),(.tmp (.l (.l (.l (.l .o)))))]) (.r (.l (.l (.l .o)))),
 .go (.un .not (.tmp (.r (.l (.l (.l .o)))))) (.l (.r (.l (.l .o)))),
 .go (.move (.tmp (.l (.r (.l (.l .o)))))) (.r (.r (.l (.l .o)))),
 .gd (.r (.r (.l (.l .o)))) false (.load1 (.tmp (.l (.r .o)))) (.l (.l (.r (.l .o)))),
 .gd (.r (.r (.l (.l .o)))) false (.move (.tmp .o)) (.r (.l (.r (.l .o)))),
 .gd (.r (.r (.l (.l .o)))) false (.nilCheck (.tmp (.r (.l (.r (.l .o)))))) (.l (.r (.r (.l .o)))),
 .gd (.r (.r (.l (.l .o)))) false (.fieldAddr 0 (.tmp (.l (.r (.r (.l .o)))))) (.r (.r (.r (.l .o)))),
 .gd (.r (.r (.l (.l .o)))) false (.fieldAddr 1 (.tmp (.r (.r (.r (.l .o)))))) (.l (.l (.l (.r .o)))),
 .gd (.r (.r (.l (.l .o)))) false (.load1 (.tmp (.l (.l (.l (.r .o)))))) (.r (.l (.l (.r .o)))),
 .gd (.r (.r (.l (.l .o)))) false (.len 0 (.tmp (.r (.l (.l (.r .o)))))) (.l (.r (.l (.r .o)))),
 .gd (.r (.r (.l (.l .o)))) false (.bin .sub 3 (.tmp (.l (.r (.l (.r .o))))) (.con (.int .i64 (.ofNat 1)))) (.r (.r (.l (.r .o)))),
 .gd (.r (.r (.l (.l .o)))) false (.call (.con (.func (.func 45) ⟨[]⟩ ⟨[]⟩)) [(.tmp (.l (.l (.r (.l .o))))),(.tmp (.r (.r (.l (.r .o)))))]) (.l (.l (.r (.r .o)))),
 .gd (.r (.r (.l (.l .o)))) false (.un .not (.tmp (.l (.l (.r (.r .o)))))) (.r (.l (.r (.r .o)))),
 .go (.pick (.tmp (.r (.r (.l (.l .o))))) (.con (.bool true)) (.tmp (.r (.l (.r (.r .o)))))) (.l (.r (.r (.r .o))))] [.ok,.ok,.ok,.ok,.ok,.ok,.ok,.ok,.ok,.ok,.ok,.ok,.ok,.ok,.ok,.ok,.ok,.ok,.ok,.ok,.ok,.ok]) (.cond (.tmp (.l (.r (.r (.r .o))))) (.seq (.run [.go (.move (.con (.bool false))) (.r (.r .o))]) .ret) .skip)) (.seq (.run [.go (.makeFunc 46 [] [(.tmp (.r (.l .o))),(.tmp (.l (.r .o)))]) (.r (.r (.r (.r .o)))),
 .go (.move (.tmp (.r (.r (.r (.r .o)))))) (.l (.l (.l .o)))]) (.seq (.run [.go (.move (.tmp .o)) (.l (.l (.l (.l (.l .o))))),
 .go (.move (.tmp .o)) (.r (.l (.l (.l (.l .o))))),
 .go (.makeFunc 30 [(.tmp (.r (.l (.l (.l (.l .o))))))] []) (.l (.r (.l (.l (.l .o))))),
 .go (.call (.con (.func (.func 22) ⟨[]⟩ ⟨[]⟩)) [(.tmp (.l (.l (.l (.l (.l .o)))))),(.tmp (.l (.r (.l (.l (.l .o))))))]) (.r (.r (.l (.l (.l .o))))),
 .go (.move (.tmp (.l (.l (.l .o))))) (.l (.l (.r (.l (.l .o))))),
 .go (.call (.con (.func (.func 48) ⟨[]⟩ ⟨[]⟩)) [(.tmp (.r (.r (.l (.l (.l .o)))))),(.tmp (.l (.l (.r (.l (.l .o))))))]) (.r (.l (.r (.l (.l .o))))),
 .go (.move (.tmp (.r (.l (.r (.l (.l .o))))))) (.r (.r .o))]) .ret))))
noncomputable def f27 : FFunc := .mk c27 (.n U (.n U (.n U (.n U (.n U (.n U .e .e) .e) (.n U .e .e)) (.n U (.n U (.n U .e .e) .e) (.n U .e .e))) (.n U (.n U (.n U (.n U .e .e) .e) (.n U .e .e)) (.n U (.n U .e .e) (.n U .e .e)))) (.n U (.n U (.n U (.n U (.n U .e .e) .e) (.n U .e .e)) (.n U (.n U (.n U .e .e) .e) (.n U .e .e))) (.n U (.n U (.n U (.n U .e .e) .e) (.n U .e .e)) (.n U (.n U .e .e) (.n U .e .e))))) [.o,(.l .o),(.r .o)] [.tmp (.r (.r .o))]
theorem e27 : @compF Tryz.prog (Gl.none Tryz.prog) Tryz.f27 3 = f27 := by kernel_rfl
theorem o27 : okF Tryz.prog Tryz.f27 = true := by kernel_rfl
theorem g27 : Tryz.prog.funcs[(27 : Nat)]? = some Tryz.f27 := by kernel_rfl
noncomputable def c28 : FCode := (.seq (.run [.go (.move (.con (.int .i64 (.ofNat 0)))) (.r .o)]) (.seq (.run [.go (.move (.con (.int .i64 (.ofNat 0)))) (.l (.l .o))]) (.seq (.seq (.run [.go (.move (.tmp .o)) (.r (.r .o)),
 .go (.len 0 (.tmp (.r (.r .o)))) (.l (.l (.l .o))),
 .go (.move (.con (.int .i64 (.ofNat 0)))) (.r (.l (.l .o)))]) (.block 0 (.loop (.seq (.run [.go (.bin .lss 3 (.tmp (.r (.l (.l .o)))) (.tmp (.l (.l (.l .o))))) (.l (.r (.l .o)))]) (.seq (.cond (.tmp (.l (.r (.l .o)))) .skip (.exit 0)) (.seq (.block 1 (.seq (.run [.go (.indexAddr none 1 (.tmp (.r (.r .o))) (.tmp (.r (.l (.l .o))))) (.r (.r (.l .o))),
 .go (.load1 (.tmp (.r (.r (.l .o))))) (.l (.l (.r .o))),
 .go (.move (.tmp (.l (.l (.r .o))))) (.l (.r .o))]) (.run [.go (.move (.tmp (.l (.l .o)))) (.r (.l (.r .o))),
 .go (.move (.tmp (.l (.r .o)))) (.l (.r (.r .o))),
 .go (.len 0 (.tmp (.l (.r (.r .o))))) (.r (.r (.r .o))),
 .go (.bin .add 3 (.tmp (.r (.l (.r .o)))) (.tmp (.r (.r (.r .o))))) (.l (.l (.l (.l .o)))),
 .go (.move (.tmp (.l (.l (.l (.l .o)))))) (.l (.l .o))]))) (.run [.go (.bin .add 3 (.tmp (.r (.l (.l .o)))) (.con (.int .i64 (.ofNat 1)))) (.r (.l (.l (.l .o)))),
 .go (.move (.tmp (.r (.l (.l (.l .o)))))) (.r (.l (.l .o)))]))))))) (.seq (.run [.go (.move (.tmp (.l (.l .o)))) (.l (.r (.l (.l .o)))),
 .go (.move (.tmp (.l (.r (.l (.l .o)))))) (.r .o)]) .ret))))
noncomputable def f28 : FFunc := .mk c28 (.n U (.n U (.n U (.n U (.n U .e .e) .e) (.n U .e .e)) (.n U (.n U (.n U .e .e) .e) (.n U .e .e))) (.n U (.n U (.n U (.n U .e .e) .e) (.n U .e .e)) (.n U (.n U .e .e) (.n U .e .e)))) [.o] [.tmp (.r .o)]
theorem e28 : @compF Tryz.prog (Gl.none Tryz.prog) Tryz.f28 1 = f28 := by kernel_rfl
theorem o28 : okF Tryz.prog Tryz.f28 = true := by kernel_rfl
theorem g28 : Tryz.prog.funcs[(28 : Nat)]? = some Tryz.f28 := by kernel_rfl
noncomputable def c29 : FCode := (.seq (.run [.go (.move (.con (.bool false))) (.r (.r .o))]) (.seq (.run [.go (.move (.tmp (.l .o))) (.l (.l (.l .o))),
 .go (.bin .leq 3 (.con (.int .i64 (.ofNat 0))) (.tmp (.l (.l (.l .o))))) (.r (.l (.l .o))),
 .go (.move (.tmp (.r (.l (.l .o))))) (.l (.r (.l .o))),
 .gd (.l (.r (.l .o))) true (.move (.tmp (.l .o))) (.r (.r (.l .o))),
 .gd (.l (.r (.l .o))) true (.move (.tmp .o)) (.l (.l (.r .o))),
 .gd (.l (.r (.l .o))) true (.nilCheck (.tmp (.l (.l (.r .o))))) (.r (.l (.r .o))),
 .gd (.l (.r (.l .o))) true (.fieldAddr 0 (.tmp (.r (.l (.r .o))))) (.l (.r (.r .o))),
 .gd (.l (.r (.l .o))) true (.fieldAddr 0 (.tmp (.l (.r (.r .o))))) (.r (.r (.r .o))),
 .gd (.l (.r (.l .o))) true (.load1 (.tmp (.r (.r (.r .o))))) (.l (.l (.l (.l .o)))),
 .gd (.l (.r (.l .o))) true (.len 0 (.tmp (.l (.l (.l (.l .o)))))) (.r (.l (.l (.l .o)))),
 .gd (.l (.r (.l .o))) true (.bin .lss 3 (.tmp (.r (.r (.l .o)))) (.tmp (.r (.l (.l (.l .o)))))) (.l (.r (.l (.l .o)))),
 .go (.pick (.tmp (.l (.r (.l .o)))) (.tmp (.l (.r (.l (.l .o))))) (.con (.bool false))) (.r (.r (.l (.l .o)))),
 .go (.move (.tmp (.r (.r (.l (.l .o)))))) (.l (.l (.r (.l .o)))),
 .gd (.l (.l (.r (.l .o)))) true (.move (.tmp (.r .o))) (.r (.l (.r (.l .o)))),
 .gd (.l (.l (.r (.l .o)))) true (.bin .leq 3 (.con (.int .i64 (.ofNat 0))) (.tmp (.r (.l (.r (.l .o)))))) (.l (.r (.r (.l .o)))),
 .go (.pick (.tmp (.l (.l (.r (.l .o))))) (.tmp (.l (.r (.r (.l .o))))) (.con (.bool false))) (.r (.r (.r (.l .o)))),
 .go (.move (.tmp (.r (.r (.r (.l .o)))))) (.l (.l (.l (.r .o)))),
 .gd (.l (.l (.l (.r .o)))) true (.move (.tmp (.r .o))) (.r (.l (.l (.r .o)))),
 .gd (.l (.l (.l (.r .o)))) true (.move (.tmp .o)) (.l (.r (.l (.r .o)))),
 .gd (.l (.l (.l (.r .o)))) true (.nilCheck (.tmp (.l (.r (.l (.r .o)))))) (.r (.r (.l (.r .o)))),
 .gd (.l (.l (.l (.r .o)))) true (.fieldAddr 0 (.tmp (.r (.r (.l (.r .o)))))) (.l (.l (.r (.r .o)))),
 .gd (.l (.l (.l (.r .o)))) true (.fieldAddr 1 (.tmp (.l (.l (.r (.r .o)))))) (.r (.l (.r (.r .o)))),
 .gd (.l (.l (.l (.r .o)))) true (.load1 (.tmp (.r (.l (.r (.r .o)))))) (.l (.r (.r (.r .o)))),
 .gd (.l (.l (.l (.r .o)))) true (.len 0 (.tmp (.l (.r (.r (.r .o)))))) (.r (.r (.r (.r .o)))),
 .gd (.l (.l (.l (.r .o)))) true (.bin .lss 3 (.tmp (.r (.l (.l (.r .o))))) (.tmp (.r (.r (.r (.r .o)))))) (.l (.l (.l (.l (.l .o))))),
 .go (.pick (.tmp (.l (.l (.l (.r .o))))) (.tmp (.l (.l (.l (.l (.l .o)))))) (.con (.bool false))) (.r (.l (.l (.l (.l .o))))),
 .go (.move (.tmp (.r (.l (.l (.l (.l .o))))))) (.r (.r .o))]) .ret))
noncomputable def f29 : FFunc := .mk c29 (.n U (.n U (.n U (.n U (.n U (.n U .e .e) .e) (.n U .e .e)) (.n U (.n U .e .e) (.n U .e .e))) (.n U (.n U (.n U .e .e) (.n U .e .e)) (.n U (.n U .e .e) (.n U .e .e)))) (.n U (.n U (.n U (.n U (.n U .e .e) .e) (.n U .e .e)) (.n U (.n U .e .e) (.n U .e .e))) (.n U (.n U (.n U .e .e) (.n U .e .e)) (.n U (.n U .e .e) (.n U .e .e))))) [.o,(.l .o),(.r .o)] [.tmp (.r (.r .o))]
theorem e29 : @compF Tryz.prog (Gl.none Tryz.prog) Tryz.f29 3 = f29 := by kernel_rfl
theorem o29 : okF Tryz.prog Tryz.f29 = true := by kernel_rfl
theorem g29 : Tryz.prog.funcs[(29 : Nat)]? = some Tryz.f29 := by kernel_rfl
noncomputable def c30 : FCode := (.seq (.run [.go (.box 70 (.tmp (.l .o))) (.l (.l .o)),
 .go (.move (.con (.bool false))) (.r (.l .o))]) (.seq (.draw 11 [.go (.move (.tmp .o)) (.l (.r .o)),
 .go (.fieldAddr 0 (.tmp (.l (.l .o)))) (.r (.r .o)),
 .go (.load1 (.tmp (.r (.r .o)))) (.l (.l (.l .o))),
 .go (.fieldAddr 1 (.tmp (.l (.l .o)))) (.r (.l (.l .o))),
 .go (.load1 (.tmp (.r (.l (.l .o))))) (.l (.r (.l .o))),
 .go (.nilCheck (.tmp (.l (.r .o)))) (.r (.r (.l .o))),
 .go (.fieldAddr 4 (.tmp (.r (.r (.l .o))))) (.l (.l (.r .o))),
 .go (.indexAddr (some 8) 8 (.tmp (.l (.l (.r .o)))) (.tmp (.l (.l (.l .o))))) (.r (.l (.r .o))),
 .go (.indexAddr (some 8) 1 (.tmp (.r (.l (.r .o)))) (.tmp (.l (.r (.l .o))))) (.l (.r (.r .o))),
 .go (.load1 (.tmp (.l (.r (.r .o))))) (.r (.r (.r .o))),
 .go (.move (.tmp (.r (.r (.r .o))))) (.r (.l .o))] [.ok,.ok,.ok,.ok,.ok,.ok,.ok,.ok,.ok,.ok,.ok]) .ret))
noncomputable def f30 : FFunc := .mk c30 (.n U (.n U (.n U (.n U .e .e) (.n U .e .e)) (.n U (.n U .e .e) (.n U .e .e))) (.n U (.n U (.n U .e .e) (.n U .e .e)) (.n U (.n U .e .e) (.n U .e .e)))) [.o,(.l .o)] [.tmp (.r (.l .o))]
theorem e30 : @compF Tryz.prog (Gl.none Tryz.prog) Tryz.f30 2 = f30 := by kernel_rfl
theorem o30 : okF Tryz.prog Tryz.f30 = true := by kernel_rfl
theorem g30 : Tryz.prog.funcs[(30 : Nat)]? = some Tryz.f30 := by kernel_rfl
noncomputable def c31 : FCode := (.seq (.run [.go (.box 70 (.tmp (.l .o))) (.l (.l .o)),
 .go (.move (.con (.int .i64 (.ofNat 0)))) (.r (.l .o))]) (.seq (.run [.go (.makeFunc 49 [] [(.tmp (.l (.l .o)))]) (.r (.r .o)),
 .go (.move (.tmp (.r (.r .o)))) (.l (.r .o))]) (.seq (.run [.go (.move (.tmp .o)) (.l (.l (.l .o))),
 .go (.call (.con (.func (.func 18) ⟨[]⟩ ⟨[]⟩)) [(.tmp (.l (.l (.l .o))))]) (.r (.l (.l .o))),
 .go (.move (.tmp .o)) (.l (.r (.l .o))),
 .go (.move (.tmp (.l (.r .o)))) (.r (.r (.l .o))),
 .go (.call (.con (.func (.func 50) ⟨[]⟩ ⟨[]⟩)) [(.tmp (.l (.r (.l .o)))),(.tmp (.r (.r (.l .o))))]) (.l (.l (.r .o))),
 .go (.call (.con (.func (.func 18) ⟨[]⟩ ⟨[]⟩)) [(.tmp (.l (.l (.r .o))))]) (.r (.l (.r .o))),
 .go (.bin .add 3 (.tmp (.r (.l (.r .o)))) (.con (.int .i64 (.ofNat 1)))) (.l (.r (.r .o))),
 .go (.bin .sub 3 (.tmp (.r (.l (.l .o)))) (.tmp (.l (.r (.r .o))))) (.r (.r (.r .o))),
 .go (.move (.tmp (.r (.r (.r .o))))) (.r (.l .o))]) .ret)))
noncomputable def f31 : FFunc := .mk c31 (.n U (.n U (.n U (.n U .e .e) (.n U .e .e)) (.n U (.n U .e .e) (.n U .e .e))) (.n U (.n U (.n U .e .e) (.n U .e .e)) (.n U (.n U .e .e) (.n U .e .e)))) [.o,(.l .o)] [.tmp (.r (.l .o))]
theorem e31 : @compF Tryz.prog (Gl.none Tryz.prog) Tryz.f31 2 = f31 := by kernel_rfl
theorem o31 : okF Tryz.prog Tryz.f31 = true := by kernel_rfl
theorem g31 : Tryz.prog.funcs[(31 : Nat)]? = some Tryz.f31 := by kernel_rfl
noncomputable def c32 : FCode := (.seq (.run [.go (.box 28 (.tmp .o)) (.l .o),
 .go (.move (.con (.bool false))) (.r .o)]) (.seq (.run [.go (.fieldAddr 0 (.tmp (.l .o))) (.l (.l .o)),
 .go (.load1 (.tmp (.l (.l .o)))) (.r (.l .o)),
 .go (.len 0 (.tmp (.r (.l .o)))) (.l (.r .o)),
 .go (.bin .leq 3 (.tmp (.l (.r .o))) (.con (.int .i64 (.ofNat 8)))) (.r (.r .o)),
 .go (.move (.tmp (.r (.r .o)))) (.l (.l (.l .o))),
 .gd (.l (.l (.l .o))) true (.fieldAddr 1 (.tmp (.l .o))) (.r (.l (.l .o))),
 .gd (.l (.l (.l .o))) true (.load1 (.tmp (.r (.l (.l .o))))) (.l (.r (.l .o))),
 .gd (.l (.l (.l .o))) true (.len 0 (.tmp (.l (.r (.l .o))))) (.r (.r (.l .o))),
 .gd (.l (.l (.l .o))) true (.bin .leq 3 (.tmp (.r (.r (.l .o)))) (.con (.int .i64 (.ofNat 8)))) (.l (.l (.r .o))),
 .go (.pick (.tmp (.l (.l (.l .o)))) (.tmp (.l (.l (.r .o)))) (.con (.bool false))) (.r (.l (.r .o))),
 .go (.move (.tmp (.r (.l (.r .o))))) (.l (.r (.r .o))),
 .gd (.l (.r (.r .o))) true (.fieldAddr 2 (.tmp (.l .o))) (.r (.r (.r .o))),
 .gd (.l (.r (.r .o))) true (.load1 (.tmp (.r (.r (.r .o))))) (.l (.l (.l (.l .o)))),
 .gd (.l (.r (.r .o))) true (.len 0 (.tmp (.l (.l (.l (.l .o)))))) (.r (.l (.l (.l .o)))),
 .gd (.l (.r (.r .o))) true (.bin .leq 3 (.tmp (.r (.l (.l (.l .o))))) (.con (.int .i64 (.ofNat 16)))) (.l (.r (.l (.l .o)))),
 .go (.pick (.tmp (.l (.r (.r .o)))) (.tmp (.l (.r (.l (.l .o))))) (.con (.bool false))) (.r (.r (.l (.l .o)))),
 .go (.move (.tmp (.r (.r (.l (.l .o)))))) (.l (.l (.r (.l .o)))),
 .gd (.l (.l (.r (.l .o)))) true (.fieldAddr 0 (.tmp (.l .o))) (.r (.l (.r (.l .o)))),
 .gd (.l (.l (.r (.l .o)))) true (.load1 (.tmp (.r (.l (.r (.l .o)))))) (.l (.r (.r (.l .o)))),
 .gd (.l (.l (.r (.l .o)))) true (.call (.con (.func (.func 51) ⟨[]⟩ ⟨[]⟩)) [(.tmp (.l (.r (.r (.l .o))))),(.con (.func (.func 52) ⟨[]⟩ ⟨[]⟩))]) (.r (.r (.r (.l .o)))),
 .go (.pick (.tmp (.l (.l (.r (.l .o))))) (.tmp (.r (.r (.r (.l .o))))) (.con (.bool false))) (.l (.l (.l (.r .o)))),
 .go (.move (.tmp (.l (.l (.l (.r .o)))))) (.r (.l (.l (.r .o)))),
 .gd (.r (.l (.l (.r .o)))) true (.fieldAddr 1 (.tmp (.l .o))) (.l (.r (.l (.r .o)))),
 .gd (.r (.l (.l (.r .o)))) true (.load1 (.tmp (.l (.r (.l (.r .o)))))) (.r (.r (.l (.r .o)))),
 .gd (.r (.l (.l (.r .o)))) true (.call (.con (.func (.func 51) ⟨[]⟩ ⟨[]⟩)) [(.tmp (.r (.r (.l (.r .o))))),(.con (.func (.func 52) ⟨[]⟩ ⟨[]⟩))]) (.l (.l (.r (.r .o)))),
 .go (.pick (.tmp (.r (.l (.l (.r .o))))) (.tmp (.l (.l (.r (.r .o))))) (.con (.bool false))) (.r (.l (.r (.r .o)))),
 .go (.move (.tmp (.r (.l (.r (.r .o)))))) (.r .o)]) .ret))
noncomputable def f32 : FFunc := .mk c32 (.n U (.n U (.n U (.n U (.n U .e .e) (.n U .e .e)) (.n U (.n U .e .e) (.n U .e .e))) (.n U (.n U (.n U .e .e) (.n U .e .e)) (.n U (.n U .e .e) .e))) (.n U (.n U (.n U (.n U .e .e) (.n U .e .e)) (.n U (.n U .e .e) (.n U .e .e))) (.n U (.n U (.n U .e .e) (.n U .e .e)) (.n U (.n U .e .e) .e)))) [.o] [.tmp (.r .o)]
theorem e32 : @compF Tryz.prog (Gl.none Tryz.prog) Tryz.f32 1 = f32 := by kernel_rfl
theorem o32 : okF Tryz.prog Tryz.f32 = true := by kernel_rfl
theorem g32 : Tryz.prog.funcs[(32 : Nat)]? = some Tryz.f32 := by kernel_rfl
noncomputable def c33 : FCode := (.seq (.run [.go (.move (.con (.int .i64 (.ofNat 0)))) (.r .o)]) (.seq (.seq (.run [.go (.move (.tmp .o)) (.r (.l (.l .o))),
 .go (.len 0 (.tmp (.r (.l (.l .o))))) (.l (.r (.l .o))),
 .go (.move (.con (.int .i64 (.ofNat 0)))) (.r (.r (.l .o)))]) (.block 0 (.loop (.seq (.run [.go (.bin .lss 3 (.tmp (.r (.r (.l .o)))) (.tmp (.l (.r (.l .o))))) (.l (.l (.r .o)))]) (.seq (.cond (.tmp (.l (.l (.r .o)))) .skip (.exit 0)) (.seq (.block 1 (.seq (.run [.go (.indexAddr none 1 (.tmp (.r (.l (.l .o)))) (.tmp (.r (.r (.l .o))))) (.r (.l (.r .o))),
 .go (.load1 (.tmp (.r (.l (.r .o))))) (.l (.r (.r .o))),
 .go (.move (.tmp (.l (.r (.r .o))))) (.r (.l .o))]) (.seq (.run [.go (.move (.tmp (.r (.l .o)))) (.r (.r (.r .o))),
 .go (.len 0 (.tmp (.r (.r (.r .o))))) (.l (.l (.l (.l .o)))),
 .go (.move (.con (.int .i64 (.ofNat 0)))) (.r (.l (.l (.l .o))))]) (.block 2 (.loop (.seq (.run [.go (.bin .lss 3 (.tmp (.r (.l (.l (.l .o))))) (.tmp (.l (.l (.l (.l .o)))))) (.l (.r (.l (.l .o))))]) (.seq (.cond (.tmp (.l (.r (.l (.l .o))))) .skip (.exit 2)) (.seq (.block 3 (.seq (.run [.go (.indexAddr none 7 (.tmp (.r (.r (.r .o)))) (.tmp (.r (.l (.l (.l .o)))))) (.r (.r (.l (.l .o)))),
 .go (.loadN 7 (.tmp (.r (.r (.l (.l .o)))))) (.l (.l (.r (.l .o)))),
 .go (.alloc 48 [(.int .i64 (.ofNat 0)),(.int .i64 (.ofNat 0)),(.slice none 0 0),(.slice none 0 0),(.int .i64 (.ofNat 0)),(.slice none 0 0),(.int .i64 (.ofNat 0))]) (.r (.r .o)),
 .un (.store 7 (.tmp (.r (.r .o))) (.tmp (.l (.l (.r (.l .o))))))]) (.seq (.run [.go (.fieldAddr 0 (.tmp (.r (.r .o)))) (.r (.l (.r (.l .o)))),
 .go (.loadN 4 (.tmp (.r (.l (.r (.l .o)))))) (.l (.r (.r (.l .o)))),
 .go (.call (.con (.func (.func 53) ⟨[]⟩ ⟨[]⟩)) [(.tmp (.l (.r (.r (.l .o)))))]) (.r (.r (.r (.l .o)))),
 .go (.move (.tmp (.r (.r (.r (.l .o)))))) (.l (.l (.l .o)))]) (.seq (.run [.go (.move (.tmp (.l (.l (.l .o))))) (.l (.l (.l (.r .o)))),
 .go (.bin .neq 22 (.tmp (.l (.l (.l (.r .o))))) (.con (.int .i64 (.ofNat 0)))) (.r (.l (.l (.r .o))))]) (.cond (.tmp (.r (.l (.l (.r .o))))) (.seq (.run [.go (.move (.tmp (.l (.l (.l .o))))) (.l (.r (.l (.r .o)))),
 .go (.move (.tmp (.l (.r (.l (.r .o)))))) (.r .o)]) .ret) .skip))))) (.run [.go (.bin .add 3 (.tmp (.r (.l (.l (.l .o))))) (.con (.int .i64 (.ofNat 1)))) (.r (.r (.l (.r .o)))),
 .go (.move (.tmp (.r (.r (.l (.r .o)))))) (.r (.l (.l (.l .o))))]))))))))) (.run [.go (.bin .add 3 (.tmp (.r (.r (.l .o)))) (.con (.int .i64 (.ofNat 1)))) (.l (.l (.r (.r .o)))),
 .go (.move (.tmp (.l (.l (.r (.r .o)))))) (.r (.r (.l .o)))]))))))) (.seq (.run [.go (.move (.con (.int .i64 (.ofNat 0)))) (.r .o)]) .ret)))
noncomputable def f33 : FFunc := .mk c33 (.n U (.n U (.n U (.n U (.n U .e .e) (.n U .e .e)) (.n U (.n U .e .e) (.n U .e .e))) (.n U (.n U (.n U .e .e) (.n U .e .e)) (.n U (.n U .e .e) .e))) (.n U (.n U (.n U (.n U .e .e) (.n U .e .e)) (.n U (.n U .e .e) .e)) (.n U (.n U (.n U .e .e) (.n U .e .e)) (.n U (.n U .e .e) .e)))) [.o] [.tmp (.r .o)]
theorem e33 : @compF Tryz.prog (Gl.none Tryz.prog) Tryz.f33 1 = f33 := by kernel_rfl
theorem o33 : okF Tryz.prog Tryz.f33 = true := by kernel_rfl
theorem g33 : Tryz.prog.funcs[(33 : Nat)]? = some Tryz.f33 := by kernel_rfl
noncomputable def c34 : FCode := (.seq (.run [.go (.box 28 (.tmp .o)) (.l .o),
 .go (.move (.con (.bool false))) (.r .o)]) (.seq (.run [.go (.call (.con (.func (.func 54) ⟨[]⟩ ⟨[]⟩)) []) (.r (.l .o)),
 .go (.makeFunc 55 [(.tmp (.r (.l .o)))] []) (.l (.r .o)),
 .go (.move (.tmp (.l (.r .o)))) (.l (.l .o))]) (.seq (.draw 18 [.go (.fieldAddr 0 (.tmp (.l .o))) (.r (.r .o)),
 .go (.load1 (.tmp (.r (.r .o)))) (.l (.l (.l .o))),
 .go (.move (.tmp (.l (.l .o)))) (.r (.l (.l .o))),
 .go (.call (.con (.func (.func 51) ⟨[]⟩ ⟨[]⟩)) [(.tmp (.l (.l (.l .o)))),(.tmp (.r (.l (.l .o))))]) (.l (.r (.l .o))),
 .go (.move (.tmp (.l (.r (.l .o))))) (.r (.r (.l .o))),
 .gd (.r (.r (.l .o))) true (.fieldAddr 1 (.tmp (.l .o))) (.l (.l (.r .o))),
 .gd (.r (.r (.l .o))) true (.load1 (.tmp (.l (.l (.r .o))))) (.r (.l (.r .o))),
 .gd (.r (.r (.l .o))) true (.move (.tmp (.l (.l .o)))) (.l (.r (.r .o))),
 .gd (.r (.r (.l .o))) true (.call (.con (.func (.func 51) ⟨[]⟩ ⟨[]⟩)) [(.tmp (.r (.l (.r .o)))),(.tmp (.l (.r (.r .o))))]) (.r (.r (.r .o))),
 .go (.pick (.tmp (.r (.r (.l .o)))) (.tmp (.r (.r (.r .o)))) (.con (.bool false))) (.l (.l (.l (.l .o)))),
 .go (.move (.tmp (.l (.l (.l (.l .o)))))) (.r (.l (.l (.l .o)))),
 .gd (.r (.l (.l (.l .o)))) true (.fieldAddr 2 (.tmp (.l .o))) (.l (.r (.l (.l .o)))),
 .gd (.r (.l (.l (.l .o)))) true (.load1 (.tmp (.l (.r (.l (.l .o)))))) (.r (.r (.l (.l .o)))),
 .gd (.r (.l (.l (.l .o)))) true (.call (.con (.func (.func 54) ⟨[]⟩ ⟨[]⟩)) []) (.l (.l (.r (.l .o)))),
 .gd (.r (.l (.l (.l .o)))) true (.makeFunc 57 [(.tmp (.l (.l (.r (.l .o)))))] []) (.r (.l (.r (.l .o)))),
 .gd (.r (.l (.l (.l .o)))) true (.call (.con (.func (.func 56) ⟨[]⟩ ⟨[]⟩)) [(.tmp (.r (.r (.l (.l .o))))),(.tmp (.r (.l (.r (.l .o)))))]) (.l (.r (.r (.l .o)))),
 .go (.pick (.tmp (.r (.l (.l (.l .o))))) (.tmp (.l (.r (.r (.l .o))))) (.con (.bool false))) (.r (.r (.r (.l .o)))),
 .go (.move (.tmp (.r (.r (.r (.l .o)))))) (.r .o)] [.ok,.ok,.ok,.ok,.ok,.ok,.ok,.ok,.ok,.ok,.ok,.ok,.rd (some ((.r (.l (.l (.l .o)))),true)) (.load1 (.tmp (.l (.r (.l (.l .o)))))) (some (.r (.r (.l (.l .o))))) [14],.ok,.ok,.ok,.ok,.ok]) .ret)))
noncomputable def f34 : FFunc := .mk c34 (.n U (.n U (.n U (.n U (.n U .e .e) .e) (.n U (.n U .e .e) .e)) (.n U (.n U (.n U .e .e) .e) (.n U (.n U .e .e) .e))) (.n U (.n U (.n U (.n U .e .e) .e) (.n U (.n U .e .e) .e)) (.n U (.n U (.n U .e .e) .e) (.n U (.n U .e .e) .e)))) [.o] [.tmp (.r .o)]
theorem e34 : @compF Tryz.prog (Gl.none Tryz.prog) Tryz.f34 1 = f34 := by kernel_rfl
theorem o34 : okF Tryz.prog Tryz.f34 = true := by kernel_rfl
theorem g34 : Tryz.prog.funcs[(34 : Nat)]? = some Tryz.f34 := by kernel_rfl
noncomputable def c35 : FCode := (.seq (.run [.go (.box 28 (.tmp .o)) (.l .o),
 .go (.move (.con (.slice none 0 0))) (.r .o),
 .go (.move (.con (.int .i64 (.ofNat 0)))) (.l (.l .o))]) (.seq (.run [.go (.loadN 3 (.tmp (.l .o))) (.l (.l (.l .o))),
 .go (.call (.con (.func (.func 17) ⟨[]⟩ ⟨[]⟩)) [(.tmp (.l (.l (.l .o))))]) (.r (.l (.l .o))),
 .go (.move (.tmp (.r (.l (.l .o))))) (.r (.r .o)),
 .go (.extract (.tmp (.r (.r .o))) 0) (.l (.r (.l .o))),
 .go (.extract (.tmp (.r (.r .o))) 1) (.r (.r (.l .o))),
 .go (.move (.tmp (.l (.r (.l .o))))) (.r (.l .o)),
 .go (.move (.tmp (.r (.r (.l .o))))) (.l (.r .o))]) (.seq (.seq (.run [.go (.move (.tmp (.l (.r .o)))) (.l (.l (.r .o))),
 .go (.bin .neq 22 (.tmp (.l (.l (.r .o)))) (.con (.int .i64 (.ofNat 0)))) (.r (.l (.r .o)))]) (.cond (.tmp (.r (.l (.r .o)))) (.seq (.run [.go (.move (.tmp (.l (.r .o)))) (.l (.r (.r .o))),
 .go (.move (.con (.slice none 0 0))) (.r .o),
 .go (.move (.tmp (.l (.r (.r .o))))) (.l (.l .o))]) .ret) .skip)) (.seq (.run [.go (.move (.tmp (.r (.l .o)))) (.r (.r (.r .o))),
 .go (.move (.tmp (.r (.l .o)))) (.l (.l (.l (.l .o)))),
 .go (.makeFunc 44 [(.tmp (.l (.l (.l (.l .o)))))] []) (.r (.l (.l (.l .o)))),
 .go (.call (.con (.func (.func 22) ⟨[]⟩ ⟨[]⟩)) [(.tmp (.r (.r (.r .o)))),(.tmp (.r (.l (.l (.l .o)))))]) (.l (.r (.l (.l .o)))),
 .go (.move (.tmp (.l (.r (.l (.l .o)))))) (.r .o),
 .go (.move (.con (.int .i64 (.ofNat 0)))) (.l (.l .o))]) .ret))))
noncomputable def f35 : FFunc := .mk c35 (.n U (.n U (.n U (.n U (.n U .e .e) .e) (.n U .e .e)) (.n U (.n U (.n U .e .e) .e) (.n U .e .e))) (.n U (.n U (.n U (.n U .e .e) .e) (.n U .e .e)) (.n U (.n U .e .e) (.n U .e .e)))) [.o] [.tmp (.r .o),.tmp (.l (.l .o))]
theorem e35 : @compF Tryz.prog (Gl.none Tryz.prog) Tryz.f35 1 = f35 := by kernel_rfl
theorem o35 : okF Tryz.prog Tryz.f35 = true := by kernel_rfl
theorem g35 : Tryz.prog.funcs[(35 : Nat)]? = some Tryz.f35 := by kernel_rfl
noncomputable def c36 : FCode := (.seq (.run [.go (.box 28 (.tmp .o)) (.l .o),
 .go (.move (.con (.slice none 0 0))) (.r .o),
 .go (.move (.con (.slice none 0 0))) (.l (.l .o)),
 .go (.move (.con (.int .i64 (.ofNat 0)))) (.r (.l .o))]) (.seq (.run [.go (.loadN 3 (.tmp (.l .o))) (.l (.r (.l .o))),
 .go (.call (.con (.func (.func 17) ⟨[]⟩ ⟨[]⟩)) [(.tmp (.l (.r (.l .o))))]) (.r (.r (.l .o))),
 .go (.move (.tmp (.r (.r (.l .o))))) (.r (.l (.l .o))),
 .go (.extract (.tmp (.r (.l (.l .o)))) 0) (.l (.l (.r .o))),
 .go (.extract (.tmp (.r (.l (.l .o)))) 1) (.r (.l (.r .o))),
 .go (.move (.tmp (.l (.l (.r .o))))) (.l (.r .o)),
 .go (.move (.tmp (.r (.l (.r .o))))) (.r (.l .o))]) (.seq (.seq (.run [.go (.move (.tmp (.r (.l .o)))) (.l (.r (.r .o))),
 .go (.bin .neq 22 (.tmp (.l (.r (.r .o)))) (.con (.int .i64 (.ofNat 0)))) (.r (.r (.r .o)))]) (.cond (.tmp (.r (.r (.r .o)))) (.seq (.run [.go (.move (.tmp (.r (.l .o)))) (.l (.l (.l (.l .o)))),
 .go (.move (.con (.slice none 0 0))) (.r .o),
 .go (.move (.con (.slice none 0 0))) (.l (.l .o)),
 .go (.move (.tmp (.l (.l (.l (.l .o)))))) (.r (.l .o))]) .ret) .skip)) (.seq (.seq (.run [.go (.move (.tmp (.l (.r .o)))) (.r (.l (.l (.l .o)))),
 .go (.nilCheck (.tmp (.r (.l (.l (.l .o)))))) (.l (.r (.l (.l .o)))),
 .go (.fieldAddr 0 (.tmp (.l (.r (.l (.l .o)))))) (.r (.r (.l (.l .o)))),
 .go (.fieldAddr 0 (.tmp (.r (.r (.l (.l .o)))))) (.l (.l (.r (.l .o)))),
 .go (.load1 (.tmp (.l (.l (.r (.l .o)))))) (.r (.l (.r (.l .o)))),
 .go (.len 0 (.tmp (.r (.l (.r (.l .o)))))) (.l (.r (.r (.l .o)))),
 .go (.move (.con (.int .i64 (.ofNat 0)))) (.r (.r (.r (.l .o))))]) (.block 0 (.loop (.seq (.run [.go (.bin .lss 3 (.tmp (.r (.r (.r (.l .o))))) (.tmp (.l (.r (.r (.l .o)))))) (.l (.l (.l (.r .o))))]) (.seq (.cond (.tmp (.l (.l (.l (.r .o))))) .skip (.exit 0)) (.seq (.block 1 (.seq (.run [.go (.move (.tmp (.r (.r (.r (.l .o)))))) (.r (.l (.l (.r .o)))),
 .go (.alloc 3 [(.int .i64 (.ofNat 0))]) (.r (.r .o)),
 .un (.store 1 (.tmp (.r (.r .o))) (.tmp (.r (.l (.l (.r .o))))))]) (.seq (.run [.go (.move (.tmp (.l (.r .o)))) (.l (.r (.l (.r .o)))),
 .go (.makeFunc 59 [] [(.tmp (.r (.r .o)))]) (.r (.r (.l (.r .o)))),
 .go (.call (.con (.func (.func 58) ⟨[]⟩ ⟨[]⟩)) [(.tmp (.l (.r (.l (.r .o))))),(.tmp (.r (.r (.l (.r .o)))))]) (.l (.l (.r (.r .o))))]) (.cond (.tmp (.l (.l (.r (.r .o))))) (.run [.go (.move (.tmp (.r .o))) (.r (.l (.r (.r .o)))),
 .go (.load1 (.tmp (.r (.r .o)))) (.l (.r (.r (.r .o)))),
 .go (.buildSlice 3 1 [(.int .i64 (.ofNat 0))] [(0,1,(.tmp (.l (.r (.r (.r .o))))))]) (.r (.r (.r (.r .o)))),
 .go (.append 3 1 8 (.tmp (.r (.l (.r (.r .o))))) (.tmp (.r (.r (.r (.r .o)))))) (.l (.l (.l (.l (.l .o))))),
 .go (.move (.tmp (.l (.l (.l (.l (.l .o))))))) (.r .o)]) .skip)))) (.run [.go (.bin .add 3 (.tmp (.r (.r (.r (.l .o))))) (.con (.int .i64 (.ofNat 1)))) (.r (.l (.l (.l (.l .o))))),
 .go (.move (.tmp (.r (.l (.l (.l (.l .o))))))) (.r (.r (.r (.l .o))))]))))))) (.seq (.seq (.run [.go (.move (.tmp (.l (.r .o)))) (.l (.r (.l (.l (.l .o))))),
 .go (.nilCheck (.tmp (.l (.r (.l (.l (.l .o))))))) (.r (.r (.l (.l (.l .o))))),
 .go (.fieldAddr 0 (.tmp (.r (.r (.l (.l (.l .o))))))) (.l (.l (.r (.l (.l .o))))),
 .go (.fieldAddr 1 (.tmp (.l (.l (.r (.l (.l .o))))))) (.r (.l (.r (.l (.l .o))))),
 .go (.load1 (.tmp (.r (.l (.r (.l (.l .o))))))) (.l (.r (.r (.l (.l .o))))),
 .go (.len 0 (.tmp (.l (.r (.r (.l (.l .o))))))) (.r (.r (.r (.l (.l .o))))),
 .go (.move (.con (.int .i64 (.ofNat 0)))) (.l (.l (.l (.r (.l .o)))))]) (.block 2 (.loop (.seq (.run [.go (.bin .lss 3 (.tmp (.l (.l (.l (.r (.l .o)))))) (.tmp (.r (.r (.r (.l (.l .o))))))) (.r (.l (.l (.r (.l .o)))))]) (.seq (.cond (.tmp (.r (.l (.l (.r (.l .o)))))) .skip (.exit 2)) (.seq (.block 3 (.seq (.run [.go (.move (.tmp (.l (.l (.l (.r (.l .o))))))) (.l (.r (.l (.r (.l .o))))),
 .go (.alloc 3 [(.int .i64 (.ofNat 0))]) (.l (.l (.l .o))),
 .un (.store 1 (.tmp (.l (.l (.l .o)))) (.tmp (.l (.r (.l (.r (.l .o)))))))]) (.seq (.run [.go (.move (.tmp (.l (.r .o)))) (.r (.r (.l (.r (.l .o))))),
 .go (.makeFunc 60 [] [(.tmp (.l (.l (.l .o))))]) (.l (.l (.r (.r (.l .o))))),
 .go (.call (.con (.func (.func 58) ⟨[]⟩ ⟨[]⟩)) [(.tmp (.r (.r (.l (.r (.l .o)))))),(.tmp (.l (.l (.r (.r (.l .o))))))]) (.r (.l (.r (.r (.l .o)))))]) (.cond (.tmp (.r (.l (.r (.r (.l .o)))))) (.run [.go (.move (.tmp (.l (.l .o)))) (.l (.r (.r (.r (.l .o))))),
 .go (.load1 (.tmp (.l (.l (.l .o))))) (.r (.r (.r (.r (.l .o))))),
 .go (.buildSlice 3 1 [(.int .i64 (.ofNat 0))] [(0,1,(.tmp (.r (.r (.r (.r (.l .o)))))))]) (.l (.l (.l (.l (.r .o))))),
 .go (.append 3 1 8 (.tmp (.l (.r (.r (.r (.l .o)))))) (.tmp (.l (.l (.l (.l (.r .o))))))) (.r (.l (.l (.l (.r .o))))),
 .go (.move (.tmp (.r (.l (.l (.l (.r .o))))))) (.l (.l .o))]) .skip)))) (.run [.go (.bin .add 3 (.tmp (.l (.l (.l (.r (.l .o)))))) (.con (.int .i64 (.ofNat 1)))) (.l (.r (.l (.l (.r .o))))),
 .go (.move (.tmp (.l (.r (.l (.l (.r .o))))))) (.l (.l (.l (.r (.l .o)))))]))))))) (.seq (.run [.go (.move (.tmp (.r .o))) (.r (.r (.l (.l (.r .o))))),
 .go (.move (.tmp (.l (.l .o)))) (.l (.l (.r (.l (.r .o))))),
 .go (.move (.tmp (.r (.r (.l (.l (.r .o))))))) (.r .o),
 .go (.move (.tmp (.l (.l (.r (.l (.r .o))))))) (.l (.l .o)),
 .go (.move (.con (.int .i64 (.ofNat 0)))) (.r (.l .o))]) .ret))))))
noncomputable def f36 : FFunc := .mk c36 (.n U (.n U (.n U (.n U (.n U (.n U .e .e) (.n U .e .e)) (.n U (.n U .e .e) .e)) (.n U (.n U (.n U .e .e) (.n U .e .e)) (.n U (.n U .e .e) .e))) (.n U (.n U (.n U (.n U .e .e) (.n U .e .e)) (.n U (.n U .e .e) .e)) (.n U (.n U (.n U .e .e) .e) (.n U (.n U .e .e) .e)))) (.n U (.n U (.n U (.n U (.n U .e .e) (.n U .e .e)) (.n U (.n U .e .e) .e)) (.n U (.n U (.n U .e .e) .e) (.n U (.n U .e .e) .e))) (.n U (.n U (.n U (.n U .e .e) (.n U .e .e)) (.n U (.n U .e .e) .e)) (.n U (.n U (.n U .e .e) .e) (.n U (.n U .e .e) .e))))) [.o] [.tmp (.r .o),.tmp (.l (.l .o)),.tmp (.r (.l .o))]
theorem e36 : @compF Tryz.prog (Gl.none Tryz.prog) Tryz.f36 1 = f36 := by kernel_rfl
theorem o36 : okF Tryz.prog Tryz.f36 = true := by kernel_rfl
theorem g36 : Tryz.prog.funcs[(36 : Nat)]? = some Tryz.f36 := by kernel_rfl
noncomputable def c37 : FCode := (.seq (.run [.go (.move (.con (.bool false))) (.r (.l .o))]) (.seq (.seq (.run [.go (.move (.tmp .o)) (.r (.r .o)),
 .go (.len 0 (.tmp (.r (.r .o)))) (.l (.l (.l .o))),
 .go (.move (.tmp (.l .o))) (.r (.l (.l .o))),
 .go (.len 0 (.tmp (.r (.l (.l .o))))) (.l (.r (.l .o))),
 .go (.bin .neq 3 (.tmp (.l (.l (.l .o)))) (.tmp (.l (.r (.l .o))))) (.r (.r (.l .o)))]) (.cond (.tmp (.r (.r (.l .o)))) (.seq (.run [.go (.move (.con (.bool false))) (.r (.l .o))]) .ret) .skip)) (.seq (.seq (.run [.go (.move (.con (.int .i64 (.ofNat 0)))) (.l (.r .o))]) (.block 0 (.loop (.seq (.seq (.run [.go (.move (.tmp (.l (.r .o)))) (.l (.l (.r .o))),
 .go (.move (.tmp .o)) (.r (.l (.r .o))),
 .go (.len 0 (.tmp (.r (.l (.r .o))))) (.l (.r (.r .o))),
 .go (.bin .lss 3 (.tmp (.l (.l (.r .o)))) (.tmp (.l (.r (.r .o))))) (.r (.r (.r .o)))]) (.cond (.tmp (.r (.r (.r .o)))) .skip (.exit 0))) (.seq (.block 1 (.seq (.draw 24 [.go (.move (.tmp .o)) (.l (.r (.l (.l .o)))),
 .go (.move (.tmp (.l (.r .o)))) (.r (.r (.l (.l .o)))),
 .go (.indexAddr none 2 (.tmp (.l (.r (.l (.l .o))))) (.tmp (.r (.r (.l (.l .o)))))) (.l (.l (.r (.l .o)))),
 .go (.fieldAddr 0 (.tmp (.l (.l (.r (.l .o)))))) (.r (.l (.r (.l .o)))),
 .go (.load1 (.tmp (.r (.l (.r (.l .o)))))) (.l (.r (.r (.l .o)))),
 .go (.move (.tmp (.l .o))) (.r (.r (.r (.l .o)))),
 .go (.move (.tmp (.l (.r .o)))) (.l (.l (.l (.r .o)))),
 .go (.indexAddr none 2 (.tmp (.r (.r (.r (.l .o))))) (.tmp (.l (.l (.l (.r .o)))))) (.r (.l (.l (.r .o)))),
 .go (.fieldAddr 0 (.tmp (.r (.l (.l (.r .o)))))) (.l (.r (.l (.r .o)))),
 .go (.load1 (.tmp (.l (.r (.l (.r .o)))))) (.r (.r (.l (.r .o)))),
 .go (.bin .neq 3 (.tmp (.l (.r (.r (.l .o))))) (.tmp (.r (.r (.l (.r .o)))))) (.l (.l (.r (.r .o)))),
 .go (.move (.tmp (.l (.l (.r (.r .o)))))) (.r (.l (.r (.r .o)))),
 .gd (.r (.l (.r (.r .o)))) false (.move (.tmp .o)) (.l (.r (.r (.r .o)))),
 .gd (.r (.l (.r (.r .o)))) false (.move (.tmp (.l (.r .o)))) (.r (.r (.r (.r .o)))),
 .gd (.r (.l (.r (.r .o)))) false (.indexAddr none 2 (.tmp (.l (.r (.r (.r .o))))) (.tmp (.r (.r (.r (.r .o)))))) (.l (.l (.l (.l (.l .o))))),
 .gd (.r (.l (.r (.r .o)))) false (.fieldAddr 1 (.tmp (.l (.l (.l (.l (.l .o))))))) (.r (.l (.l (.l (.l .o))))),
 .gd (.r (.l (.r (.r .o)))) false (.load1 (.tmp (.r (.l (.l (.l (.l .o))))))) (.l (.r (.l (.l (.l .o))))),
 .gd (.r (.l (.r (.r .o)))) false (.move (.tmp (.l .o))) (.r (.r (.l (.l (.l .o))))),
 .gd (.r (.l (.r (.r .o)))) false (.move (.tmp (.l (.r .o)))) (.l (.l (.r (.l (.l .o))))),
 .gd (.r (.l (.r (.r .o)))) false (.indexAddr none 2 (.tmp (.r (.r (.l (.l (.l .o)))))) (.tmp (.l (.l (.r (.l (.l .o))))))) (.r (.l (.r (.l (.l .o))))),
 .gd (.r (.l (.r (.r .o)))) false (.fieldAddr 1 (.tmp (.r (.l (.r (.l (.l .o))))))) (.l (.r (.r (.l (.l .o))))),
 .gd (.r (.l (.r (.r .o)))) false (.load1 (.tmp (.l (.r (.r (.l (.l .o))))))) (.r (.r (.r (.l (.l .o))))),
 .gd (.r (.l (.r (.r .o)))) false (.bin .neq 3 (.tmp (.l (.r (.l (.l (.l .o)))))) (.tmp (.r (.r (.r (.l (.l .o))))))) (.l (.l (.l (.r (.l .o))))),
 .go (.pick (.tmp (.r (.l (.r (.r .o))))) (.con (.bool true)) (.tmp (.l (.l (.l (.r (.l .o))))))) (.r (.l (.l (.r (.l .o)))))] [.ok,.ok,.ok,.ok,.ok,.ok,.ok,.ok,.ok,.ok,.ok,.ok,.ok,.ok,.ok,.ok,.ok,.ok,.ok,.ok,.ok,.ok,.ok,.ok]) (.cond (.tmp (.r (.l (.l (.r (.l .o)))))) (.seq (.run [.go (.move (.con (.bool false))) (.r (.l .o))]) .ret) .skip))) (.run [.go (.move (.tmp (.l (.r .o)))) (.l (.l (.l (.l .o)))),
 .go (.bin .add 3 (.tmp (.l (.l (.l (.l .o))))) (.con (.int .i64 (.ofNat 1)))) (.r (.l (.l (.l .o)))),
 .go (.move (.tmp (.r (.l (.l (.l .o)))))) (.l (.r .o))])))))) (.seq (.run [.go (.move (.con (.bool true))) (.r (.l .o))]) .ret))))
noncomputable def f37 : FFunc := .mk c37 (.n U (.n U (.n U (.n U (.n U (.n U .e .e) .e) (.n U (.n U .e .e) .e)) (.n U (.n U (.n U .e .e) .e) (.n U .e .e))) (.n U (.n U (.n U (.n U .e .e) .e) (.n U .e .e)) (.n U (.n U (.n U .e .e) .e) (.n U .e .e)))) (.n U (.n U (.n U (.n U (.n U .e .e) .e) (.n U (.n U .e .e) .e)) (.n U (.n U (.n U .e .e) .e) (.n U .e .e))) (.n U (.n U (.n U (.n U .e .e) .e) (.n U .e .e)) (.n U (.n U (.n U .e .e) .e) (.n U .e .e))))) [.o,(.l .o)] [.tmp (.r (.l .o))]
theorem e37 : @compF Tryz.prog (Gl.none Tryz.prog) Tryz.f37 2 = f37 := by kernel_rfl
theorem o37 : okF Tryz.prog Tryz.f37 = true := by kernel_rfl
theorem g37 : Tryz.prog.funcs[(37 : Nat)]? = some Tryz.f37 := by kernel_rfl
noncomputable def c38 : FCode := (.seq (.run [.go (.move (.con (.bool false))) (.r (.l .o))]) (.seq (.seq (.run [.go (.move (.tmp .o)) (.l (.l (.l .o))),
 .go (.len 0 (.tmp (.l (.l (.l .o))))) (.r (.l (.l .o))),
 .go (.move (.con (.int .i64 (.ofNat 0)))) (.l (.r (.l .o)))]) (.block 0 (.loop (.seq (.run [.go (.bin .lss 3 (.tmp (.l (.r (.l .o)))) (.tmp (.r (.l (.l .o))))) (.r (.r (.l .o)))]) (.seq (.cond (.tmp (.r (.r (.l .o)))) .skip (.exit 0)) (.seq (.block 1 (.seq (.run [.go (.indexAddr none 1 (.tmp (.l (.l (.l .o)))) (.tmp (.l (.r (.l .o))))) (.l (.l (.r .o))),
 .go (.loadN 1 (.tmp (.l (.l (.r .o))))) (.r (.l (.r .o))),
 .go (.alloc 86 [.nilFunc]) (.r (.r .o)),
 .un (.store 1 (.tmp (.r (.r .o))) (.tmp (.r (.l (.r .o)))))]) (.seq (.run [.go (.move (.tmp (.l .o))) (.l (.r (.r .o))),
 .go (.loadN 1 (.tmp (.r (.r .o)))) (.r (.r (.r .o))),
 .go (.call (.tmp (.l (.r (.r .o)))) [(.tmp (.r (.r (.r .o))))]) (.l (.l (.l (.l .o)))),
 .go (.un .not (.tmp (.l (.l (.l (.l .o)))))) (.r (.l (.l (.l .o))))]) (.cond (.tmp (.r (.l (.l (.l .o))))) (.seq (.run [.go (.move (.con (.bool false))) (.r (.l .o))]) .ret) .skip)))) (.run [.go (.bin .add 3 (.tmp (.l (.r (.l .o)))) (.con (.int .i64 (.ofNat 1)))) (.l (.r (.l (.l .o)))),
 .go (.move (.tmp (.l (.r (.l (.l .o)))))) (.l (.r (.l .o)))]))))))) (.seq (.run [.go (.move (.con (.bool true))) (.r (.l .o))]) .ret)))
noncomputable def f38 : FFunc := .mk c38 (.n U (.n U (.n U (.n U (.n U .e .e) .e) (.n U .e .e)) (.n U (.n U (.n U .e .e) .e) (.n U .e .e))) (.n U (.n U (.n U (.n U .e .e) .e) (.n U .e .e)) (.n U (.n U .e .e) (.n U .e .e)))) [.o,(.l .o)] [.tmp (.r (.l .o))]
theorem e38 : @compF Tryz.prog (Gl.none Tryz.prog) Tryz.f38 2 = f38 := by kernel_rfl
theorem o38 : okF Tryz.prog Tryz.f38 = true := by kernel_rfl
theorem g38 : Tryz.prog.funcs[(38 : Nat)]? = some Tryz.f38 := by kernel_rfl
noncomputable def c39 : FCode := (.seq (.run [.go (.move (.con (.slice none 0 0))) .o]) (.seq (.run [.go (.build [.nilFunc] [(0,1,(.con (.func (.func 61) ⟨[]⟩ ⟨[]⟩)))]) (.l .o),
 .go (.build [.nilFunc] [(0,1,(.con (.func (.func 62) ⟨[]⟩ ⟨[]⟩)))]) (.r .o),
 .go (.build [.nilFunc] [(0,1,(.con (.func (.func 63) ⟨[]⟩ ⟨[]⟩)))]) (.l (.l .o)),
 .go (.build [.nilFunc] [(0,1,(.con (.func (.func 64) ⟨[]⟩ ⟨[]⟩)))]) (.r (.l .o)),
 .go (.buildSlice 86 4 [.nilFunc,.nilFunc,.nilFunc,.nilFunc] [(0,1,(.tmp (.l .o))),(1,1,(.tmp (.r .o))),(2,1,(.tmp (.l (.l .o)))),(3,1,(.tmp (.r (.l .o))))]) (.l (.r .o)),
 .go (.move (.tmp (.l (.r .o)))) .o]) .ret))
noncomputable def f39 : FFunc := .mk c39 (.n U (.n U (.n U .e .e) (.n U .e .e)) (.n U (.n U .e .e) .e)) [] [.tmp .o]
theorem e39 : @compF Tryz.prog (Gl.none Tryz.prog) Tryz.f39 0 = f39 := by kernel_rfl
theorem o39 : okF Tryz.prog Tryz.f39 = true := by kernel_rfl
theorem g39 : Tryz.prog.funcs[(39 : Nat)]? = some Tryz.f39 := by kernel_rfl
noncomputable def c40 : FCode := (.seq (.run [.go (.box 86 (.tmp .o)) (.r (.l .o)),
 .go (.move (.con (.bool false))) (.l (.r .o))]) (.seq (.run [.go (.fieldAddr 0 (.tmp (.r (.l .o)))) (.r (.r .o)),
 .go (.load1 (.tmp (.r (.r .o)))) (.l (.l (.l .o))),
 .go (.load1 (.tmp (.l .o))) (.r (.l (.l .o))),
 .go (.loadN 7 (.tmp (.r .o))) (.l (.r (.l .o))),
 .go (.loadN 7 (.tmp (.l (.l .o)))) (.r (.r (.l .o))),
 .go (.call (.tmp (.l (.l (.l .o)))) [(.tmp (.r (.l (.l .o)))),(.tmp (.l (.r (.l .o)))),(.tmp (.r (.r (.l .o))))]) (.l (.l (.r .o))),
 .go (.move (.tmp (.l (.l (.r .o))))) (.l (.r .o))]) .ret))
noncomputable def f40 : FFunc := .mk c40 (.n U (.n U (.n U (.n U .e .e) (.n U .e .e)) (.n U (.n U .e .e) .e)) (.n U (.n U (.n U .e .e) .e) (.n U (.n U .e .e) .e))) [.o,(.l .o),(.r .o),(.l (.l .o))] [.tmp (.l (.r .o))]
theorem e40 : @compF Tryz.prog (Gl.none Tryz.prog) Tryz.f40 4 = f40 := by kernel_rfl
theorem o40 : okF Tryz.prog Tryz.f40 = true := by kernel_rfl
theorem g40 : Tryz.prog.funcs[(40 : Nat)]? = some Tryz.f40 := by kernel_rfl
noncomputable def c41 : FCode := (.seq (.run [.go (.alloc 60 [(.int .i64 (.ofNat 0)),(.int .i64 (.ofNat 0)),(.int .i64 (.ofNat 0)),(.int .i64 (.ofNat 0)),(.int .i64 (.ofNat 0)),(.int .i64 (.ofNat 0)),(.int .i64 (.ofNat 0)),(.int .i64 (.ofNat 0))]) .o]) (.seq (.run [.go (.alloc 60 [(.int .i64 (.ofNat 0)),(.int .i64 (.ofNat 0)),(.int .i64 (.ofNat 0)),(.int .i64 (.ofNat 0)),(.int .i64 (.ofNat 0)),(.int .i64 (.ofNat 0)),(.int .i64 (.ofNat 0)),(.int .i64 (.ofNat 0))]) (.l .o)]) (.seq (.seq (.run [.go (.move (.con (.int .i64 (.ofNat 0)))) (.l (.l .o))]) (.block 0 (.loop (.seq (.run [.go (.bin .lss 3 (.tmp (.l (.l .o))) (.con (.int .i64 (.ofNat 8)))) (.r (.l .o))]) (.seq (.cond (.tmp (.r (.l .o))) .skip (.exit 0)) (.seq (.block 1 (.seq (.run [.go (.move (.tmp (.l (.l .o)))) (.l (.r .o)),
 .go (.move (.tmp (.l (.r .o)))) (.r .o)]) (.run [.go (.move (.tmp (.r .o))) (.r (.r .o)),
 .go (.indexAddr (some 8) 1 (.tmp (.l .o)) (.tmp (.r (.r .o)))) (.l (.l (.l .o))),
 .un (.store 1 (.tmp (.l (.l (.l .o)))) (.con (.int .i64 (.negSucc 0))))]))) (.run [.go (.bin .add 3 (.tmp (.l (.l .o))) (.con (.int .i64 (.ofNat 1)))) (.r (.l (.l .o))),
 .go (.move (.tmp (.r (.l (.l .o))))) (.l (.l .o))]))))))) (.seq (.run [.go (.loadN 8 (.tmp (.l .o))) (.l (.r (.l .o))),
 .un (.store 8 (.tmp .o) (.tmp (.l (.r (.l .o)))))]) .ret))))
noncomputable def f41 : FFunc := .mk c41 (.n U (.n U (.n U (.n U .e .e) .e) (.n U (.n U .e .e) .e)) (.n U (.n U (.n U .e .e) .e) (.n U .e .e))) [] [.many .o 8]
theorem e41 : @compF Tryz.prog (Gl.none Tryz.prog) Tryz.f41 0 = f41 := by kernel_rfl
theorem o41 : okF Tryz.prog Tryz.f41 = true := by kernel_rfl
theorem g41 : Tryz.prog.funcs[(41 : Nat)]? = some Tryz.f41 := by kernel_rfl
noncomputable def c42 : FCode := (.seq (.run [.go (.box 3 (.tmp .o)) (.l (.r .o)),
 .go (.alloc 4 [(.bool false)]) (.r (.r .o))]) (.seq (.seq (.run [.go (.load1 (.tmp (.l .o))) (.r (.l (.l .o))),
 .go (.load1 (.tmp (.l (.r .o)))) (.l (.r (.l .o))),
 .go (.call (.con (.func (.func 43) ⟨[]⟩ ⟨[]⟩)) [(.tmp (.r (.l (.l .o)))),(.tmp (.l (.r (.l .o))))]) (.r (.r (.l .o)))]) (.block 0 (.rangeFunc (.tmp (.r (.r (.l .o)))) [(.l (.l (.r .o)))] (rfA Tryz.f42 0) (rfB Tryz.f42 0) (.run [.go (.move (.tmp (.l (.l (.r .o))))) (.l (.l (.l .o)))]) (.block 1 (.seq (.seq (.run [.go (.move (.tmp (.l (.l (.l .o))))) (.r (.l (.r .o))),
 .go (.indexAddr (some 8) 1 (.tmp (.r .o)) (.tmp (.r (.l (.r .o))))) (.l (.r (.r .o))),
 .go (.load1 (.tmp (.l (.r (.r .o))))) (.r (.r (.r .o)))]) (.cond (.tmp (.r (.r (.r .o)))) (.exit 1) .skip)) (.seq (.run [.go (.move (.tmp (.l (.l (.l .o))))) (.l (.l (.l (.l .o)))),
 .go (.indexAddr (some 8) 1 (.tmp (.r .o)) (.tmp (.l (.l (.l (.l .o)))))) (.r (.l (.l (.l .o)))),
 .un (.store 1 (.tmp (.r (.l (.l (.l .o))))) (.con (.bool true)))]) (.seq (.draw 11 [.go (.move (.tmp (.l (.l (.l .o))))) (.l (.r (.l (.l .o)))),
 .go (.indexAddr (some 8) 1 (.tmp (.l (.l .o))) (.tmp (.l (.r (.l (.l .o)))))) (.r (.r (.l (.l .o)))),
 .go (.load1 (.tmp (.r (.r (.l (.l .o)))))) (.l (.l (.r (.l .o)))),
 .go (.bin .eql 3 (.tmp (.l (.l (.r (.l .o))))) (.con (.int .i64 (.negSucc 0)))) (.r (.l (.r (.l .o)))),
 .go (.move (.tmp (.r (.l (.r (.l .o)))))) (.l (.r (.r (.l .o)))),
 .gd (.l (.r (.r (.l .o)))) false (.load1 (.tmp (.r (.l .o)))) (.r (.r (.r (.l .o)))),
 .gd (.l (.r (.r (.l .o)))) false (.move (.tmp (.l (.l (.l .o))))) (.l (.l (.l (.r .o)))),
 .gd (.l (.r (.r (.l .o)))) false (.indexAddr (some 8) 1 (.tmp (.l (.l .o))) (.tmp (.l (.l (.l (.r .o)))))) (.r (.l (.l (.r .o)))),
 .gd (.l (.r (.r (.l .o)))) false (.load1 (.tmp (.r (.l (.l (.r .o)))))) (.l (.r (.l (.r .o)))),
 .gd (.l (.r (.r (.l .o)))) false (.call (.tmp (.r (.r (.r (.l .o))))) [(.tmp (.l (.r (.l (.r .o)))))]) (.r (.r (.l (.r .o)))),
 .go (.pick (.tmp (.l (.r (.r (.l .o))))) (.con (.bool true)) (.tmp (.r (.r (.l (.r .o)))))) (.l (.l (.r (.r .o))))] [.ok,.ok,.ok,.ok,.ok,.ok,.ok,.ok,.ok,.ok,.ok]) (.cond (.tmp (.l (.l (.r (.r .o))))) (.seq (.run [.go (.move (.tmp (.l (.l (.l .o))))) (.r (.l (.r (.r .o)))),
 .go (.load1 (.tmp (.l (.r .o)))) (.l (.r (.r (.r .o)))),
 .go (.indexAddr (some 8) 1 (.tmp (.l (.l .o))) (.tmp (.r (.l (.r (.r .o)))))) (.r (.r (.r (.r .o)))),
 .un (.store 1 (.tmp (.r (.r (.r (.r .o))))) (.tmp (.l (.r (.r (.r .o))))))]) (.seq (.run [.un (.store 1 (.tmp (.r (.r .o))) (.con (.bool true)))]) .ret)) .skip)))))))) (.seq (.run [.un (.store 1 (.tmp (.r (.r .o))) (.con (.bool false)))]) .ret)))
noncomputable def f42 : FFunc := .mk c42 (.n U (.n U (.n U (.n U (.n U .e .e) (.n U .e .e)) (.n U (.n U .e .e) (.n U .e .e))) (.n U (.n U (.n U .e .e) (.n U .e .e)) (.n U (.n U .e .e) (.n U .e .e)))) (.n U (.n U (.n U (.n U .e .e) (.n U .e .e)) (.n U (.n U .e .e) (.n U .e .e))) (.n U (.n U (.n U .e .e) (.n U .e .e)) (.n U (.n U .e .e) (.n U .e .e))))) [.o,(.l .o),(.r .o),(.l (.l .o)),(.r (.l .o))] [.one (.r (.r .o))]
theorem e42 : @compF Tryz.prog (Gl.none Tryz.prog) Tryz.f42 5 = f42 := by kernel_rfl
theorem o42 : okF Tryz.prog Tryz.f42 = true := by kernel_rfl
theorem g42 : Tryz.prog.funcs[(42 : Nat)]? = some Tryz.f42 := by kernel_rfl
noncomputable def c43 : FCode := (.seq (.run [.go (.box 51 (.tmp .o)) (.r .o),
 .go (.box 3 (.tmp (.l .o))) (.l (.l .o)),
 .go (.move (.con .nilFunc)) (.r (.l .o))]) (.seq (.run [.go (.makeFunc 65 [] [(.tmp (.r .o)),(.tmp (.l (.l .o)))]) (.l (.r .o)),
 .go (.move (.tmp (.l (.r .o)))) (.r (.l .o))]) .ret))
noncomputable def f43 : FFunc := .mk c43 (.n U (.n U (.n U .e .e) (.n U .e .e)) (.n U (.n U .e .e) .e)) [.o,(.l .o)] [.tmp (.r (.l .o))]
theorem e43 : @compF Tryz.prog (Gl.none Tryz.prog) Tryz.f43 2 = f43 := by kernel_rfl
theorem o43 : okF Tryz.prog Tryz.f43 = true := by kernel_rfl
theorem g43 : Tryz.prog.funcs[(43 : Nat)]? = some Tryz.f43 := by kernel_rfl
noncomputable def c44 : FCode := (.seq (.run [.go (.box 70 (.tmp (.l .o))) (.l (.l .o)),
 .go (.move (.con (.bool false))) (.r (.l .o))]) (.seq (.run [.go (.move (.tmp .o)) (.l (.r .o)),
 .go (.makeFunc 66 [] [(.tmp (.l (.l .o)))]) (.r (.r .o)),
 .go (.call (.con (.func (.func 58) ⟨[]⟩ ⟨[]⟩)) [(.tmp (.l (.r .o))),(.tmp (.r (.r .o)))]) (.l (.l (.l .o))),
 .go (.move (.tmp (.l (.l (.l .o))))) (.r (.l .o))]) .ret))
noncomputable def f44 : FFunc := .mk c44 (.n U (.n U (.n U (.n U .e .e) .e) (.n U .e .e)) (.n U (.n U .e .e) (.n U .e .e))) [.o,(.l .o)] [.tmp (.r (.l .o))]
theorem e44 : @compF Tryz.prog (Gl.none Tryz.prog) Tryz.f44 2 = f44 := by kernel_rfl
theorem o44 : okF Tryz.prog Tryz.f44 = true := by kernel_rfl
theorem g44 : Tryz.prog.funcs[(44 : Nat)]? = some Tryz.f44 := by kernel_rfl
noncomputable def c45 : FCode := (.seq (.run [.go (.move (.con (.bool false))) (.r (.l .o))]) (.seq (.run [.go (.move (.con (.int .i64 (.negSucc 0)))) (.l (.r .o))]) (.seq (.seq (.run [.go (.move (.tmp .o)) (.r (.l (.l .o))),
 .go (.len 0 (.tmp (.r (.l (.l .o))))) (.l (.r (.l .o))),
 .go (.move (.con (.int .i64 (.ofNat 0)))) (.r (.r (.l .o)))]) (.block 0 (.loop (.seq (.run [.go (.bin .lss 3 (.tmp (.r (.r (.l .o)))) (.tmp (.l (.r (.l .o))))) (.l (.l (.r .o)))]) (.seq (.cond (.tmp (.l (.l (.r .o)))) .skip (.exit 0)) (.seq (.block 1 (.seq (.run [.go (.indexAddr none 1 (.tmp (.r (.l (.l .o)))) (.tmp (.r (.r (.l .o))))) (.r (.l (.r .o))),
 .go (.load1 (.tmp (.r (.l (.r .o))))) (.l (.r (.r .o))),
 .go (.move (.tmp (.l (.r (.r .o))))) (.l (.l (.l .o)))]) (.seq (.seq (.run [.go (.move (.tmp (.l (.l (.l .o))))) (.r (.r (.r .o))),
 .go (.move (.tmp (.l (.r .o)))) (.l (.l (.l (.l .o)))),
 .go (.bin .leq 3 (.tmp (.r (.r (.r .o)))) (.tmp (.l (.l (.l (.l .o)))))) (.r (.l (.l (.l .o)))),
 .go (.move (.tmp (.r (.l (.l (.l .o)))))) (.l (.r (.l (.l .o)))),
 .gd (.l (.r (.l (.l .o)))) false (.move (.tmp (.l (.l (.l .o))))) (.r (.r (.l (.l .o)))),
 .gd (.l (.r (.l (.l .o)))) false (.move (.tmp (.l .o))) (.l (.l (.r (.l .o)))),
 .gd (.l (.r (.l (.l .o)))) false (.bin .gtr 3 (.tmp (.r (.r (.l (.l .o))))) (.tmp (.l (.l (.r (.l .o)))))) (.r (.l (.r (.l .o)))),
 .go (.pick (.tmp (.l (.r (.l (.l .o))))) (.con (.bool true)) (.tmp (.r (.l (.r (.l .o)))))) (.l (.r (.r (.l .o))))]) (.cond (.tmp (.l (.r (.r (.l .o))))) (.seq (.run [.go (.move (.con (.bool false))) (.r (.l .o))]) .ret) .skip)) (.run [.go (.move (.tmp (.l (.l (.l .o))))) (.r (.r (.r (.l .o)))),
 .go (.move (.tmp (.r (.r (.r (.l .o)))))) (.l (.r .o))])))) (.run [.go (.bin .add 3 (.tmp (.r (.r (.l .o)))) (.con (.int .i64 (.ofNat 1)))) (.l (.l (.l (.r .o)))),
 .go (.move (.tmp (.l (.l (.l (.r .o)))))) (.r (.r (.l .o)))]))))))) (.seq (.run [.go (.move (.con (.bool true))) (.r (.l .o))]) .ret))))
noncomputable def f45 : FFunc := .mk c45 (.n U (.n U (.n U (.n U (.n U .e .e) (.n U .e .e)) (.n U (.n U .e .e) .e)) (.n U (.n U (.n U .e .e) .e) (.n U (.n U .e .e) .e))) (.n U (.n U (.n U (.n U .e .e) .e) (.n U (.n U .e .e) .e)) (.n U (.n U (.n U .e .e) .e) (.n U (.n U .e .e) .e)))) [.o,(.l .o)] [.tmp (.r (.l .o))]
theorem e45 : @compF Tryz.prog (Gl.none Tryz.prog) Tryz.f45 2 = f45 := by kernel_rfl
theorem o45 : okF Tryz.prog Tryz.f45 = true := by kernel_rfl
theorem g45 : Tryz.prog.funcs[(45 : Nat)]? = some Tryz.f45 := by kernel_rfl
noncomputable def c46 : FCode := (.seq (.run [.go (.box 70 (.tmp .o)) (.l (.l .o)),
 .go (.move (.con (.bool false))) (.r (.l .o))]) (.seq (.run [.go (.load1 (.tmp (.l .o))) (.l (.r .o)),
 .go (.fieldAddr 0 (.tmp (.l (.l .o)))) (.r (.r .o)),
 .go (.load1 (.tmp (.r (.r .o)))) (.l (.l (.l .o))),
 .go (.call (.con (.func (.func 47) ⟨[]⟩ ⟨[]⟩)) [(.tmp (.l (.r .o))),(.tmp (.l (.l (.l .o))))]) (.r (.l (.l .o))),
 .go (.move (.tmp (.r (.l (.l .o))))) (.l (.r (.l .o))),
 .gd (.l (.r (.l .o))) false (.load1 (.tmp (.r .o))) (.r (.r (.l .o))),
 .gd (.l (.r (.l .o))) false (.fieldAddr 1 (.tmp (.l (.l .o)))) (.l (.l (.r .o))),
 .gd (.l (.r (.l .o))) false (.load1 (.tmp (.l (.l (.r .o))))) (.r (.l (.r .o))),
 .gd (.l (.r (.l .o))) false (.call (.con (.func (.func 47) ⟨[]⟩ ⟨[]⟩)) [(.tmp (.r (.r (.l .o)))),(.tmp (.r (.l (.r .o))))]) (.l (.r (.r .o))),
 .go (.pick (.tmp (.l (.r (.l .o)))) (.con (.bool true)) (.tmp (.l (.r (.r .o))))) (.r (.r (.r .o))),
 .go (.move (.tmp (.r (.r (.r .o))))) (.r (.l .o))]) .ret))
noncomputable def f46 : FFunc := .mk c46 (.n U (.n U (.n U (.n U .e .e) (.n U .e .e)) (.n U (.n U .e .e) (.n U .e .e))) (.n U (.n U (.n U .e .e) (.n U .e .e)) (.n U (.n U .e .e) (.n U .e .e)))) [.o,(.l .o),(.r .o)] [.tmp (.r (.l .o))]
theorem e46 : @compF Tryz.prog (Gl.none Tryz.prog) Tryz.f46 3 = f46 := by kernel_rfl
theorem o46 : okF Tryz.prog Tryz.f46 = true := by kernel_rfl
theorem g46 : Tryz.prog.funcs[(46 : Nat)]? = some Tryz.f46 := by kernel_rfl
noncomputable def c47 : FCode := (.seq (.run [.go (.move (.con (.bool false))) (.r (.l .o))]) (.seq (.run [.go (.move (.tmp .o)) (.l (.r .o)),
 .go (.move (.tmp (.l .o))) (.r (.r .o)),
 .go (.call (.con (.func (.func 67) ⟨[]⟩ ⟨[]⟩)) [(.tmp (.l (.r .o))),(.tmp (.r (.r .o)))]) (.l (.l (.l .o))),
 .go (.bin .geq 3 (.tmp (.l (.l (.l .o)))) (.con (.int .i64 (.ofNat 0)))) (.r (.l (.l .o))),
 .go (.move (.tmp (.r (.l (.l .o))))) (.r (.l .o))]) .ret))
noncomputable def f47 : FFunc := .mk c47 (.n U (.n U (.n U (.n U .e .e) .e) (.n U .e .e)) (.n U (.n U (.n U .e .e) .e) (.n U .e .e))) [.o,(.l .o)] [.tmp (.r (.l .o))]
theorem e47 : @compF Tryz.prog (Gl.none Tryz.prog) Tryz.f47 2 = f47 := by kernel_rfl
theorem o47 : okF Tryz.prog Tryz.f47 = true := by kernel_rfl
theorem g47 : Tryz.prog.funcs[(47 : Nat)]? = some Tryz.f47 := by kernel_rfl
noncomputable def c48 : FCode := (.seq (.run [.go (.move (.con (.bool false))) (.r (.l .o))]) (.seq (.seq (.run [.go (.move (.tmp .o)) (.l (.l (.l .o))),
 .go (.len 0 (.tmp (.l (.l (.l .o))))) (.r (.l (.l .o))),
 .go (.move (.con (.int .i64 (.ofNat 0)))) (.l (.r (.l .o)))]) (.block 0 (.loop (.seq (.run [.go (.bin .lss 3 (.tmp (.l (.r (.l .o)))) (.tmp (.r (.l (.l .o))))) (.r (.r (.l .o)))]) (.seq (.cond (.tmp (.r (.r (.l .o)))) .skip (.exit 0)) (.seq (.block 1 (.seq (.run [.go (.indexAddr none 2 (.tmp (.l (.l (.l .o)))) (.tmp (.l (.r (.l .o))))) (.l (.l (.r .o))),
 .go (.loadN 2 (.tmp (.l (.l (.r .o))))) (.r (.l (.r .o))),
 .go (.alloc 70 [(.int .i64 (.ofNat 0)),(.int .i64 (.ofNat 0))]) (.r (.r .o)),
 .un (.store 2 (.tmp (.r (.r .o))) (.tmp (.r (.l (.r .o)))))]) (.seq (.run [.go (.move (.tmp (.l .o))) (.l (.r (.r .o))),
 .go (.loadN 2 (.tmp (.r (.r .o)))) (.r (.r (.r .o))),
 .go (.call (.tmp (.l (.r (.r .o)))) [(.tmp (.r (.r (.r .o))))]) (.l (.l (.l (.l .o)))),
 .go (.un .not (.tmp (.l (.l (.l (.l .o)))))) (.r (.l (.l (.l .o))))]) (.cond (.tmp (.r (.l (.l (.l .o))))) (.seq (.run [.go (.move (.con (.bool false))) (.r (.l .o))]) .ret) .skip)))) (.run [.go (.bin .add 3 (.tmp (.l (.r (.l .o)))) (.con (.int .i64 (.ofNat 1)))) (.l (.r (.l (.l .o)))),
 .go (.move (.tmp (.l (.r (.l (.l .o)))))) (.l (.r (.l .o)))]))))))) (.seq (.run [.go (.move (.con (.bool true))) (.r (.l .o))]) .ret)))
noncomputable def f48 : FFunc := .mk c48 (.n U (.n U (.n U (.n U (.n U .e .e) .e) (.n U .e .e)) (.n U (.n U (.n U .e .e) .e) (.n U .e .e))) (.n U (.n U (.n U (.n U .e .e) .e) (.n U .e .e)) (.n U (.n U .e .e) (.n U .e .e)))) [.o,(.l .o)] [.tmp (.r (.l .o))]
theorem e48 : @compF Tryz.prog (Gl.none Tryz.prog) Tryz.f48 2 = f48 := by kernel_rfl
theorem o48 : okF Tryz.prog Tryz.f48 = true := by kernel_rfl
theorem g48 : Tryz.prog.funcs[(48 : Nat)]? = some Tryz.f48 := by kernel_rfl
noncomputable def c49 : FCode := (.seq (.run [.go (.box 70 (.tmp .o)) (.r .o),
 .go (.move (.con (.bool false))) (.l (.l .o))]) (.seq (.run [.go (.fieldAddr 0 (.tmp (.r .o))) (.r (.l .o)),
 .go (.load1 (.tmp (.r (.l .o)))) (.l (.r .o)),
 .go (.fieldAddr 0 (.tmp (.l .o))) (.r (.r .o)),
 .go (.load1 (.tmp (.r (.r .o)))) (.l (.l (.l .o))),
 .go (.bin .eql 3 (.tmp (.l (.r .o))) (.tmp (.l (.l (.l .o))))) (.r (.l (.l .o))),
 .go (.move (.tmp (.r (.l (.l .o))))) (.l (.r (.l .o))),
 .gd (.l (.r (.l .o))) false (.fieldAddr 1 (.tmp (.r .o))) (.r (.r (.l .o))),
 .gd (.l (.r (.l .o))) false (.load1 (.tmp (.r (.r (.l .o))))) (.l (.l (.r .o))),
 .gd (.l (.r (.l .o))) false (.fieldAddr 1 (.tmp (.l .o))) (.r (.l (.r .o))),
 .gd (.l (.r (.l .o))) false (.load1 (.tmp (.r (.l (.r .o))))) (.l (.r (.r .o))),
 .gd (.l (.r (.l .o))) false (.bin .eql 3 (.tmp (.l (.l (.r .o)))) (.tmp (.l (.r (.r .o))))) (.r (.r (.r .o))),
 .go (.pick (.tmp (.l (.r (.l .o)))) (.con (.bool true)) (.tmp (.r (.r (.r .o))))) (.l (.l (.l (.l .o)))),
 .go (.move (.tmp (.l (.l (.l (.l .o)))))) (.l (.l .o))]) .ret))
noncomputable def f49 : FFunc := .mk c49 (.n U (.n U (.n U (.n U (.n U .e .e) .e) (.n U .e .e)) (.n U (.n U .e .e) (.n U .e .e))) (.n U (.n U (.n U .e .e) (.n U .e .e)) (.n U (.n U .e .e) (.n U .e .e)))) [.o,(.l .o)] [.tmp (.l (.l .o))]
theorem e49 : @compF Tryz.prog (Gl.none Tryz.prog) Tryz.f49 2 = f49 := by kernel_rfl
theorem o49 : okF Tryz.prog Tryz.f49 = true := by kernel_rfl
theorem g49 : Tryz.prog.funcs[(49 : Nat)]? = some Tryz.f49 := by kernel_rfl
noncomputable def c50 : FCode := (.seq (.run [.go (.move (.con (.pointer none))) (.r (.l .o))]) (.seq (.run [.go (.move (.tmp .o)) (.r (.l (.l .o))),
 .go (.nilCheck (.tmp (.r (.l (.l .o))))) (.l (.r (.l .o))),
 .go (.loadN 68 (.tmp (.l (.r (.l .o))))) (.r (.r (.l .o))),
 .go (.alloc 82 [(.slice none 0 0),(.slice none 0 0),(.slice none 0 0),(.map none),(.bool false),(.bool false),(.bool false),(.bool false),(.bool false),(.bool false),(.bool false),(.bool false),(.bool false),(.bool false),(.bool false),(.bool false),(.bool false),(.bool false),(.bool false),(.bool false),(.bool false),(.bool false),(.bool false),(.bool false),(.bool false),(.bool false),(.bool false),(.bool false),(.bool false),(.bool false),(.bool false),(.bool false),(.bool false),(.bool false),(.bool false),(.bool false),(.bool false),(.bool false),(.bool false),(.bool false),(.bool false),(.bool false),(.bool false),(.bool false),(.bool false),(.bool false),(.bool false),(.bool false),(.bool false),(.bool false),(.bool false),(.bool false),(.bool false),(.bool false),(.bool false),(.bool false),(.bool false),(.bool false),(.bool false),(.bool false),(.bool false),(.bool false),(.bool false),(.bool false),(.bool false),(.bool false),(.bool false),(.bool false)]) (.l (.r .o)),
 .un (.store 68 (.tmp (.l (.r .o))) (.tmp (.r (.r (.l .o)))))]) (.seq (.seq (.run [.go (.move (.tmp .o)) (.l (.l (.r .o))),
 .go (.move (.tmp (.l .o))) (.r (.l (.r .o))),
 .go (.call (.con (.func (.func 22) ⟨[]⟩ ⟨[]⟩)) [(.tmp (.l (.l (.r .o)))),(.tmp (.r (.l (.r .o))))]) (.l (.r (.r .o))),
 .go (.len 0 (.tmp (.l (.r (.r .o))))) (.r (.r (.r .o))),
 .go (.move (.con (.int .i64 (.ofNat 0)))) (.l (.l (.l (.l .o))))]) (.block 0 (.loop (.seq (.run [.go (.bin .lss 3 (.tmp (.l (.l (.l (.l .o))))) (.tmp (.r (.r (.r .o))))) (.r (.l (.l (.l .o))))]) (.seq (.cond (.tmp (.r (.l (.l (.l .o))))) .skip (.exit 0)) (.seq (.block 1 (.seq (.run [.go (.indexAddr none 2 (.tmp (.l (.r (.r .o)))) (.tmp (.l (.l (.l (.l .o)))))) (.l (.r (.l (.l .o)))),
 .go (.loadN 2 (.tmp (.l (.r (.l (.l .o)))))) (.r (.r (.l (.l .o)))),
 .go (.alloc 70 [(.int .i64 (.ofNat 0)),(.int .i64 (.ofNat 0))]) (.l (.l (.l .o))),
 .un (.store 2 (.tmp (.l (.l (.l .o)))) (.tmp (.r (.r (.l (.l .o))))))]) (.draw 8 [.go (.fieldAddr 0 (.tmp (.l (.l (.l .o))))) (.l (.l (.r (.l .o)))),
 .go (.load1 (.tmp (.l (.l (.r (.l .o)))))) (.r (.l (.r (.l .o)))),
 .go (.fieldAddr 1 (.tmp (.l (.l (.l .o))))) (.l (.r (.r (.l .o)))),
 .go (.load1 (.tmp (.l (.r (.r (.l .o)))))) (.r (.r (.r (.l .o)))),
 .go (.fieldAddr 4 (.tmp (.l (.r .o)))) (.l (.l (.l (.r .o)))),
 .go (.indexAddr (some 8) 8 (.tmp (.l (.l (.l (.r .o))))) (.tmp (.r (.l (.r (.l .o)))))) (.r (.l (.l (.r .o)))),
 .go (.indexAddr (some 8) 1 (.tmp (.r (.l (.l (.r .o))))) (.tmp (.r (.r (.r (.l .o)))))) (.l (.r (.l (.r .o)))),
 .un (.store 1 (.tmp (.l (.r (.l (.r .o))))) (.con (.bool false)))] [.ok,.ok,.ok,.ok,.ok,.ok,.ok,.ok]))) (.run [.go (.bin .add 3 (.tmp (.l (.l (.l (.l .o))))) (.con (.int .i64 (.ofNat 1)))) (.r (.r (.l (.r .o)))),
 .go (.move (.tmp (.r (.r (.l (.r .o)))))) (.l (.l (.l (.l .o))))]))))))) (.seq (.run [.go (.move (.tmp (.l (.r .o)))) (.r (.l .o))]) .ret))))
noncomputable def f50 : FFunc := .mk c50 (.n U (.n U (.n U (.n U (.n U .e .e) (.n U .e .e)) (.n U (.n U .e .e) .e)) (.n U (.n U (.n U .e .e) (.n U .e .e)) (.n U (.n U .e .e) .e))) (.n U (.n U (.n U (.n U .e .e) (.n U .e .e)) (.n U (.n U .e .e) .e)) (.n U (.n U (.n U .e .e) (.n U .e .e)) (.n U (.n U .e .e) .e)))) [.o,(.l .o)] [.tmp (.r (.l .o))]
theorem e50 : @compF Tryz.prog (Gl.none Tryz.prog) Tryz.f50 2 = f50 := by kernel_rfl
theorem o50 : okF Tryz.prog Tryz.f50 = true := by kernel_rfl
theorem g50 : Tryz.prog.funcs[(50 : Nat)]? = some Tryz.f50 := by kernel_rfl
noncomputable def c51 : FCode := (.seq (.run [.go (.move (.con (.bool false))) (.r (.l .o))]) (.seq (.seq (.run [.go (.move (.tmp .o)) (.l (.l (.l .o))),
 .go (.len 0 (.tmp (.l (.l (.l .o))))) (.r (.l (.l .o))),
 .go (.move (.con (.int .i64 (.ofNat 0)))) (.l (.r (.l .o)))]) (.block 0 (.loop (.seq (.run [.go (.bin .lss 3 (.tmp (.l (.r (.l .o)))) (.tmp (.r (.l (.l .o))))) (.r (.r (.l .o)))]) (.seq (.cond (.tmp (.r (.r (.l .o)))) .skip (.exit 0)) (.seq (.block 1 (.seq (.run [.go (.indexAddr none 7 (.tmp (.l (.l (.l .o)))) (.tmp (.l (.r (.l .o))))) (.l (.l (.r .o))),
 .go (.loadN 7 (.tmp (.l (.l (.r .o))))) (.r (.l (.r .o))),
 .go (.alloc 48 [(.int .i64 (.ofNat 0)),(.int .i64 (.ofNat 0)),(.slice none 0 0),(.slice none 0 0),(.int .i64 (.ofNat 0)),(.slice none 0 0),(.int .i64 (.ofNat 0))]) (.r (.r .o)),
 .un (.store 7 (.tmp (.r (.r .o))) (.tmp (.r (.l (.r .o)))))]) (.seq (.run [.go (.move (.tmp (.l .o))) (.l (.r (.r .o))),
 .go (.loadN 7 (.tmp (.r (.r .o)))) (.r (.r (.r .o))),
 .go (.call (.tmp (.l (.r (.r .o)))) [(.tmp (.r (.r (.r .o))))]) (.l (.l (.l (.l .o)))),
 .go (.un .not (.tmp (.l (.l (.l (.l .o)))))) (.r (.l (.l (.l .o))))]) (.cond (.tmp (.r (.l (.l (.l .o))))) (.seq (.run [.go (.move (.con (.bool false))) (.r (.l .o))]) .ret) .skip)))) (.run [.go (.bin .add 3 (.tmp (.l (.r (.l .o)))) (.con (.int .i64 (.ofNat 1)))) (.l (.r (.l (.l .o)))),
 .go (.move (.tmp (.l (.r (.l (.l .o)))))) (.l (.r (.l .o)))]))))))) (.seq (.run [.go (.move (.con (.bool true))) (.r (.l .o))]) .ret)))
noncomputable def f51 : FFunc := .mk c51 (.n U (.n U (.n U (.n U (.n U .e .e) .e) (.n U .e .e)) (.n U (.n U (.n U .e .e) .e) (.n U .e .e))) (.n U (.n U (.n U (.n U .e .e) .e) (.n U .e .e)) (.n U (.n U .e .e) (.n U .e .e)))) [.o,(.l .o)] [.tmp (.r (.l .o))]
theorem e51 : @compF Tryz.prog (Gl.none Tryz.prog) Tryz.f51 2 = f51 := by kernel_rfl
theorem o51 : okF Tryz.prog Tryz.f51 = true := by kernel_rfl
theorem g51 : Tryz.prog.funcs[(51 : Nat)]? = some Tryz.f51 := by kernel_rfl
noncomputable def c52 : FCode := (.seq (.run [.go (.box 48 (.tmp .o)) (.l .o),
 .go (.move (.con (.bool false))) (.r .o)]) (.seq (.run [.go (.fieldAddr 5 (.tmp (.l .o))) (.l (.l .o)),
 .go (.load1 (.tmp (.l (.l .o)))) (.r (.l .o)),
 .go (.len 0 (.tmp (.r (.l .o)))) (.l (.r .o)),
 .go (.bin .leq 3 (.tmp (.l (.r .o))) (.con (.int .i64 (.ofNat 4)))) (.r (.r .o)),
 .go (.move (.tmp (.r (.r .o)))) (.r .o)]) .ret))
noncomputable def f52 : FFunc := .mk c52 (.n U (.n U (.n U .e .e) (.n U .e .e)) (.n U (.n U .e .e) (.n U .e .e))) [.o] [.tmp (.r .o)]
theorem e52 : @compF Tryz.prog (Gl.none Tryz.prog) Tryz.f52 1 = f52 := by kernel_rfl
theorem o52 : okF Tryz.prog Tryz.f52 = true := by kernel_rfl
theorem g52 : Tryz.prog.funcs[(52 : Nat)]? = some Tryz.f52 := by kernel_rfl
noncomputable def c53 : FCode := (.seq (.run [.go (.box 46 (.tmp .o)) (.l .o),
 .go (.move (.con (.int .i64 (.ofNat 0)))) (.r .o)]) (.seq (.seq (.run [.go (.fieldAddr 2 (.tmp (.l .o))) (.l (.l .o)),
 .go (.load1 (.tmp (.l (.l .o)))) (.r (.l .o)),
 .go (.len 0 (.tmp (.r (.l .o)))) (.l (.r .o)),
 .go (.bin .gtr 3 (.tmp (.l (.r .o))) (.con (.int .i64 (.ofNat 4)))) (.r (.r .o)),
 .go (.move (.tmp (.r (.r .o)))) (.l (.l (.l .o))),
 .gd (.l (.l (.l .o))) false (.fieldAddr 3 (.tmp (.l .o))) (.r (.l (.l .o))),
 .gd (.l (.l (.l .o))) false (.load1 (.tmp (.r (.l (.l .o))))) (.l (.r (.l .o))),
 .gd (.l (.l (.l .o))) false (.len 0 (.tmp (.l (.r (.l .o))))) (.r (.r (.l .o))),
 .gd (.l (.l (.l .o))) false (.bin .gtr 3 (.tmp (.r (.r (.l .o)))) (.con (.int .i64 (.ofNat 8)))) (.l (.l (.r .o))),
 .go (.pick (.tmp (.l (.l (.l .o)))) (.con (.bool true)) (.tmp (.l (.l (.r .o))))) (.r (.l (.r .o)))]) (.cond (.tmp (.r (.l (.r .o)))) (.seq (.run [.go (.move (.con (.int .i64 (.ofNat 3)))) (.r .o)]) .ret) .skip)) (.seq (.seq (.run [.go (.loadN 4 (.tmp (.l .o))) (.l (.r (.r .o))),
 .go (.call (.con (.func (.func 68) ⟨[]⟩ ⟨[]⟩)) [(.tmp (.l (.r (.r .o))))]) (.r (.r (.r .o))),
 .go (.un .not (.tmp (.r (.r (.r .o))))) (.l (.l (.l (.l .o))))]) (.cond (.tmp (.l (.l (.l (.l .o))))) (.seq (.run [.go (.move (.con (.int .i64 (.ofNat 1)))) (.r .o)]) .ret) .skip)) (.seq (.run [.go (.move (.con (.int .i64 (.ofNat 0)))) (.r .o)]) .ret))))
noncomputable def f53 : FFunc := .mk c53 (.n U (.n U (.n U (.n U (.n U .e .e) .e) (.n U .e .e)) (.n U (.n U .e .e) (.n U .e .e))) (.n U (.n U (.n U .e .e) (.n U .e .e)) (.n U (.n U .e .e) (.n U .e .e)))) [.o] [.tmp (.r .o)]
theorem e53 : @compF Tryz.prog (Gl.none Tryz.prog) Tryz.f53 1 = f53 := by kernel_rfl
theorem o53 : okF Tryz.prog Tryz.f53 = true := by kernel_rfl
theorem g53 : Tryz.prog.funcs[(53 : Nat)]? = some Tryz.f53 := by kernel_rfl
noncomputable def c54 : FCode := (.seq (.run [.go (.alloc 105 [(.int .i64 (.ofNat 0)),(.int .i64 (.ofNat 0)),(.int .i64 (.ofNat 0))]) .o]) (.seq (.run [.go (.build [(.int .i64 (.ofNat 0)),(.int .i64 (.ofNat 0)),(.int .i64 (.ofNat 0))] [(0,1,(.con (.int .i64 (.ofNat 2)))),(1,1,(.con (.int .i64 (.ofNat 99)))),(2,1,(.con (.int .i64 (.ofNat 9))))]) (.l .o),
 .un (.store 3 (.tmp .o) (.tmp (.l .o)))]) .ret))
noncomputable def f54 : FFunc := .mk c54 (.n U (.n U .e .e) .e) [] [.many .o 3]
theorem e54 : @compF Tryz.prog (Gl.none Tryz.prog) Tryz.f54 0 = f54 := by kernel_rfl
theorem o54 : okF Tryz.prog Tryz.f54 = true := by kernel_rfl
theorem g54 : Tryz.prog.funcs[(54 : Nat)]? = some Tryz.f54 := by kernel_rfl
noncomputable def c55 : FCode := (.seq (.run [.go (.box 105 (.tmp .o)) (.r .o),
 .go (.box 48 (.tmp (.l .o))) (.l (.l .o)),
 .go (.move (.con (.bool false))) (.r (.l .o))]) (.seq (.run [.go (.fieldAddr 4 (.tmp (.l (.l .o)))) (.l (.r .o)),
 .go (.load1 (.tmp (.l (.r .o)))) (.r (.r .o)),
 .go (.bin .leq 3 (.con (.int .i64 (.ofNat 0))) (.tmp (.r (.r .o)))) (.l (.l (.l .o))),
 .go (.move (.tmp (.l (.l (.l .o))))) (.r (.l (.l .o))),
 .gd (.r (.l (.l .o))) true (.fieldAddr 4 (.tmp (.l (.l .o)))) (.l (.r (.l .o))),
 .gd (.r (.l (.l .o))) true (.load1 (.tmp (.l (.r (.l .o))))) (.r (.r (.l .o))),
 .gd (.r (.l (.l .o))) true (.fieldAddr 0 (.tmp (.r .o))) (.l (.l (.r .o))),
 .gd (.r (.l (.l .o))) true (.load1 (.tmp (.l (.l (.r .o))))) (.r (.l (.r .o))),
 .gd (.r (.l (.l .o))) true (.bin .leq 3 (.tmp (.r (.r (.l .o)))) (.tmp (.r (.l (.r .o))))) (.l (.r (.r .o))),
 .go (.pick (.tmp (.r (.l (.l .o)))) (.tmp (.l (.r (.r .o)))) (.con (.bool false))) (.r (.r (.r .o))),
 .go (.move (.tmp (.r (.r (.r .o))))) (.l (.l (.l (.l .o)))),
 .gd (.l (.l (.l (.l .o)))) true (.fieldAddr 5 (.tmp (.l (.l .o)))) (.r (.l (.l (.l .o)))),
 .gd (.l (.l (.l (.l .o)))) true (.load1 (.tmp (.r (.l (.l (.l .o)))))) (.l (.r (.l (.l .o)))),
 .gd (.l (.l (.l (.l .o)))) true (.len 0 (.tmp (.l (.r (.l (.l .o)))))) (.r (.r (.l (.l .o)))),
 .gd (.l (.l (.l (.l .o)))) true (.bin .gtr 3 (.tmp (.r (.r (.l (.l .o))))) (.con (.int .i64 (.ofNat 0)))) (.l (.l (.r (.l .o)))),
 .go (.pick (.tmp (.l (.l (.l (.l .o))))) (.tmp (.l (.l (.r (.l .o))))) (.con (.bool false))) (.r (.l (.r (.l .o)))),
 .go (.move (.tmp (.r (.l (.r (.l .o)))))) (.l (.r (.r (.l .o)))),
 .gd (.l (.r (.r (.l .o)))) true (.fieldAddr 5 (.tmp (.l (.l .o)))) (.r (.r (.r (.l .o)))),
 .gd (.l (.r (.r (.l .o)))) true (.load1 (.tmp (.r (.r (.r (.l .o)))))) (.l (.l (.l (.r .o)))),
 .gd (.l (.r (.r (.l .o)))) true (.fieldAddr 1 (.tmp (.r .o))) (.r (.l (.l (.r .o)))),
 .gd (.l (.r (.r (.l .o)))) true (.load1 (.tmp (.r (.l (.l (.r .o)))))) (.l (.r (.l (.r .o)))),
 .gd (.l (.r (.r (.l .o)))) true (.call (.con (.func (.func 45) ⟨[]⟩ ⟨[]⟩)) [(.tmp (.l (.l (.l (.r .o))))),(.tmp (.l (.r (.l (.r .o)))))]) (.r (.r (.l (.r .o)))),
 .go (.pick (.tmp (.l (.r (.r (.l .o))))) (.tmp (.r (.r (.l (.r .o))))) (.con (.bool false))) (.l (.l (.r (.r .o)))),
 .go (.move (.tmp (.l (.l (.r (.r .o)))))) (.r (.l (.r (.r .o)))),
 .gd (.r (.l (.r (.r .o)))) true (.loadN 3 (.tmp (.r .o))) (.l (.r (.r (.r .o)))),
 .gd (.r (.l (.r (.r .o)))) true (.fieldAddr 6 (.tmp (.l (.l .o)))) (.r (.r (.r (.r .o)))),
 .gd (.r (.l (.r (.r .o)))) true (.load1 (.tmp (.r (.r (.r (.r .o)))))) (.l (.l (.l (.l (.l .o))))),
 .gd (.r (.l (.r (.r .o)))) true (.call (.con (.func (.func 69) ⟨[]⟩ ⟨[]⟩)) [(.tmp (.l (.r (.r (.r .o))))),(.tmp (.l (.l (.l (.l (.l .o))))))]) (.r (.l (.l (.l (.l .o))))),
 .go (.pick (.tmp (.r (.l (.r (.r .o))))) (.tmp (.r (.l (.l (.l (.l .o)))))) (.con (.bool false))) (.l (.r (.l (.l (.l .o))))),
 .go (.move (.tmp (.l (.r (.l (.l (.l .o))))))) (.r (.l .o))]) .ret))
noncomputable def f55 : FFunc := .mk c55 (.n U (.n U (.n U (.n U (.n U (.n U .e .e) .e) (.n U .e .e)) (.n U (.n U .e .e) (.n U .e .e))) (.n U (.n U (.n U (.n U .e .e) .e) (.n U .e .e)) (.n U (.n U .e .e) (.n U .e .e)))) (.n U (.n U (.n U (.n U (.n U .e .e) .e) (.n U .e .e)) (.n U (.n U .e .e) (.n U .e .e))) (.n U (.n U (.n U .e .e) (.n U .e .e)) (.n U (.n U .e .e) (.n U .e .e))))) [.o,(.l .o)] [.tmp (.r (.l .o))]
theorem e55 : @compF Tryz.prog (Gl.none Tryz.prog) Tryz.f55 2 = f55 := by kernel_rfl
theorem o55 : okF Tryz.prog Tryz.f55 = true := by kernel_rfl
theorem g55 : Tryz.prog.funcs[(55 : Nat)]? = some Tryz.f55 := by kernel_rfl
noncomputable def c56 : FCode := (.seq (.run [.go (.move (.con (.bool false))) (.r (.l .o))]) (.seq (.seq (.run [.go (.move (.tmp .o)) (.l (.l (.l .o))),
 .go (.len 0 (.tmp (.l (.l (.l .o))))) (.r (.l (.l .o))),
 .go (.move (.con (.int .i64 (.ofNat 0)))) (.l (.r (.l .o)))]) (.block 0 (.loop (.seq (.run [.go (.bin .lss 3 (.tmp (.l (.r (.l .o)))) (.tmp (.r (.l (.l .o))))) (.r (.r (.l .o)))]) (.seq (.cond (.tmp (.r (.r (.l .o)))) .skip (.exit 0)) (.seq (.block 1 (.seq (.run [.go (.indexAddr none 2 (.tmp (.l (.l (.l .o)))) (.tmp (.l (.r (.l .o))))) (.l (.l (.r .o))),
 .go (.loadN 2 (.tmp (.l (.l (.r .o))))) (.r (.l (.r .o))),
 .go (.alloc 57 [(.int .i64 (.ofNat 0)),(.int .i64 (.ofNat 0))]) (.r (.r .o)),
 .un (.store 2 (.tmp (.r (.r .o))) (.tmp (.r (.l (.r .o)))))]) (.seq (.run [.go (.move (.tmp (.l .o))) (.l (.r (.r .o))),
 .go (.loadN 2 (.tmp (.r (.r .o)))) (.r (.r (.r .o))),
 .go (.call (.tmp (.l (.r (.r .o)))) [(.tmp (.r (.r (.r .o))))]) (.l (.l (.l (.l .o)))),
 .go (.un .not (.tmp (.l (.l (.l (.l .o)))))) (.r (.l (.l (.l .o))))]) (.cond (.tmp (.r (.l (.l (.l .o))))) (.seq (.run [.go (.move (.con (.bool false))) (.r (.l .o))]) .ret) .skip)))) (.run [.go (.bin .add 3 (.tmp (.l (.r (.l .o)))) (.con (.int .i64 (.ofNat 1)))) (.l (.r (.l (.l .o)))),
 .go (.move (.tmp (.l (.r (.l (.l .o)))))) (.l (.r (.l .o)))]))))))) (.seq (.run [.go (.move (.con (.bool true))) (.r (.l .o))]) .ret)))
noncomputable def f56 : FFunc := .mk c56 (.n U (.n U (.n U (.n U (.n U .e .e) .e) (.n U .e .e)) (.n U (.n U (.n U .e .e) .e) (.n U .e .e))) (.n U (.n U (.n U (.n U .e .e) .e) (.n U .e .e)) (.n U (.n U .e .e) (.n U .e .e)))) [.o,(.l .o)] [.tmp (.r (.l .o))]
theorem e56 : @compF Tryz.prog (Gl.none Tryz.prog) Tryz.f56 2 = f56 := by kernel_rfl
theorem o56 : okF Tryz.prog Tryz.f56 = true := by kernel_rfl
theorem g56 : Tryz.prog.funcs[(56 : Nat)]? = some Tryz.f56 := by kernel_rfl
noncomputable def c57 : FCode := (.seq (.run [.go (.box 105 (.tmp .o)) (.r .o),
 .go (.box 57 (.tmp (.l .o))) (.l (.l .o)),
 .go (.move (.con (.bool false))) (.r (.l .o))]) (.seq (.run [.go (.loadN 3 (.tmp (.r .o))) (.l (.r .o)),
 .go (.fieldAddr 0 (.tmp (.l (.l .o)))) (.r (.r .o)),
 .go (.load1 (.tmp (.r (.r .o)))) (.l (.l (.l .o))),
 .go (.call (.con (.func (.func 69) ⟨[]⟩ ⟨[]⟩)) [(.tmp (.l (.r .o))),(.tmp (.l (.l (.l .o))))]) (.r (.l (.l .o))),
 .go (.move (.tmp (.r (.l (.l .o))))) (.l (.r (.l .o))),
 .gd (.l (.r (.l .o))) true (.loadN 3 (.tmp (.r .o))) (.r (.r (.l .o))),
 .gd (.l (.r (.l .o))) true (.fieldAddr 1 (.tmp (.l (.l .o)))) (.l (.l (.r .o))),
 .gd (.l (.r (.l .o))) true (.load1 (.tmp (.l (.l (.r .o))))) (.r (.l (.r .o))),
 .gd (.l (.r (.l .o))) true (.call (.con (.func (.func 69) ⟨[]⟩ ⟨[]⟩)) [(.tmp (.r (.r (.l .o)))),(.tmp (.r (.l (.r .o))))]) (.l (.r (.r .o))),
 .go (.pick (.tmp (.l (.r (.l .o)))) (.tmp (.l (.r (.r .o)))) (.con (.bool false))) (.r (.r (.r .o))),
 .go (.move (.tmp (.r (.r (.r .o))))) (.r (.l .o))]) .ret))
noncomputable def f57 : FFunc := .mk c57 (.n U (.n U (.n U (.n U .e .e) (.n U .e .e)) (.n U (.n U .e .e) (.n U .e .e))) (.n U (.n U (.n U .e .e) (.n U .e .e)) (.n U (.n U .e .e) (.n U .e .e)))) [.o,(.l .o)] [.tmp (.r (.l .o))]
theorem e57 : @compF Tryz.prog (Gl.none Tryz.prog) Tryz.f57 2 = f57 := by kernel_rfl
theorem o57 : okF Tryz.prog Tryz.f57 = true := by kernel_rfl
theorem g57 : Tryz.prog.funcs[(57 : Nat)]? = some Tryz.f57 := by kernel_rfl
noncomputable def c58 : FCode := (.seq (.run [.go (.move (.con (.bool false))) (.r (.l .o))]) (.seq (.run [.go (.move (.tmp .o)) (.l (.r .o)),
 .go (.move (.tmp (.l .o))) (.r (.r .o)),
 .go (.call (.con (.func (.func 50) ⟨[]⟩ ⟨[]⟩)) [(.tmp (.l (.r .o))),(.tmp (.r (.r .o)))]) (.l (.l (.l .o))),
 .go (.call (.con (.func (.func 18) ⟨[]⟩ ⟨[]⟩)) [(.tmp (.l (.l (.l .o))))]) (.r (.l (.l .o))),
 .go (.move (.tmp .o)) (.l (.r (.l .o))),
 .go (.call (.con (.func (.func 18) ⟨[]⟩ ⟨[]⟩)) [(.tmp (.l (.r (.l .o))))]) (.r (.r (.l .o))),
 .go (.bin .lss 3 (.tmp (.r (.l (.l .o)))) (.tmp (.r (.r (.l .o))))) (.l (.l (.r .o))),
 .go (.move (.tmp (.l (.l (.r .o))))) (.r (.l .o))]) .ret))
noncomputable def f58 : FFunc := .mk c58 (.n U (.n U (.n U (.n U .e .e) (.n U .e .e)) (.n U (.n U .e .e) .e)) (.n U (.n U (.n U .e .e) .e) (.n U (.n U .e .e) .e))) [.o,(.l .o)] [.tmp (.r (.l .o))]
theorem e58 : @compF Tryz.prog (Gl.none Tryz.prog) Tryz.f58 2 = f58 := by kernel_rfl
theorem o58 : okF Tryz.prog Tryz.f58 = true := by kernel_rfl
theorem g58 : Tryz.prog.funcs[(58 : Nat)]? = some Tryz.f58 := by kernel_rfl
noncomputable def c59 : FCode := (.seq (.run [.go (.box 70 (.tmp .o)) (.r .o),
 .go (.move (.con (.bool false))) (.l (.l .o))]) (.seq (.run [.go (.fieldAddr 0 (.tmp (.r .o))) (.r (.l .o)),
 .go (.load1 (.tmp (.r (.l .o)))) (.l (.r .o)),
 .go (.load1 (.tmp (.l .o))) (.r (.r .o)),
 .go (.bin .eql 3 (.tmp (.l (.r .o))) (.tmp (.r (.r .o)))) (.l (.l (.l .o))),
 .go (.move (.tmp (.l (.l (.l .o))))) (.l (.l .o))]) .ret))
noncomputable def f59 : FFunc := .mk c59 (.n U (.n U (.n U (.n U .e .e) .e) (.n U .e .e)) (.n U (.n U .e .e) (.n U .e .e))) [.o,(.l .o)] [.tmp (.l (.l .o))]
theorem e59 : @compF Tryz.prog (Gl.none Tryz.prog) Tryz.f59 2 = f59 := by kernel_rfl
theorem o59 : okF Tryz.prog Tryz.f59 = true := by kernel_rfl
theorem g59 : Tryz.prog.funcs[(59 : Nat)]? = some Tryz.f59 := by kernel_rfl
noncomputable def c60 : FCode := (.seq (.run [.go (.box 70 (.tmp .o)) (.r .o),
 .go (.move (.con (.bool false))) (.l (.l .o))]) (.seq (.run [.go (.fieldAddr 1 (.tmp (.r .o))) (.r (.l .o)),
 .go (.load1 (.tmp (.r (.l .o)))) (.l (.r .o)),
 .go (.load1 (.tmp (.l .o))) (.r (.r .o)),
 .go (.bin .eql 3 (.tmp (.l (.r .o))) (.tmp (.r (.r .o)))) (.l (.l (.l .o))),
 .go (.move (.tmp (.l (.l (.l .o))))) (.l (.l .o))]) .ret))
noncomputable def f60 : FFunc := .mk c60 (.n U (.n U (.n U (.n U .e .e) .e) (.n U .e .e)) (.n U (.n U .e .e) (.n U .e .e))) [.o,(.l .o)] [.tmp (.l (.l .o))]
theorem e60 : @compF Tryz.prog (Gl.none Tryz.prog) Tryz.f60 2 = f60 := by kernel_rfl
theorem o60 : okF Tryz.prog Tryz.f60 = true := by kernel_rfl
theorem g60 : Tryz.prog.funcs[(60 : Nat)]? = some Tryz.f60 := by kernel_rfl
noncomputable def c61 : FCode := (.seq (.run [.go (.box 48 (.tmp (.l .o))) (.r (.l .o)),
 .go (.box 48 (.tmp (.r .o))) (.l (.r .o)),
 .go (.move (.con (.bool false))) (.r (.r .o))]) (.seq (.run [.go (.fieldAddr 4 (.tmp (.r (.l .o)))) (.l (.l (.l .o))),
 .go (.load1 (.tmp (.l (.l (.l .o))))) (.r (.l (.l .o))),
 .go (.fieldAddr 4 (.tmp (.l (.r .o)))) (.l (.r (.l .o))),
 .go (.load1 (.tmp (.l (.r (.l .o))))) (.r (.r (.l .o))),
 .go (.bin .eql 3 (.tmp (.r (.l (.l .o)))) (.tmp (.r (.r (.l .o))))) (.l (.l (.r .o))),
 .go (.move (.tmp (.l (.l (.r .o))))) (.r (.l (.r .o))),
 .gd (.r (.l (.r .o))) false (.fieldAddr 4 (.tmp (.r (.l .o)))) (.l (.r (.r .o))),
 .gd (.r (.l (.r .o))) false (.load1 (.tmp (.l (.r (.r .o))))) (.r (.r (.r .o))),
 .gd (.r (.l (.r .o))) false (.bin .eql 3 (.tmp (.r (.r (.r .o)))) (.con (.int .i64 (.ofNat 2)))) (.l (.l (.l (.l .o)))),
 .go (.pick (.tmp (.r (.l (.r .o)))) (.con (.bool true)) (.tmp (.l (.l (.l (.l .o)))))) (.r (.l (.l (.l .o)))),
 .go (.move (.tmp (.r (.l (.l (.l .o)))))) (.l (.r (.l (.l .o)))),
 .gd (.l (.r (.l (.l .o)))) false (.fieldAddr 4 (.tmp (.l (.r .o)))) (.r (.r (.l (.l .o)))),
 .gd (.l (.r (.l (.l .o)))) false (.load1 (.tmp (.r (.r (.l (.l .o)))))) (.l (.l (.r (.l .o)))),
 .gd (.l (.r (.l (.l .o)))) false (.bin .eql 3 (.tmp (.l (.l (.r (.l .o))))) (.con (.int .i64 (.ofNat 2)))) (.r (.l (.r (.l .o)))),
 .go (.pick (.tmp (.l (.r (.l (.l .o))))) (.con (.bool true)) (.tmp (.r (.l (.r (.l .o)))))) (.l (.r (.r (.l .o)))),
 .go (.move (.tmp (.l (.r (.r (.l .o)))))) (.r (.r .o))]) .ret))
noncomputable def f61 : FFunc := .mk c61 (.n U (.n U (.n U (.n U (.n U .e .e) .e) (.n U (.n U .e .e) .e)) (.n U (.n U (.n U .e .e) .e) (.n U (.n U .e .e) .e))) (.n U (.n U (.n U (.n U .e .e) .e) (.n U (.n U .e .e) .e)) (.n U (.n U (.n U .e .e) .e) (.n U .e .e)))) [.o,(.l .o),(.r .o)] [.tmp (.r (.r .o))]
theorem e61 : @compF Tryz.prog (Gl.none Tryz.prog) Tryz.f61 3 = f61 := by kernel_rfl
theorem o61 : okF Tryz.prog Tryz.f61 = true := by kernel_rfl
theorem g61 : Tryz.prog.funcs[(61 : Nat)]? = some Tryz.f61 := by kernel_rfl
noncomputable def c62 : FCode := (.seq (.run [.go (.box 48 (.tmp (.l .o))) (.r (.l .o)),
 .go (.box 48 (.tmp (.r .o))) (.l (.r .o)),
 .go (.move (.con (.bool false))) (.r (.r .o))]) (.seq (.run [.go (.fieldAddr 5 (.tmp (.r (.l .o)))) (.l (.l (.l .o))),
 .go (.load1 (.tmp (.l (.l (.l .o))))) (.r (.l (.l .o))),
 .go (.makeFunc 71 [] [(.tmp (.l (.r .o)))]) (.l (.r (.l .o))),
 .go (.call (.con (.func (.func 70) ⟨[]⟩ ⟨[]⟩)) [(.tmp (.r (.l (.l .o)))),(.tmp (.l (.r (.l .o))))]) (.r (.r (.l .o))),
 .go (.move (.tmp (.r (.r (.l .o))))) (.r (.r .o))]) .ret))
noncomputable def f62 : FFunc := .mk c62 (.n U (.n U (.n U (.n U .e .e) .e) (.n U (.n U .e .e) .e)) (.n U (.n U (.n U .e .e) .e) (.n U (.n U .e .e) .e))) [.o,(.l .o),(.r .o)] [.tmp (.r (.r .o))]
theorem e62 : @compF Tryz.prog (Gl.none Tryz.prog) Tryz.f62 3 = f62 := by kernel_rfl
theorem o62 : okF Tryz.prog Tryz.f62 = true := by kernel_rfl
theorem g62 : Tryz.prog.funcs[(62 : Nat)]? = some Tryz.f62 := by kernel_rfl
noncomputable def c63 : FCode := (.seq (.run [.go (.box 48 (.tmp (.l .o))) (.r (.l .o)),
 .go (.box 48 (.tmp (.r .o))) (.l (.r .o)),
 .go (.move (.con (.bool false))) (.r (.r .o))]) (.seq (.draw 18 [.go (.fieldAddr 6 (.tmp (.r (.l .o)))) (.l (.l (.l .o))),
 .go (.load1 (.tmp (.l (.l (.l .o))))) (.r (.l (.l .o))),
 .go (.fieldAddr 6 (.tmp (.l (.r .o)))) (.l (.r (.l .o))),
 .go (.load1 (.tmp (.l (.r (.l .o))))) (.r (.r (.l .o))),
 .go (.bin .eql 3 (.tmp (.r (.l (.l .o)))) (.tmp (.r (.r (.l .o))))) (.l (.l (.r .o))),
 .go (.move (.tmp (.l (.l (.r .o))))) (.r (.l (.r .o))),
 .gd (.r (.l (.r .o))) false (.move (.tmp .o)) (.l (.r (.r .o))),
 .gd (.r (.l (.r .o))) false (.nilCheck (.tmp (.l (.r (.r .o))))) (.r (.r (.r .o))),
 .gd (.r (.l (.r .o))) false (.fieldAddr 3 (.tmp (.r (.r (.r .o))))) (.l (.l (.l (.l .o)))),
 .gd (.r (.l (.r .o))) false (.load1 (.tmp (.l (.l (.l (.l .o)))))) (.r (.l (.l (.l .o)))),
 .gd (.r (.l (.r .o))) false (.fieldAddr 6 (.tmp (.r (.l .o)))) (.l (.r (.l (.l .o)))),
 .gd (.r (.l (.r .o))) false (.load1 (.tmp (.l (.r (.l (.l .o)))))) (.r (.r (.l (.l .o)))),
 .gd (.r (.l (.r .o))) false (.fieldAddr 6 (.tmp (.l (.r .o)))) (.l (.l (.r (.l .o)))),
 .gd (.r (.l (.r .o))) false (.load1 (.tmp (.l (.l (.r (.l .o)))))) (.r (.l (.r (.l .o)))),
 .gd (.r (.l (.r .o))) false (.build [(.int .i64 (.ofNat 0)),(.int .i64 (.ofNat 0))] [(0,1,(.tmp (.r (.r (.l (.l .o)))))),(1,1,(.tmp (.r (.l (.r (.l .o))))))]) (.l (.r (.r (.l .o)))),
 .gd (.r (.l (.r .o))) false (.lookup 57 (.bool false) (.tmp (.r (.l (.l (.l .o))))) (.tmp (.l (.r (.r (.l .o))))) false) (.r (.r (.r (.l .o)))),
 .go (.pick (.tmp (.r (.l (.r .o)))) (.con (.bool true)) (.tmp (.r (.r (.r (.l .o)))))) (.l (.l (.l (.r .o)))),
 .go (.move (.tmp (.l (.l (.l (.r .o)))))) (.r (.r .o))] [.ok,.ok,.ok,.ok,.ok,.ok,.ok,.ok,.ok,.ok,.ok,.ok,.ok,.ok,.ok,.ok,.ok,.ok]) .ret))
noncomputable def f63 : FFunc := .mk c63 (.n U (.n U (.n U (.n U (.n U .e .e) (.n U .e .e)) (.n U (.n U .e .e) .e)) (.n U (.n U (.n U .e .e) .e) (.n U (.n U .e .e) .e))) (.n U (.n U (.n U (.n U .e .e) .e) (.n U (.n U .e .e) .e)) (.n U (.n U (.n U .e .e) .e) (.n U (.n U .e .e) .e)))) [.o,(.l .o),(.r .o)] [.tmp (.r (.r .o))]
theorem e63 : @compF Tryz.prog (Gl.none Tryz.prog) Tryz.f63 3 = f63 := by kernel_rfl
theorem o63 : okF Tryz.prog Tryz.f63 = true := by kernel_rfl
theorem g63 : Tryz.prog.funcs[(63 : Nat)]? = some Tryz.f63 := by kernel_rfl
noncomputable def c64 : FCode := (.seq (.run [.go (.box 48 (.tmp (.l .o))) (.r (.l .o)),
 .go (.box 48 (.tmp (.r .o))) (.l (.r .o)),
 .go (.move (.con (.bool false))) (.r (.r .o))]) (.seq (.run [.go (.fieldAddr 0 (.tmp (.r (.l .o)))) (.r (.r (.l .o))),
 .go (.loadN 4 (.tmp (.r (.r (.l .o))))) (.l (.l (.r .o))),
 .go (.fieldAddr 0 (.tmp (.l (.r .o)))) (.r (.l (.r .o))),
 .go (.loadN 4 (.tmp (.r (.l (.r .o))))) (.l (.r (.r .o))),
 .go (.call (.con (.func (.func 72) ⟨[]⟩ ⟨[]⟩)) [(.tmp (.l (.l (.r .o)))),(.tmp (.l (.r (.r .o))))]) (.r (.r (.r .o))),
 .go (.move (.tmp (.r (.r (.r .o))))) (.l (.r (.l .o))),
 .go (.extract (.tmp (.l (.r (.l .o)))) 0) (.l (.l (.l (.l .o)))),
 .go (.extract (.tmp (.l (.r (.l .o)))) 1) (.r (.l (.l (.l .o)))),
 .go (.move (.tmp (.l (.l (.l (.l .o)))))) (.l (.l (.l .o))),
 .go (.move (.tmp (.r (.l (.l (.l .o)))))) (.r (.l (.l .o)))]) (.seq (.run [.go (.move (.tmp (.l (.l (.l .o))))) (.l (.r (.l (.l .o)))),
 .go (.move (.tmp (.l (.r (.l (.l .o)))))) (.r (.r (.l (.l .o)))),
 .gd (.r (.r (.l (.l .o)))) true (.move (.tmp (.r (.l (.l .o))))) (.l (.l (.r (.l .o)))),
 .gd (.r (.r (.l (.l .o)))) true (.bin .eql 22 (.tmp (.l (.l (.r (.l .o))))) (.con (.int .i64 (.ofNat 0)))) (.r (.l (.r (.l .o)))),
 .go (.pick (.tmp (.r (.r (.l (.l .o))))) (.tmp (.r (.l (.r (.l .o))))) (.con (.bool false))) (.l (.r (.r (.l .o)))),
 .go (.move (.tmp (.l (.r (.r (.l .o)))))) (.r (.r .o))]) .ret)))
noncomputable def f64 : FFunc := .mk c64 (.n U (.n U (.n U (.n U (.n U .e .e) .e) (.n U (.n U .e .e) .e)) (.n U (.n U (.n U .e .e) .e) (.n U (.n U .e .e) .e))) (.n U (.n U (.n U (.n U .e .e) .e) (.n U (.n U .e .e) .e)) (.n U (.n U (.n U .e .e) .e) (.n U .e .e)))) [.o,(.l .o),(.r .o)] [.tmp (.r (.r .o))]
theorem e64 : @compF Tryz.prog (Gl.none Tryz.prog) Tryz.f64 3 = f64 := by kernel_rfl
theorem o64 : okF Tryz.prog Tryz.f64 = true := by kernel_rfl
theorem g64 : Tryz.prog.funcs[(64 : Nat)]? = some Tryz.f64 := by kernel_rfl
noncomputable def c65 : FCode := (.seq (.run [.go (.load1 (.tmp (.l .o))) (.l (.r .o)),
 .go (.nilCheck (.tmp (.l (.r .o)))) (.r (.r .o)),
 .go (.fieldAddr 0 (.tmp (.r (.r .o)))) (.l (.l (.l .o))),
 .go (.fieldAddr 1 (.tmp (.l (.l (.l .o))))) (.r (.l (.l .o))),
 .go (.load1 (.tmp (.r (.l (.l .o))))) (.l (.r (.l .o))),
 .go (.len 0 (.tmp (.l (.r (.l .o))))) (.r (.r (.l .o))),
 .go (.move (.con (.int .i64 (.ofNat 0)))) (.l (.l (.r .o)))]) (.block 0 (.loop (.seq (.run [.go (.bin .lss 3 (.tmp (.l (.l (.r .o)))) (.tmp (.r (.r (.l .o))))) (.r (.l (.r .o)))]) (.seq (.cond (.tmp (.r (.l (.r .o)))) .skip (.exit 0)) (.seq (.block 1 (.seq (.run [.go (.move (.tmp (.l (.l (.r .o))))) (.l (.r (.r .o))),
 .go (.move (.tmp (.l (.r (.r .o))))) (.r (.l .o))]) (.seq (.draw 14 [.go (.load1 (.tmp (.l .o))) (.r (.r (.r .o))),
 .go (.load1 (.tmp (.r .o))) (.l (.l (.l (.l .o)))),
 .go (.move (.tmp (.r (.l .o)))) (.r (.l (.l (.l .o)))),
 .go (.nilCheck (.tmp (.r (.r (.r .o))))) (.l (.r (.l (.l .o)))),
 .go (.fieldAddr 4 (.tmp (.l (.r (.l (.l .o)))))) (.r (.r (.l (.l .o)))),
 .go (.indexAddr (some 8) 8 (.tmp (.r (.r (.l (.l .o))))) (.tmp (.l (.l (.l (.l .o)))))) (.l (.l (.r (.l .o)))),
 .go (.indexAddr (some 8) 1 (.tmp (.l (.l (.r (.l .o))))) (.tmp (.r (.l (.l (.l .o)))))) (.r (.l (.r (.l .o)))),
 .go (.load1 (.tmp (.r (.l (.r (.l .o)))))) (.l (.r (.r (.l .o)))),
 .go (.move (.tmp (.l (.r (.r (.l .o)))))) (.r (.r (.r (.l .o)))),
 .gd (.r (.r (.r (.l .o)))) true (.move (.tmp .o)) (.l (.l (.l (.r .o)))),
 .gd (.r (.r (.r (.l .o)))) true (.move (.tmp (.r (.l .o)))) (.r (.l (.l (.r .o)))),
 .gd (.r (.r (.r (.l .o)))) true (.call (.tmp (.l (.l (.l (.r .o))))) [(.tmp (.r (.l (.l (.r .o)))))]) (.l (.r (.l (.r .o)))),
 .gd (.r (.r (.r (.l .o)))) true (.un .not (.tmp (.l (.r (.l (.r .o)))))) (.r (.r (.l (.r .o)))),
 .go (.pick (.tmp (.r (.r (.r (.l .o))))) (.tmp (.r (.r (.l (.r .o))))) (.con (.bool false))) (.l (.l (.r (.r .o))))] [.ok,.ok,.ok,.ok,.ok,.ok,.ok,.ok,.ok,.ok,.ok,.ok,.ok,.ok]) (.cond (.tmp (.l (.l (.r (.r .o))))) .ret .skip)))) (.run [.go (.bin .add 3 (.tmp (.l (.l (.r .o)))) (.con (.int .i64 (.ofNat 1)))) (.r (.l (.r (.r .o)))),
 .go (.move (.tmp (.r (.l (.r (.r .o)))))) (.l (.l (.r .o)))])))))))
noncomputable def f65 : FFunc := .mk c65 (.n U (.n U (.n U (.n U (.n U .e .e) (.n U .e .e)) (.n U (.n U .e .e) (.n U .e .e))) (.n U (.n U (.n U .e .e) (.n U .e .e)) (.n U (.n U .e .e) .e))) (.n U (.n U (.n U (.n U .e .e) (.n U .e .e)) (.n U (.n U .e .e) (.n U .e .e))) (.n U (.n U (.n U .e .e) (.n U .e .e)) (.n U (.n U .e .e) .e)))) [.o,(.l .o),(.r .o)] []
theorem e65 : @compF Tryz.prog (Gl.none Tryz.prog) Tryz.f65 3 = f65 := by kernel_rfl
theorem o65 : okF Tryz.prog Tryz.f65 = true := by kernel_rfl
theorem g65 : Tryz.prog.funcs[(65 : Nat)]? = some Tryz.f65 := by kernel_rfl
noncomputable def c66 : FCode := (.seq (.run [.go (.box 70 (.tmp .o)) (.r .o),
 .go (.move (.con (.bool false))) (.l (.l .o))]) (.seq (.run [.go (.loadN 2 (.tmp (.r .o))) (.r (.l .o)),
 .go (.loadN 2 (.tmp (.l .o))) (.l (.r .o)),
 .go (.bin .eql 70 (.tmp (.r (.l .o))) (.tmp (.l (.r .o)))) (.r (.r .o)),
 .go (.move (.tmp (.r (.r .o)))) (.l (.l .o))]) .ret))
noncomputable def f66 : FFunc := .mk c66 (.n U (.n U (.n U .e .e) (.n U .e .e)) (.n U (.n U .e .e) (.n U .e .e))) [.o,(.l .o)] [.tmp (.l (.l .o))]
theorem e66 : @compF Tryz.prog (Gl.none Tryz.prog) Tryz.f66 2 = f66 := by kernel_rfl
theorem o66 : okF Tryz.prog Tryz.f66 = true := by kernel_rfl
theorem g66 : Tryz.prog.funcs[(66 : Nat)]? = some Tryz.f66 := by kernel_rfl
noncomputable def c67 : FCode := (.seq (.run [.go (.move (.con (.int .i64 (.ofNat 0)))) (.r (.l .o))]) (.seq (.seq (.run [.go (.move (.tmp .o)) (.r (.r .o)),
 .go (.len 0 (.tmp (.r (.r .o)))) (.l (.l (.l .o))),
 .go (.move (.con (.int .i64 (.ofNat 0)))) (.r (.l (.l .o)))]) (.block 0 (.loop (.seq (.run [.go (.bin .lss 3 (.tmp (.r (.l (.l .o)))) (.tmp (.l (.l (.l .o))))) (.l (.r (.l .o)))]) (.seq (.cond (.tmp (.l (.r (.l .o)))) .skip (.exit 0)) (.seq (.block 1 (.seq (.run [.go (.move (.tmp (.r (.l (.l .o))))) (.r (.r (.l .o))),
 .go (.move (.tmp (.r (.r (.l .o))))) (.l (.r .o))]) (.seq (.run [.go (.move (.tmp (.l .o))) (.l (.l (.r .o))),
 .go (.move (.tmp .o)) (.r (.l (.r .o))),
 .go (.move (.tmp (.l (.r .o)))) (.l (.r (.r .o))),
 .go (.indexAddr none 1 (.tmp (.r (.l (.r .o)))) (.tmp (.l (.r (.r .o))))) (.r (.r (.r .o))),
 .go (.load1 (.tmp (.r (.r (.r .o))))) (.l (.l (.l (.l .o)))),
 .go (.bin .eql 3 (.tmp (.l (.l (.r .o)))) (.tmp (.l (.l (.l (.l .o)))))) (.r (.l (.l (.l .o))))]) (.cond (.tmp (.r (.l (.l (.l .o))))) (.seq (.run [.go (.move (.tmp (.l (.r .o)))) (.l (.r (.l (.l .o)))),
 .go (.move (.tmp (.l (.r (.l (.l .o)))))) (.r (.l .o))]) .ret) .skip)))) (.run [.go (.bin .add 3 (.tmp (.r (.l (.l .o)))) (.con (.int .i64 (.ofNat 1)))) (.r (.r (.l (.l .o)))),
 .go (.move (.tmp (.r (.r (.l (.l .o)))))) (.r (.l (.l .o)))]))))))) (.seq (.run [.go (.move (.con (.int .i64 (.negSucc 0)))) (.r (.l .o))]) .ret)))
noncomputable def f67 : FFunc := .mk c67 (.n U (.n U (.n U (.n U (.n U .e .e) .e) (.n U .e .e)) (.n U (.n U (.n U .e .e) .e) (.n U .e .e))) (.n U (.n U (.n U (.n U .e .e) .e) (.n U .e .e)) (.n U (.n U (.n U .e .e) .e) (.n U .e .e)))) [.o,(.l .o)] [.tmp (.r (.l .o))]
theorem e67 : @compF Tryz.prog (Gl.none Tryz.prog) Tryz.f67 2 = f67 := by kernel_rfl
theorem o67 : okF Tryz.prog Tryz.f67 = true := by kernel_rfl
theorem g67 : Tryz.prog.funcs[(67 : Nat)]? = some Tryz.f67 := by kernel_rfl
noncomputable def c68 : FCode := (.seq (.run [.go (.box 46 (.tmp .o)) (.l .o),
 .go (.move (.con (.bool false))) (.r .o)]) (.seq (.draw 23 [.go (.fieldAddr 0 (.tmp (.l .o))) (.l (.l .o)),
 .go (.loadN 2 (.tmp (.l (.l .o)))) (.r (.l .o)),
 .go (.call (.con (.func (.func 74) ⟨[]⟩ ⟨[]⟩)) []) (.l (.r .o)),
 .go (.call (.con (.func (.func 73) ⟨[]⟩ ⟨[]⟩)) [(.tmp (.r (.l .o))),(.tmp (.l (.r .o)))]) (.r (.r .o)),
 .go (.move (.tmp (.r (.r .o)))) (.l (.l (.l .o))),
 .gd (.l (.l (.l .o))) true (.fieldAddr 2 (.tmp (.l .o))) (.r (.l (.l .o))),
 .gd (.l (.l (.l .o))) true (.load1 (.tmp (.r (.l (.l .o))))) (.l (.r (.l .o))),
 .gd (.l (.l (.l .o))) true (.len 0 (.tmp (.l (.r (.l .o))))) (.r (.r (.l .o))),
 .gd (.l (.l (.l .o))) true (.bin .gtr 3 (.tmp (.r (.r (.l .o)))) (.con (.int .i64 (.ofNat 0)))) (.l (.l (.r .o))),
 .go (.pick (.tmp (.l (.l (.l .o)))) (.tmp (.l (.l (.r .o)))) (.con (.bool false))) (.r (.l (.r .o))),
 .go (.move (.tmp (.r (.l (.r .o))))) (.l (.r (.r .o))),
 .gd (.l (.r (.r .o))) true (.fieldAddr 2 (.tmp (.l .o))) (.r (.r (.r .o))),
 .gd (.l (.r (.r .o))) true (.load1 (.tmp (.r (.r (.r .o))))) (.l (.l (.l (.l .o)))),
 .gd (.l (.r (.r .o))) true (.call (.con (.func (.func 75) ⟨[]⟩ ⟨[]⟩)) [(.tmp (.l (.l (.l (.l .o))))),(.con (.func (.func 76) ⟨[]⟩ ⟨[]⟩))]) (.r (.l (.l (.l .o)))),
 .go (.pick (.tmp (.l (.r (.r .o)))) (.tmp (.r (.l (.l (.l .o))))) (.con (.bool false))) (.l (.r (.l (.l .o)))),
 .go (.move (.tmp (.l (.r (.l (.l .o)))))) (.r (.r (.l (.l .o)))),
 .gd (.r (.r (.l (.l .o)))) true (.fieldAddr 3 (.tmp (.l .o))) (.l (.l (.r (.l .o)))),
 .gd (.r (.r (.l (.l .o)))) true (.load1 (.tmp (.l (.l (.r (.l .o)))))) (.r (.l (.r (.l .o)))),
 .gd (.r (.r (.l (.l .o)))) true (.loadN 4 (.tmp (.l .o))) (.l (.r (.r (.l .o)))),
 .gd (.r (.r (.l (.l .o)))) true (.makeFunc 78 [(.tmp (.l (.r (.r (.l .o)))))] []) (.r (.r (.r (.l .o)))),
 .gd (.r (.r (.l (.l .o)))) true (.call (.con (.func (.func 77) ⟨[]⟩ ⟨[]⟩)) [(.tmp (.r (.l (.r (.l .o))))),(.tmp (.r (.r (.r (.l .o)))))]) (.l (.l (.l (.r .o)))),
 .go (.pick (.tmp (.r (.r (.l (.l .o))))) (.tmp (.l (.l (.l (.r .o))))) (.con (.bool false))) (.r (.l (.l (.r .o)))),
 .go (.move (.tmp (.r (.l (.l (.r .o)))))) (.r .o)] [.ok,.rd none (.loadN 2 (.tmp (.l (.l .o)))) (some (.r (.l .o))) [3],.ok,.ok,.ok,.ok,.ok,.ok,.ok,.ok,.ok,.ok,.ok,.ok,.ok,.ok,.ok,.ok,.ok,.ok,.ok,.ok,.ok]) .ret))
noncomputable def f68 : FFunc := .mk c68 (.n U (.n U (.n U (.n U (.n U .e .e) (.n U .e .e)) (.n U (.n U .e .e) .e)) (.n U (.n U (.n U .e .e) .e) (.n U (.n U .e .e) .e))) (.n U (.n U (.n U (.n U .e .e) (.n U .e .e)) (.n U (.n U .e .e) .e)) (.n U (.n U (.n U .e .e) .e) (.n U (.n U .e .e) .e)))) [.o] [.tmp (.r .o)]
theorem e68 : @compF Tryz.prog (Gl.none Tryz.prog) Tryz.f68 1 = f68 := by kernel_rfl
theorem o68 : okF Tryz.prog Tryz.f68 = true := by kernel_rfl
theorem g68 : Tryz.prog.funcs[(68 : Nat)]? = some Tryz.f68 := by kernel_rfl
noncomputable def c69 : FCode := (.seq (.run [.go (.box 105 (.tmp .o)) (.r .o),
 .go (.move (.con (.bool false))) (.r (.l .o))]) (.seq (.run [.go (.move (.tmp (.l .o))) (.l (.r .o)),
 .go (.bin .leq 3 (.con (.int .i64 (.ofNat 0))) (.tmp (.l (.r .o)))) (.r (.r .o)),
 .go (.move (.tmp (.r (.r .o)))) (.l (.l (.l .o))),
 .gd (.l (.l (.l .o))) true (.move (.tmp (.l .o))) (.r (.l (.l .o))),
 .gd (.l (.l (.l .o))) true (.fieldAddr 2 (.tmp (.r .o))) (.l (.r (.l .o))),
 .gd (.l (.l (.l .o))) true (.load1 (.tmp (.l (.r (.l .o))))) (.r (.r (.l .o))),
 .gd (.l (.l (.l .o))) true (.bin .leq 3 (.tmp (.r (.l (.l .o)))) (.tmp (.r (.r (.l .o))))) (.l (.l (.r .o))),
 .go (.pick (.tmp (.l (.l (.l .o)))) (.tmp (.l (.l (.r .o)))) (.con (.bool false))) (.r (.l (.r .o))),
 .go (.move (.tmp (.r (.l (.r .o))))) (.r (.l .o))]) .ret))
noncomputable def f69 : FFunc := .mk c69 (.n U (.n U (.n U (.n U .e .e) (.n U .e .e)) (.n U (.n U .e .e) .e)) (.n U (.n U (.n U .e .e) (.n U .e .e)) (.n U (.n U .e .e) .e))) [.o,(.l .o)] [.tmp (.r (.l .o))]
theorem e69 : @compF Tryz.prog (Gl.none Tryz.prog) Tryz.f69 2 = f69 := by kernel_rfl
theorem o69 : okF Tryz.prog Tryz.f69 = true := by kernel_rfl
theorem g69 : Tryz.prog.funcs[(69 : Nat)]? = some Tryz.f69 := by kernel_rfl
noncomputable def c70 : FCode := (.seq (.run [.go (.move (.con (.bool false))) (.r (.l .o))]) (.seq (.run [.go (.move (.tmp .o)) (.l (.r .o)),
 .go (.move (.tmp (.l .o))) (.r (.r .o)),
 .go (.call (.con (.func (.func 79) ⟨[]⟩ ⟨[]⟩)) [(.tmp (.l (.r .o))),(.tmp (.r (.r .o)))]) (.l (.l (.l .o))),
 .go (.bin .geq 3 (.tmp (.l (.l (.l .o)))) (.con (.int .i64 (.ofNat 0)))) (.r (.l (.l .o))),
 .go (.move (.tmp (.r (.l (.l .o))))) (.r (.l .o))]) .ret))
noncomputable def f70 : FFunc := .mk c70 (.n U (.n U (.n U (.n U .e .e) .e) (.n U .e .e)) (.n U (.n U (.n U .e .e) .e) (.n U .e .e))) [.o,(.l .o)] [.tmp (.r (.l .o))]
theorem e70 : @compF Tryz.prog (Gl.none Tryz.prog) Tryz.f70 2 = f70 := by kernel_rfl
theorem o70 : okF Tryz.prog Tryz.f70 = true := by kernel_rfl
theorem g70 : Tryz.prog.funcs[(70 : Nat)]? = some Tryz.f70 := by kernel_rfl
noncomputable def c71 : FCode := (.seq (.run [.go (.move (.con (.bool false))) (.l (.l .o))]) (.seq (.run [.go (.fieldAddr 5 (.tmp (.l .o))) (.r (.l .o)),
 .go (.load1 (.tmp (.r (.l .o)))) (.l (.r .o)),
 .go (.move (.tmp .o)) (.r (.r .o)),
 .go (.call (.con (.func (.func 47) ⟨[]⟩ ⟨[]⟩)) [(.tmp (.l (.r .o))),(.tmp (.r (.r .o)))]) (.l (.l (.l .o))),
 .go (.move (.tmp (.l (.l (.l .o))))) (.l (.l .o))]) .ret))
noncomputable def f71 : FFunc := .mk c71 (.n U (.n U (.n U (.n U .e .e) .e) (.n U .e .e)) (.n U (.n U .e .e) (.n U .e .e))) [.o,(.l .o)] [.tmp (.l (.l .o))]
theorem e71 : @compF Tryz.prog (Gl.none Tryz.prog) Tryz.f71 2 = f71 := by kernel_rfl
theorem o71 : okF Tryz.prog Tryz.f71 = true := by kernel_rfl
theorem g71 : Tryz.prog.funcs[(71 : Nat)]? = some Tryz.f71 := by kernel_rfl
noncomputable def c72 : FCode := (.seq (.run [.go (.box 46 (.tmp .o)) (.r .o),
 .go (.box 46 (.tmp (.l .o))) (.l (.l .o)),
 .go (.move (.con (.bool false))) (.r (.l .o)),
 .go (.move (.con (.int .i64 (.ofNat 0)))) (.l (.r .o))]) (.seq (.run [.go (.loadN 4 (.tmp (.r .o))) (.l (.r (.l .o))),
 .go (.loadN 4 (.tmp (.l (.l .o)))) (.r (.r (.l .o))),
 .go (.call (.con (.func (.func 80) ⟨[]⟩ ⟨[]⟩)) [(.tmp (.l (.r (.l .o)))),(.tmp (.r (.r (.l .o))))]) (.l (.l (.r .o))),
 .go (.move (.tmp (.l (.l (.r .o))))) (.r (.l (.l .o))),
 .go (.extract (.tmp (.r (.l (.l .o)))) 0) (.r (.l (.r .o))),
 .go (.extract (.tmp (.r (.l (.l .o)))) 1) (.l (.r (.r .o))),
 .go (.move (.tmp (.r (.l (.r .o))))) (.r (.r .o)),
 .go (.move (.tmp (.l (.r (.r .o))))) (.l (.l (.l .o)))]) (.seq (.run [.go (.move (.tmp (.r (.r .o)))) (.r (.r (.r .o))),
 .go (.len 0 (.tmp (.r (.r (.r .o))))) (.l (.l (.l (.l .o)))),
 .go (.bin .gtr 3 (.tmp (.l (.l (.l (.l .o))))) (.con (.int .i64 (.ofNat 0)))) (.r (.l (.l (.l .o)))),
 .go (.move (.tmp (.l (.l (.l .o))))) (.l (.r (.l (.l .o)))),
 .go (.move (.tmp (.r (.l (.l (.l .o)))))) (.r (.l .o)),
 .go (.move (.tmp (.l (.r (.l (.l .o)))))) (.l (.r .o))]) .ret)))
noncomputable def f72 : FFunc := .mk c72 (.n U (.n U (.n U (.n U (.n U .e .e) .e) (.n U .e .e)) (.n U (.n U (.n U .e .e) .e) (.n U .e .e))) (.n U (.n U (.n U (.n U .e .e) .e) (.n U .e .e)) (.n U (.n U .e .e) (.n U .e .e)))) [.o,(.l .o)] [.tmp (.r (.l .o)),.tmp (.l (.r .o))]
theorem e72 : @compF Tryz.prog (Gl.none Tryz.prog) Tryz.f72 2 = f72 := by kernel_rfl
theorem o72 : okF Tryz.prog Tryz.f72 = true := by kernel_rfl
theorem g72 : Tryz.prog.funcs[(72 : Nat)]? = some Tryz.f72 := by kernel_rfl
noncomputable def c73 : FCode := (.seq (.run [.go (.box 42 (.tmp .o)) (.r .o),
 .go (.box 42 (.tmp (.l .o))) (.l (.l .o)),
 .go (.move (.con (.bool false))) (.r (.l .o))]) (.seq (.run [.go (.fieldAddr 0 (.tmp (.l (.l .o)))) (.l (.r .o)),
 .go (.load1 (.tmp (.l (.r .o)))) (.r (.r .o)),
 .go (.fieldAddr 0 (.tmp (.r .o))) (.l (.l (.l .o))),
 .go (.load1 (.tmp (.l (.l (.l .o))))) (.r (.l (.l .o))),
 .go (.bin .leq 3 (.tmp (.r (.r .o))) (.tmp (.r (.l (.l .o))))) (.l (.r (.l .o))),
 .go (.move (.tmp (.l (.r (.l .o))))) (.r (.r (.l .o))),
 .gd (.r (.r (.l .o))) true (.fieldAddr 0 (.tmp (.r .o))) (.l (.l (.r .o))),
 .gd (.r (.r (.l .o))) true (.load1 (.tmp (.l (.l (.r .o))))) (.r (.l (.r .o))),
 .gd (.r (.r (.l .o))) true (.fieldAddr 1 (.tmp (.r .o))) (.l (.r (.r .o))),
 .gd (.r (.r (.l .o))) true (.load1 (.tmp (.l (.r (.r .o))))) (.r (.r (.r .o))),
 .gd (.r (.r (.l .o))) true (.bin .leq 3 (.tmp (.r (.l (.r .o)))) (.tmp (.r (.r (.r .o))))) (.l (.l (.l (.l .o)))),
 .go (.pick (.tmp (.r (.r (.l .o)))) (.tmp (.l (.l (.l (.l .o))))) (.con (.bool false))) (.r (.l (.l (.l .o)))),
 .go (.move (.tmp (.r (.l (.l (.l .o)))))) (.l (.r (.l (.l .o)))),
 .gd (.l (.r (.l (.l .o)))) true (.fieldAddr 1 (.tmp (.r .o))) (.r (.r (.l (.l .o)))),
 .gd (.l (.r (.l (.l .o)))) true (.load1 (.tmp (.r (.r (.l (.l .o)))))) (.l (.l (.r (.l .o)))),
 .gd (.l (.r (.l (.l .o)))) true (.fieldAddr 1 (.tmp (.l (.l .o)))) (.r (.l (.r (.l .o)))),
 .gd (.l (.r (.l (.l .o)))) true (.load1 (.tmp (.r (.l (.r (.l .o)))))) (.l (.r (.r (.l .o)))),
 .gd (.l (.r (.l (.l .o)))) true (.bin .leq 3 (.tmp (.l (.l (.r (.l .o))))) (.tmp (.l (.r (.r (.l .o)))))) (.r (.r (.r (.l .o)))),
 .go (.pick (.tmp (.l (.r (.l (.l .o))))) (.tmp (.r (.r (.r (.l .o))))) (.con (.bool false))) (.l (.l (.l (.r .o)))),
 .go (.move (.tmp (.l (.l (.l (.r .o)))))) (.r (.l .o))]) .ret))
noncomputable def f73 : FFunc := .mk c73 (.n U (.n U (.n U (.n U (.n U .e .e) (.n U .e .e)) (.n U (.n U .e .e) .e)) (.n U (.n U (.n U .e .e) .e) (.n U (.n U .e .e) .e))) (.n U (.n U (.n U (.n U .e .e) .e) (.n U (.n U .e .e) .e)) (.n U (.n U (.n U .e .e) .e) (.n U (.n U .e .e) .e)))) [.o,(.l .o)] [.tmp (.r (.l .o))]
theorem e73 : @compF Tryz.prog (Gl.none Tryz.prog) Tryz.f73 2 = f73 := by kernel_rfl
theorem o73 : okF Tryz.prog Tryz.f73 = true := by kernel_rfl
theorem g73 : Tryz.prog.funcs[(73 : Nat)]? = some Tryz.f73 := by kernel_rfl
noncomputable def c74 : FCode := (.seq (.run [.go (.alloc 42 [(.int .i64 (.ofNat 0)),(.int .i64 (.ofNat 0))]) .o]) (.seq (.run [.go (.build [(.int .i64 (.ofNat 0)),(.int .i64 (.ofNat 0))] [(0,1,(.con (.int .i64 (.negSucc 49999)))),(1,1,(.con (.int .i64 (.ofNat 50000))))]) (.l .o),
 .un (.store 2 (.tmp .o) (.tmp (.l .o)))]) .ret))
noncomputable def f74 : FFunc := .mk c74 (.n U (.n U .e .e) .e) [] [.many .o 2]
theorem e74 : @compF Tryz.prog (Gl.none Tryz.prog) Tryz.f74 0 = f74 := by kernel_rfl
theorem o74 : okF Tryz.prog Tryz.f74 = true := by kernel_rfl
theorem g74 : Tryz.prog.funcs[(74 : Nat)]? = some Tryz.f74 := by kernel_rfl
noncomputable def c75 : FCode := (.seq (.run [.go (.move (.con (.bool false))) (.r (.l .o))]) (.seq (.seq (.run [.go (.move (.tmp .o)) (.l (.l (.l .o))),
 .go (.len 0 (.tmp (.l (.l (.l .o))))) (.r (.l (.l .o))),
 .go (.move (.con (.int .i64 (.ofNat 0)))) (.l (.r (.l .o)))]) (.block 0 (.loop (.seq (.run [.go (.bin .lss 3 (.tmp (.l (.r (.l .o)))) (.tmp (.r (.l (.l .o))))) (.r (.r (.l .o)))]) (.seq (.cond (.tmp (.r (.r (.l .o)))) .skip (.exit 0)) (.seq (.block 1 (.seq (.run [.go (.indexAddr none 4 (.tmp (.l (.l (.l .o)))) (.tmp (.l (.r (.l .o))))) (.l (.l (.r .o))),
 .go (.loadN 4 (.tmp (.l (.l (.r .o))))) (.r (.l (.r .o))),
 .go (.alloc 91 [(.int .i64 (.ofNat 0)),(.int .i64 (.ofNat 0)),(.int .i64 (.ofNat 0)),(.int .i64 (.ofNat 0))]) (.r (.r .o)),
 .un (.store 4 (.tmp (.r (.r .o))) (.tmp (.r (.l (.r .o)))))]) (.seq (.run [.go (.move (.tmp (.l .o))) (.l (.r (.r .o))),
 .go (.loadN 4 (.tmp (.r (.r .o)))) (.r (.r (.r .o))),
 .go (.call (.tmp (.l (.r (.r .o)))) [(.tmp (.r (.r (.r .o))))]) (.l (.l (.l (.l .o)))),
 .go (.un .not (.tmp (.l (.l (.l (.l .o)))))) (.r (.l (.l (.l .o))))]) (.cond (.tmp (.r (.l (.l (.l .o))))) (.seq (.run [.go (.move (.con (.bool false))) (.r (.l .o))]) .ret) .skip)))) (.run [.go (.bin .add 3 (.tmp (.l (.r (.l .o)))) (.con (.int .i64 (.ofNat 1)))) (.l (.r (.l (.l .o)))),
 .go (.move (.tmp (.l (.r (.l (.l .o)))))) (.l (.r (.l .o)))]))))))) (.seq (.run [.go (.move (.con (.bool true))) (.r (.l .o))]) .ret)))
noncomputable def f75 : FFunc := .mk c75 (.n U (.n U (.n U (.n U (.n U .e .e) .e) (.n U .e .e)) (.n U (.n U (.n U .e .e) .e) (.n U .e .e))) (.n U (.n U (.n U (.n U .e .e) .e) (.n U .e .e)) (.n U (.n U .e .e) (.n U .e .e)))) [.o,(.l .o)] [.tmp (.r (.l .o))]
theorem e75 : @compF Tryz.prog (Gl.none Tryz.prog) Tryz.f75 2 = f75 := by kernel_rfl
theorem o75 : okF Tryz.prog Tryz.f75 = true := by kernel_rfl
theorem g75 : Tryz.prog.funcs[(75 : Nat)]? = some Tryz.f75 := by kernel_rfl
noncomputable def c76 : FCode := (.seq (.run [.go (.box 91 (.tmp .o)) (.l .o),
 .go (.move (.con (.bool false))) (.r .o)]) (.seq (.run [.go (.call (.con (.func (.func 81) ⟨[]⟩ ⟨[]⟩)) []) (.l (.r .o)),
 .go (.build [(.int .i64 (.ofNat 0)),(.int .i64 (.ofNat 0))] [(0,1,(.con (.int .i64 (.ofNat 0)))),(1,1,(.con (.int .i64 (.ofNat 5))))]) (.r (.r .o)),
 .go (.alloc 42 [(.int .i64 (.ofNat 0)),(.int .i64 (.ofNat 0))]) (.l (.l .o)),
 .go (.alloc 42 [(.int .i64 (.ofNat 0)),(.int .i64 (.ofNat 0))]) (.r (.l .o)),
 .un (.store 2 (.tmp (.l (.l .o))) (.tmp (.l (.r .o)))),
 .un (.store 2 (.tmp (.r (.l .o))) (.tmp (.r (.r .o))))]) (.seq (.run [.go (.loadN 2 (.tmp (.l (.l .o)))) (.l (.l (.l .o))),
 .go (.fieldAddr 0 (.tmp (.l .o))) (.r (.l (.l .o))),
 .go (.load1 (.tmp (.r (.l (.l .o))))) (.l (.r (.l .o))),
 .go (.call (.con (.func (.func 82) ⟨[]⟩ ⟨[]⟩)) [(.tmp (.l (.l (.l .o)))),(.tmp (.l (.r (.l .o))))]) (.r (.r (.l .o))),
 .go (.move (.tmp (.r (.r (.l .o))))) (.l (.l (.r .o))),
 .gd (.l (.l (.r .o))) true (.fieldAddr 1 (.tmp (.l .o))) (.r (.l (.r .o))),
 .gd (.l (.l (.r .o))) true (.load1 (.tmp (.r (.l (.r .o))))) (.l (.r (.r .o))),
 .gd (.l (.l (.r .o))) true (.call (.con (.func (.func 83) ⟨[]⟩ ⟨[]⟩)) [(.tmp (.l (.r (.r .o))))]) (.r (.r (.r .o))),
 .go (.pick (.tmp (.l (.l (.r .o)))) (.tmp (.r (.r (.r .o)))) (.con (.bool false))) (.l (.l (.l (.l .o)))),
 .go (.move (.tmp (.l (.l (.l (.l .o)))))) (.r (.l (.l (.l .o)))),
 .gd (.r (.l (.l (.l .o)))) true (.fieldAddr 2 (.tmp (.l .o))) (.l (.r (.l (.l .o)))),
 .gd (.r (.l (.l (.l .o)))) true (.load1 (.tmp (.l (.r (.l (.l .o)))))) (.r (.r (.l (.l .o)))),
 .gd (.r (.l (.l (.l .o)))) true (.bin .eql 3 (.tmp (.r (.r (.l (.l .o))))) (.con (.int .i64 (.ofNat 0)))) (.l (.l (.r (.l .o)))),
 .gd (.r (.l (.l (.l .o)))) true (.move (.tmp (.l (.l (.r (.l .o)))))) (.r (.l (.r (.l .o)))),
 .gd (.r (.l (.r (.l .o)))) false (.fieldAddr 2 (.tmp (.l .o))) (.l (.r (.r (.l .o)))),
 .gd (.r (.l (.r (.l .o)))) false (.load1 (.tmp (.l (.r (.r (.l .o)))))) (.r (.r (.r (.l .o)))),
 .gd (.r (.l (.r (.l .o)))) false (.bin .eql 3 (.tmp (.r (.r (.r (.l .o))))) (.con (.int .i64 (.ofNat 1)))) (.l (.l (.l (.r .o)))),
 .gd (.r (.l (.l (.l .o)))) true (.pick (.tmp (.r (.l (.r (.l .o))))) (.con (.bool true)) (.tmp (.l (.l (.l (.r .o)))))) (.r (.l (.l (.r .o)))),
 .go (.pick (.tmp (.r (.l (.l (.l .o))))) (.tmp (.r (.l (.l (.r .o))))) (.con (.bool false))) (.l (.r (.l (.r .o)))),
 .go (.move (.tmp (.l (.r (.l (.r .o)))))) (.r (.r (.l (.r .o)))),
 .gd (.r (.r (.l (.r .o)))) true (.loadN 2 (.tmp (.r (.l .o)))) (.l (.l (.r (.r .o)))),
 .gd (.r (.r (.l (.r .o)))) true (.fieldAddr 3 (.tmp (.l .o))) (.r (.l (.r (.r .o)))),
 .gd (.r (.r (.l (.r .o)))) true (.load1 (.tmp (.r (.l (.r (.r .o)))))) (.l (.r (.r (.r .o)))),
 .gd (.r (.r (.l (.r .o)))) true (.call (.con (.func (.func 82) ⟨[]⟩ ⟨[]⟩)) [(.tmp (.l (.l (.r (.r .o))))),(.tmp (.l (.r (.r (.r .o)))))]) (.r (.r (.r (.r .o)))),
 .go (.pick (.tmp (.r (.r (.l (.r .o))))) (.tmp (.r (.r (.r (.r .o))))) (.con (.bool false))) (.l (.l (.l (.l (.l .o))))),
 .go (.move (.tmp (.l (.l (.l (.l (.l .o))))))) (.r .o)]) .ret)))
noncomputable def f76 : FFunc := .mk c76 (.n U (.n U (.n U (.n U (.n U (.n U .e .e) .e) (.n U .e .e)) (.n U (.n U .e .e) (.n U .e .e))) (.n U (.n U (.n U .e .e) (.n U .e .e)) (.n U (.n U .e .e) (.n U .e .e)))) (.n U (.n U (.n U (.n U .e .e) (.n U .e .e)) (.n U (.n U .e .e) (.n U .e .e))) (.n U (.n U (.n U .e .e) (.n U .e .e)) (.n U (.n U .e .e) (.n U .e .e))))) [.o] [.tmp (.r .o)]
theorem e76 : @compF Tryz.prog (Gl.none Tryz.prog) Tryz.f76 1 = f76 := by kernel_rfl
theorem o76 : okF Tryz.prog Tryz.f76 = true := by kernel_rfl
theorem g76 : Tryz.prog.funcs[(76 : Nat)]? = some Tryz.f76 := by kernel_rfl
noncomputable def c77 : FCode := (.seq (.run [.go (.move (.con (.bool false))) (.r (.l .o))]) (.seq (.seq (.run [.go (.move (.tmp .o)) (.l (.l (.l .o))),
 .go (.len 0 (.tmp (.l (.l (.l .o))))) (.r (.l (.l .o))),
 .go (.move (.con (.int .i64 (.ofNat 0)))) (.l (.r (.l .o)))]) (.block 0 (.loop (.seq (.run [.go (.bin .lss 3 (.tmp (.l (.r (.l .o)))) (.tmp (.r (.l (.l .o))))) (.r (.r (.l .o)))]) (.seq (.cond (.tmp (.r (.r (.l .o)))) .skip (.exit 0)) (.seq (.block 1 (.seq (.run [.go (.indexAddr none 3 (.tmp (.l (.l (.l .o)))) (.tmp (.l (.r (.l .o))))) (.l (.l (.r .o))),
 .go (.loadN 3 (.tmp (.l (.l (.r .o))))) (.r (.l (.r .o))),
 .go (.alloc 121 [(.int .i64 (.ofNat 0)),(.int .i64 (.ofNat 0)),(.int .i64 (.ofNat 0))]) (.r (.r .o)),
 .un (.store 3 (.tmp (.r (.r .o))) (.tmp (.r (.l (.r .o)))))]) (.seq (.run [.go (.move (.tmp (.l .o))) (.l (.r (.r .o))),
 .go (.loadN 3 (.tmp (.r (.r .o)))) (.r (.r (.r .o))),
 .go (.call (.tmp (.l (.r (.r .o)))) [(.tmp (.r (.r (.r .o))))]) (.l (.l (.l (.l .o)))),
 .go (.un .not (.tmp (.l (.l (.l (.l .o)))))) (.r (.l (.l (.l .o))))]) (.cond (.tmp (.r (.l (.l (.l .o))))) (.seq (.run [.go (.move (.con (.bool false))) (.r (.l .o))]) .ret) .skip)))) (.run [.go (.bin .add 3 (.tmp (.l (.r (.l .o)))) (.con (.int .i64 (.ofNat 1)))) (.l (.r (.l (.l .o)))),
 .go (.move (.tmp (.l (.r (.l (.l .o)))))) (.l (.r (.l .o)))]))))))) (.seq (.run [.go (.move (.con (.bool true))) (.r (.l .o))]) .ret)))
noncomputable def f77 : FFunc := .mk c77 (.n U (.n U (.n U (.n U (.n U .e .e) .e) (.n U .e .e)) (.n U (.n U (.n U .e .e) .e) (.n U .e .e))) (.n U (.n U (.n U (.n U .e .e) .e) (.n U .e .e)) (.n U (.n U .e .e) (.n U .e .e)))) [.o,(.l .o)] [.tmp (.r (.l .o))]
theorem e77 : @compF Tryz.prog (Gl.none Tryz.prog) Tryz.f77 2 = f77 := by kernel_rfl
theorem o77 : okF Tryz.prog Tryz.f77 = true := by kernel_rfl
theorem g77 : Tryz.prog.funcs[(77 : Nat)]? = some Tryz.f77 := by kernel_rfl
noncomputable def c78 : FCode := (.seq (.run [.go (.box 46 (.tmp .o)) (.r .o),
 .go (.box 121 (.tmp (.l .o))) (.l (.l .o)),
 .go (.move (.con (.bool false))) (.r (.l .o))]) (.seq (.run [.go (.fieldAddr 0 (.tmp (.l (.l .o)))) (.l (.r .o)),
 .go (.load1 (.tmp (.l (.r .o)))) (.r (.r .o)),
 .go (.buildSlice 3 1 [(.int .i64 (.ofNat 0))] [(0,1,(.tmp (.r (.r .o))))]) (.l (.l (.l .o))),
 .go (.call (.con (.func (.func 84) ⟨[]⟩ ⟨[]⟩)) [(.tmp (.l (.l (.l .o))))]) (.r (.l (.l .o))),
 .go (.move (.tmp (.r (.l (.l .o))))) (.l (.r (.l .o))),
 .gd (.l (.r (.l .o))) true (.fieldAddr 1 (.tmp (.l (.l .o)))) (.r (.r (.l .o))),
 .gd (.l (.r (.l .o))) true (.load1 (.tmp (.r (.r (.l .o))))) (.l (.l (.r .o))),
 .gd (.l (.r (.l .o))) true (.bin .leq 3 (.con (.int .i64 (.ofNat 0))) (.tmp (.l (.l (.r .o))))) (.r (.l (.r .o))),
 .go (.pick (.tmp (.l (.r (.l .o)))) (.tmp (.r (.l (.r .o)))) (.con (.bool false))) (.l (.r (.r .o))),
 .go (.move (.tmp (.l (.r (.r .o))))) (.r (.r (.r .o))),
 .gd (.r (.r (.r .o))) true (.fieldAddr 1 (.tmp (.l (.l .o)))) (.l (.l (.l (.l .o)))),
 .gd (.r (.r (.r .o))) true (.load1 (.tmp (.l (.l (.l (.l .o)))))) (.r (.l (.l (.l .o)))),
 .gd (.r (.r (.r .o))) true (.fieldAddr 2 (.tmp (.r .o))) (.l (.r (.l (.l .o)))),
 .gd (.r (.r (.r .o))) true (.load1 (.tmp (.l (.r (.l (.l .o)))))) (.r (.r (.l (.l .o)))),
 .gd (.r (.r (.r .o))) true (.len 0 (.tmp (.r (.r (.l (.l .o)))))) (.l (.l (.r (.l .o)))),
 .gd (.r (.r (.r .o))) true (.bin .lss 3 (.tmp (.r (.l (.l (.l .o))))) (.tmp (.l (.l (.r (.l .o)))))) (.r (.l (.r (.l .o)))),
 .go (.pick (.tmp (.r (.r (.r .o)))) (.tmp (.r (.l (.r (.l .o))))) (.con (.bool false))) (.l (.r (.r (.l .o)))),
 .go (.move (.tmp (.l (.r (.r (.l .o)))))) (.r (.r (.r (.l .o)))),
 .gd (.r (.r (.r (.l .o)))) true (.fieldAddr 2 (.tmp (.l (.l .o)))) (.l (.l (.l (.r .o)))),
 .gd (.r (.r (.r (.l .o)))) true (.load1 (.tmp (.l (.l (.l (.r .o)))))) (.r (.l (.l (.r .o)))),
 .gd (.r (.r (.r (.l .o)))) true (.buildSlice 3 1 [(.int .i64 (.ofNat 0))] [(0,1,(.tmp (.r (.l (.l (.r .o))))))]) (.l (.r (.l (.r .o)))),
 .gd (.r (.r (.r (.l .o)))) true (.call (.con (.func (.func 85) ⟨[]⟩ ⟨[]⟩)) [(.tmp (.l (.r (.l (.r .o)))))]) (.r (.r (.l (.r .o)))),
 .go (.pick (.tmp (.r (.r (.r (.l .o))))) (.tmp (.r (.r (.l (.r .o))))) (.con (.bool false))) (.l (.l (.r (.r .o)))),
 .go (.move (.tmp (.l (.l (.r (.r .o)))))) (.r (.l .o))]) .ret))
noncomputable def f78 : FFunc := .mk c78 (.n U (.n U (.n U (.n U (.n U .e .e) (.n U .e .e)) (.n U (.n U .e .e) (.n U .e .e))) (.n U (.n U (.n U .e .e) (.n U .e .e)) (.n U (.n U .e .e) .e))) (.n U (.n U (.n U (.n U .e .e) (.n U .e .e)) (.n U (.n U .e .e) .e)) (.n U (.n U (.n U .e .e) (.n U .e .e)) (.n U (.n U .e .e) .e)))) [.o,(.l .o)] [.tmp (.r (.l .o))]
theorem e78 : @compF Tryz.prog (Gl.none Tryz.prog) Tryz.f78 2 = f78 := by kernel_rfl
theorem o78 : okF Tryz.prog Tryz.f78 = true := by kernel_rfl
theorem g78 : Tryz.prog.funcs[(78 : Nat)]? = some Tryz.f78 := by kernel_rfl
end Go.Xe.TL
