/- The code of the program's functions, their types resolved, as the machine for the kernel runs it: definitions, and for each that it is the program's own. Conditions: none. -/
import Derived.Test.YtgcdbdcnlhonfaaYk
import Derived.Test.YtgcdbdcnlhonfaaProg
import Derived.KernelRfl
namespace Go.Xe.TW
open Go Go.Xe Go.Proofs
set_option maxRecDepth 1000000
abbrev U : Value := .tuple ⟨[]⟩
noncomputable def c7 : FCode := (.seq (.run [.go (.move (.con (.bool false))) .o]) (.seq (.run [.go (.call (.con (.func (.func 47) ⟨[]⟩ ⟨[]⟩)) []) (.l (.r (.l (.r .o)))),
 .go (.call (.con (.func (.func 26) ⟨[]⟩ ⟨[]⟩)) [(.tmp (.l (.r (.l (.r .o)))))]) (.r (.r (.l (.r .o)))),
 .go (.move (.tmp (.r (.r (.l (.r .o)))))) (.r (.l (.l (.r .o)))),
 .go (.extract (.tmp (.r (.l (.l (.r .o))))) 0) (.l (.l (.r (.r .o)))),
 .go (.extract (.tmp (.r (.l (.l (.r .o))))) 1) (.r (.l (.r (.r .o)))),
 .go (.move (.tmp (.l (.l (.r (.r .o)))))) (.l .o),
 .go (.move (.tmp (.r (.l (.r (.r .o)))))) (.r .o)]) (.seq (.run [.go (.call (.con (.func (.func 47) ⟨[]⟩ ⟨[]⟩)) []) (.r (.r (.r (.r .o)))),
 .go (.call (.con (.func (.func 37) ⟨[]⟩ ⟨[]⟩)) [(.tmp (.r (.r (.r (.r .o)))))]) (.l (.l (.l (.l (.l .o))))),
 .go (.move (.tmp (.l (.l (.l (.l (.l .o))))))) (.l (.r (.r (.r .o)))),
 .go (.extract (.tmp (.l (.r (.r (.r .o))))) 0) (.r (.l (.l (.l (.l .o))))),
 .go (.extract (.tmp (.l (.r (.r (.r .o))))) 1) (.l (.r (.l (.l (.l .o))))),
 .go (.move (.tmp (.r (.l (.l (.l (.l .o))))))) (.l (.l .o)),
 .go (.move (.tmp (.l (.r (.l (.l (.l .o))))))) (.r (.l .o))]) (.seq (.run [.go (.call (.con (.func (.func 47) ⟨[]⟩ ⟨[]⟩)) []) (.l (.l (.r (.l (.l .o))))),
 .go (.call (.con (.func (.func 48) ⟨[]⟩ ⟨[]⟩)) [(.con (.int .i64 (.ofNat 40))),(.con (.int .i64 (.ofNat 120)))]) (.r (.l (.r (.l (.l .o))))),
 .go (.call (.con (.func (.func 39) ⟨[]⟩ ⟨[]⟩)) [(.tmp (.l (.l (.r (.l (.l .o)))))),(.tmp (.r (.l (.r (.l (.l .o))))))]) (.l (.r (.r (.l (.l .o))))),
 .go (.move (.tmp (.l (.r (.r (.l (.l .o))))))) (.r (.r (.l (.l (.l .o))))),
 .go (.extract (.tmp (.r (.r (.l (.l (.l .o)))))) 0) (.r (.r (.r (.l (.l .o))))),
 .go (.extract (.tmp (.r (.r (.l (.l (.l .o)))))) 1) (.l (.l (.l (.r (.l .o))))),
 .go (.extract (.tmp (.r (.r (.l (.l (.l .o)))))) 2) (.r (.l (.l (.r (.l .o))))),
 .go (.move (.tmp (.r (.r (.r (.l (.l .o))))))) (.l (.r .o)),
 .go (.move (.tmp (.l (.l (.l (.r (.l .o))))))) (.r (.r .o)),
 .go (.move (.tmp (.r (.l (.l (.r (.l .o))))))) (.l (.l (.l .o)))]) (.seq (.seq (.draw 100 [.go (.move (.tmp (.r .o))) (.l (.r (.l (.r (.l .o))))),
 .go (.bin .neq 29 (.tmp (.l (.r (.l (.r (.l .o)))))) (.con (.int .i64 (.ofNat 0)))) (.r (.r (.l (.r (.l .o))))),
 .go (.move (.tmp (.r (.r (.l (.r (.l .o))))))) (.l (.l (.r (.r (.l .o))))),
 .gd (.l (.l (.r (.r (.l .o))))) false (.move (.tmp (.l .o))) (.r (.l (.r (.r (.l .o))))),
 .gd (.l (.l (.r (.r (.l .o))))) false (.len 0 (.tmp (.r (.l (.r (.r (.l .o))))))) (.l (.r (.r (.r (.l .o))))),
 .gd (.l (.l (.r (.r (.l .o))))) false (.bin .neq 3 (.tmp (.l (.r (.r (.r (.l .o)))))) (.con (.int .i64 (.ofNat 4)))) (.r (.r (.r (.r (.l .o))))),
 .go (.pick (.tmp (.l (.l (.r (.r (.l .o)))))) (.con (.bool true)) (.tmp (.r (.r (.r (.r (.l .o))))))) (.l (.l (.l (.l (.r .o))))),
 .go (.move (.tmp (.l (.l (.l (.l (.r .o))))))) (.r (.l (.l (.l (.r .o))))),
 .gd (.r (.l (.l (.l (.r .o))))) false (.move (.tmp (.l .o))) (.l (.r (.l (.l (.r .o))))),
 .gd (.r (.l (.l (.l (.r .o))))) false (.indexAddr none 2 (.tmp (.l (.r (.l (.l (.r .o)))))) (.con (.int .i64 (.ofNat 0)))) (.r (.r (.l (.l (.r .o))))),
 .gd (.r (.l (.l (.l (.r .o))))) false (.loadN 2 (.tmp (.r (.r (.l (.l (.r .o))))))) (.l (.l (.r (.l (.r .o))))),
 .gd (.r (.l (.l (.l (.r .o))))) false (.call (.con (.func (.func 48) ⟨[]⟩ ⟨[]⟩)) [(.con (.int .i64 (.ofNat 50))),(.con (.int .i64 (.ofNat 70)))]) (.r (.l (.r (.l (.r .o))))),
 .gd (.r (.l (.l (.l (.r .o))))) false (.bin .neq 62 (.tmp (.l (.l (.r (.l (.r .o)))))) (.tmp (.r (.l (.r (.l (.r .o))))))) (.l (.r (.r (.l (.r .o))))),
 .go (.pick (.tmp (.r (.l (.l (.l (.r .o)))))) (.con (.bool true)) (.tmp (.l (.r (.r (.l (.r .o))))))) (.r (.r (.r (.l (.r .o))))),
 .go (.move (.tmp (.r (.r (.r (.l (.r .o))))))) (.l (.l (.l (.r (.r .o))))),
 .gd (.l (.l (.l (.r (.r .o))))) false (.move (.tmp (.l .o))) (.r (.l (.l (.r (.r .o))))),
 .gd (.l (.l (.l (.r (.r .o))))) false (.indexAddr none 2 (.tmp (.r (.l (.l (.r (.r .o)))))) (.con (.int .i64 (.ofNat 1)))) (.l (.r (.l (.r (.r .o))))),
 .gd (.l (.l (.l (.r (.r .o))))) false (.loadN 2 (.tmp (.l (.r (.l (.r (.r .o))))))) (.r (.r (.l (.r (.r .o))))),
 .gd (.l (.l (.l (.r (.r .o))))) false (.call (.con (.func (.func 48) ⟨[]⟩ ⟨[]⟩)) [(.con (.int .i64 (.ofNat 30))),(.con (.int .i64 (.ofNat 50)))]) (.l (.l (.r (.r (.r .o))))),
 .gd (.l (.l (.l (.r (.r .o))))) false (.bin .neq 62 (.tmp (.r (.r (.l (.r (.r .o)))))) (.tmp (.l (.l (.r (.r (.r .o))))))) (.r (.l (.r (.r (.r .o))))),
 .go (.pick (.tmp (.l (.l (.l (.r (.r .o)))))) (.con (.bool true)) (.tmp (.r (.l (.r (.r (.r .o))))))) (.l (.r (.r (.r (.r .o))))),
 .go (.move (.tmp (.l (.r (.r (.r (.r .o))))))) (.r (.r (.r (.r (.r .o))))),
 .gd (.r (.r (.r (.r (.r .o))))) false (.move (.tmp (.l .o))) (.l (.l (.l (.l (.l (.l .o)))))),
 .gd (.r (.r (.r (.r (.r .o))))) false (.indexAddr none 2 (.tmp (.l (.l (.l (.l (.l (.l .o))))))) (.con (.int .i64 (.ofNat 2)))) (.r (.l (.l (.l (.l (.l .o)))))),
 .gd (.r (.r (.r (.r (.r .o))))) false (.loadN 2 (.tmp (.r (.l (.l (.l (.l (.l .o)))))))) (.l (.r (.l (.l (.l (.l .o)))))),
 .gd (.r (.r (.r (.r (.r .o))))) false (.call (.con (.func (.func 48) ⟨[]⟩ ⟨[]⟩)) [(.con (.int .i64 (.ofNat 30))),(.con (.int .i64 (.ofNat 60)))]) (.r (.r (.l (.l (.l (.l .o)))))),
 .gd (.r (.r (.r (.r (.r .o))))) false (.bin .neq 62 (.tmp (.l (.r (.l (.l (.l (.l .o))))))) (.tmp (.r (.r (.l (.l (.l (.l .o)))))))) (.l (.l (.r (.l (.l (.l .o)))))),
 .go (.pick (.tmp (.r (.r (.r (.r (.r .o)))))) (.con (.bool true)) (.tmp (.l (.l (.r (.l (.l (.l .o)))))))) (.r (.l (.r (.l (.l (.l .o)))))),
 .go (.move (.tmp (.r (.l (.r (.l (.l (.l .o)))))))) (.l (.r (.r (.l (.l (.l .o)))))),
 .gd (.l (.r (.r (.l (.l (.l .o)))))) false (.move (.tmp (.l .o))) (.r (.r (.r (.l (.l (.l .o)))))),
 .gd (.l (.r (.r (.l (.l (.l .o)))))) false (.indexAddr none 2 (.tmp (.r (.r (.r (.l (.l (.l .o))))))) (.con (.int .i64 (.ofNat 3)))) (.l (.l (.l (.r (.l (.l .o)))))),
 .gd (.l (.r (.r (.l (.l (.l .o)))))) false (.loadN 2 (.tmp (.l (.l (.l (.r (.l (.l .o)))))))) (.r (.l (.l (.r (.l (.l .o)))))),
 .gd (.l (.r (.r (.l (.l (.l .o)))))) false (.call (.con (.func (.func 48) ⟨[]⟩ ⟨[]⟩)) [(.con (.int .i64 (.ofNat 0))),(.con (.int .i64 (.ofNat 30)))]) (.l (.r (.l (.r (.l (.l .o)))))),
 .gd (.l (.r (.r (.l (.l (.l .o)))))) false (.bin .neq 62 (.tmp (.r (.l (.l (.r (.l (.l .o))))))) (.tmp (.l (.r (.l (.r (.l (.l .o)))))))) (.r (.r (.l (.r (.l (.l .o)))))),
 .go (.pick (.tmp (.l (.r (.r (.l (.l (.l .o))))))) (.con (.bool true)) (.tmp (.r (.r (.l (.r (.l (.l .o)))))))) (.l (.l (.r (.r (.l (.l .o)))))),
 .go (.move (.tmp (.l (.l (.r (.r (.l (.l .o)))))))) (.r (.l (.r (.r (.l (.l .o)))))),
 .gd (.r (.l (.r (.r (.l (.l .o)))))) false (.move (.tmp (.r (.l .o)))) (.l (.r (.r (.r (.l (.l .o)))))),
 .gd (.r (.l (.r (.r (.l (.l .o)))))) false (.bin .neq 29 (.tmp (.l (.r (.r (.r (.l (.l .o))))))) (.con (.int .i64 (.ofNat 0)))) (.r (.r (.r (.r (.l (.l .o)))))),
 .go (.pick (.tmp (.r (.l (.r (.r (.l (.l .o))))))) (.con (.bool true)) (.tmp (.r (.r (.r (.r (.l (.l .o)))))))) (.l (.l (.l (.l (.r (.l .o)))))),
 .go (.move (.tmp (.l (.l (.l (.l (.r (.l .o)))))))) (.r (.l (.l (.l (.r (.l .o)))))),
 .gd (.r (.l (.l (.l (.r (.l .o)))))) false (.move (.tmp (.l (.l .o)))) (.l (.r (.l (.l (.r (.l .o)))))),
 .gd (.r (.l (.l (.l (.r (.l .o)))))) false (.buildSlice 3 1 [(.int .i64 (.ofNat 0))] [(0,1,(.con (.int .i64 (.ofNat 0))))]) (.r (.r (.l (.l (.r (.l .o)))))),
 .gd (.r (.l (.l (.l (.r (.l .o)))))) false (.call (.con (.func (.func 23) ⟨[]⟩ ⟨[]⟩)) [(.tmp (.l (.r (.l (.l (.r (.l .o))))))),(.tmp (.r (.r (.l (.l (.r (.l .o)))))))]) (.l (.l (.r (.l (.r (.l .o)))))),
 .gd (.r (.l (.l (.l (.r (.l .o)))))) false (.un .not (.tmp (.l (.l (.r (.l (.r (.l .o)))))))) (.r (.l (.r (.l (.r (.l .o)))))),
 .go (.pick (.tmp (.r (.l (.l (.l (.r (.l .o))))))) (.con (.bool true)) (.tmp (.r (.l (.r (.l (.r (.l .o)))))))) (.l (.r (.r (.l (.r (.l .o)))))),
 .go (.move (.tmp (.l (.r (.r (.l (.r (.l .o)))))))) (.r (.r (.r (.l (.r (.l .o)))))),
 .gd (.r (.r (.r (.l (.r (.l .o)))))) false (.move (.tmp (.l (.l (.l .o))))) (.l (.l (.l (.r (.r (.l .o)))))),
 .gd (.r (.r (.r (.l (.r (.l .o)))))) false (.bin .neq 29 (.tmp (.l (.l (.l (.r (.r (.l .o))))))) (.con (.int .i64 (.ofNat 0)))) (.r (.l (.l (.r (.r (.l .o)))))),
 .go (.pick (.tmp (.r (.r (.r (.l (.r (.l .o))))))) (.con (.bool true)) (.tmp (.r (.l (.l (.r (.r (.l .o)))))))) (.l (.r (.l (.r (.r (.l .o)))))),
 .go (.move (.tmp (.l (.r (.l (.r (.r (.l .o)))))))) (.r (.r (.l (.r (.r (.l .o)))))),
 .gd (.r (.r (.l (.r (.r (.l .o)))))) false (.move (.tmp (.l (.r .o)))) (.l (.l (.r (.r (.r (.l .o)))))),
 .gd (.r (.r (.l (.r (.r (.l .o)))))) false (.buildSlice 3 4 [(.int .i64 (.ofNat 0)),(.int .i64 (.ofNat 0)),(.int .i64 (.ofNat 0)),(.int .i64 (.ofNat 0))] [(0,1,(.con (.int .i64 (.ofNat 0)))),(1,1,(.con (.int .i64 (.ofNat 1)))),(2,1,(.con (.int .i64 (.ofNat 1)))),(3,1,(.con (.int .i64 (.ofNat 1))))]) (.r (.l (.r (.r (.r (.l .o)))))),
 .gd (.r (.r (.l (.r (.r (.l .o)))))) false (.call (.con (.func (.func 23) ⟨[]⟩ ⟨[]⟩)) [(.tmp (.l (.l (.r (.r (.r (.l .o))))))),(.tmp (.r (.l (.r (.r (.r (.l .o)))))))]) (.l (.r (.r (.r (.r (.l .o)))))),
 .gd (.r (.r (.l (.r (.r (.l .o)))))) false (.un .not (.tmp (.l (.r (.r (.r (.r (.l .o)))))))) (.r (.r (.r (.r (.r (.l .o)))))),
 .go (.pick (.tmp (.r (.r (.l (.r (.r (.l .o))))))) (.con (.bool true)) (.tmp (.r (.r (.r (.r (.r (.l .o)))))))) (.l (.l (.l (.l (.l (.r .o)))))),
 .go (.move (.tmp (.l (.l (.l (.l (.l (.r .o)))))))) (.r (.l (.l (.l (.l (.r .o)))))),
 .gd (.r (.l (.l (.l (.l (.r .o)))))) false (.move (.tmp (.r (.r .o)))) (.l (.r (.l (.l (.l (.r .o)))))),
 .gd (.r (.l (.l (.l (.l (.r .o)))))) false (.bin .neq 3 (.tmp (.l (.r (.l (.l (.l (.r .o))))))) (.con (.int .i64 (.ofNat 1)))) (.r (.r (.l (.l (.l (.r .o)))))),
 .go (.pick (.tmp (.r (.l (.l (.l (.l (.r .o))))))) (.con (.bool true)) (.tmp (.r (.r (.l (.l (.l (.r .o)))))))) (.l (.l (.r (.l (.l (.r .o)))))),
 .go (.move (.tmp (.l (.l (.r (.l (.l (.r .o)))))))) (.r (.l (.r (.l (.l (.r .o)))))),
 .gd (.r (.l (.r (.l (.l (.r .o)))))) false (.call (.con (.func (.func 47) ⟨[]⟩ ⟨[]⟩)) []) (.l (.r (.r (.l (.l (.r .o)))))),
 .gd (.r (.l (.r (.l (.l (.r .o)))))) false (.buildSlice 3 4 [(.int .i64 (.ofNat 0)),(.int .i64 (.ofNat 0)),(.int .i64 (.ofNat 0)),(.int .i64 (.ofNat 0))] [(0,1,(.con (.int .i64 (.ofNat 60)))),(1,1,(.con (.int .i64 (.ofNat 40)))),(2,1,(.con (.int .i64 (.ofNat 50)))),(3,1,(.con (.int .i64 (.ofNat 10))))]) (.r (.r (.r (.l (.l (.r .o)))))),
 .gd (.r (.l (.r (.l (.l (.r .o)))))) false (.call (.con (.func (.func 28) ⟨[]⟩ ⟨[]⟩)) [(.tmp (.l (.r (.r (.l (.l (.r .o))))))),(.tmp (.r (.r (.r (.l (.l (.r .o)))))))]) (.l (.l (.l (.r (.l (.r .o)))))),
 .gd (.r (.l (.r (.l (.l (.r .o)))))) false (.un .not (.tmp (.l (.l (.l (.r (.l (.r .o)))))))) (.r (.l (.l (.r (.l (.r .o)))))),
 .go (.pick (.tmp (.r (.l (.r (.l (.l (.r .o))))))) (.con (.bool true)) (.tmp (.r (.l (.l (.r (.l (.r .o)))))))) (.l (.r (.l (.r (.l (.r .o)))))),
 .go (.move (.tmp (.l (.r (.l (.r (.l (.r .o)))))))) (.r (.r (.l (.r (.l (.r .o)))))),
 .gd (.r (.r (.l (.r (.l (.r .o)))))) false (.call (.con (.func (.func 47) ⟨[]⟩ ⟨[]⟩)) []) (.l (.l (.r (.r (.l (.r .o)))))),
 .gd (.r (.r (.l (.r (.l (.r .o)))))) false (.buildSlice 3 4 [(.int .i64 (.ofNat 0)),(.int .i64 (.ofNat 0)),(.int .i64 (.ofNat 0)),(.int .i64 (.ofNat 0))] [(0,1,(.con (.int .i64 (.ofNat 60)))),(1,1,(.con (.int .i64 (.ofNat 40)))),(2,1,(.con (.int .i64 (.ofNat 50)))),(3,1,(.con (.int .i64 (.ofNat 11))))]) (.r (.l (.r (.r (.l (.r .o)))))),
 .gd (.r (.r (.l (.r (.l (.r .o)))))) false (.call (.con (.func (.func 28) ⟨[]⟩ ⟨[]⟩)) [(.tmp (.l (.l (.r (.r (.l (.r .o))))))),(.tmp (.r (.l (.r (.r (.l (.r .o)))))))]) (.l (.r (.r (.r (.l (.r .o)))))),
 .go (.pick (.tmp (.r (.r (.l (.r (.l (.r .o))))))) (.con (.bool true)) (.tmp (.l (.r (.r (.r (.l (.r .o)))))))) (.r (.r (.r (.r (.l (.r .o)))))),
 .go (.move (.tmp (.r (.r (.r (.r (.l (.r .o)))))))) (.l (.l (.l (.l (.r (.r .o)))))),
 .gd (.l (.l (.l (.l (.r (.r .o)))))) false (.call (.con (.func (.func 47) ⟨[]⟩ ⟨[]⟩)) []) (.r (.l (.l (.l (.r (.r .o)))))),
 .gd (.l (.l (.l (.l (.r (.r .o)))))) false (.buildSlice 3 4 [(.int .i64 (.ofNat 0)),(.int .i64 (.ofNat 0)),(.int .i64 (.ofNat 0)),(.int .i64 (.ofNat 0))] [(0,1,(.con (.int .i64 (.ofNat 40)))),(1,1,(.con (.int .i64 (.ofNat 60)))),(2,1,(.con (.int .i64 (.ofNat 50)))),(3,1,(.con (.int .i64 (.ofNat 10))))]) (.l (.r (.l (.l (.r (.r .o)))))),
 .gd (.l (.l (.l (.l (.r (.r .o)))))) false (.call (.con (.func (.func 28) ⟨[]⟩ ⟨[]⟩)) [(.tmp (.r (.l (.l (.l (.r (.r .o))))))),(.tmp (.l (.r (.l (.l (.r (.r .o)))))))]) (.r (.r (.l (.l (.r (.r .o)))))),
 .go (.pick (.tmp (.l (.l (.l (.l (.r (.r .o))))))) (.con (.bool true)) (.tmp (.r (.r (.l (.l (.r (.r .o)))))))) (.l (.l (.r (.l (.r (.r .o)))))),
 .go (.move (.tmp (.l (.l (.r (.l (.r (.r .o)))))))) (.r (.l (.r (.l (.r (.r .o)))))),
 .gd (.r (.l (.r (.l (.r (.r .o)))))) false (.call (.con (.func (.func 47) ⟨[]⟩ ⟨[]⟩)) []) (.l (.r (.r (.l (.r (.r .o)))))),
 .gd (.r (.l (.r (.l (.r (.r .o)))))) false (.call (.con (.func (.func 48) ⟨[]⟩ ⟨[]⟩)) [(.con (.int .i64 (.ofNat 40))),(.con (.int .i64 (.ofNat 120)))]) (.l (.l (.l (.r (.r (.r .o)))))),
 .gd (.r (.l (.r (.l (.r (.r .o)))))) false (.buildSlice 3 4 [(.int .i64 (.ofNat 0)),(.int .i64 (.ofNat 0)),(.int .i64 (.ofNat 0)),(.int .i64 (.ofNat 0))] [(0,1,(.con (.int .i64 (.ofNat 0)))),(1,1,(.con (.int .i64 (.ofNat 1)))),(2,1,(.con (.int .i64 (.ofNat 1)))),(3,1,(.con (.int .i64 (.ofNat 1))))]) (.r (.r (.r (.l (.r (.r .o)))))),
 .gd (.r (.l (.r (.l (.r (.r .o)))))) false (.call (.con (.func (.func 41) ⟨[]⟩ ⟨[]⟩)) [(.tmp (.l (.r (.r (.l (.r (.r .o))))))),(.tmp (.r (.r (.r (.l (.r (.r .o))))))),(.tmp (.l (.l (.l (.r (.r (.r .o))))))),(.con (.int .i64 (.ofNat 1)))]) (.r (.l (.l (.r (.r (.r .o)))))),
 .gd (.r (.l (.r (.l (.r (.r .o)))))) false (.un .not (.tmp (.r (.l (.l (.r (.r (.r .o)))))))) (.l (.r (.l (.r (.r (.r .o)))))),
 .go (.pick (.tmp (.r (.l (.r (.l (.r (.r .o))))))) (.con (.bool true)) (.tmp (.l (.r (.l (.r (.r (.r .o)))))))) (.r (.r (.l (.r (.r (.r .o)))))),
 .go (.move (.tmp (.r (.r (.l (.r (.r (.r .o)))))))) (.l (.l (.r (.r (.r (.r .o)))))),
 .gd (.l (.l (.r (.r (.r (.r .o)))))) false (.call (.con (.func (.func 47) ⟨[]⟩ ⟨[]⟩)) []) (.r (.l (.r (.r (.r (.r .o)))))),
 .gd (.l (.l (.r (.r (.r (.r .o)))))) false (.call (.con (.func (.func 48) ⟨[]⟩ ⟨[]⟩)) [(.con (.int .i64 (.ofNat 40))),(.con (.int .i64 (.ofNat 120)))]) (.r (.r (.r (.r (.r (.r .o)))))),
 .gd (.l (.l (.r (.r (.r (.r .o)))))) false (.buildSlice 3 4 [(.int .i64 (.ofNat 0)),(.int .i64 (.ofNat 0)),(.int .i64 (.ofNat 0)),(.int .i64 (.ofNat 0))] [(0,1,(.con (.int .i64 (.ofNat 0)))),(1,1,(.con (.int .i64 (.ofNat 1)))),(2,1,(.con (.int .i64 (.ofNat 1)))),(3,1,(.con (.int .i64 (.ofNat 1))))]) (.l (.r (.r (.r (.r (.r .o)))))),
 .gd (.l (.l (.r (.r (.r (.r .o)))))) false (.call (.con (.func (.func 41) ⟨[]⟩ ⟨[]⟩)) [(.tmp (.r (.l (.r (.r (.r (.r .o))))))),(.tmp (.l (.r (.r (.r (.r (.r .o))))))),(.tmp (.r (.r (.r (.r (.r (.r .o))))))),(.con (.int .i64 (.ofNat 0)))]) (.l (.l (.l (.l (.l (.l (.l .o))))))),
 .go (.pick (.tmp (.l (.l (.r (.r (.r (.r .o))))))) (.con (.bool true)) (.tmp (.l (.l (.l (.l (.l (.l (.l .o))))))))) (.r (.l (.l (.l (.l (.l (.l .o))))))),
 .go (.move (.tmp (.r (.l (.l (.l (.l (.l (.l .o))))))))) (.l (.r (.l (.l (.l (.l (.l .o))))))),
 .gd (.l (.r (.l (.l (.l (.l (.l .o))))))) false (.call (.con (.func (.func 47) ⟨[]⟩ ⟨[]⟩)) []) (.r (.r (.l (.l (.l (.l (.l .o))))))),
 .gd (.l (.r (.l (.l (.l (.l (.l .o))))))) false (.call (.con (.func (.func 48) ⟨[]⟩ ⟨[]⟩)) [(.con (.int .i64 (.ofNat 40))),(.con (.int .i64 (.ofNat 109)))]) (.r (.l (.r (.l (.l (.l (.l .o))))))),
 .gd (.l (.r (.l (.l (.l (.l (.l .o))))))) false (.buildSlice 3 4 [(.int .i64 (.ofNat 0)),(.int .i64 (.ofNat 0)),(.int .i64 (.ofNat 0)),(.int .i64 (.ofNat 0))] [(0,1,(.con (.int .i64 (.ofNat 0)))),(1,1,(.con (.int .i64 (.ofNat 1)))),(2,1,(.con (.int .i64 (.ofNat 1)))),(3,1,(.con (.int .i64 (.ofNat 1))))]) (.l (.l (.r (.l (.l (.l (.l .o))))))),
 .gd (.l (.r (.l (.l (.l (.l (.l .o))))))) false (.call (.con (.func (.func 41) ⟨[]⟩ ⟨[]⟩)) [(.tmp (.r (.r (.l (.l (.l (.l (.l .o)))))))),(.tmp (.l (.l (.r (.l (.l (.l (.l .o)))))))),(.tmp (.r (.l (.r (.l (.l (.l (.l .o)))))))),(.con (.int .i64 (.ofNat 1)))]) (.l (.r (.r (.l (.l (.l (.l .o))))))),
 .go (.pick (.tmp (.l (.r (.l (.l (.l (.l (.l .o)))))))) (.con (.bool true)) (.tmp (.l (.r (.r (.l (.l (.l (.l .o))))))))) (.r (.r (.r (.l (.l (.l (.l .o))))))),
 .go (.move (.tmp (.r (.r (.r (.l (.l (.l (.l .o))))))))) (.l (.l (.l (.r (.l (.l (.l .o))))))),
 .gd (.l (.l (.l (.r (.l (.l (.l .o))))))) false (.call (.con (.func (.func 47) ⟨[]⟩ ⟨[]⟩)) []) (.r (.l (.l (.r (.l (.l (.l .o))))))),
 .gd (.l (.l (.l (.r (.l (.l (.l .o))))))) false (.call (.con (.func (.func 48) ⟨[]⟩ ⟨[]⟩)) [(.con (.int .i64 (.ofNat 0))),(.con (.int .i64 (.ofNat 200)))]) (.r (.r (.l (.r (.l (.l (.l .o))))))),
 .gd (.l (.l (.l (.r (.l (.l (.l .o))))))) false (.buildSlice 3 4 [(.int .i64 (.ofNat 0)),(.int .i64 (.ofNat 0)),(.int .i64 (.ofNat 0)),(.int .i64 (.ofNat 0))] [(0,1,(.con (.int .i64 (.ofNat 0)))),(1,1,(.con (.int .i64 (.ofNat 1)))),(2,1,(.con (.int .i64 (.ofNat 1)))),(3,1,(.con (.int .i64 (.ofNat 0))))]) (.l (.r (.l (.r (.l (.l (.l .o))))))),
 .gd (.l (.l (.l (.r (.l (.l (.l .o))))))) false (.call (.con (.func (.func 41) ⟨[]⟩ ⟨[]⟩)) [(.tmp (.r (.l (.l (.r (.l (.l (.l .o)))))))),(.tmp (.l (.r (.l (.r (.l (.l (.l .o)))))))),(.tmp (.r (.r (.l (.r (.l (.l (.l .o)))))))),(.con (.int .i64 (.ofNat 1)))]) (.l (.l (.r (.r (.l (.l (.l .o))))))),
 .go (.pick (.tmp (.l (.l (.l (.r (.l (.l (.l .o)))))))) (.con (.bool true)) (.tmp (.l (.l (.r (.r (.l (.l (.l .o))))))))) (.r (.l (.r (.r (.l (.l (.l .o)))))))] [.ok,.ok,.ok,.ok,.ok,.ok,.ok,.ok,.ok,.ok,.rd (some ((.r (.l (.l (.l (.r .o))))),false)) (.loadN 2 (.tmp (.r (.r (.l (.l (.r .o))))))) (some (.l (.l (.r (.l (.r .o)))))) [12],.ok,.ok,.ok,.ok,.ok,.ok,.rd (some ((.l (.l (.l (.r (.r .o))))),false)) (.loadN 2 (.tmp (.l (.r (.l (.r (.r .o))))))) (some (.r (.r (.l (.r (.r .o)))))) [19],.ok,.ok,.ok,.ok,.ok,.ok,.rd (some ((.r (.r (.r (.r (.r .o))))),false)) (.loadN 2 (.tmp (.r (.l (.l (.l (.l (.l .o)))))))) (some (.l (.r (.l (.l (.l (.l .o))))))) [26],.ok,.ok,.ok,.ok,.ok,.ok,.rd (some ((.l (.r (.r (.l (.l (.l .o)))))),false)) (.loadN 2 (.tmp (.l (.l (.l (.r (.l (.l .o)))))))) (some (.r (.l (.l (.r (.l (.l .o))))))) [33],.ok,.ok,.ok,.ok,.ok,.ok,.ok,.ok,.ok,.ok,.ok,.ok,.ok,.ok,.ok,.ok,.ok,.ok,.ok,.ok,.ok,.ok,.ok,.ok,.ok,.ok,.ok,.ok,.ok,.nw (some ((.r (.l (.r (.l (.l (.r .o)))))),false)) (some (.r (.r (.r (.l (.l (.r .o))))))) 61 true,.ok,.ok,.ok,.ok,.ok,.nw (some ((.r (.r (.l (.r (.l (.r .o)))))),false)) (some (.r (.l (.r (.r (.l (.r .o))))))) 67 true,.ok,.ok,.ok,.ok,.nw (some ((.l (.l (.l (.l (.r (.r .o)))))),false)) (some (.l (.r (.l (.l (.r (.r .o))))))) 72 true,.ok,.ok,.ok,.ok,.nw (some ((.r (.l (.r (.l (.r (.r .o)))))),false)) (some (.r (.r (.r (.l (.r (.r .o))))))) 78 true,.ok,.ok,.ok,.ok,.ok,.ok,.nw (some ((.l (.l (.r (.r (.r (.r .o)))))),false)) (some (.l (.r (.r (.r (.r (.r .o))))))) 85 true,.ok,.ok,.ok,.ok,.ok,.nw (some ((.l (.r (.l (.l (.l (.l (.l .o))))))),false)) (some (.l (.l (.r (.l (.l (.l (.l .o)))))))) 91 true,.ok,.ok,.ok,.ok,.ok,.nw (some ((.l (.l (.l (.r (.l (.l (.l .o))))))),false)) (some (.l (.r (.l (.r (.l (.l (.l .o)))))))) 97 true,.ok,.ok,.ok]) (.cond (.tmp (.r (.l (.r (.r (.l (.l (.l .o)))))))) (.seq (.run [.go (.move (.con (.bool false))) .o]) .ret) .skip)) (.seq (.run [.go (.call (.con (.func (.func 47) ⟨[]⟩ ⟨[]⟩)) []) (.r (.r (.r (.r (.l (.l (.l .o))))))),
 .go (.call (.con (.func (.func 48) ⟨[]⟩ ⟨[]⟩)) [(.con (.int .i64 (.ofNat 100))),(.con (.int .i64 (.ofNat 100)))]) (.l (.l (.l (.l (.r (.l (.l .o))))))),
 .go (.call (.con (.func (.func 39) ⟨[]⟩ ⟨[]⟩)) [(.tmp (.r (.r (.r (.r (.l (.l (.l .o)))))))),(.tmp (.l (.l (.l (.l (.r (.l (.l .o))))))))]) (.r (.l (.l (.l (.r (.l (.l .o))))))),
 .go (.move (.tmp (.r (.l (.l (.l (.r (.l (.l .o))))))))) (.l (.r (.r (.r (.l (.l (.l .o))))))),
 .go (.extract (.tmp (.l (.r (.r (.r (.l (.l (.l .o)))))))) 0) (.l (.r (.l (.l (.r (.l (.l .o))))))),
 .go (.extract (.tmp (.l (.r (.r (.r (.l (.l (.l .o)))))))) 1) (.r (.r (.l (.l (.r (.l (.l .o))))))),
 .go (.extract (.tmp (.l (.r (.r (.r (.l (.l (.l .o)))))))) 2) (.l (.l (.r (.l (.r (.l (.l .o))))))),
 .go (.move (.tmp (.l (.l (.r (.l (.r (.l (.l .o))))))))) (.r .o)]) (.seq (.run [.go (.call (.con (.func (.func 47) ⟨[]⟩ ⟨[]⟩)) []) (.l (.r (.r (.l (.r (.l (.l .o))))))),
 .go (.call (.con (.func (.func 48) ⟨[]⟩ ⟨[]⟩)) [(.con (.int .i64 (.ofNat 5))),(.con (.int .i64 (.ofNat 4)))]) (.r (.r (.r (.l (.r (.l (.l .o))))))),
 .go (.call (.con (.func (.func 39) ⟨[]⟩ ⟨[]⟩)) [(.tmp (.l (.r (.r (.l (.r (.l (.l .o)))))))),(.tmp (.r (.r (.r (.l (.r (.l (.l .o))))))))]) (.l (.l (.l (.r (.r (.l (.l .o))))))),
 .go (.move (.tmp (.l (.l (.l (.r (.r (.l (.l .o))))))))) (.r (.l (.r (.l (.r (.l (.l .o))))))),
 .go (.extract (.tmp (.r (.l (.r (.l (.r (.l (.l .o)))))))) 0) (.r (.l (.l (.r (.r (.l (.l .o))))))),
 .go (.extract (.tmp (.r (.l (.r (.l (.r (.l (.l .o)))))))) 1) (.l (.r (.l (.r (.r (.l (.l .o))))))),
 .go (.extract (.tmp (.r (.l (.r (.l (.r (.l (.l .o)))))))) 2) (.r (.r (.l (.r (.r (.l (.l .o))))))),
 .go (.move (.tmp (.r (.r (.l (.r (.r (.l (.l .o))))))))) (.r (.l .o))]) (.seq (.run [.go (.call (.con (.func (.func 47) ⟨[]⟩ ⟨[]⟩)) []) (.r (.l (.r (.r (.r (.l (.l .o))))))),
 .go (.call (.con (.func (.func 48) ⟨[]⟩ ⟨[]⟩)) [(.con (.int .i64 (.ofNat 0))),(.con (.int .i64 (.ofNat 40001)))]) (.l (.r (.r (.r (.r (.l (.l .o))))))),
 .go (.call (.con (.func (.func 39) ⟨[]⟩ ⟨[]⟩)) [(.tmp (.r (.l (.r (.r (.r (.l (.l .o)))))))),(.tmp (.l (.r (.r (.r (.r (.l (.l .o))))))))]) (.r (.r (.r (.r (.r (.l (.l .o))))))),
 .go (.move (.tmp (.r (.r (.r (.r (.r (.l (.l .o))))))))) (.l (.l (.r (.r (.r (.l (.l .o))))))),
 .go (.extract (.tmp (.l (.l (.r (.r (.r (.l (.l .o)))))))) 0) (.l (.l (.l (.l (.l (.r (.l .o))))))),
 .go (.extract (.tmp (.l (.l (.r (.r (.r (.l (.l .o)))))))) 1) (.r (.l (.l (.l (.l (.r (.l .o))))))),
 .go (.extract (.tmp (.l (.l (.r (.r (.r (.l (.l .o)))))))) 2) (.l (.r (.l (.l (.l (.r (.l .o))))))),
 .go (.move (.tmp (.l (.r (.l (.l (.l (.r (.l .o))))))))) (.l (.l (.l .o)))]) (.seq (.run [.go (.call (.con (.func (.func 47) ⟨[]⟩ ⟨[]⟩)) []) (.r (.r (.l (.l (.l (.r (.l .o))))))),
 .go (.call (.con (.func (.func 47) ⟨[]⟩ ⟨[]⟩)) []) (.l (.l (.r (.l (.l (.r (.l .o))))))),
 .go (.call (.con (.func (.func 47) ⟨[]⟩ ⟨[]⟩)) []) (.r (.l (.r (.l (.l (.r (.l .o))))))),
 .go (.call (.con (.func (.func 47) ⟨[]⟩ ⟨[]⟩)) []) (.l (.r (.r (.l (.l (.r (.l .o))))))),
 .go (.call (.con (.func (.func 47) ⟨[]⟩ ⟨[]⟩)) []) (.r (.r (.r (.l (.l (.r (.l .o))))))),
 .go (.call (.con (.func (.func 47) ⟨[]⟩ ⟨[]⟩)) []) (.l (.l (.l (.r (.l (.r (.l .o))))))),
 .go (.alloc 34 [(.slice none 0 0),(.int .i64 (.ofNat 0)),(.slice none 0 0),(.slice none 0 0)]) (.r (.l (.l .o))),
 .go (.alloc 34 [(.slice none 0 0),(.int .i64 (.ofNat 0)),(.slice none 0 0),(.slice none 0 0)]) (.l (.r (.l .o))),
 .go (.alloc 34 [(.slice none 0 0),(.int .i64 (.ofNat 0)),(.slice none 0 0),(.slice none 0 0)]) (.r (.r (.l .o))),
 .go (.alloc 34 [(.slice none 0 0),(.int .i64 (.ofNat 0)),(.slice none 0 0),(.slice none 0 0)]) (.l (.l (.r .o))),
 .go (.alloc 34 [(.slice none 0 0),(.int .i64 (.ofNat 0)),(.slice none 0 0),(.slice none 0 0)]) (.r (.l (.r .o))),
 .go (.alloc 34 [(.slice none 0 0),(.int .i64 (.ofNat 0)),(.slice none 0 0),(.slice none 0 0)]) (.l (.r (.r .o))),
 .un (.store 4 (.tmp (.r (.l (.l .o)))) (.tmp (.r (.r (.l (.l (.l (.r (.l .o))))))))),
 .un (.store 4 (.tmp (.l (.r (.l .o)))) (.tmp (.l (.l (.r (.l (.l (.r (.l .o))))))))),
 .un (.store 4 (.tmp (.r (.r (.l .o)))) (.tmp (.r (.l (.r (.l (.l (.r (.l .o))))))))),
 .un (.store 4 (.tmp (.l (.l (.r .o)))) (.tmp (.l (.r (.r (.l (.l (.r (.l .o))))))))),
 .un (.store 4 (.tmp (.r (.l (.r .o)))) (.tmp (.r (.r (.r (.l (.l (.r (.l .o))))))))),
 .un (.store 4 (.tmp (.l (.r (.r .o)))) (.tmp (.l (.l (.l (.r (.l (.r (.l .o)))))))))]) (.seq (.run [.go (.fieldAddr 0 (.tmp (.r (.l (.l .o))))) (.r (.l (.l (.r (.l (.r (.l .o))))))),
 .go (.load1 (.tmp (.r (.l (.l (.r (.l (.r (.l .o))))))))) (.l (.r (.l (.r (.l (.r (.l .o))))))),
 .go (.indexAddr none 1 (.tmp (.l (.r (.l (.r (.l (.r (.l .o)))))))) (.con (.int .i64 (.ofNat 0)))) (.r (.r (.l (.r (.l (.r (.l .o))))))),
 .un (.store 1 (.tmp (.r (.r (.l (.r (.l (.r (.l .o)))))))) (.con (.int .i64 (.ofNat 121))))]) (.seq (.run [.go (.fieldAddr 2 (.tmp (.l (.r (.l .o))))) (.l (.l (.r (.r (.l (.r (.l .o))))))),
 .go (.load1 (.tmp (.l (.l (.r (.r (.l (.r (.l .o))))))))) (.r (.l (.r (.r (.l (.r (.l .o))))))),
 .go (.indexAddr none 5 (.tmp (.r (.l (.r (.r (.l (.r (.l .o)))))))) (.con (.int .i64 (.ofNat 0)))) (.l (.r (.r (.r (.l (.r (.l .o))))))),
 .go (.fieldAddr 1 (.tmp (.l (.r (.r (.r (.l (.r (.l .o))))))))) (.r (.r (.r (.r (.l (.r (.l .o))))))),
 .un (.store 1 (.tmp (.r (.r (.r (.r (.l (.r (.l .o)))))))) (.con (.int .i64 (.ofNat 2))))]) (.seq (.draw 10 [.go (.fieldAddr 2 (.tmp (.r (.r (.l .o))))) (.l (.l (.l (.l (.r (.r (.l .o))))))),
 .go (.load1 (.tmp (.l (.l (.l (.l (.r (.r (.l .o))))))))) (.r (.l (.l (.l (.r (.r (.l .o))))))),
 .go (.fieldAddr 2 (.tmp (.r (.r (.l .o))))) (.l (.r (.l (.l (.r (.r (.l .o))))))),
 .go (.load1 (.tmp (.l (.r (.l (.l (.r (.r (.l .o))))))))) (.r (.r (.l (.l (.r (.r (.l .o))))))),
 .go (.indexAddr none 5 (.tmp (.r (.l (.l (.l (.r (.r (.l .o)))))))) (.con (.int .i64 (.ofNat 2)))) (.l (.l (.r (.l (.r (.r (.l .o))))))),
 .go (.fieldAddr 2 (.tmp (.l (.l (.r (.l (.r (.r (.l .o))))))))) (.r (.l (.r (.l (.r (.r (.l .o))))))),
 .un (.store 1 (.tmp (.r (.l (.r (.l (.r (.r (.l .o)))))))) (.con (.int .i64 (.ofNat 0)))),
 .go (.indexAddr none 5 (.tmp (.r (.r (.l (.l (.r (.r (.l .o)))))))) (.con (.int .i64 (.ofNat 3)))) (.l (.r (.r (.l (.r (.r (.l .o))))))),
 .go (.fieldAddr 2 (.tmp (.l (.r (.r (.l (.r (.r (.l .o))))))))) (.r (.r (.r (.l (.r (.r (.l .o))))))),
 .un (.store 1 (.tmp (.r (.r (.r (.l (.r (.r (.l .o)))))))) (.con (.int .i64 (.ofNat 0))))] [.ok,.ok,.ok,.rd none (.load1 (.tmp (.l (.r (.l (.l (.r (.r (.l .o))))))))) (some (.r (.r (.l (.l (.r (.r (.l .o)))))))) [7],.ok,.ok,.ok,.ok,.ok,.ok]) (.seq (.run [.go (.fieldAddr 3 (.tmp (.l (.l (.r .o))))) (.l (.l (.l (.r (.r (.r (.l .o))))))),
 .go (.load1 (.tmp (.l (.l (.l (.r (.r (.r (.l .o))))))))) (.r (.l (.l (.r (.r (.r (.l .o))))))),
 .go (.indexAddr none 2 (.tmp (.r (.l (.l (.r (.r (.r (.l .o)))))))) (.con (.int .i64 (.ofNat 0)))) (.l (.r (.l (.r (.r (.r (.l .o))))))),
 .go (.fieldAddr 1 (.tmp (.l (.r (.l (.r (.r (.r (.l .o))))))))) (.r (.r (.l (.r (.r (.r (.l .o))))))),
 .un (.store 1 (.tmp (.r (.r (.l (.r (.r (.r (.l .o)))))))) (.con (.int .i64 (.ofNat 0))))]) (.seq (.run [.go (.makeSlice 74 5 40 [(.int .i64 (.ofNat 0)),(.int .i64 (.ofNat 0)),(.int .i64 (.ofNat 0)),(.int .i64 (.ofNat 0)),(.int .i64 (.ofNat 0))] (.con (.int .i64 (.ofNat 9))) (.con (.int .i64 (.ofNat 9)))) (.l (.l (.r (.r (.r (.r (.l .o))))))),
 .go (.fieldAddr 2 (.tmp (.r (.l (.r .o))))) (.r (.l (.r (.r (.r (.r (.l .o))))))),
 .un (.store 1 (.tmp (.r (.l (.r (.r (.r (.r (.l .o)))))))) (.tmp (.l (.l (.r (.r (.r (.r (.l .o)))))))))]) (.seq (.run [.go (.fieldAddr 0 (.tmp (.l (.r (.r .o))))) (.l (.r (.r (.r (.r (.r (.l .o))))))),
 .go (.load1 (.tmp (.l (.r (.r (.r (.r (.r (.l .o))))))))) (.r (.r (.r (.r (.r (.r (.l .o))))))),
 .go (.buildSlice 3 1 [(.int .i64 (.ofNat 0))] [(0,1,(.con (.int .i64 (.ofNat 5))))]) (.l (.l (.l (.l (.l (.l (.r .o))))))),
 .go (.append 3 1 8 (.tmp (.r (.r (.r (.r (.r (.r (.l .o)))))))) (.tmp (.l (.l (.l (.l (.l (.l (.r .o))))))))) (.r (.l (.l (.l (.l (.l (.r .o))))))),
 .go (.fieldAddr 0 (.tmp (.l (.r (.r .o))))) (.l (.r (.l (.l (.l (.l (.r .o))))))),
 .un (.store 1 (.tmp (.l (.r (.l (.l (.l (.l (.r .o)))))))) (.tmp (.r (.l (.l (.l (.l (.l (.r .o)))))))))]) (.seq (.run [.go (.loadN 4 (.tmp (.r (.l (.l .o))))) (.l (.l (.r (.l (.l (.l (.r .o))))))),
 .go (.call (.con (.func (.func 27) ⟨[]⟩ ⟨[]⟩)) [(.tmp (.l (.l (.r (.l (.l (.l (.r .o))))))))]) (.r (.l (.r (.l (.l (.l (.r .o))))))),
 .go (.move (.tmp (.r (.l (.r (.l (.l (.l (.r .o))))))))) (.r (.r (.l (.l (.l (.l (.r .o))))))),
 .go (.extract (.tmp (.r (.r (.l (.l (.l (.l (.r .o)))))))) 0) (.l (.r (.r (.l (.l (.l (.r .o))))))),
 .go (.extract (.tmp (.r (.r (.l (.l (.l (.l (.r .o)))))))) 1) (.r (.r (.r (.l (.l (.l (.r .o))))))),
 .go (.move (.tmp (.l (.r (.r (.l (.l (.l (.r .o))))))))) (.r (.r (.r .o))),
 .go (.move (.tmp (.r (.r (.r (.l (.l (.l (.r .o))))))))) (.l (.l (.l (.l .o))))]) (.seq (.run [.go (.loadN 4 (.tmp (.r (.l (.l .o))))) (.r (.l (.l (.r (.l (.l (.r .o))))))),
 .go (.call (.con (.func (.func 36) ⟨[]⟩ ⟨[]⟩)) [(.tmp (.r (.l (.l (.r (.l (.l (.r .o))))))))]) (.l (.r (.l (.r (.l (.l (.r .o))))))),
 .go (.move (.tmp (.l (.r (.l (.r (.l (.l (.r .o))))))))) (.l (.l (.l (.r (.l (.l (.r .o))))))),
 .go (.extract (.tmp (.l (.l (.l (.r (.l (.l (.r .o)))))))) 0) (.r (.r (.l (.r (.l (.l (.r .o))))))),
 .go (.extract (.tmp (.l (.l (.l (.r (.l (.l (.r .o)))))))) 1) (.l (.l (.r (.r (.l (.l (.r .o))))))),
 .go (.move (.tmp (.r (.r (.l (.r (.l (.l (.r .o))))))))) (.r (.l (.l (.l .o)))),
 .go (.move (.tmp (.l (.l (.r (.r (.l (.l (.r .o))))))))) (.l (.r (.l (.l .o))))]) (.seq (.draw 10 [.go (.loadN 4 (.tmp (.r (.l (.l .o))))) (.l (.r (.r (.r (.l (.l (.r .o))))))),
 .go (.call (.con (.func (.func 48) ⟨[]⟩ ⟨[]⟩)) [(.con (.int .i64 (.ofNat 5))),(.con (.int .i64 (.ofNat 4)))]) (.r (.r (.r (.r (.l (.l (.r .o))))))),
 .go (.call (.con (.func (.func 39) ⟨[]⟩ ⟨[]⟩)) [(.tmp (.l (.r (.r (.r (.l (.l (.r .o)))))))),(.tmp (.r (.r (.r (.r (.l (.l (.r .o))))))))]) (.l (.l (.l (.l (.r (.l (.r .o))))))),
 .go (.move (.tmp (.l (.l (.l (.l (.r (.l (.r .o))))))))) (.r (.l (.r (.r (.l (.l (.r .o))))))),
 .go (.extract (.tmp (.r (.l (.r (.r (.l (.l (.r .o)))))))) 0) (.r (.l (.l (.l (.r (.l (.r .o))))))),
 .go (.extract (.tmp (.r (.l (.r (.r (.l (.l (.r .o)))))))) 1) (.l (.r (.l (.l (.r (.l (.r .o))))))),
 .go (.extract (.tmp (.r (.l (.r (.r (.l (.l (.r .o)))))))) 2) (.r (.r (.l (.l (.r (.l (.r .o))))))),
 .go (.move (.tmp (.r (.l (.l (.l (.r (.l (.r .o))))))))) (.r (.r (.l (.l .o)))),
 .go (.move (.tmp (.l (.r (.l (.l (.r (.l (.r .o))))))))) (.l (.l (.r (.l .o)))),
 .go (.move (.tmp (.r (.r (.l (.l (.r (.l (.r .o))))))))) (.r (.l (.r (.l .o))))] [.rd none (.loadN 4 (.tmp (.r (.l (.l .o))))) (some (.l (.r (.r (.r (.l (.l (.r .o)))))))) [2],.ok,.ok,.ok,.ok,.ok,.ok,.ok,.ok,.ok]) (.seq (.run [.go (.loadN 4 (.tmp (.r (.l (.l .o))))) (.r (.l (.r (.l (.r (.l (.r .o))))))),
 .go (.call (.con (.func (.func 20) ⟨[]⟩ ⟨[]⟩)) [(.tmp (.r (.l (.r (.l (.r (.l (.r .o))))))))]) (.l (.r (.r (.l (.r (.l (.r .o))))))),
 .go (.move (.tmp (.l (.r (.r (.l (.r (.l (.r .o))))))))) (.l (.l (.r (.l (.r (.l (.r .o))))))),
 .go (.extract (.tmp (.l (.l (.r (.l (.r (.l (.r .o)))))))) 0) (.r (.r (.r (.l (.r (.l (.r .o))))))),
 .go (.extract (.tmp (.l (.l (.r (.l (.r (.l (.r .o)))))))) 1) (.l (.l (.l (.r (.r (.l (.r .o))))))),
 .go (.extract (.tmp (.l (.l (.r (.l (.r (.l (.r .o)))))))) 2) (.r (.l (.l (.r (.r (.l (.r .o))))))),
 .go (.move (.tmp (.r (.r (.r (.l (.r (.l (.r .o))))))))) (.l (.r (.r (.l .o)))),
 .go (.move (.tmp (.l (.l (.l (.r (.r (.l (.r .o))))))))) (.r (.r (.r (.l .o)))),
 .go (.move (.tmp (.r (.l (.l (.r (.r (.l (.r .o))))))))) (.l (.l (.l (.r .o))))]) (.seq (.run [.go (.move (.tmp (.r .o))) (.l (.r (.l (.r (.r (.l (.r .o))))))),
 .go (.bin .eql 29 (.tmp (.l (.r (.l (.r (.r (.l (.r .o)))))))) (.con (.int .i64 (.ofNat 7)))) (.r (.r (.l (.r (.r (.l (.r .o))))))),
 .go (.move (.tmp (.r (.r (.l (.r (.r (.l (.r .o))))))))) (.l (.l (.r (.r (.r (.l (.r .o))))))),
 .gd (.l (.l (.r (.r (.r (.l (.r .o))))))) true (.move (.tmp (.r (.l .o)))) (.r (.l (.r (.r (.r (.l (.r .o))))))),
 .gd (.l (.l (.r (.r (.r (.l (.r .o))))))) true (.bin .eql 29 (.tmp (.r (.l (.r (.r (.r (.l (.r .o)))))))) (.con (.int .i64 (.ofNat 2)))) (.l (.r (.r (.r (.r (.l (.r .o))))))),
 .go (.pick (.tmp (.l (.l (.r (.r (.r (.l (.r .o)))))))) (.tmp (.l (.r (.r (.r (.r (.l (.r .o)))))))) (.con (.bool false))) (.r (.r (.r (.r (.r (.l (.r .o))))))),
 .go (.move (.tmp (.r (.r (.r (.r (.r (.l (.r .o))))))))) (.l (.l (.l (.l (.l (.r (.r .o))))))),
 .gd (.l (.l (.l (.l (.l (.r (.r .o))))))) true (.move (.tmp (.l (.l (.l .o))))) (.r (.l (.l (.l (.l (.r (.r .o))))))),
 .gd (.l (.l (.l (.l (.l (.r (.r .o))))))) true (.bin .eql 29 (.tmp (.r (.l (.l (.l (.l (.r (.r .o)))))))) (.con (.int .i64 (.ofNat 2)))) (.l (.r (.l (.l (.l (.r (.r .o))))))),
 .go (.pick (.tmp (.l (.l (.l (.l (.l (.r (.r .o)))))))) (.tmp (.l (.r (.l (.l (.l (.r (.r .o)))))))) (.con (.bool false))) (.r (.r (.l (.l (.l (.r (.r .o))))))),
 .go (.move (.tmp (.r (.r (.l (.l (.l (.r (.r .o))))))))) (.l (.l (.r (.l (.l (.r (.r .o))))))),
 .gd (.l (.l (.r (.l (.l (.r (.r .o))))))) true (.move (.tmp (.l (.l (.l (.l .o)))))) (.r (.l (.r (.l (.l (.r (.r .o))))))),
 .gd (.l (.l (.r (.l (.l (.r (.r .o))))))) true (.bin .eql 29 (.tmp (.r (.l (.r (.l (.l (.r (.r .o)))))))) (.con (.int .i64 (.ofNat 9)))) (.l (.r (.r (.l (.l (.r (.r .o))))))),
 .go (.pick (.tmp (.l (.l (.r (.l (.l (.r (.r .o)))))))) (.tmp (.l (.r (.r (.l (.l (.r (.r .o)))))))) (.con (.bool false))) (.r (.r (.r (.l (.l (.r (.r .o))))))),
 .go (.move (.tmp (.r (.r (.r (.l (.l (.r (.r .o))))))))) (.l (.l (.l (.r (.l (.r (.r .o))))))),
 .gd (.l (.l (.l (.r (.l (.r (.r .o))))))) true (.move (.tmp (.l (.r (.l (.l .o)))))) (.r (.l (.l (.r (.l (.r (.r .o))))))),
 .gd (.l (.l (.l (.r (.l (.r (.r .o))))))) true (.bin .eql 29 (.tmp (.r (.l (.l (.r (.l (.r (.r .o)))))))) (.con (.int .i64 (.ofNat 9)))) (.l (.r (.l (.r (.l (.r (.r .o))))))),
 .go (.pick (.tmp (.l (.l (.l (.r (.l (.r (.r .o)))))))) (.tmp (.l (.r (.l (.r (.l (.r (.r .o)))))))) (.con (.bool false))) (.r (.r (.l (.r (.l (.r (.r .o))))))),
 .go (.move (.tmp (.r (.r (.l (.r (.l (.r (.r .o))))))))) (.l (.l (.r (.r (.l (.r (.r .o))))))),
 .gd (.l (.l (.r (.r (.l (.r (.r .o))))))) true (.move (.tmp (.r (.l (.r (.l .o)))))) (.r (.l (.r (.r (.l (.r (.r .o))))))),
 .gd (.l (.l (.r (.r (.l (.r (.r .o))))))) true (.bin .eql 29 (.tmp (.r (.l (.r (.r (.l (.r (.r .o)))))))) (.con (.int .i64 (.ofNat 2)))) (.l (.r (.r (.r (.l (.r (.r .o))))))),
 .go (.pick (.tmp (.l (.l (.r (.r (.l (.r (.r .o)))))))) (.tmp (.l (.r (.r (.r (.l (.r (.r .o)))))))) (.con (.bool false))) (.r (.r (.r (.r (.l (.r (.r .o))))))),
 .go (.move (.tmp (.r (.r (.r (.r (.l (.r (.r .o))))))))) (.l (.l (.l (.l (.r (.r (.r .o))))))),
 .gd (.l (.l (.l (.l (.r (.r (.r .o))))))) true (.move (.tmp (.l (.l (.l (.r .o)))))) (.r (.l (.l (.l (.r (.r (.r .o))))))),
 .gd (.l (.l (.l (.l (.r (.r (.r .o))))))) true (.bin .eql 29 (.tmp (.r (.l (.l (.l (.r (.r (.r .o)))))))) (.con (.int .i64 (.ofNat 0)))) (.l (.r (.l (.l (.r (.r (.r .o))))))),
 .go (.pick (.tmp (.l (.l (.l (.l (.r (.r (.r .o)))))))) (.tmp (.l (.r (.l (.l (.r (.r (.r .o)))))))) (.con (.bool false))) (.r (.r (.l (.l (.r (.r (.r .o))))))),
 .go (.move (.tmp (.r (.r (.l (.l (.r (.r (.r .o))))))))) (.l (.l (.r (.l (.r (.r (.r .o))))))),
 .gd (.l (.l (.r (.l (.r (.r (.r .o))))))) true (.loadN 4 (.tmp (.l (.r (.l .o))))) (.r (.l (.r (.l (.r (.r (.r .o))))))),
 .gd (.l (.l (.r (.l (.r (.r (.r .o))))))) true (.call (.con (.func (.func 18) ⟨[]⟩ ⟨[]⟩)) [(.tmp (.r (.l (.r (.l (.r (.r (.r .o))))))))]) (.l (.r (.r (.l (.r (.r (.r .o))))))),
 .gd (.l (.l (.r (.l (.r (.r (.r .o))))))) true (.bin .eql 29 (.tmp (.l (.r (.r (.l (.r (.r (.r .o)))))))) (.con (.int .i64 (.ofNat 1)))) (.r (.r (.r (.l (.r (.r (.r .o))))))),
 .go (.pick (.tmp (.l (.l (.r (.l (.r (.r (.r .o)))))))) (.tmp (.r (.r (.r (.l (.r (.r (.r .o)))))))) (.con (.bool false))) (.l (.l (.l (.r (.r (.r (.r .o))))))),
 .go (.move (.tmp (.l (.l (.l (.r (.r (.r (.r .o))))))))) (.r (.l (.l (.r (.r (.r (.r .o))))))),
 .gd (.r (.l (.l (.r (.r (.r (.r .o))))))) true (.loadN 4 (.tmp (.r (.r (.l .o))))) (.l (.r (.l (.r (.r (.r (.r .o))))))),
 .gd (.r (.l (.l (.r (.r (.r (.r .o))))))) true (.call (.con (.func (.func 18) ⟨[]⟩ ⟨[]⟩)) [(.tmp (.l (.r (.l (.r (.r (.r (.r .o))))))))]) (.r (.r (.l (.r (.r (.r (.r .o))))))),
 .gd (.r (.l (.l (.r (.r (.r (.r .o))))))) true (.bin .eql 29 (.tmp (.r (.r (.l (.r (.r (.r (.r .o)))))))) (.con (.int .i64 (.ofNat 1)))) (.l (.l (.r (.r (.r (.r (.r .o))))))),
 .go (.pick (.tmp (.r (.l (.l (.r (.r (.r (.r .o)))))))) (.tmp (.l (.l (.r (.r (.r (.r (.r .o)))))))) (.con (.bool false))) (.r (.l (.r (.r (.r (.r (.r .o))))))),
 .go (.move (.tmp (.r (.l (.r (.r (.r (.r (.r .o))))))))) (.l (.r (.r (.r (.r (.r (.r .o))))))),
 .gd (.l (.r (.r (.r (.r (.r (.r .o))))))) true (.loadN 4 (.tmp (.l (.l (.r .o))))) (.r (.r (.r (.r (.r (.r (.r .o))))))),
 .gd (.l (.r (.r (.r (.r (.r (.r .o))))))) true (.call (.con (.func (.func 18) ⟨[]⟩ ⟨[]⟩)) [(.tmp (.r (.r (.r (.r (.r (.r (.r .o))))))))]) (.l (.l (.l (.l (.l (.l (.l (.l .o)))))))),
 .gd (.l (.r (.r (.r (.r (.r (.r .o))))))) true (.bin .eql 29 (.tmp (.l (.l (.l (.l (.l (.l (.l (.l .o))))))))) (.con (.int .i64 (.ofNat 1)))) (.r (.l (.l (.l (.l (.l (.l (.l .o)))))))),
 .go (.pick (.tmp (.l (.r (.r (.r (.r (.r (.r .o)))))))) (.tmp (.r (.l (.l (.l (.l (.l (.l (.l .o))))))))) (.con (.bool false))) (.l (.r (.l (.l (.l (.l (.l (.l .o)))))))),
 .go (.move (.tmp (.l (.r (.l (.l (.l (.l (.l (.l .o)))))))))) (.r (.r (.l (.l (.l (.l (.l (.l .o)))))))),
 .gd (.r (.r (.l (.l (.l (.l (.l (.l .o)))))))) true (.loadN 4 (.tmp (.r (.l (.r .o))))) (.l (.l (.r (.l (.l (.l (.l (.l .o)))))))),
 .gd (.r (.r (.l (.l (.l (.l (.l (.l .o)))))))) true (.call (.con (.func (.func 18) ⟨[]⟩ ⟨[]⟩)) [(.tmp (.l (.l (.r (.l (.l (.l (.l (.l .o)))))))))]) (.r (.l (.r (.l (.l (.l (.l (.l .o)))))))),
 .gd (.r (.r (.l (.l (.l (.l (.l (.l .o)))))))) true (.bin .eql 29 (.tmp (.r (.l (.r (.l (.l (.l (.l (.l .o))))))))) (.con (.int .i64 (.ofNat 3)))) (.l (.r (.r (.l (.l (.l (.l (.l .o)))))))),
 .go (.pick (.tmp (.r (.r (.l (.l (.l (.l (.l (.l .o))))))))) (.tmp (.l (.r (.r (.l (.l (.l (.l (.l .o))))))))) (.con (.bool false))) (.r (.r (.r (.l (.l (.l (.l (.l .o)))))))),
 .go (.move (.tmp (.r (.r (.r (.l (.l (.l (.l (.l .o)))))))))) (.l (.l (.l (.r (.l (.l (.l (.l .o)))))))),
 .gd (.l (.l (.l (.r (.l (.l (.l (.l .o)))))))) true (.loadN 4 (.tmp (.l (.r (.r .o))))) (.r (.l (.l (.r (.l (.l (.l (.l .o)))))))),
 .gd (.l (.l (.l (.r (.l (.l (.l (.l .o)))))))) true (.call (.con (.func (.func 18) ⟨[]⟩ ⟨[]⟩)) [(.tmp (.r (.l (.l (.r (.l (.l (.l (.l .o)))))))))]) (.l (.r (.l (.r (.l (.l (.l (.l .o)))))))),
 .gd (.l (.l (.l (.r (.l (.l (.l (.l .o)))))))) true (.bin .eql 29 (.tmp (.l (.r (.l (.r (.l (.l (.l (.l .o))))))))) (.con (.int .i64 (.ofNat 1)))) (.r (.r (.l (.r (.l (.l (.l (.l .o)))))))),
 .go (.pick (.tmp (.l (.l (.l (.r (.l (.l (.l (.l .o))))))))) (.tmp (.r (.r (.l (.r (.l (.l (.l (.l .o))))))))) (.con (.bool false))) (.l (.l (.r (.r (.l (.l (.l (.l .o)))))))),
 .go (.move (.tmp (.l (.l (.r (.r (.l (.l (.l (.l .o)))))))))) (.r (.l (.r (.r (.l (.l (.l (.l .o)))))))),
 .gd (.r (.l (.r (.r (.l (.l (.l (.l .o)))))))) true (.build [(.slice none 0 0),(.int .i64 (.ofNat 0)),(.slice none 0 0),(.slice none 0 0)] []) (.l (.r (.r (.r (.l (.l (.l (.l .o)))))))),
 .gd (.r (.l (.r (.r (.l (.l (.l (.l .o)))))))) true (.call (.con (.func (.func 18) ⟨[]⟩ ⟨[]⟩)) [(.tmp (.l (.r (.r (.r (.l (.l (.l (.l .o)))))))))]) (.r (.r (.r (.r (.l (.l (.l (.l .o)))))))),
 .gd (.r (.l (.r (.r (.l (.l (.l (.l .o)))))))) true (.bin .eql 29 (.tmp (.r (.r (.r (.r (.l (.l (.l (.l .o))))))))) (.con (.int .i64 (.ofNat 1)))) (.l (.l (.l (.l (.r (.l (.l (.l .o)))))))),
 .go (.pick (.tmp (.r (.l (.r (.r (.l (.l (.l (.l .o))))))))) (.tmp (.l (.l (.l (.l (.r (.l (.l (.l .o))))))))) (.con (.bool false))) (.r (.l (.l (.l (.r (.l (.l (.l .o)))))))),
 .go (.move (.tmp (.r (.l (.l (.l (.r (.l (.l (.l .o)))))))))) (.l (.r (.l (.l (.r (.l (.l (.l .o)))))))),
 .gd (.l (.r (.l (.l (.r (.l (.l (.l .o)))))))) true (.call (.con (.func (.func 17) ⟨[]⟩ ⟨[]⟩)) []) (.r (.r (.l (.l (.r (.l (.l (.l .o)))))))),
 .go (.pick (.tmp (.l (.r (.l (.l (.r (.l (.l (.l .o))))))))) (.tmp (.r (.r (.l (.l (.r (.l (.l (.l .o))))))))) (.con (.bool false))) (.l (.l (.r (.l (.r (.l (.l (.l .o)))))))),
 .go (.move (.tmp (.l (.l (.r (.l (.r (.l (.l (.l .o)))))))))) .o]) .ret))))))))))))))))))))
noncomputable def f7 : FFunc := .mk c7 (.n U (.n U (.n U (.n U (.n U (.n U (.n U (.n U (.n U .e .e) .e) (.n U .e .e)) (.n U (.n U .e .e) (.n U .e .e))) (.n U (.n U (.n U (.n U .e .e) .e) (.n U .e .e)) (.n U (.n U .e .e) (.n U .e .e)))) (.n U (.n U (.n U (.n U (.n U .e .e) .e) (.n U .e .e)) (.n U (.n U .e .e) (.n U .e .e))) (.n U (.n U (.n U .e .e) (.n U .e .e)) (.n U (.n U .e .e) (.n U .e .e))))) (.n U (.n U (.n U (.n U (.n U (.n U .e .e) .e) (.n U .e .e)) (.n U (.n U .e .e) (.n U .e .e))) (.n U (.n U (.n U (.n U .e .e) .e) (.n U .e .e)) (.n U (.n U .e .e) (.n U .e .e)))) (.n U (.n U (.n U (.n U (.n U .e .e) .e) (.n U .e .e)) (.n U (.n U .e .e) (.n U .e .e))) (.n U (.n U (.n U .e .e) (.n U .e .e)) (.n U (.n U .e .e) (.n U .e .e)))))) (.n U (.n U (.n U (.n U (.n U (.n U (.n U .e .e) .e) (.n U .e .e)) (.n U (.n U .e .e) (.n U .e .e))) (.n U (.n U (.n U (.n U .e .e) .e) (.n U .e .e)) (.n U (.n U .e .e) (.n U .e .e)))) (.n U (.n U (.n U (.n U (.n U .e .e) .e) (.n U .e .e)) (.n U (.n U .e .e) (.n U .e .e))) (.n U (.n U (.n U .e .e) (.n U .e .e)) (.n U (.n U .e .e) (.n U .e .e))))) (.n U (.n U (.n U (.n U (.n U (.n U .e .e) .e) (.n U .e .e)) (.n U (.n U .e .e) (.n U .e .e))) (.n U (.n U (.n U .e .e) (.n U .e .e)) (.n U (.n U .e .e) (.n U .e .e)))) (.n U (.n U (.n U (.n U (.n U .e .e) .e) (.n U .e .e)) (.n U (.n U .e .e) (.n U .e .e))) (.n U (.n U (.n U .e .e) (.n U .e .e)) (.n U (.n U .e .e) (.n U .e .e))))))) (.n U (.n U (.n U (.n U (.n U (.n U (.n U (.n U .e .e) .e) (.n U .e .e)) (.n U (.n U .e .e) (.n U .e .e))) (.n U (.n U (.n U (.n U .e .e) .e) (.n U .e .e)) (.n U (.n U .e .e) (.n U .e .e)))) (.n U (.n U (.n U (.n U (.n U .e .e) .e) (.n U .e .e)) (.n U (.n U .e .e) (.n U .e .e))) (.n U (.n U (.n U .e .e) (.n U .e .e)) (.n U (.n U .e .e) (.n U .e .e))))) (.n U (.n U (.n U (.n U (.n U (.n U .e .e) .e) (.n U .e .e)) (.n U (.n U .e .e) (.n U .e .e))) (.n U (.n U (.n U .e .e) (.n U .e .e)) (.n U (.n U .e .e) (.n U .e .e)))) (.n U (.n U (.n U (.n U (.n U .e .e) .e) (.n U .e .e)) (.n U (.n U .e .e) (.n U .e .e))) (.n U (.n U (.n U .e .e) (.n U .e .e)) (.n U (.n U .e .e) (.n U .e .e)))))) (.n U (.n U (.n U (.n U (.n U (.n U (.n U .e .e) .e) (.n U .e .e)) (.n U (.n U .e .e) (.n U .e .e))) (.n U (.n U (.n U (.n U .e .e) .e) (.n U .e .e)) (.n U (.n U .e .e) (.n U .e .e)))) (.n U (.n U (.n U (.n U (.n U .e .e) .e) (.n U .e .e)) (.n U (.n U .e .e) (.n U .e .e))) (.n U (.n U (.n U .e .e) (.n U .e .e)) (.n U (.n U .e .e) (.n U .e .e))))) (.n U (.n U (.n U (.n U (.n U (.n U .e .e) .e) (.n U .e .e)) (.n U (.n U .e .e) (.n U .e .e))) (.n U (.n U (.n U .e .e) (.n U .e .e)) (.n U (.n U .e .e) (.n U .e .e)))) (.n U (.n U (.n U (.n U (.n U .e .e) .e) (.n U .e .e)) (.n U (.n U .e .e) (.n U .e .e))) (.n U (.n U (.n U .e .e) (.n U .e .e)) (.n U (.n U .e .e) (.n U .e .e)))))))) [] [.tmp .o]
theorem e7 : @compF Try.prog (Gl.none Try.prog) Try.f7 0 = f7 := by kernel_rfl
theorem o7 : okF Try.prog Try.f7 = true := by kernel_rfl
theorem g7 : Try.prog.funcs[(7 : Nat)]? = some Try.f7 := by kernel_rfl
noncomputable def c17 : FCode := (.seq (.run [.go (.move (.con (.bool false))) .o]) (.seq (.run [.go (.call (.con (.func (.func 47) ⟨[]⟩ ⟨[]⟩)) []) (.r (.l (.r .o))),
 .go (.call (.con (.func (.func 20) ⟨[]⟩ ⟨[]⟩)) [(.tmp (.r (.l (.r .o))))]) (.l (.r (.r .o))),
 .go (.move (.tmp (.l (.r (.r .o))))) (.l (.l (.r .o))),
 .go (.extract (.tmp (.l (.l (.r .o)))) 0) (.r (.r (.r .o))),
 .go (.extract (.tmp (.l (.l (.r .o)))) 1) (.l (.l (.l (.l .o)))),
 .go (.extract (.tmp (.l (.l (.r .o)))) 2) (.r (.l (.l (.l .o)))),
 .go (.move (.tmp (.r (.r (.r .o))))) (.l .o),
 .go (.move (.tmp (.l (.l (.l (.l .o)))))) (.r .o),
 .go (.move (.tmp (.r (.l (.l (.l .o)))))) (.l (.l .o))]) (.seq (.run [.go (.call (.con (.func (.func 47) ⟨[]⟩ ⟨[]⟩)) []) (.r (.r (.l (.l .o)))),
 .go (.call (.con (.func (.func 27) ⟨[]⟩ ⟨[]⟩)) [(.tmp (.r (.r (.l (.l .o)))))]) (.l (.l (.r (.l .o)))),
 .go (.move (.tmp (.l (.l (.r (.l .o)))))) (.l (.r (.l (.l .o)))),
 .go (.extract (.tmp (.l (.r (.l (.l .o))))) 0) (.r (.l (.r (.l .o)))),
 .go (.extract (.tmp (.l (.r (.l (.l .o))))) 1) (.l (.r (.r (.l .o)))),
 .go (.move (.tmp (.r (.l (.r (.l .o)))))) (.r (.l .o)),
 .go (.move (.tmp (.l (.r (.r (.l .o)))))) (.l (.r .o))]) (.seq (.run [.go (.call (.con (.func (.func 47) ⟨[]⟩ ⟨[]⟩)) []) (.l (.l (.l (.r .o)))),
 .go (.call (.con (.func (.func 36) ⟨[]⟩ ⟨[]⟩)) [(.tmp (.l (.l (.l (.r .o)))))]) (.r (.l (.l (.r .o)))),
 .go (.move (.tmp (.r (.l (.l (.r .o)))))) (.r (.r (.r (.l .o)))),
 .go (.extract (.tmp (.r (.r (.r (.l .o))))) 0) (.l (.r (.l (.r .o)))),
 .go (.extract (.tmp (.r (.r (.r (.l .o))))) 1) (.r (.r (.l (.r .o)))),
 .go (.move (.tmp (.l (.r (.l (.r .o)))))) (.r (.r .o)),
 .go (.move (.tmp (.r (.r (.l (.r .o)))))) (.l (.l (.l .o)))]) (.seq (.run [.go (.call (.con (.func (.func 47) ⟨[]⟩ ⟨[]⟩)) []) (.r (.l (.r (.r .o)))),
 .go (.call (.con (.func (.func 48) ⟨[]⟩ ⟨[]⟩)) [(.con (.int .i64 (.ofNat 30))),(.con (.int .i64 (.ofNat 130)))]) (.l (.r (.r (.r .o)))),
 .go (.call (.con (.func (.func 39) ⟨[]⟩ ⟨[]⟩)) [(.tmp (.r (.l (.r (.r .o))))),(.tmp (.l (.r (.r (.r .o)))))]) (.r (.r (.r (.r .o)))),
 .go (.move (.tmp (.r (.r (.r (.r .o)))))) (.l (.l (.r (.r .o)))),
 .go (.extract (.tmp (.l (.l (.r (.r .o))))) 0) (.l (.l (.l (.l (.l .o))))),
 .go (.extract (.tmp (.l (.l (.r (.r .o))))) 1) (.r (.l (.l (.l (.l .o))))),
 .go (.extract (.tmp (.l (.l (.r (.r .o))))) 2) (.l (.r (.l (.l (.l .o))))),
 .go (.move (.tmp (.l (.l (.l (.l (.l .o))))))) (.r (.l (.l .o))),
 .go (.move (.tmp (.r (.l (.l (.l (.l .o))))))) (.l (.r (.l .o))),
 .go (.move (.tmp (.l (.r (.l (.l (.l .o))))))) (.r (.r (.l .o)))]) (.seq (.draw 58 [.go (.move (.tmp (.l (.l .o)))) (.r (.r (.l (.l (.l .o))))),
 .go (.bin .eql 29 (.tmp (.r (.r (.l (.l (.l .o)))))) (.con (.int .i64 (.ofNat 0)))) (.l (.l (.r (.l (.l .o))))),
 .go (.move (.tmp (.l (.l (.r (.l (.l .o))))))) (.r (.l (.r (.l (.l .o))))),
 .gd (.r (.l (.r (.l (.l .o))))) true (.move (.tmp (.l .o))) (.l (.r (.r (.l (.l .o))))),
 .gd (.r (.l (.r (.l (.l .o))))) true (.buildSlice 3 4 [(.int .i64 (.ofNat 0)),(.int .i64 (.ofNat 0)),(.int .i64 (.ofNat 0)),(.int .i64 (.ofNat 0))] [(0,1,(.con (.int .i64 (.ofNat 60)))),(1,1,(.con (.int .i64 (.ofNat 40)))),(2,1,(.con (.int .i64 (.ofNat 50)))),(3,1,(.con (.int .i64 (.ofNat 10))))]) (.r (.r (.r (.l (.l .o))))),
 .gd (.r (.l (.r (.l (.l .o))))) true (.call (.con (.func (.func 23) ⟨[]⟩ ⟨[]⟩)) [(.tmp (.l (.r (.r (.l (.l .o)))))),(.tmp (.r (.r (.r (.l (.l .o))))))]) (.l (.l (.l (.r (.l .o))))),
 .go (.pick (.tmp (.r (.l (.r (.l (.l .o)))))) (.tmp (.l (.l (.l (.r (.l .o)))))) (.con (.bool false))) (.r (.l (.l (.r (.l .o))))),
 .go (.move (.tmp (.r (.l (.l (.r (.l .o))))))) (.l (.r (.l (.r (.l .o))))),
 .gd (.l (.r (.l (.r (.l .o))))) true (.move (.tmp (.r .o))) (.r (.r (.l (.r (.l .o))))),
 .gd (.l (.r (.l (.r (.l .o))))) true (.buildSlice 3 2 [(.int .i64 (.ofNat 0)),(.int .i64 (.ofNat 0))] [(0,1,(.con (.int .i64 (.ofNat 70)))),(1,1,(.con (.int .i64 (.ofNat 90))))]) (.l (.l (.r (.r (.l .o))))),
 .gd (.l (.r (.l (.r (.l .o))))) true (.call (.con (.func (.func 23) ⟨[]⟩ ⟨[]⟩)) [(.tmp (.r (.r (.l (.r (.l .o)))))),(.tmp (.l (.l (.r (.r (.l .o))))))]) (.r (.l (.r (.r (.l .o))))),
 .go (.pick (.tmp (.l (.r (.l (.r (.l .o)))))) (.tmp (.r (.l (.r (.r (.l .o)))))) (.con (.bool false))) (.l (.r (.r (.r (.l .o))))),
 .go (.move (.tmp (.l (.r (.r (.r (.l .o))))))) (.r (.r (.r (.r (.l .o))))),
 .gd (.r (.r (.r (.r (.l .o))))) true (.move (.tmp (.l (.r .o)))) (.l (.l (.l (.l (.r .o))))),
 .gd (.r (.r (.r (.r (.l .o))))) true (.bin .eql 29 (.tmp (.l (.l (.l (.l (.r .o)))))) (.con (.int .i64 (.ofNat 0)))) (.r (.l (.l (.l (.r .o))))),
 .go (.pick (.tmp (.r (.r (.r (.r (.l .o)))))) (.tmp (.r (.l (.l (.l (.r .o)))))) (.con (.bool false))) (.l (.r (.l (.l (.r .o))))),
 .go (.move (.tmp (.l (.r (.l (.l (.r .o))))))) (.r (.r (.l (.l (.r .o))))),
 .gd (.r (.r (.l (.l (.r .o))))) true (.move (.tmp (.r (.l .o)))) (.l (.l (.r (.l (.r .o))))),
 .gd (.r (.r (.l (.l (.r .o))))) true (.len 0 (.tmp (.l (.l (.r (.l (.r .o))))))) (.r (.l (.r (.l (.r .o))))),
 .gd (.r (.r (.l (.l (.r .o))))) true (.bin .eql 3 (.tmp (.r (.l (.r (.l (.r .o)))))) (.con (.int .i64 (.ofNat 2)))) (.l (.r (.r (.l (.r .o))))),
 .go (.pick (.tmp (.r (.r (.l (.l (.r .o)))))) (.tmp (.l (.r (.r (.l (.r .o)))))) (.con (.bool false))) (.r (.r (.r (.l (.r .o))))),
 .go (.move (.tmp (.r (.r (.r (.l (.r .o))))))) (.l (.l (.l (.r (.r .o))))),
 .gd (.l (.l (.l (.r (.r .o))))) true (.move (.tmp (.r (.l .o)))) (.r (.l (.l (.r (.r .o))))),
 .gd (.l (.l (.l (.r (.r .o))))) true (.indexAddr none 2 (.tmp (.r (.l (.l (.r (.r .o)))))) (.con (.int .i64 (.ofNat 0)))) (.l (.r (.l (.r (.r .o))))),
 .gd (.l (.l (.l (.r (.r .o))))) true (.loadN 2 (.tmp (.l (.r (.l (.r (.r .o))))))) (.r (.r (.l (.r (.r .o))))),
 .gd (.l (.l (.l (.r (.r .o))))) true (.call (.con (.func (.func 48) ⟨[]⟩ ⟨[]⟩)) [(.con (.int .i64 (.ofNat 50))),(.con (.int .i64 (.ofNat 100)))]) (.l (.l (.r (.r (.r .o))))),
 .gd (.l (.l (.l (.r (.r .o))))) true (.bin .eql 62 (.tmp (.r (.r (.l (.r (.r .o)))))) (.tmp (.l (.l (.r (.r (.r .o))))))) (.r (.l (.r (.r (.r .o))))),
 .go (.pick (.tmp (.l (.l (.l (.r (.r .o)))))) (.tmp (.r (.l (.r (.r (.r .o)))))) (.con (.bool false))) (.l (.r (.r (.r (.r .o))))),
 .go (.move (.tmp (.l (.r (.r (.r (.r .o))))))) (.r (.r (.r (.r (.r .o))))),
 .gd (.r (.r (.r (.r (.r .o))))) true (.move (.tmp (.r (.l .o)))) (.l (.l (.l (.l (.l (.l .o)))))),
 .gd (.r (.r (.r (.r (.r .o))))) true (.indexAddr none 2 (.tmp (.l (.l (.l (.l (.l (.l .o))))))) (.con (.int .i64 (.ofNat 1)))) (.r (.l (.l (.l (.l (.l .o)))))),
 .gd (.r (.r (.r (.r (.r .o))))) true (.loadN 2 (.tmp (.r (.l (.l (.l (.l (.l .o)))))))) (.l (.r (.l (.l (.l (.l .o)))))),
 .gd (.r (.r (.r (.r (.r .o))))) true (.call (.con (.func (.func 48) ⟨[]⟩ ⟨[]⟩)) [(.con (.int .i64 (.ofNat 60))),(.con (.int .i64 (.ofNat 110)))]) (.r (.r (.l (.l (.l (.l .o)))))),
 .gd (.r (.r (.r (.r (.r .o))))) true (.bin .eql 62 (.tmp (.l (.r (.l (.l (.l (.l .o))))))) (.tmp (.r (.r (.l (.l (.l (.l .o)))))))) (.l (.l (.r (.l (.l (.l .o)))))),
 .go (.pick (.tmp (.r (.r (.r (.r (.r .o)))))) (.tmp (.l (.l (.r (.l (.l (.l .o))))))) (.con (.bool false))) (.r (.l (.r (.l (.l (.l .o)))))),
 .go (.move (.tmp (.r (.l (.r (.l (.l (.l .o)))))))) (.l (.r (.r (.l (.l (.l .o)))))),
 .gd (.l (.r (.r (.l (.l (.l .o)))))) true (.move (.tmp (.l (.l (.l .o))))) (.r (.r (.r (.l (.l (.l .o)))))),
 .gd (.l (.r (.r (.l (.l (.l .o)))))) true (.bin .eql 29 (.tmp (.r (.r (.r (.l (.l (.l .o))))))) (.con (.int .i64 (.ofNat 0)))) (.l (.l (.l (.r (.l (.l .o)))))),
 .go (.pick (.tmp (.l (.r (.r (.l (.l (.l .o))))))) (.tmp (.l (.l (.l (.r (.l (.l .o))))))) (.con (.bool false))) (.r (.l (.l (.r (.l (.l .o)))))),
 .go (.move (.tmp (.r (.l (.l (.r (.l (.l .o)))))))) (.l (.r (.l (.r (.l (.l .o)))))),
 .gd (.l (.r (.l (.r (.l (.l .o)))))) true (.move (.tmp (.r (.r .o)))) (.r (.r (.l (.r (.l (.l .o)))))),
 .gd (.l (.r (.l (.r (.l (.l .o)))))) true (.buildSlice 3 2 [(.int .i64 (.ofNat 0)),(.int .i64 (.ofNat 0))] [(0,1,(.con (.int .i64 (.ofNat 30)))),(1,1,(.con (.int .i64 (.ofNat 30))))]) (.l (.l (.r (.r (.l (.l .o)))))),
 .gd (.l (.r (.l (.r (.l (.l .o)))))) true (.call (.con (.func (.func 23) ⟨[]⟩ ⟨[]⟩)) [(.tmp (.r (.r (.l (.r (.l (.l .o))))))),(.tmp (.l (.l (.r (.r (.l (.l .o)))))))]) (.r (.l (.r (.r (.l (.l .o)))))),
 .go (.pick (.tmp (.l (.r (.l (.r (.l (.l .o))))))) (.tmp (.r (.l (.r (.r (.l (.l .o))))))) (.con (.bool false))) (.l (.r (.r (.r (.l (.l .o)))))),
 .go (.move (.tmp (.l (.r (.r (.r (.l (.l .o)))))))) (.r (.r (.r (.r (.l (.l .o)))))),
 .gd (.r (.r (.r (.r (.l (.l .o)))))) true (.move (.tmp (.r (.r (.l .o))))) (.l (.l (.l (.l (.r (.l .o)))))),
 .gd (.r (.r (.r (.r (.l (.l .o)))))) true (.bin .eql 29 (.tmp (.l (.l (.l (.l (.r (.l .o))))))) (.con (.int .i64 (.ofNat 0)))) (.r (.l (.l (.l (.r (.l .o)))))),
 .go (.pick (.tmp (.r (.r (.r (.r (.l (.l .o))))))) (.tmp (.r (.l (.l (.l (.r (.l .o))))))) (.con (.bool false))) (.l (.r (.l (.l (.r (.l .o)))))),
 .go (.move (.tmp (.l (.r (.l (.l (.r (.l .o)))))))) (.r (.r (.l (.l (.r (.l .o)))))),
 .gd (.r (.r (.l (.l (.r (.l .o)))))) true (.move (.tmp (.r (.l (.l .o))))) (.l (.l (.r (.l (.r (.l .o)))))),
 .gd (.r (.r (.l (.l (.r (.l .o)))))) true (.buildSlice 3 4 [(.int .i64 (.ofNat 0)),(.int .i64 (.ofNat 0)),(.int .i64 (.ofNat 0)),(.int .i64 (.ofNat 0))] [(0,1,(.con (.int .i64 (.ofNat 0)))),(1,1,(.con (.int .i64 (.ofNat 1)))),(2,1,(.con (.int .i64 (.ofNat 1)))),(3,1,(.con (.int .i64 (.ofNat 1))))]) (.r (.l (.r (.l (.r (.l .o)))))),
 .gd (.r (.r (.l (.l (.r (.l .o)))))) true (.call (.con (.func (.func 23) ⟨[]⟩ ⟨[]⟩)) [(.tmp (.l (.l (.r (.l (.r (.l .o))))))),(.tmp (.r (.l (.r (.l (.r (.l .o)))))))]) (.l (.r (.r (.l (.r (.l .o)))))),
 .go (.pick (.tmp (.r (.r (.l (.l (.r (.l .o))))))) (.tmp (.l (.r (.r (.l (.r (.l .o))))))) (.con (.bool false))) (.r (.r (.r (.l (.r (.l .o)))))),
 .go (.move (.tmp (.r (.r (.r (.l (.r (.l .o)))))))) (.l (.l (.l (.r (.r (.l .o)))))),
 .gd (.l (.l (.l (.r (.r (.l .o)))))) true (.move (.tmp (.l (.r (.l .o))))) (.r (.l (.l (.r (.r (.l .o)))))),
 .gd (.l (.l (.l (.r (.r (.l .o)))))) true (.bin .eql 3 (.tmp (.r (.l (.l (.r (.r (.l .o))))))) (.con (.int .i64 (.ofNat 1)))) (.l (.r (.l (.r (.r (.l .o)))))),
 .go (.pick (.tmp (.l (.l (.l (.r (.r (.l .o))))))) (.tmp (.l (.r (.l (.r (.r (.l .o))))))) (.con (.bool false))) (.r (.r (.l (.r (.r (.l .o)))))),
 .go (.move (.tmp (.r (.r (.l (.r (.r (.l .o)))))))) .o] [.ok,.ok,.ok,.ok,.ok,.ok,.ok,.ok,.ok,.ok,.ok,.ok,.ok,.ok,.ok,.ok,.ok,.ok,.ok,.ok,.ok,.ok,.ok,.ok,.rd (some ((.l (.l (.l (.r (.r .o))))),true)) (.loadN 2 (.tmp (.l (.r (.l (.r (.r .o))))))) (some (.r (.r (.l (.r (.r .o)))))) [26],.ok,.ok,.ok,.ok,.ok,.ok,.rd (some ((.r (.r (.r (.r (.r .o))))),true)) (.loadN 2 (.tmp (.r (.l (.l (.l (.l (.l .o)))))))) (some (.l (.r (.l (.l (.l (.l .o))))))) [33],.ok,.ok,.ok,.ok,.ok,.ok,.ok,.ok,.ok,.ok,.ok,.ok,.ok,.ok,.ok,.ok,.ok,.ok,.ok,.ok,.ok,.ok,.ok,.ok,.ok,.ok]) .ret))))))
noncomputable def f17 : FFunc := .mk c17 (.n U (.n U (.n U (.n U (.n U (.n U (.n U .e .e) .e) (.n U (.n U .e .e) .e)) (.n U (.n U (.n U .e .e) .e) (.n U (.n U .e .e) .e))) (.n U (.n U (.n U (.n U .e .e) .e) (.n U (.n U .e .e) .e)) (.n U (.n U (.n U .e .e) .e) (.n U .e .e)))) (.n U (.n U (.n U (.n U (.n U .e .e) .e) (.n U (.n U .e .e) .e)) (.n U (.n U (.n U .e .e) .e) (.n U (.n U .e .e) .e))) (.n U (.n U (.n U (.n U .e .e) .e) (.n U (.n U .e .e) .e)) (.n U (.n U (.n U .e .e) .e) (.n U .e .e))))) (.n U (.n U (.n U (.n U (.n U (.n U .e .e) .e) (.n U (.n U .e .e) .e)) (.n U (.n U (.n U .e .e) .e) (.n U (.n U .e .e) .e))) (.n U (.n U (.n U (.n U .e .e) .e) (.n U (.n U .e .e) .e)) (.n U (.n U (.n U .e .e) .e) (.n U .e .e)))) (.n U (.n U (.n U (.n U (.n U .e .e) .e) (.n U (.n U .e .e) .e)) (.n U (.n U (.n U .e .e) .e) (.n U (.n U .e .e) .e))) (.n U (.n U (.n U (.n U .e .e) .e) (.n U (.n U .e .e) .e)) (.n U (.n U (.n U .e .e) .e) (.n U .e .e)))))) [] [.tmp .o]
theorem e17 : @compF Try.prog (Gl.none Try.prog) Try.f17 0 = f17 := by kernel_rfl
theorem o17 : okF Try.prog Try.f17 = true := by kernel_rfl
theorem g17 : Try.prog.funcs[(17 : Nat)]? = some Try.f17 := by kernel_rfl
noncomputable def c18 : FCode := (.seq (.run [.go (.box 34 (.tmp .o)) (.l .o),
 .go (.move (.con (.int .i64 (.ofNat 0)))) (.r .o)]) (.seq (.block 0 (.seq (.run [.go (.loadN 4 (.tmp (.l .o))) (.r (.l .o)),
 .go (.call (.con (.func (.func 55) ⟨[]⟩ ⟨[]⟩)) [(.tmp (.r (.l .o)))]) (.l (.r .o)),
 .go (.un .not (.tmp (.l (.r .o)))) (.r (.r .o)),
 .go (.move (.tmp (.r (.r .o)))) (.l (.l .o))]) (.cond (.tmp (.l (.l .o))) (.seq (.run [.go (.move (.con (.int .i64 (.ofNat 3)))) (.r .o)]) .ret) (.seq (.run [.go (.loadN 4 (.tmp (.l .o))) (.r (.l (.l .o))),
 .go (.call (.con (.func (.func 56) ⟨[]⟩ ⟨[]⟩)) [(.tmp (.r (.l (.l .o))))]) (.l (.r (.l .o))),
 .go (.un .not (.tmp (.l (.r (.l .o))))) (.r (.r (.l .o))),
 .go (.move (.tmp (.r (.r (.l .o))))) (.l (.l (.l .o)))]) (.cond (.tmp (.l (.l (.l .o)))) (.seq (.run [.go (.move (.con (.int .i64 (.ofNat 1)))) (.r .o)]) .ret) .skip))))) (.seq (.run [.go (.move (.con (.int .i64 (.ofNat 0)))) (.r .o)]) .ret)))
noncomputable def f18 : FFunc := .mk c18 (.n U (.n U (.n U (.n U .e .e) .e) (.n U (.n U .e .e) .e)) (.n U (.n U (.n U .e .e) .e) (.n U (.n U .e .e) .e))) [.o] [.tmp (.r .o)]
theorem e18 : @compF Try.prog (Gl.none Try.prog) Try.f18 1 = f18 := by kernel_rfl
theorem o18 : okF Try.prog Try.f18 = true := by kernel_rfl
theorem g18 : Try.prog.funcs[(18 : Nat)]? = some Try.f18 := by kernel_rfl
noncomputable def c20 : FCode := (.seq (.run [.go (.box 34 (.tmp .o)) (.l .o),
 .go (.move (.con (.slice none 0 0))) (.r .o),
 .go (.move (.con (.slice none 0 0))) (.l (.l .o)),
 .go (.move (.con (.int .i64 (.ofNat 0)))) (.r (.l .o))]) (.seq (.seq (.run [.go (.loadN 4 (.tmp (.l .o))) (.r (.r .o)),
 .go (.call (.con (.func (.func 18) ⟨[]⟩ ⟨[]⟩)) [(.tmp (.r (.r .o)))]) (.l (.l (.l .o))),
 .go (.move (.tmp (.l (.l (.l .o))))) (.l (.r .o))]) (.seq (.run [.go (.move (.tmp (.l (.r .o)))) (.r (.l (.l .o))),
 .go (.bin .neq 29 (.tmp (.r (.l (.l .o)))) (.con (.int .i64 (.ofNat 0)))) (.l (.r (.l .o)))]) (.cond (.tmp (.l (.r (.l .o)))) (.seq (.run [.go (.move (.tmp (.l (.r .o)))) (.r (.r (.l .o))),
 .go (.move (.con (.slice none 0 0))) (.r .o),
 .go (.move (.con (.slice none 0 0))) (.l (.l .o)),
 .go (.move (.tmp (.r (.r (.l .o))))) (.r (.l .o))]) .ret) .skip))) (.seq (.run [.go (.loadN 4 (.tmp (.l .o))) (.r (.l (.r .o))),
 .go (.call (.con (.func (.func 57) ⟨[]⟩ ⟨[]⟩)) [(.tmp (.r (.l (.r .o))))]) (.l (.r (.r .o))),
 .go (.call (.con (.func (.func 58) ⟨[]⟩ ⟨[]⟩)) [(.tmp (.l (.r (.r .o))))]) (.r (.r (.r .o))),
 .go (.move (.tmp (.r (.r (.r .o))))) (.l (.l (.r .o))),
 .go (.extract (.tmp (.l (.l (.r .o)))) 0) (.l (.l (.l (.l .o)))),
 .go (.extract (.tmp (.l (.l (.r .o)))) 1) (.r (.l (.l (.l .o)))),
 .go (.move (.tmp (.l (.l (.l (.l .o)))))) (.r .o),
 .go (.move (.tmp (.r (.l (.l (.l .o)))))) (.l (.l .o))]) (.seq (.run [.go (.move (.tmp (.r .o))) (.l (.r (.l (.l .o)))),
 .go (.move (.tmp (.l (.l .o)))) (.r (.r (.l (.l .o)))),
 .go (.move (.tmp (.l (.r (.l (.l .o)))))) (.r .o),
 .go (.move (.tmp (.r (.r (.l (.l .o)))))) (.l (.l .o)),
 .go (.move (.con (.int .i64 (.ofNat 0)))) (.r (.l .o))]) .ret))))
noncomputable def f20 : FFunc := .mk c20 (.n U (.n U (.n U (.n U (.n U .e .e) .e) (.n U .e .e)) (.n U (.n U (.n U .e .e) .e) (.n U .e .e))) (.n U (.n U (.n U (.n U .e .e) .e) (.n U .e .e)) (.n U (.n U (.n U .e .e) .e) (.n U .e .e)))) [.o] [.tmp (.r .o),.tmp (.l (.l .o)),.tmp (.r (.l .o))]
theorem e20 : @compF Try.prog (Gl.none Try.prog) Try.f20 1 = f20 := by kernel_rfl
theorem o20 : okF Try.prog Try.f20 = true := by kernel_rfl
theorem g20 : Try.prog.funcs[(20 : Nat)]? = some Try.f20 := by kernel_rfl
noncomputable def c23 : FCode := (.seq (.run [.go (.move (.con (.bool false))) (.r (.l .o))]) (.seq (.seq (.run [.go (.move (.tmp .o)) (.r (.r .o)),
 .go (.len 0 (.tmp (.r (.r .o)))) (.l (.l (.l .o))),
 .go (.move (.tmp (.l .o))) (.r (.l (.l .o))),
 .go (.len 0 (.tmp (.r (.l (.l .o))))) (.l (.r (.l .o))),
 .go (.bin .neq 3 (.tmp (.l (.l (.l .o)))) (.tmp (.l (.r (.l .o))))) (.r (.r (.l .o)))]) (.cond (.tmp (.r (.r (.l .o)))) (.seq (.run [.go (.move (.con (.bool false))) (.r (.l .o))]) .ret) .skip)) (.seq (.seq (.run [.go (.move (.con (.int .i64 (.ofNat 0)))) (.l (.r .o))]) (.block 0 (.loop (.seq (.seq (.run [.go (.move (.tmp (.l (.r .o)))) (.l (.l (.r .o))),
 .go (.move (.tmp .o)) (.r (.l (.r .o))),
 .go (.len 0 (.tmp (.r (.l (.r .o))))) (.l (.r (.r .o))),
 .go (.bin .lss 3 (.tmp (.l (.l (.r .o)))) (.tmp (.l (.r (.r .o))))) (.r (.r (.r .o)))]) (.cond (.tmp (.r (.r (.r .o)))) .skip (.exit 0))) (.seq (.block 1 (.seq (.draw 9 [.go (.move (.tmp .o)) (.l (.r (.l (.l .o)))),
 .go (.move (.tmp (.l (.r .o)))) (.r (.r (.l (.l .o)))),
 .go (.indexAddr none 1 (.tmp (.l (.r (.l (.l .o))))) (.tmp (.r (.r (.l (.l .o)))))) (.l (.l (.r (.l .o)))),
 .go (.load1 (.tmp (.l (.l (.r (.l .o)))))) (.r (.l (.r (.l .o)))),
 .go (.move (.tmp (.l .o))) (.l (.r (.r (.l .o)))),
 .go (.move (.tmp (.l (.r .o)))) (.r (.r (.r (.l .o)))),
 .go (.indexAddr none 1 (.tmp (.l (.r (.r (.l .o))))) (.tmp (.r (.r (.r (.l .o)))))) (.l (.l (.l (.r .o)))),
 .go (.load1 (.tmp (.l (.l (.l (.r .o)))))) (.r (.l (.l (.r .o)))),
 .go (.bin .neq 3 (.tmp (.r (.l (.r (.l .o))))) (.tmp (.r (.l (.l (.r .o)))))) (.l (.r (.l (.r .o))))] [.ok,.ok,.ok,.ok,.ok,.ok,.ok,.ok,.ok]) (.cond (.tmp (.l (.r (.l (.r .o))))) (.seq (.run [.go (.move (.con (.bool false))) (.r (.l .o))]) .ret) .skip))) (.run [.go (.move (.tmp (.l (.r .o)))) (.l (.l (.l (.l .o)))),
 .go (.bin .add 3 (.tmp (.l (.l (.l (.l .o))))) (.con (.int .i64 (.ofNat 1)))) (.r (.l (.l (.l .o)))),
 .go (.move (.tmp (.r (.l (.l (.l .o)))))) (.l (.r .o))])))))) (.seq (.run [.go (.move (.con (.bool true))) (.r (.l .o))]) .ret))))
noncomputable def f23 : FFunc := .mk c23 (.n U (.n U (.n U (.n U (.n U .e .e) (.n U .e .e)) (.n U (.n U .e .e) .e)) (.n U (.n U (.n U .e .e) (.n U .e .e)) (.n U (.n U .e .e) .e))) (.n U (.n U (.n U (.n U .e .e) (.n U .e .e)) (.n U (.n U .e .e) .e)) (.n U (.n U (.n U .e .e) .e) (.n U (.n U .e .e) .e)))) [.o,(.l .o)] [.tmp (.r (.l .o))]
theorem e23 : @compF Try.prog (Gl.none Try.prog) Try.f23 2 = f23 := by kernel_rfl
theorem o23 : okF Try.prog Try.f23 = true := by kernel_rfl
theorem g23 : Try.prog.funcs[(23 : Nat)]? = some Try.f23 := by kernel_rfl
noncomputable def c26 : FCode := (.seq (.run [.go (.box 34 (.tmp .o)) (.l .o),
 .go (.move (.con (.slice none 0 0))) (.r .o),
 .go (.move (.con (.int .i64 (.ofNat 0)))) (.l (.l .o))]) (.seq (.run [.go (.loadN 4 (.tmp (.l .o))) (.l (.l (.l .o))),
 .go (.call (.con (.func (.func 61) ⟨[]⟩ ⟨[]⟩)) [(.tmp (.l (.l (.l .o))))]) (.r (.l (.l .o))),
 .go (.move (.tmp (.r (.l (.l .o))))) (.r (.r .o)),
 .go (.extract (.tmp (.r (.r .o))) 0) (.l (.r (.l .o))),
 .go (.extract (.tmp (.r (.r .o))) 1) (.r (.r (.l .o))),
 .go (.alloc 96 [(.slice none 0 0),(.int .i64 (.ofNat 0)),(.slice none 0 0),(.slice none 0 0),(.int .i64 (.ofNat 0)),(.int .i64 (.ofNat 0)),(.int .i64 (.ofNat 0)),(.int .i64 (.ofNat 0)),(.int .i64 (.ofNat 0)),(.int .i64 (.ofNat 0)),(.int .i64 (.ofNat 0)),(.int .i64 (.ofNat 0)),(.int .i64 (.ofNat 0)),(.int .i64 (.ofNat 0)),(.int .i64 (.ofNat 0)),(.int .i64 (.ofNat 0)),(.int .i64 (.ofNat 0)),(.int .i64 (.ofNat 0)),(.int .i64 (.ofNat 0)),(.int .i64 (.ofNat 0)),(.map none)]) (.r (.l .o)),
 .un (.store 21 (.tmp (.r (.l .o))) (.tmp (.l (.r (.l .o))))),
 .go (.move (.tmp (.r (.r (.l .o))))) (.l (.r .o))]) (.seq (.seq (.run [.go (.move (.tmp (.l (.r .o)))) (.l (.l (.r .o))),
 .go (.bin .neq 29 (.tmp (.l (.l (.r .o)))) (.con (.int .i64 (.ofNat 0)))) (.r (.l (.r .o)))]) (.cond (.tmp (.r (.l (.r .o)))) (.seq (.run [.go (.move (.tmp (.l (.r .o)))) (.l (.r (.r .o))),
 .go (.move (.con (.slice none 0 0))) (.r .o),
 .go (.move (.tmp (.l (.r (.r .o))))) (.l (.l .o))]) .ret) .skip)) (.seq (.run [.go (.loadN 21 (.tmp (.r (.l .o)))) (.r (.r (.r .o))),
 .go (.call (.con (.func (.func 62) ⟨[]⟩ ⟨[]⟩)) [(.tmp (.r (.r (.r .o))))]) (.l (.l (.l (.l .o)))),
 .go (.move (.tmp (.l (.l (.l (.l .o)))))) (.r .o),
 .go (.move (.con (.int .i64 (.ofNat 0)))) (.l (.l .o))]) .ret))))
noncomputable def f26 : FFunc := .mk c26 (.n U (.n U (.n U (.n U (.n U .e .e) .e) (.n U .e .e)) (.n U (.n U .e .e) (.n U .e .e))) (.n U (.n U (.n U .e .e) (.n U .e .e)) (.n U (.n U .e .e) (.n U .e .e)))) [.o] [.tmp (.r .o),.tmp (.l (.l .o))]
theorem e26 : @compF Try.prog (Gl.none Try.prog) Try.f26 1 = f26 := by kernel_rfl
theorem o26 : okF Try.prog Try.f26 = true := by kernel_rfl
theorem g26 : Try.prog.funcs[(26 : Nat)]? = some Try.f26 := by kernel_rfl
noncomputable def c27 : FCode := (.seq (.run [.go (.box 34 (.tmp .o)) (.l .o),
 .go (.move (.con (.slice none 0 0))) (.r .o),
 .go (.move (.con (.int .i64 (.ofNat 0)))) (.l (.l .o))]) (.seq (.run [.go (.loadN 4 (.tmp (.l .o))) (.l (.l (.l .o))),
 .go (.call (.con (.func (.func 61) ⟨[]⟩ ⟨[]⟩)) [(.tmp (.l (.l (.l .o))))]) (.r (.l (.l .o))),
 .go (.move (.tmp (.r (.l (.l .o))))) (.r (.r .o)),
 .go (.extract (.tmp (.r (.r .o))) 0) (.l (.r (.l .o))),
 .go (.extract (.tmp (.r (.r .o))) 1) (.r (.r (.l .o))),
 .go (.alloc 96 [(.slice none 0 0),(.int .i64 (.ofNat 0)),(.slice none 0 0),(.slice none 0 0),(.int .i64 (.ofNat 0)),(.int .i64 (.ofNat 0)),(.int .i64 (.ofNat 0)),(.int .i64 (.ofNat 0)),(.int .i64 (.ofNat 0)),(.int .i64 (.ofNat 0)),(.int .i64 (.ofNat 0)),(.int .i64 (.ofNat 0)),(.int .i64 (.ofNat 0)),(.int .i64 (.ofNat 0)),(.int .i64 (.ofNat 0)),(.int .i64 (.ofNat 0)),(.int .i64 (.ofNat 0)),(.int .i64 (.ofNat 0)),(.int .i64 (.ofNat 0)),(.int .i64 (.ofNat 0)),(.map none)]) (.r (.l .o)),
 .un (.store 21 (.tmp (.r (.l .o))) (.tmp (.l (.r (.l .o))))),
 .go (.move (.tmp (.r (.r (.l .o))))) (.l (.r .o))]) (.seq (.seq (.run [.go (.move (.tmp (.l (.r .o)))) (.l (.l (.r .o))),
 .go (.bin .neq 29 (.tmp (.l (.l (.r .o)))) (.con (.int .i64 (.ofNat 0)))) (.r (.l (.r .o)))]) (.cond (.tmp (.r (.l (.r .o)))) (.seq (.run [.go (.move (.tmp (.l (.r .o)))) (.l (.r (.r .o))),
 .go (.move (.con (.slice none 0 0))) (.r .o),
 .go (.move (.tmp (.l (.r (.r .o))))) (.l (.l .o))]) .ret) .skip)) (.seq (.run [.go (.loadN 21 (.tmp (.r (.l .o)))) (.r (.r (.r .o))),
 .go (.call (.con (.func (.func 63) ⟨[]⟩ ⟨[]⟩)) [(.tmp (.r (.r (.r .o))))]) (.l (.l (.l (.l .o)))),
 .go (.move (.tmp (.l (.l (.l (.l .o)))))) (.r .o),
 .go (.move (.con (.int .i64 (.ofNat 0)))) (.l (.l .o))]) .ret))))
noncomputable def f27 : FFunc := .mk c27 (.n U (.n U (.n U (.n U (.n U .e .e) .e) (.n U .e .e)) (.n U (.n U .e .e) (.n U .e .e))) (.n U (.n U (.n U .e .e) (.n U .e .e)) (.n U (.n U .e .e) (.n U .e .e)))) [.o] [.tmp (.r .o),.tmp (.l (.l .o))]
theorem e27 : @compF Try.prog (Gl.none Try.prog) Try.f27 1 = f27 := by kernel_rfl
theorem o27 : okF Try.prog Try.f27 = true := by kernel_rfl
theorem g27 : Try.prog.funcs[(27 : Nat)]? = some Try.f27 := by kernel_rfl
noncomputable def c28 : FCode := (.seq (.run [.go (.box 34 (.tmp .o)) (.r .o),
 .go (.move (.con (.bool false))) (.r (.l .o))]) (.seq (.run [.go (.loadN 4 (.tmp (.r .o))) (.l (.r .o)),
 .go (.call (.con (.func (.func 18) ⟨[]⟩ ⟨[]⟩)) [(.tmp (.l (.r .o)))]) (.r (.r .o)),
 .go (.bin .eql 29 (.tmp (.r (.r .o))) (.con (.int .i64 (.ofNat 0)))) (.l (.l (.l .o))),
 .go (.move (.tmp (.l (.l (.l .o))))) (.r (.l (.l .o))),
 .gd (.r (.l (.l .o))) true (.move (.tmp (.l .o))) (.l (.r (.l .o))),
 .gd (.r (.l (.l .o))) true (.len 0 (.tmp (.l (.r (.l .o))))) (.r (.r (.l .o))),
 .gd (.r (.l (.l .o))) true (.fieldAddr 2 (.tmp (.r .o))) (.l (.l (.r .o))),
 .gd (.r (.l (.l .o))) true (.load1 (.tmp (.l (.l (.r .o))))) (.r (.l (.r .o))),
 .gd (.r (.l (.l .o))) true (.len 0 (.tmp (.r (.l (.r .o))))) (.l (.r (.r .o))),
 .gd (.r (.l (.l .o))) true (.bin .eql 3 (.tmp (.r (.r (.l .o)))) (.tmp (.l (.r (.r .o))))) (.r (.r (.r .o))),
 .go (.pick (.tmp (.r (.l (.l .o)))) (.tmp (.r (.r (.r .o)))) (.con (.bool false))) (.l (.l (.l (.l .o)))),
 .go (.move (.tmp (.l (.l (.l (.l .o)))))) (.r (.l (.l (.l .o)))),
 .gd (.r (.l (.l (.l .o)))) true (.loadN 4 (.tmp (.r .o))) (.l (.r (.l (.l .o)))),
 .gd (.r (.l (.l (.l .o)))) true (.call (.con (.func (.func 57) ⟨[]⟩ ⟨[]⟩)) [(.tmp (.l (.r (.l (.l .o)))))]) (.r (.r (.l (.l .o)))),
 .gd (.r (.l (.l (.l .o)))) true (.move (.tmp (.l .o))) (.l (.l (.r (.l .o)))),
 .gd (.r (.l (.l (.l .o)))) true (.call (.con (.func (.func 64) ⟨[]⟩ ⟨[]⟩)) [(.tmp (.r (.r (.l (.l .o))))),(.tmp (.l (.l (.r (.l .o)))))]) (.r (.l (.r (.l .o)))),
 .go (.pick (.tmp (.r (.l (.l (.l .o))))) (.tmp (.r (.l (.r (.l .o))))) (.con (.bool false))) (.l (.r (.r (.l .o)))),
 .go (.move (.tmp (.l (.r (.r (.l .o)))))) (.r (.l .o))]) .ret))
noncomputable def f28 : FFunc := .mk c28 (.n U (.n U (.n U (.n U (.n U .e .e) .e) (.n U (.n U .e .e) .e)) (.n U (.n U (.n U .e .e) .e) (.n U (.n U .e .e) .e))) (.n U (.n U (.n U (.n U .e .e) .e) (.n U (.n U .e .e) .e)) (.n U (.n U (.n U .e .e) .e) (.n U .e .e)))) [.o,(.l .o)] [.tmp (.r (.l .o))]
theorem e28 : @compF Try.prog (Gl.none Try.prog) Try.f28 2 = f28 := by kernel_rfl
theorem o28 : okF Try.prog Try.f28 = true := by kernel_rfl
theorem g28 : Try.prog.funcs[(28 : Nat)]? = some Try.f28 := by kernel_rfl
noncomputable def c36 : FCode := (.seq (.run [.go (.box 34 (.tmp .o)) (.l .o),
 .go (.move (.con (.slice none 0 0))) (.r .o),
 .go (.move (.con (.int .i64 (.ofNat 0)))) (.l (.l .o))]) (.seq (.run [.go (.loadN 4 (.tmp (.l .o))) (.r (.l (.r .o))),
 .go (.call (.con (.func (.func 61) ⟨[]⟩ ⟨[]⟩)) [(.tmp (.r (.l (.r .o))))]) (.l (.r (.r .o))),
 .go (.move (.tmp (.l (.r (.r .o))))) (.l (.l (.r .o))),
 .go (.extract (.tmp (.l (.l (.r .o)))) 0) (.r (.r (.r .o))),
 .go (.extract (.tmp (.l (.l (.r .o)))) 1) (.l (.l (.l (.l .o)))),
 .go (.alloc 96 [(.slice none 0 0),(.int .i64 (.ofNat 0)),(.slice none 0 0),(.slice none 0 0),(.int .i64 (.ofNat 0)),(.int .i64 (.ofNat 0)),(.int .i64 (.ofNat 0)),(.int .i64 (.ofNat 0)),(.int .i64 (.ofNat 0)),(.int .i64 (.ofNat 0)),(.int .i64 (.ofNat 0)),(.int .i64 (.ofNat 0)),(.int .i64 (.ofNat 0)),(.int .i64 (.ofNat 0)),(.int .i64 (.ofNat 0)),(.int .i64 (.ofNat 0)),(.int .i64 (.ofNat 0)),(.int .i64 (.ofNat 0)),(.int .i64 (.ofNat 0)),(.int .i64 (.ofNat 0)),(.map none)]) (.r (.l .o)),
 .un (.store 21 (.tmp (.r (.l .o))) (.tmp (.r (.r (.r .o))))),
 .go (.move (.tmp (.l (.l (.l (.l .o)))))) (.l (.r .o))]) (.seq (.seq (.run [.go (.move (.tmp (.l (.r .o)))) (.r (.l (.l (.l .o)))),
 .go (.bin .neq 29 (.tmp (.r (.l (.l (.l .o))))) (.con (.int .i64 (.ofNat 0)))) (.l (.r (.l (.l .o))))]) (.cond (.tmp (.l (.r (.l (.l .o))))) (.seq (.run [.go (.move (.tmp (.l (.r .o)))) (.r (.r (.l (.l .o)))),
 .go (.move (.con (.slice none 0 0))) (.r .o),
 .go (.move (.tmp (.r (.r (.l (.l .o)))))) (.l (.l .o))]) .ret) .skip)) (.seq (.run [.go (.loadN 21 (.tmp (.r (.l .o)))) (.r (.l (.r (.l .o)))),
 .go (.call (.con (.func (.func 58) ⟨[]⟩ ⟨[]⟩)) [(.tmp (.r (.l (.r (.l .o)))))]) (.l (.r (.r (.l .o)))),
 .go (.move (.tmp (.l (.r (.r (.l .o)))))) (.l (.l (.r (.l .o)))),
 .go (.extract (.tmp (.l (.l (.r (.l .o))))) 0) (.r (.r (.r (.l .o)))),
 .go (.extract (.tmp (.l (.l (.r (.l .o))))) 1) (.l (.l (.l (.r .o)))),
 .go (.move (.tmp (.r (.r (.r (.l .o)))))) (.r (.r .o)),
 .go (.move (.tmp (.l (.l (.l (.r .o)))))) (.l (.l (.l .o)))]) (.seq (.run [.go (.move (.con (.slice none 0 0))) (.r (.l (.l .o)))]) (.seq (.seq (.run [.go (.loadN 21 (.tmp (.r (.l .o)))) (.r (.l (.l (.r .o)))),
 .go (.call (.con (.func (.func 63) ⟨[]⟩ ⟨[]⟩)) [(.tmp (.r (.l (.l (.r .o)))))]) (.l (.r (.l (.r .o)))),
 .go (.len 0 (.tmp (.l (.r (.l (.r .o)))))) (.r (.r (.l (.r .o)))),
 .go (.move (.con (.int .i64 (.ofNat 0)))) (.l (.l (.r (.r .o))))]) (.block 0 (.loop (.seq (.run [.go (.bin .lss 3 (.tmp (.l (.l (.r (.r .o))))) (.tmp (.r (.r (.l (.r .o)))))) (.r (.l (.r (.r .o))))]) (.seq (.cond (.tmp (.r (.l (.r (.r .o))))) .skip (.exit 0)) (.seq (.block 1 (.seq (.run [.go (.move (.tmp (.l (.l (.r (.r .o)))))) (.l (.r (.r (.r .o)))),
 .go (.indexAddr none 2 (.tmp (.l (.r (.l (.r .o))))) (.tmp (.l (.l (.r (.r .o)))))) (.r (.r (.r (.r .o)))),
 .go (.loadN 2 (.tmp (.r (.r (.r (.r .o)))))) (.l (.l (.l (.l (.l .o))))),
 .go (.alloc 62 [(.int .i64 (.ofNat 0)),(.int .i64 (.ofNat 0))]) (.r (.r (.l .o))),
 .go (.move (.tmp (.l (.r (.r (.r .o)))))) (.l (.r (.l .o))),
 .un (.store 2 (.tmp (.r (.r (.l .o)))) (.tmp (.l (.l (.l (.l (.l .o)))))))]) (.draw 10 [.go (.move (.tmp (.r (.l (.l .o))))) (.r (.l (.l (.l (.l .o))))),
 .go (.loadN 2 (.tmp (.r (.r (.l .o))))) (.l (.r (.l (.l (.l .o))))),
 .go (.move (.tmp (.l (.l (.l .o))))) (.r (.r (.l (.l (.l .o))))),
 .go (.move (.tmp (.l (.r (.l .o))))) (.l (.l (.r (.l (.l .o))))),
 .go (.indexAddr none 1 (.tmp (.r (.r (.l (.l (.l .o)))))) (.tmp (.l (.l (.r (.l (.l .o))))))) (.r (.l (.r (.l (.l .o))))),
 .go (.load1 (.tmp (.r (.l (.r (.l (.l .o))))))) (.l (.r (.r (.l (.l .o))))),
 .go (.call (.con (.func (.func 66) ⟨[]⟩ ⟨[]⟩)) [(.tmp (.l (.r (.l (.l (.l .o)))))),(.tmp (.l (.r (.r (.l (.l .o))))))]) (.r (.r (.r (.l (.l .o))))),
 .go (.buildSlice 3 1 [(.int .i64 (.ofNat 0))] [(0,1,(.tmp (.r (.r (.r (.l (.l .o)))))))]) (.l (.l (.l (.r (.l .o))))),
 .go (.append 3 1 8 (.tmp (.r (.l (.l (.l (.l .o)))))) (.tmp (.l (.l (.l (.r (.l .o))))))) (.r (.l (.l (.r (.l .o))))),
 .go (.move (.tmp (.r (.l (.l (.r (.l .o))))))) (.r (.l (.l .o)))] [.ok,.ok,.ok,.ok,.ok,.ok,.ok,.ok,.ok,.ok]))) (.run [.go (.bin .add 3 (.tmp (.l (.l (.r (.r .o))))) (.con (.int .i64 (.ofNat 1)))) (.l (.r (.l (.r (.l .o))))),
 .go (.move (.tmp (.l (.r (.l (.r (.l .o))))))) (.l (.l (.r (.r .o))))]))))))) (.seq (.run [.go (.move (.tmp (.r (.l (.l .o))))) (.r (.r (.l (.r (.l .o))))),
 .go (.move (.tmp (.r (.r (.l (.r (.l .o))))))) (.r .o),
 .go (.move (.con (.int .i64 (.ofNat 0)))) (.l (.l .o))]) .ret)))))))
noncomputable def f36 : FFunc := .mk c36 (.n U (.n U (.n U (.n U (.n U (.n U .e .e) .e) (.n U (.n U .e .e) .e)) (.n U (.n U (.n U .e .e) .e) (.n U .e .e))) (.n U (.n U (.n U (.n U .e .e) .e) (.n U (.n U .e .e) .e)) (.n U (.n U (.n U .e .e) .e) (.n U .e .e)))) (.n U (.n U (.n U (.n U (.n U .e .e) .e) (.n U (.n U .e .e) .e)) (.n U (.n U (.n U .e .e) .e) (.n U .e .e))) (.n U (.n U (.n U (.n U .e .e) .e) (.n U (.n U .e .e) .e)) (.n U (.n U (.n U .e .e) .e) (.n U .e .e))))) [.o] [.tmp (.r .o),.tmp (.l (.l .o))]
theorem e36 : @compF Try.prog (Gl.none Try.prog) Try.f36 1 = f36 := by kernel_rfl
theorem o36 : okF Try.prog Try.f36 = true := by kernel_rfl
theorem g36 : Try.prog.funcs[(36 : Nat)]? = some Try.f36 := by kernel_rfl
noncomputable def c37 : FCode := (.seq (.run [.go (.box 34 (.tmp .o)) (.l .o),
 .go (.move (.con (.slice none 0 0))) (.r .o),
 .go (.move (.con (.int .i64 (.ofNat 0)))) (.l (.l .o))]) (.seq (.seq (.run [.go (.loadN 4 (.tmp (.l .o))) (.r (.l (.l .o))),
 .go (.call (.con (.func (.func 18) ⟨[]⟩ ⟨[]⟩)) [(.tmp (.r (.l (.l .o))))]) (.l (.r (.l .o))),
 .go (.move (.tmp (.l (.r (.l .o))))) (.r (.l .o))]) (.seq (.run [.go (.move (.tmp (.r (.l .o)))) (.r (.r (.l .o))),
 .go (.bin .neq 29 (.tmp (.r (.r (.l .o)))) (.con (.int .i64 (.ofNat 0)))) (.l (.l (.r .o)))]) (.cond (.tmp (.l (.l (.r .o)))) (.seq (.run [.go (.move (.tmp (.r (.l .o)))) (.r (.l (.r .o))),
 .go (.move (.con (.slice none 0 0))) (.r .o),
 .go (.move (.tmp (.r (.l (.r .o))))) (.l (.l .o))]) .ret) .skip))) (.seq (.run [.go (.loadN 4 (.tmp (.l .o))) (.l (.r (.r .o))),
 .go (.call (.con (.func (.func 57) ⟨[]⟩ ⟨[]⟩)) [(.tmp (.l (.r (.r .o))))]) (.r (.r (.r .o))),
 .go (.alloc 96 [(.slice none 0 0),(.int .i64 (.ofNat 0)),(.slice none 0 0),(.slice none 0 0),(.int .i64 (.ofNat 0)),(.int .i64 (.ofNat 0)),(.int .i64 (.ofNat 0)),(.int .i64 (.ofNat 0)),(.int .i64 (.ofNat 0)),(.int .i64 (.ofNat 0)),(.int .i64 (.ofNat 0)),(.int .i64 (.ofNat 0)),(.int .i64 (.ofNat 0)),(.int .i64 (.ofNat 0)),(.int .i64 (.ofNat 0)),(.int .i64 (.ofNat 0)),(.int .i64 (.ofNat 0)),(.int .i64 (.ofNat 0)),(.int .i64 (.ofNat 0)),(.int .i64 (.ofNat 0)),(.map none)]) (.l (.r .o)),
 .un (.store 21 (.tmp (.l (.r .o))) (.tmp (.r (.r (.r .o)))))]) (.seq (.run [.go (.move (.con (.slice none 0 0))) (.r (.r .o))]) (.seq (.seq (.run [.go (.fieldAddr 1 (.tmp (.l .o))) (.l (.l (.l (.l .o)))),
 .go (.load1 (.tmp (.l (.l (.l (.l .o)))))) (.r (.l (.l (.l .o)))),
 .go (.move (.con (.int .i64 (.ofNat 0)))) (.l (.r (.l (.l .o))))]) (.block 0 (.loop (.seq (.run [.go (.bin .lss 3 (.tmp (.l (.r (.l (.l .o))))) (.tmp (.r (.l (.l (.l .o)))))) (.r (.r (.l (.l .o))))]) (.seq (.cond (.tmp (.r (.r (.l (.l .o))))) .skip (.exit 0)) (.seq (.block 1 (.seq (.run [.go (.move (.tmp (.l (.r (.l (.l .o)))))) (.l (.l (.r (.l .o)))),
 .go (.move (.tmp (.l (.l (.r (.l .o)))))) (.l (.l (.l .o)))]) (.seq (.run [.go (.loadN 21 (.tmp (.l (.r .o)))) (.r (.l (.r (.l .o)))),
 .go (.move (.tmp (.l (.l (.l .o))))) (.l (.r (.r (.l .o)))),
 .go (.call (.con (.func (.func 67) ⟨[]⟩ ⟨[]⟩)) [(.tmp (.r (.l (.r (.l .o))))),(.tmp (.l (.r (.r (.l .o)))))]) (.r (.r (.r (.l .o)))),
 .go (.un .not (.tmp (.r (.r (.r (.l .o)))))) (.l (.l (.l (.r .o))))]) (.cond (.tmp (.l (.l (.l (.r .o))))) (.run [.go (.move (.tmp (.r (.r .o)))) (.r (.l (.l (.r .o)))),
 .go (.move (.tmp (.l (.l (.l .o))))) (.l (.r (.l (.r .o)))),
 .go (.buildSlice 3 1 [(.int .i64 (.ofNat 0))] [(0,1,(.tmp (.l (.r (.l (.r .o))))))]) (.r (.r (.l (.r .o)))),
 .go (.append 3 1 8 (.tmp (.r (.l (.l (.r .o))))) (.tmp (.r (.r (.l (.r .o)))))) (.l (.l (.r (.r .o)))),
 .go (.move (.tmp (.l (.l (.r (.r .o)))))) (.r (.r .o))]) .skip)))) (.run [.go (.bin .add 3 (.tmp (.l (.r (.l (.l .o))))) (.con (.int .i64 (.ofNat 1)))) (.r (.l (.r (.r .o)))),
 .go (.move (.tmp (.r (.l (.r (.r .o)))))) (.l (.r (.l (.l .o))))]))))))) (.seq (.run [.go (.move (.tmp (.r (.r .o)))) (.l (.r (.r (.r .o)))),
 .go (.move (.tmp (.l (.r (.r (.r .o)))))) (.r .o),
 .go (.move (.con (.int .i64 (.ofNat 0)))) (.l (.l .o))]) .ret))))))
noncomputable def f37 : FFunc := .mk c37 (.n U (.n U (.n U (.n U (.n U .e .e) (.n U .e .e)) (.n U (.n U .e .e) (.n U .e .e))) (.n U (.n U (.n U .e .e) (.n U .e .e)) (.n U (.n U .e .e) (.n U .e .e)))) (.n U (.n U (.n U (.n U .e .e) (.n U .e .e)) (.n U (.n U .e .e) (.n U .e .e))) (.n U (.n U (.n U .e .e) (.n U .e .e)) (.n U (.n U .e .e) .e)))) [.o] [.tmp (.r .o),.tmp (.l (.l .o))]
theorem e37 : @compF Try.prog (Gl.none Try.prog) Try.f37 1 = f37 := by kernel_rfl
theorem o37 : okF Try.prog Try.f37 = true := by kernel_rfl
theorem g37 : Try.prog.funcs[(37 : Nat)]? = some Try.f37 := by kernel_rfl
noncomputable def c39 : FCode := (.seq (.run [.go (.box 34 (.tmp .o)) (.r .o),
 .go (.box 62 (.tmp (.l .o))) (.l (.l .o)),
 .go (.move (.con (.slice none 0 0))) (.r (.l .o)),
 .go (.move (.con (.int .i64 (.ofNat 0)))) (.l (.r .o)),
 .go (.move (.con (.int .i64 (.ofNat 0)))) (.r (.r .o))]) (.seq (.seq (.run [.go (.loadN 4 (.tmp (.r .o))) (.l (.r (.l .o))),
 .go (.call (.con (.func (.func 18) ⟨[]⟩ ⟨[]⟩)) [(.tmp (.l (.r (.l .o))))]) (.r (.r (.l .o))),
 .go (.move (.tmp (.r (.r (.l .o))))) (.l (.l (.l .o)))]) (.seq (.run [.go (.move (.tmp (.l (.l (.l .o))))) (.l (.l (.r .o))),
 .go (.bin .neq 29 (.tmp (.l (.l (.r .o)))) (.con (.int .i64 (.ofNat 0)))) (.r (.l (.r .o)))]) (.cond (.tmp (.r (.l (.r .o)))) (.seq (.run [.go (.move (.tmp (.l (.l (.l .o))))) (.l (.r (.r .o))),
 .go (.move (.con (.slice none 0 0))) (.r (.l .o)),
 .go (.move (.con (.int .i64 (.ofNat 0)))) (.l (.r .o)),
 .go (.move (.tmp (.l (.r (.r .o))))) (.r (.r .o))]) .ret) .skip))) (.seq (.seq (.draw 4 [.go (.loadN 2 (.tmp (.l (.l .o)))) (.r (.r (.r .o))),
 .go (.call (.con (.func (.func 70) ⟨[]⟩ ⟨[]⟩)) []) (.l (.l (.l (.l .o)))),
 .go (.call (.con (.func (.func 69) ⟨[]⟩ ⟨[]⟩)) [(.tmp (.r (.r (.r .o)))),(.tmp (.l (.l (.l (.l .o)))))]) (.r (.l (.l (.l .o)))),
 .go (.un .not (.tmp (.r (.l (.l (.l .o)))))) (.l (.r (.l (.l .o))))] [.rd none (.loadN 2 (.tmp (.l (.l .o)))) (some (.r (.r (.r .o)))) [2],.ok,.ok,.ok]) (.cond (.tmp (.l (.r (.l (.l .o))))) (.seq (.run [.go (.move (.con (.slice none 0 0))) (.r (.l .o)),
 .go (.move (.con (.int .i64 (.ofNat 0)))) (.l (.r .o)),
 .go (.move (.con (.int .i64 (.ofNat 2)))) (.r (.r .o))]) .ret) .skip)) (.seq (.run [.go (.loadN 4 (.tmp (.r .o))) (.l (.l (.r (.l .o)))),
 .go (.call (.con (.func (.func 61) ⟨[]⟩ ⟨[]⟩)) [(.tmp (.l (.l (.r (.l .o)))))]) (.r (.l (.r (.l .o)))),
 .go (.move (.tmp (.r (.l (.r (.l .o)))))) (.r (.r (.l (.l .o)))),
 .go (.extract (.tmp (.r (.r (.l (.l .o))))) 0) (.l (.r (.r (.l .o)))),
 .go (.extract (.tmp (.r (.r (.l (.l .o))))) 1) (.r (.r (.r (.l .o)))),
 .go (.alloc 96 [(.slice none 0 0),(.int .i64 (.ofNat 0)),(.slice none 0 0),(.slice none 0 0),(.int .i64 (.ofNat 0)),(.int .i64 (.ofNat 0)),(.int .i64 (.ofNat 0)),(.int .i64 (.ofNat 0)),(.int .i64 (.ofNat 0)),(.int .i64 (.ofNat 0)),(.int .i64 (.ofNat 0)),(.int .i64 (.ofNat 0)),(.int .i64 (.ofNat 0)),(.int .i64 (.ofNat 0)),(.int .i64 (.ofNat 0)),(.int .i64 (.ofNat 0)),(.int .i64 (.ofNat 0)),(.int .i64 (.ofNat 0)),(.int .i64 (.ofNat 0)),(.int .i64 (.ofNat 0)),(.map none)]) (.r (.l (.l .o))),
 .un (.store 21 (.tmp (.r (.l (.l .o)))) (.tmp (.l (.r (.r (.l .o)))))),
 .go (.move (.tmp (.r (.r (.r (.l .o)))))) (.r (.r .o))]) (.seq (.seq (.run [.go (.move (.tmp (.r (.r .o)))) (.l (.l (.l (.r .o)))),
 .go (.bin .neq 29 (.tmp (.l (.l (.l (.r .o))))) (.con (.int .i64 (.ofNat 0)))) (.r (.l (.l (.r .o))))]) (.cond (.tmp (.r (.l (.l (.r .o))))) (.seq (.run [.go (.move (.tmp (.r (.r .o)))) (.l (.r (.l (.r .o)))),
 .go (.move (.con (.slice none 0 0))) (.r (.l .o)),
 .go (.move (.con (.int .i64 (.ofNat 0)))) (.l (.r .o)),
 .go (.move (.tmp (.l (.r (.l (.r .o)))))) (.r (.r .o))]) .ret) .skip)) (.seq (.run [.go (.loadN 21 (.tmp (.r (.l (.l .o))))) (.r (.r (.l (.r .o)))),
 .go (.loadN 2 (.tmp (.l (.l .o)))) (.l (.l (.r (.r .o)))),
 .go (.call (.con (.func (.func 71) ⟨[]⟩ ⟨[]⟩)) [(.tmp (.r (.r (.l (.r .o))))),(.tmp (.l (.l (.r (.r .o)))))]) (.r (.l (.r (.r .o)))),
 .go (.extract (.tmp (.r (.l (.r (.r .o))))) 0) (.l (.r (.r (.r .o)))),
 .go (.extract (.tmp (.r (.l (.r (.r .o))))) 1) (.r (.r (.r (.r .o)))),
 .go (.extract (.tmp (.r (.l (.r (.r .o))))) 2) (.l (.l (.l (.l (.l .o))))),
 .go (.move (.tmp (.l (.r (.r (.r .o)))))) (.r (.l .o)),
 .go (.move (.tmp (.r (.r (.r (.r .o)))))) (.l (.r .o)),
 .go (.move (.tmp (.l (.l (.l (.l (.l .o))))))) (.r (.r .o))]) .ret))))))
noncomputable def f39 : FFunc := .mk c39 (.n U (.n U (.n U (.n U (.n U (.n U .e .e) .e) (.n U .e .e)) (.n U (.n U .e .e) (.n U .e .e))) (.n U (.n U (.n U .e .e) (.n U .e .e)) (.n U (.n U .e .e) (.n U .e .e)))) (.n U (.n U (.n U (.n U .e .e) (.n U .e .e)) (.n U (.n U .e .e) (.n U .e .e))) (.n U (.n U (.n U .e .e) (.n U .e .e)) (.n U (.n U .e .e) (.n U .e .e))))) [.o,(.l .o)] [.tmp (.r (.l .o)),.tmp (.l (.r .o)),.tmp (.r (.r .o))]
theorem e39 : @compF Try.prog (Gl.none Try.prog) Try.f39 2 = f39 := by kernel_rfl
theorem o39 : okF Try.prog Try.f39 = true := by kernel_rfl
theorem g39 : Try.prog.funcs[(39 : Nat)]? = some Try.f39 := by kernel_rfl
noncomputable def c41 : FCode := (.seq (.run [.go (.box 34 (.tmp .o)) (.r (.l .o)),
 .go (.box 62 (.tmp (.r .o))) (.r (.r .o)),
 .go (.move (.con (.bool false))) (.r (.l (.l .o)))]) (.seq (.run [.go (.loadN 4 (.tmp (.r (.l .o)))) (.r (.l (.r .o))),
 .go (.call (.con (.func (.func 61) ⟨[]⟩ ⟨[]⟩)) [(.tmp (.r (.l (.r .o))))]) (.l (.r (.r .o))),
 .go (.move (.tmp (.l (.r (.r .o))))) (.l (.l (.r .o))),
 .go (.extract (.tmp (.l (.l (.r .o)))) 0) (.r (.r (.r .o))),
 .go (.extract (.tmp (.l (.l (.r .o)))) 1) (.l (.l (.l (.l .o)))),
 .go (.alloc 96 [(.slice none 0 0),(.int .i64 (.ofNat 0)),(.slice none 0 0),(.slice none 0 0),(.int .i64 (.ofNat 0)),(.int .i64 (.ofNat 0)),(.int .i64 (.ofNat 0)),(.int .i64 (.ofNat 0)),(.int .i64 (.ofNat 0)),(.int .i64 (.ofNat 0)),(.int .i64 (.ofNat 0)),(.int .i64 (.ofNat 0)),(.int .i64 (.ofNat 0)),(.int .i64 (.ofNat 0)),(.int .i64 (.ofNat 0)),(.int .i64 (.ofNat 0)),(.int .i64 (.ofNat 0)),(.int .i64 (.ofNat 0)),(.int .i64 (.ofNat 0)),(.int .i64 (.ofNat 0)),(.map none)]) (.l (.r (.l .o))),
 .un (.store 21 (.tmp (.l (.r (.l .o)))) (.tmp (.r (.r (.r .o))))),
 .go (.move (.tmp (.l (.l (.l (.l .o)))))) (.r (.r (.l .o)))]) (.seq (.seq (.draw 14 [.go (.move (.tmp (.r (.r (.l .o))))) (.r (.l (.l (.l .o)))),
 .go (.bin .neq 29 (.tmp (.r (.l (.l (.l .o))))) (.con (.int .i64 (.ofNat 0)))) (.l (.r (.l (.l .o)))),
 .go (.move (.tmp (.l (.r (.l (.l .o)))))) (.r (.r (.l (.l .o)))),
 .gd (.r (.r (.l (.l .o)))) false (.loadN 2 (.tmp (.r (.r .o)))) (.l (.l (.r (.l .o)))),
 .gd (.r (.r (.l (.l .o)))) false (.call (.con (.func (.func 70) ⟨[]⟩ ⟨[]⟩)) []) (.r (.l (.r (.l .o)))),
 .gd (.r (.r (.l (.l .o)))) false (.call (.con (.func (.func 69) ⟨[]⟩ ⟨[]⟩)) [(.tmp (.l (.l (.r (.l .o))))),(.tmp (.r (.l (.r (.l .o)))))]) (.l (.r (.r (.l .o)))),
 .gd (.r (.r (.l (.l .o)))) false (.un .not (.tmp (.l (.r (.r (.l .o)))))) (.r (.r (.r (.l .o)))),
 .go (.pick (.tmp (.r (.r (.l (.l .o))))) (.con (.bool true)) (.tmp (.r (.r (.r (.l .o)))))) (.l (.l (.l (.r .o)))),
 .go (.move (.tmp (.l (.l (.l (.r .o)))))) (.r (.l (.l (.r .o)))),
 .gd (.r (.l (.l (.r .o)))) false (.loadN 4 (.tmp (.r (.l .o)))) (.l (.r (.l (.r .o)))),
 .gd (.r (.l (.l (.r .o)))) false (.move (.tmp (.l .o))) (.r (.r (.l (.r .o)))),
 .gd (.r (.l (.l (.r .o)))) false (.call (.con (.func (.func 72) ⟨[]⟩ ⟨[]⟩)) [(.tmp (.l (.r (.l (.r .o))))),(.tmp (.r (.r (.l (.r .o)))))]) (.l (.l (.r (.r .o)))),
 .gd (.r (.l (.l (.r .o)))) false (.un .not (.tmp (.l (.l (.r (.r .o)))))) (.r (.l (.r (.r .o)))),
 .go (.pick (.tmp (.r (.l (.l (.r .o))))) (.con (.bool true)) (.tmp (.r (.l (.r (.r .o)))))) (.l (.r (.r (.r .o))))] [.ok,.ok,.ok,.rd (some ((.r (.r (.l (.l .o)))),false)) (.loadN 2 (.tmp (.r (.r .o)))) (some (.l (.l (.r (.l .o))))) [5],.ok,.ok,.ok,.ok,.ok,.ok,.ok,.ok,.ok,.ok]) (.cond (.tmp (.l (.r (.r (.r .o))))) (.seq (.run [.go (.move (.con (.bool false))) (.r (.l (.l .o)))]) .ret) .skip)) (.seq (.run [.go (.move (.tmp (.l .o))) (.r (.r (.r (.r .o)))),
 .go (.call (.con (.func (.func 73) ⟨[]⟩ ⟨[]⟩)) [(.tmp (.r (.r (.r (.r .o)))))]) (.l (.l (.l (.l (.l .o))))),
 .go (.fieldAddr 12 (.tmp (.l (.r (.l .o))))) (.r (.l (.l (.l (.l .o))))),
 .un (.store 8 (.tmp (.r (.l (.l (.l (.l .o)))))) (.tmp (.l (.l (.l (.l (.l .o)))))))]) (.seq (.run [.go (.loadN 21 (.tmp (.l (.r (.l .o))))) (.l (.r (.l (.l (.l .o))))),
 .go (.call (.con (.func (.func 74) ⟨[]⟩ ⟨[]⟩)) [(.tmp (.l (.r (.l (.l (.l .o))))))]) (.r (.r (.l (.l (.l .o))))),
 .go (.move (.tmp (.l (.l .o)))) (.l (.l (.r (.l (.l .o))))),
 .go (.bin .leq 3 (.tmp (.r (.r (.l (.l (.l .o)))))) (.tmp (.l (.l (.r (.l (.l .o))))))) (.r (.l (.r (.l (.l .o))))),
 .go (.move (.tmp (.r (.l (.r (.l (.l .o))))))) (.l (.r (.r (.l (.l .o))))),
 .gd (.l (.r (.r (.l (.l .o))))) true (.loadN 21 (.tmp (.l (.r (.l .o))))) (.r (.r (.r (.l (.l .o))))),
 .gd (.l (.r (.r (.l (.l .o))))) true (.loadN 2 (.tmp (.r (.r .o)))) (.l (.l (.l (.r (.l .o))))),
 .gd (.l (.r (.r (.l (.l .o))))) true (.call (.con (.func (.func 75) ⟨[]⟩ ⟨[]⟩)) [(.tmp (.r (.r (.r (.l (.l .o)))))),(.tmp (.l (.l (.l (.r (.l .o))))))]) (.r (.l (.l (.r (.l .o))))),
 .go (.pick (.tmp (.l (.r (.r (.l (.l .o)))))) (.tmp (.r (.l (.l (.r (.l .o)))))) (.con (.bool false))) (.l (.r (.l (.r (.l .o))))),
 .go (.move (.tmp (.l (.r (.l (.r (.l .o))))))) (.r (.l (.l .o)))]) .ret)))))
noncomputable def f41 : FFunc := .mk c41 (.n U (.n U (.n U (.n U (.n U (.n U .e .e) .e) (.n U (.n U .e .e) .e)) (.n U (.n U (.n U .e .e) .e) (.n U .e .e))) (.n U (.n U (.n U (.n U .e .e) .e) (.n U (.n U .e .e) .e)) (.n U (.n U (.n U .e .e) .e) (.n U .e .e)))) (.n U (.n U (.n U (.n U (.n U .e .e) .e) (.n U (.n U .e .e) .e)) (.n U (.n U (.n U .e .e) .e) (.n U .e .e))) (.n U (.n U (.n U (.n U .e .e) .e) (.n U .e .e)) (.n U (.n U (.n U .e .e) .e) (.n U .e .e))))) [.o,(.l .o),(.r .o),(.l (.l .o))] [.tmp (.r (.l (.l .o)))]
theorem e41 : @compF Try.prog (Gl.none Try.prog) Try.f41 4 = f41 := by kernel_rfl
theorem o41 : okF Try.prog Try.f41 = true := by kernel_rfl
theorem g41 : Try.prog.funcs[(41 : Nat)]? = some Try.f41 := by kernel_rfl
noncomputable def c47 : FCode := (.seq (.run [.go (.alloc 34 [(.slice none 0 0),(.int .i64 (.ofNat 0)),(.slice none 0 0),(.slice none 0 0)]) .o]) (.seq (.run [.go (.buildSlice 3 2 [(.int .i64 (.ofNat 0)),(.int .i64 (.ofNat 0))] [(0,1,(.con (.int .i64 (.ofNat 100)))),(1,1,(.con (.int .i64 (.ofNat 60))))]) (.l .o),
 .go (.call (.con (.func (.func 48) ⟨[]⟩ ⟨[]⟩)) [(.con (.int .i64 (.ofNat 40))),(.con (.int .i64 (.ofNat 70)))]) (.r .o),
 .go (.build [(.int .i64 (.ofNat 0)),(.int .i64 (.ofNat 0)),(.int .i64 (.ofNat 0)),(.int .i64 (.ofNat 0)),(.int .i64 (.ofNat 0))] [(2,1,(.con (.int .i64 (.ofNat 3)))),(3,2,(.tmp (.r .o)))]) (.l (.l .o)),
 .go (.call (.con (.func (.func 48) ⟨[]⟩ ⟨[]⟩)) [(.con (.int .i64 (.ofNat 30))),(.con (.int .i64 (.ofNat 50)))]) (.r (.l .o)),
 .go (.build [(.int .i64 (.ofNat 0)),(.int .i64 (.ofNat 0)),(.int .i64 (.ofNat 0)),(.int .i64 (.ofNat 0)),(.int .i64 (.ofNat 0))] [(1,1,(.con (.int .i64 (.ofNat 1)))),(2,1,(.con (.int .i64 (.ofNat 2)))),(3,2,(.tmp (.r (.l .o))))]) (.l (.r .o)),
 .go (.call (.con (.func (.func 48) ⟨[]⟩ ⟨[]⟩)) [(.con (.int .i64 (.ofNat 20))),(.con (.int .i64 (.ofNat 60)))]) (.r (.r .o)),
 .go (.build [(.int .i64 (.ofNat 0)),(.int .i64 (.ofNat 0)),(.int .i64 (.ofNat 0)),(.int .i64 (.ofNat 0)),(.int .i64 (.ofNat 0))] [(0,1,(.con (.int .i64 (.ofNat 1)))),(1,1,(.con (.int .i64 (.ofNat 1)))),(2,1,(.con (.int .i64 (.ofNat 5)))),(3,2,(.tmp (.r (.r .o))))]) (.l (.l (.l .o))),
 .go (.call (.con (.func (.func 48) ⟨[]⟩ ⟨[]⟩)) [(.con (.int .i64 (.ofNat 0))),(.con (.int .i64 (.ofNat 30)))]) (.r (.l (.l .o))),
 .go (.build [(.int .i64 (.ofNat 0)),(.int .i64 (.ofNat 0)),(.int .i64 (.ofNat 0)),(.int .i64 (.ofNat 0)),(.int .i64 (.ofNat 0))] [(0,1,(.con (.int .i64 (.ofNat 1)))),(2,1,(.con (.int .i64 (.ofNat 1)))),(3,2,(.tmp (.r (.l (.l .o)))))]) (.l (.r (.l .o))),
 .go (.buildSlice 74 4 [(.int .i64 (.ofNat 0)),(.int .i64 (.ofNat 0)),(.int .i64 (.ofNat 0)),(.int .i64 (.ofNat 0)),(.int .i64 (.ofNat 0)),(.int .i64 (.ofNat 0)),(.int .i64 (.ofNat 0)),(.int .i64 (.ofNat 0)),(.int .i64 (.ofNat 0)),(.int .i64 (.ofNat 0)),(.int .i64 (.ofNat 0)),(.int .i64 (.ofNat 0)),(.int .i64 (.ofNat 0)),(.int .i64 (.ofNat 0)),(.int .i64 (.ofNat 0)),(.int .i64 (.ofNat 0)),(.int .i64 (.ofNat 0)),(.int .i64 (.ofNat 0)),(.int .i64 (.ofNat 0)),(.int .i64 (.ofNat 0))] [(0,5,(.tmp (.l (.l .o)))),(5,5,(.tmp (.l (.r .o)))),(10,5,(.tmp (.l (.l (.l .o))))),(15,5,(.tmp (.l (.r (.l .o)))))]) (.r (.r (.l .o))),
 .go (.build [(.int .i64 (.ofNat 0)),(.int .i64 (.ofNat 0))] [(0,1,(.con (.int .i64 (.ofNat 0)))),(1,1,(.con (.int .i64 (.ofNat 1))))]) (.l (.l (.r .o))),
 .go (.build [(.int .i64 (.ofNat 0)),(.int .i64 (.ofNat 0))] [(0,1,(.con (.int .i64 (.ofNat 1)))),(1,1,(.con (.int .i64 (.ofNat 2))))]) (.r (.l (.r .o))),
 .go (.build [(.int .i64 (.ofNat 0)),(.int .i64 (.ofNat 0))] [(0,1,(.con (.int .i64 (.ofNat 2)))),(1,1,(.con (.int .i64 (.ofNat 3))))]) (.l (.r (.r .o))),
 .go (.buildSlice 76 3 [(.int .i64 (.ofNat 0)),(.int .i64 (.ofNat 0)),(.int .i64 (.ofNat 0)),(.int .i64 (.ofNat 0)),(.int .i64 (.ofNat 0)),(.int .i64 (.ofNat 0))] [(0,2,(.tmp (.l (.l (.r .o))))),(2,2,(.tmp (.r (.l (.r .o))))),(4,2,(.tmp (.l (.r (.r .o)))))]) (.r (.r (.r .o))),
 .go (.build [(.slice none 0 0),(.int .i64 (.ofNat 0)),(.slice none 0 0),(.slice none 0 0)] [(0,1,(.tmp (.l .o))),(1,1,(.con (.int .i64 (.ofNat 2)))),(2,1,(.tmp (.r (.r (.l .o))))),(3,1,(.tmp (.r (.r (.r .o)))))]) (.l (.l (.l (.l .o)))),
 .un (.store 4 (.tmp .o) (.tmp (.l (.l (.l (.l .o))))))]) .ret))
noncomputable def f47 : FFunc := .mk c47 (.n U (.n U (.n U (.n U (.n U .e .e) .e) (.n U .e .e)) (.n U (.n U .e .e) (.n U .e .e))) (.n U (.n U (.n U .e .e) (.n U .e .e)) (.n U (.n U .e .e) (.n U .e .e)))) [] [.many .o 4]
theorem e47 : @compF Try.prog (Gl.none Try.prog) Try.f47 0 = f47 := by kernel_rfl
theorem o47 : okF Try.prog Try.f47 = true := by kernel_rfl
theorem g47 : Try.prog.funcs[(47 : Nat)]? = some Try.f47 := by kernel_rfl
noncomputable def c48 : FCode := (.seq (.run [.go (.alloc 62 [(.int .i64 (.ofNat 0)),(.int .i64 (.ofNat 0))]) (.r (.l .o))]) (.seq (.run [.go (.move (.tmp .o)) (.l (.r .o)),
 .go (.move (.tmp (.l .o))) (.r (.r .o)),
 .go (.build [(.int .i64 (.ofNat 0)),(.int .i64 (.ofNat 0))] [(0,1,(.tmp (.l (.r .o)))),(1,1,(.tmp (.r (.r .o))))]) (.l (.l (.l .o))),
 .un (.store 2 (.tmp (.r (.l .o))) (.tmp (.l (.l (.l .o)))))]) .ret))
noncomputable def f48 : FFunc := .mk c48 (.n U (.n U (.n U (.n U .e .e) .e) (.n U .e .e)) (.n U (.n U .e .e) (.n U .e .e))) [.o,(.l .o)] [.many (.r (.l .o)) 2]
theorem e48 : @compF Try.prog (Gl.none Try.prog) Try.f48 2 = f48 := by kernel_rfl
theorem o48 : okF Try.prog Try.f48 = true := by kernel_rfl
theorem g48 : Try.prog.funcs[(48 : Nat)]? = some Try.f48 := by kernel_rfl
noncomputable def c54 : FCode := (.seq (.run [.go (.move (.con (.slice none 0 0))) (.r (.l .o)),
 .go (.move (.con (.int .i64 (.ofNat 0)))) (.l (.r .o))]) (.seq (.block 0 (.seq (.run [.go (.move (.tmp .o)) (.l (.l (.l .o))),
 .go (.len 0 (.tmp (.l (.l (.l .o))))) (.r (.l (.l .o))),
 .go (.bin .gtr 3 (.tmp (.r (.l (.l .o)))) (.con (.int .i64 (.ofNat 12)))) (.l (.r (.l .o))),
 .go (.move (.tmp (.l (.r (.l .o))))) (.r (.r .o))]) (.cond (.tmp (.r (.r .o))) (.seq (.run [.go (.move (.con (.slice none 0 0))) (.r (.l .o)),
 .go (.move (.con (.int .i64 (.ofNat 3)))) (.l (.r .o))]) .ret) (.seq (.run [.go (.move (.tmp .o)) (.l (.l (.r .o))),
 .go (.call (.con (.func (.func 79) ⟨[]⟩ ⟨[]⟩)) []) (.r (.l (.r .o))),
 .go (.makeFunc 80 [(.tmp (.r (.l (.r .o))))] []) (.l (.r (.r .o))),
 .go (.call (.con (.func (.func 78) ⟨[]⟩ ⟨[]⟩)) [(.tmp (.l (.l (.r .o)))),(.tmp (.l (.r (.r .o))))]) (.r (.r (.r .o))),
 .go (.un .not (.tmp (.r (.r (.r .o))))) (.l (.l (.l (.l .o)))),
 .go (.move (.tmp (.l (.l (.l (.l .o)))))) (.r (.l (.l (.l .o)))),
 .gd (.r (.l (.l (.l .o)))) false (.call (.con (.func (.func 81) ⟨[]⟩ ⟨[]⟩)) []) (.l (.r (.l (.l .o)))),
 .gd (.r (.l (.l (.l .o)))) false (.move (.tmp (.l .o))) (.r (.r (.l (.l .o)))),
 .gd (.r (.l (.l (.l .o)))) false (.call (.con (.func (.func 80) ⟨[]⟩ ⟨[]⟩)) [(.tmp (.l (.r (.l (.l .o))))),(.tmp (.r (.r (.l (.l .o)))))]) (.l (.l (.r (.l .o)))),
 .gd (.r (.l (.l (.l .o)))) false (.un .not (.tmp (.l (.l (.r (.l .o)))))) (.r (.l (.r (.l .o)))),
 .go (.pick (.tmp (.r (.l (.l (.l .o))))) (.con (.bool true)) (.tmp (.r (.l (.r (.l .o)))))) (.l (.r (.r (.l .o)))),
 .go (.move (.tmp (.l (.r (.r (.l .o)))))) (.r (.r (.l .o)))]) (.cond (.tmp (.r (.r (.l .o)))) (.seq (.run [.go (.move (.con (.slice none 0 0))) (.r (.l .o)),
 .go (.move (.con (.int .i64 (.ofNat 2)))) (.l (.r .o))]) .ret) (.seq (.run [.go (.move (.tmp .o)) (.l (.l (.l (.r .o)))),
 .go (.call (.con (.func (.func 82) ⟨[]⟩ ⟨[]⟩)) [(.tmp (.l (.l (.l (.r .o)))))]) (.r (.l (.l (.r .o)))),
 .go (.bin .eql 3 (.tmp (.r (.l (.l (.r .o))))) (.con (.int .i64 (.ofNat 0)))) (.l (.r (.l (.r .o)))),
 .go (.move (.tmp (.l (.r (.l (.r .o)))))) (.r (.r (.r (.l .o))))]) (.cond (.tmp (.r (.r (.r (.l .o))))) (.seq (.run [.go (.move (.con (.slice none 0 0))) (.r (.l .o)),
 .go (.move (.con (.int .i64 (.ofNat 7)))) (.l (.r .o))]) .ret) .skip))))))) (.seq (.run [.go (.move (.tmp .o)) (.r (.r (.l (.r .o)))),
 .go (.move (.tmp (.l .o))) (.l (.l (.r (.r .o)))),
 .go (.call (.con (.func (.func 83) ⟨[]⟩ ⟨[]⟩)) [(.tmp (.r (.r (.l (.r .o))))),(.tmp (.l (.l (.r (.r .o)))))]) (.r (.l (.r (.r .o)))),
 .go (.move (.tmp (.r (.l (.r (.r .o)))))) (.r (.l .o)),
 .go (.move (.con (.int .i64 (.ofNat 0)))) (.l (.r .o))]) .ret)))
noncomputable def f54 : FFunc := .mk c54 (.n U (.n U (.n U (.n U (.n U .e .e) (.n U .e .e)) (.n U (.n U .e .e) (.n U .e .e))) (.n U (.n U (.n U .e .e) (.n U .e .e)) (.n U (.n U .e .e) .e))) (.n U (.n U (.n U (.n U .e .e) (.n U .e .e)) (.n U (.n U .e .e) (.n U .e .e))) (.n U (.n U (.n U .e .e) (.n U .e .e)) (.n U (.n U .e .e) .e)))) [.o,(.l .o)] [.tmp (.r (.l .o)),.tmp (.l (.r .o))]
theorem e54 : @compF Try.prog (Gl.none Try.prog) Try.f54 2 = f54 := by kernel_rfl
theorem o54 : okF Try.prog Try.f54 = true := by kernel_rfl
theorem g54 : Try.prog.funcs[(54 : Nat)]? = some Try.f54 := by kernel_rfl
noncomputable def c55 : FCode := (.seq (.run [.go (.box 34 (.tmp .o)) (.l .o),
 .go (.move (.con (.bool false))) (.r .o)]) (.seq (.run [.go (.fieldAddr 0 (.tmp (.l .o))) (.l (.l .o)),
 .go (.load1 (.tmp (.l (.l .o)))) (.r (.l .o)),
 .go (.len 0 (.tmp (.r (.l .o)))) (.l (.r .o)),
 .go (.bin .leq 3 (.tmp (.l (.r .o))) (.con (.int .i64 (.ofNat 4)))) (.r (.r .o)),
 .go (.move (.tmp (.r (.r .o)))) (.l (.l (.l .o))),
 .gd (.l (.l (.l .o))) true (.fieldAddr 2 (.tmp (.l .o))) (.r (.l (.l .o))),
 .gd (.l (.l (.l .o))) true (.load1 (.tmp (.r (.l (.l .o))))) (.l (.r (.l .o))),
 .gd (.l (.l (.l .o))) true (.len 0 (.tmp (.l (.r (.l .o))))) (.r (.r (.l .o))),
 .gd (.l (.l (.l .o))) true (.bin .leq 3 (.tmp (.r (.r (.l .o)))) (.con (.int .i64 (.ofNat 8)))) (.l (.l (.r .o))),
 .go (.pick (.tmp (.l (.l (.l .o)))) (.tmp (.l (.l (.r .o)))) (.con (.bool false))) (.r (.l (.r .o))),
 .go (.move (.tmp (.r (.l (.r .o))))) (.l (.r (.r .o))),
 .gd (.l (.r (.r .o))) true (.fieldAddr 3 (.tmp (.l .o))) (.r (.r (.r .o))),
 .gd (.l (.r (.r .o))) true (.load1 (.tmp (.r (.r (.r .o))))) (.l (.l (.l (.l .o)))),
 .gd (.l (.r (.r .o))) true (.len 0 (.tmp (.l (.l (.l (.l .o)))))) (.r (.l (.l (.l .o)))),
 .gd (.l (.r (.r .o))) true (.bin .leq 3 (.tmp (.r (.l (.l (.l .o))))) (.con (.int .i64 (.ofNat 20)))) (.l (.r (.l (.l .o)))),
 .go (.pick (.tmp (.l (.r (.r .o)))) (.tmp (.l (.r (.l (.l .o))))) (.con (.bool false))) (.r (.r (.l (.l .o)))),
 .go (.move (.tmp (.r (.r (.l (.l .o)))))) (.r .o)]) .ret))
noncomputable def f55 : FFunc := .mk c55 (.n U (.n U (.n U (.n U (.n U .e .e) .e) (.n U .e .e)) (.n U (.n U (.n U .e .e) .e) (.n U .e .e))) (.n U (.n U (.n U (.n U .e .e) .e) (.n U .e .e)) (.n U (.n U (.n U .e .e) .e) (.n U .e .e)))) [.o] [.tmp (.r .o)]
theorem e55 : @compF Try.prog (Gl.none Try.prog) Try.f55 1 = f55 := by kernel_rfl
theorem o55 : okF Try.prog Try.f55 = true := by kernel_rfl
theorem g55 : Try.prog.funcs[(55 : Nat)]? = some Try.f55 := by kernel_rfl
noncomputable def c56 : FCode := (.seq (.run [.go (.box 34 (.tmp .o)) (.l .o),
 .go (.move (.con (.bool false))) (.r .o)]) (.seq (.draw 43 [.go (.call (.con (.func (.func 84) ⟨[]⟩ ⟨[]⟩)) []) (.l (.l .o)),
 .go (.fieldAddr 0 (.tmp (.l .o))) (.r (.l .o)),
 .go (.load1 (.tmp (.r (.l .o)))) (.l (.r .o)),
 .go (.len 0 (.tmp (.l (.r .o)))) (.r (.r .o)),
 .go (.call (.con (.func (.func 85) ⟨[]⟩ ⟨[]⟩)) [(.tmp (.l (.l .o))),(.tmp (.r (.r .o)))]) (.l (.l (.l .o))),
 .go (.move (.tmp (.l (.l (.l .o))))) (.r (.l (.l .o))),
 .gd (.r (.l (.l .o))) true (.fieldAddr 0 (.tmp (.l .o))) (.l (.r (.l .o))),
 .gd (.r (.l (.l .o))) true (.load1 (.tmp (.l (.r (.l .o))))) (.r (.r (.l .o))),
 .gd (.r (.l (.l .o))) true (.call (.con (.func (.func 87) ⟨[]⟩ ⟨[]⟩)) []) (.l (.l (.r .o))),
 .gd (.r (.l (.l .o))) true (.makeFunc 85 [(.tmp (.l (.l (.r .o))))] []) (.r (.l (.r .o))),
 .gd (.r (.l (.l .o))) true (.call (.con (.func (.func 86) ⟨[]⟩ ⟨[]⟩)) [(.tmp (.r (.r (.l .o)))),(.tmp (.r (.l (.r .o))))]) (.l (.r (.r .o))),
 .go (.pick (.tmp (.r (.l (.l .o)))) (.tmp (.l (.r (.r .o)))) (.con (.bool false))) (.r (.r (.r .o))),
 .go (.move (.tmp (.r (.r (.r .o))))) (.l (.l (.l (.l .o)))),
 .gd (.l (.l (.l (.l .o)))) true (.call (.con (.func (.func 84) ⟨[]⟩ ⟨[]⟩)) []) (.r (.l (.l (.l .o)))),
 .gd (.l (.l (.l (.l .o)))) true (.fieldAddr 1 (.tmp (.l .o))) (.l (.r (.l (.l .o)))),
 .gd (.l (.l (.l (.l .o)))) true (.load1 (.tmp (.l (.r (.l (.l .o)))))) (.r (.r (.l (.l .o)))),
 .gd (.l (.l (.l (.l .o)))) true (.call (.con (.func (.func 85) ⟨[]⟩ ⟨[]⟩)) [(.tmp (.r (.l (.l (.l .o))))),(.tmp (.r (.r (.l (.l .o)))))]) (.l (.l (.r (.l .o)))),
 .go (.pick (.tmp (.l (.l (.l (.l .o))))) (.tmp (.l (.l (.r (.l .o))))) (.con (.bool false))) (.r (.l (.r (.l .o)))),
 .go (.move (.tmp (.r (.l (.r (.l .o)))))) (.l (.r (.r (.l .o)))),
 .gd (.l (.r (.r (.l .o)))) true (.fieldAddr 2 (.tmp (.l .o))) (.r (.r (.r (.l .o)))),
 .gd (.l (.r (.r (.l .o)))) true (.load1 (.tmp (.r (.r (.r (.l .o)))))) (.l (.l (.l (.r .o)))),
 .gd (.l (.r (.r (.l .o)))) true (.len 0 (.tmp (.l (.l (.l (.r .o)))))) (.r (.l (.l (.r .o)))),
 .gd (.l (.r (.r (.l .o)))) true (.bin .gtr 3 (.tmp (.r (.l (.l (.r .o))))) (.con (.int .i64 (.ofNat 0)))) (.l (.r (.l (.r .o)))),
 .go (.pick (.tmp (.l (.r (.r (.l .o))))) (.tmp (.l (.r (.l (.r .o))))) (.con (.bool false))) (.r (.r (.l (.r .o)))),
 .go (.move (.tmp (.r (.r (.l (.r .o)))))) (.l (.l (.r (.r .o)))),
 .gd (.l (.l (.r (.r .o)))) true (.fieldAddr 2 (.tmp (.l .o))) (.r (.l (.r (.r .o)))),
 .gd (.l (.l (.r (.r .o)))) true (.load1 (.tmp (.r (.l (.r (.r .o)))))) (.l (.r (.r (.r .o)))),
 .gd (.l (.l (.r (.r .o)))) true (.loadN 4 (.tmp (.l .o))) (.r (.r (.r (.r .o)))),
 .gd (.l (.l (.r (.r .o)))) true (.makeFunc 89 [(.tmp (.r (.r (.r (.r .o)))))] []) (.l (.l (.l (.l (.l .o))))),
 .gd (.l (.l (.r (.r .o)))) true (.call (.con (.func (.func 88) ⟨[]⟩ ⟨[]⟩)) [(.tmp (.l (.r (.r (.r .o))))),(.tmp (.l (.l (.l (.l (.l .o))))))]) (.r (.l (.l (.l (.l .o))))),
 .go (.pick (.tmp (.l (.l (.r (.r .o))))) (.tmp (.r (.l (.l (.l (.l .o)))))) (.con (.bool false))) (.l (.r (.l (.l (.l .o))))),
 .go (.move (.tmp (.l (.r (.l (.l (.l .o))))))) (.r (.r (.l (.l (.l .o))))),
 .gd (.r (.r (.l (.l (.l .o))))) true (.fieldAddr 3 (.tmp (.l .o))) (.l (.l (.r (.l (.l .o))))),
 .gd (.r (.r (.l (.l (.l .o))))) true (.load1 (.tmp (.l (.l (.r (.l (.l .o))))))) (.r (.l (.r (.l (.l .o))))),
 .gd (.r (.r (.l (.l (.l .o))))) true (.loadN 4 (.tmp (.l .o))) (.l (.r (.r (.l (.l .o))))),
 .gd (.r (.r (.l (.l (.l .o))))) true (.makeFunc 91 [(.tmp (.l (.r (.r (.l (.l .o))))))] []) (.r (.r (.r (.l (.l .o))))),
 .gd (.r (.r (.l (.l (.l .o))))) true (.call (.con (.func (.func 90) ⟨[]⟩ ⟨[]⟩)) [(.tmp (.r (.l (.r (.l (.l .o)))))),(.tmp (.r (.r (.r (.l (.l .o))))))]) (.l (.l (.l (.r (.l .o))))),
 .go (.pick (.tmp (.r (.r (.l (.l (.l .o)))))) (.tmp (.l (.l (.l (.r (.l .o)))))) (.con (.bool false))) (.r (.l (.l (.r (.l .o))))),
 .go (.move (.tmp (.r (.l (.l (.r (.l .o))))))) (.l (.r (.l (.r (.l .o))))),
 .gd (.l (.r (.l (.r (.l .o))))) true (.loadN 4 (.tmp (.l .o))) (.r (.r (.l (.r (.l .o))))),
 .gd (.l (.r (.l (.r (.l .o))))) true (.call (.con (.func (.func 92) ⟨[]⟩ ⟨[]⟩)) [(.tmp (.r (.r (.l (.r (.l .o))))))]) (.l (.l (.r (.r (.l .o))))),
 .go (.pick (.tmp (.l (.r (.l (.r (.l .o)))))) (.tmp (.l (.l (.r (.r (.l .o)))))) (.con (.bool false))) (.r (.l (.r (.r (.l .o))))),
 .go (.move (.tmp (.r (.l (.r (.r (.l .o))))))) (.r .o)] [.ok,.ok,.rd none (.load1 (.tmp (.r (.l .o)))) (some (.l (.r .o))) [0],.rd none (.len 0 (.tmp (.l (.r .o)))) (some (.r (.r .o))) [0],.ok,.ok,.ok,.rd (some ((.r (.l (.l .o))),true)) (.load1 (.tmp (.l (.r (.l .o))))) (some (.r (.r (.l .o)))) [9],.ok,.ok,.ok,.ok,.ok,.ok,.ok,.rd (some ((.l (.l (.l (.l .o)))),true)) (.load1 (.tmp (.l (.r (.l (.l .o)))))) (some (.r (.r (.l (.l .o))))) [11],.ok,.ok,.ok,.ok,.ok,.ok,.ok,.ok,.ok,.ok,.ok,.ok,.ok,.ok,.ok,.ok,.ok,.ok,.ok,.ok,.ok,.ok,.ok,.ok,.ok,.ok,.ok]) .ret))
noncomputable def f56 : FFunc := .mk c56 (.n U (.n U (.n U (.n U (.n U (.n U .e .e) .e) (.n U (.n U .e .e) .e)) (.n U (.n U (.n U .e .e) .e) (.n U (.n U .e .e) .e))) (.n U (.n U (.n U (.n U .e .e) .e) (.n U (.n U .e .e) .e)) (.n U (.n U (.n U .e .e) .e) (.n U .e .e)))) (.n U (.n U (.n U (.n U (.n U .e .e) .e) (.n U (.n U .e .e) .e)) (.n U (.n U (.n U .e .e) .e) (.n U (.n U .e .e) .e))) (.n U (.n U (.n U (.n U .e .e) .e) (.n U (.n U .e .e) .e)) (.n U (.n U (.n U .e .e) .e) (.n U .e .e))))) [.o] [.tmp (.r .o)]
theorem e56 : @compF Try.prog (Gl.none Try.prog) Try.f56 1 = f56 := by kernel_rfl
theorem o56 : okF Try.prog Try.f56 = true := by kernel_rfl
theorem g56 : Try.prog.funcs[(56 : Nat)]? = some Try.f56 := by kernel_rfl
noncomputable def c57 : FCode := (.seq (.run [.go (.box 34 (.tmp .o)) (.l .o),
 .go (.alloc 96 [(.slice none 0 0),(.int .i64 (.ofNat 0)),(.slice none 0 0),(.slice none 0 0),(.int .i64 (.ofNat 0)),(.int .i64 (.ofNat 0)),(.int .i64 (.ofNat 0)),(.int .i64 (.ofNat 0)),(.int .i64 (.ofNat 0)),(.int .i64 (.ofNat 0)),(.int .i64 (.ofNat 0)),(.int .i64 (.ofNat 0)),(.int .i64 (.ofNat 0)),(.int .i64 (.ofNat 0)),(.int .i64 (.ofNat 0)),(.int .i64 (.ofNat 0)),(.int .i64 (.ofNat 0)),(.int .i64 (.ofNat 0)),(.int .i64 (.ofNat 0)),(.int .i64 (.ofNat 0)),(.map none)]) (.r .o)]) (.seq (.run [.go (.loadN 4 (.tmp (.l .o))) (.r (.l (.l .o))),
 .go (.makeMap 76) (.l (.r (.l .o))),
 .go (.build [(.slice none 0 0),(.int .i64 (.ofNat 0)),(.slice none 0 0),(.slice none 0 0),(.int .i64 (.ofNat 0)),(.int .i64 (.ofNat 0)),(.int .i64 (.ofNat 0)),(.int .i64 (.ofNat 0)),(.int .i64 (.ofNat 0)),(.int .i64 (.ofNat 0)),(.int .i64 (.ofNat 0)),(.int .i64 (.ofNat 0)),(.int .i64 (.ofNat 0)),(.int .i64 (.ofNat 0)),(.int .i64 (.ofNat 0)),(.int .i64 (.ofNat 0)),(.int .i64 (.ofNat 0)),(.int .i64 (.ofNat 0)),(.int .i64 (.ofNat 0)),(.int .i64 (.ofNat 0)),(.map none)] [(0,4,(.tmp (.r (.l (.l .o))))),(20,1,(.tmp (.l (.r (.l .o)))))]) (.r (.r (.l .o))),
 .go (.alloc 96 [(.slice none 0 0),(.int .i64 (.ofNat 0)),(.slice none 0 0),(.slice none 0 0),(.int .i64 (.ofNat 0)),(.int .i64 (.ofNat 0)),(.int .i64 (.ofNat 0)),(.int .i64 (.ofNat 0)),(.int .i64 (.ofNat 0)),(.int .i64 (.ofNat 0)),(.int .i64 (.ofNat 0)),(.int .i64 (.ofNat 0)),(.int .i64 (.ofNat 0)),(.int .i64 (.ofNat 0)),(.int .i64 (.ofNat 0)),(.int .i64 (.ofNat 0)),(.int .i64 (.ofNat 0)),(.int .i64 (.ofNat 0)),(.int .i64 (.ofNat 0)),(.int .i64 (.ofNat 0)),(.map none)]) (.l (.l .o)),
 .un (.store 21 (.tmp (.l (.l .o))) (.tmp (.r (.r (.l .o)))))]) (.seq (.seq (.run [.go (.fieldAddr 2 (.tmp (.l .o))) (.l (.l (.r .o))),
 .go (.load1 (.tmp (.l (.l (.r .o))))) (.r (.l (.r .o))),
 .go (.len 0 (.tmp (.r (.l (.r .o))))) (.l (.r (.r .o))),
 .go (.move (.con (.int .i64 (.ofNat 0)))) (.r (.r (.r .o)))]) (.block 0 (.loop (.seq (.run [.go (.bin .lss 3 (.tmp (.r (.r (.r .o)))) (.tmp (.l (.r (.r .o))))) (.l (.l (.l (.l .o))))]) (.seq (.cond (.tmp (.l (.l (.l (.l .o))))) .skip (.exit 0)) (.seq (.block 1 (.seq (.run [.go (.move (.tmp (.r (.r (.r .o))))) (.r (.l (.l (.l .o)))),
 .go (.indexAddr none 5 (.tmp (.r (.l (.r .o)))) (.tmp (.r (.r (.r .o))))) (.l (.r (.l (.l .o)))),
 .go (.loadN 5 (.tmp (.l (.r (.l (.l .o)))))) (.r (.r (.l (.l .o)))),
 .go (.alloc 74 [(.int .i64 (.ofNat 0)),(.int .i64 (.ofNat 0)),(.int .i64 (.ofNat 0)),(.int .i64 (.ofNat 0)),(.int .i64 (.ofNat 0))]) (.l (.r .o)),
 .go (.move (.tmp (.r (.l (.l (.l .o)))))) (.r (.l .o)),
 .un (.store 5 (.tmp (.l (.r .o))) (.tmp (.r (.r (.l (.l .o))))))]) (.seq (.run [.go (.move (.tmp (.r (.l .o)))) (.l (.l (.r (.l .o)))),
 .go (.fieldAddr 0 (.tmp (.l (.r .o)))) (.r (.l (.r (.l .o)))),
 .go (.load1 (.tmp (.r (.l (.r (.l .o)))))) (.l (.r (.r (.l .o)))),
 .go (.fieldAddr 4 (.tmp (.l (.l .o)))) (.r (.r (.r (.l .o)))),
 .go (.indexAddr (some 8) 1 (.tmp (.r (.r (.r (.l .o))))) (.tmp (.l (.l (.r (.l .o)))))) (.l (.l (.l (.r .o)))),
 .un (.store 1 (.tmp (.l (.l (.l (.r .o))))) (.tmp (.l (.r (.r (.l .o))))))]) (.run [.go (.move (.tmp (.r (.l .o)))) (.r (.l (.l (.r .o)))),
 .go (.fieldAddr 1 (.tmp (.l (.r .o)))) (.l (.r (.l (.r .o)))),
 .go (.load1 (.tmp (.l (.r (.l (.r .o)))))) (.r (.r (.l (.r .o)))),
 .go (.fieldAddr 12 (.tmp (.l (.l .o)))) (.l (.l (.r (.r .o)))),
 .go (.indexAddr (some 8) 1 (.tmp (.l (.l (.r (.r .o))))) (.tmp (.r (.l (.l (.r .o)))))) (.r (.l (.r (.r .o)))),
 .un (.store 1 (.tmp (.r (.l (.r (.r .o))))) (.tmp (.r (.r (.l (.r .o))))))])))) (.run [.go (.bin .add 3 (.tmp (.r (.r (.r .o)))) (.con (.int .i64 (.ofNat 1)))) (.l (.r (.r (.r .o)))),
 .go (.move (.tmp (.l (.r (.r (.r .o)))))) (.r (.r (.r .o)))]))))))) (.seq (.seq (.run [.go (.fieldAddr 3 (.tmp (.l .o))) (.r (.r (.r (.r .o)))),
 .go (.load1 (.tmp (.r (.r (.r (.r .o)))))) (.l (.l (.l (.l (.l .o))))),
 .go (.len 0 (.tmp (.l (.l (.l (.l (.l .o))))))) (.r (.l (.l (.l (.l .o))))),
 .go (.move (.con (.int .i64 (.ofNat 0)))) (.l (.r (.l (.l (.l .o)))))]) (.block 2 (.loop (.seq (.run [.go (.bin .lss 3 (.tmp (.l (.r (.l (.l (.l .o)))))) (.tmp (.r (.l (.l (.l (.l .o))))))) (.r (.r (.l (.l (.l .o)))))]) (.seq (.cond (.tmp (.r (.r (.l (.l (.l .o)))))) .skip (.exit 2)) (.seq (.block 3 (.seq (.run [.go (.indexAddr none 2 (.tmp (.l (.l (.l (.l (.l .o)))))) (.tmp (.l (.r (.l (.l (.l .o))))))) (.l (.l (.r (.l (.l .o))))),
 .go (.loadN 2 (.tmp (.l (.l (.r (.l (.l .o))))))) (.r (.l (.r (.l (.l .o))))),
 .go (.alloc 76 [(.int .i64 (.ofNat 0)),(.int .i64 (.ofNat 0))]) (.l (.l (.l .o))),
 .un (.store 2 (.tmp (.l (.l (.l .o)))) (.tmp (.r (.l (.r (.l (.l .o)))))))]) (.seq (.run [.go (.fieldAddr 20 (.tmp (.l (.l .o)))) (.l (.r (.r (.l (.l .o))))),
 .go (.load1 (.tmp (.l (.r (.r (.l (.l .o))))))) (.r (.r (.r (.l (.l .o))))),
 .go (.loadN 2 (.tmp (.l (.l (.l .o))))) (.l (.l (.l (.r (.l .o))))),
 .un (.mapUpdate 76 (.tmp (.r (.r (.r (.l (.l .o)))))) (.tmp (.l (.l (.l (.r (.l .o)))))) (.con (.bool true)))]) (.run [.go (.fieldAddr 20 (.tmp (.l (.l .o)))) (.r (.l (.l (.r (.l .o))))),
 .go (.load1 (.tmp (.r (.l (.l (.r (.l .o))))))) (.l (.r (.l (.r (.l .o))))),
 .go (.fieldAddr 1 (.tmp (.l (.l (.l .o))))) (.r (.r (.l (.r (.l .o))))),
 .go (.load1 (.tmp (.r (.r (.l (.r (.l .o))))))) (.l (.l (.r (.r (.l .o))))),
 .go (.fieldAddr 0 (.tmp (.l (.l (.l .o))))) (.r (.l (.r (.r (.l .o))))),
 .go (.load1 (.tmp (.r (.l (.r (.r (.l .o))))))) (.l (.r (.r (.r (.l .o))))),
 .go (.build [(.int .i64 (.ofNat 0)),(.int .i64 (.ofNat 0))] [(0,1,(.tmp (.l (.l (.r (.r (.l .o))))))),(1,1,(.tmp (.l (.r (.r (.r (.l .o)))))))]) (.r (.r (.r (.r (.l .o))))),
 .un (.mapUpdate 76 (.tmp (.l (.r (.l (.r (.l .o)))))) (.tmp (.r (.r (.r (.r (.l .o)))))) (.con (.bool true)))])))) (.run [.go (.bin .add 3 (.tmp (.l (.r (.l (.l (.l .o)))))) (.con (.int .i64 (.ofNat 1)))) (.l (.l (.l (.l (.r .o))))),
 .go (.move (.tmp (.l (.l (.l (.l (.r .o))))))) (.l (.r (.l (.l (.l .o)))))]))))))) (.seq (.run [.go (.loadN 21 (.tmp (.l (.l .o)))) (.r (.l (.l (.l (.r .o))))),
 .un (.store 21 (.tmp (.r .o)) (.tmp (.r (.l (.l (.l (.r .o)))))))]) .ret)))))
noncomputable def f57 : FFunc := .mk c57 (.n U (.n U (.n U (.n U (.n U (.n U .e .e) (.n U .e .e)) (.n U (.n U .e .e) .e)) (.n U (.n U (.n U .e .e) .e) (.n U (.n U .e .e) .e))) (.n U (.n U (.n U (.n U .e .e) .e) (.n U (.n U .e .e) .e)) (.n U (.n U (.n U .e .e) .e) (.n U (.n U .e .e) .e)))) (.n U (.n U (.n U (.n U (.n U .e .e) (.n U .e .e)) (.n U (.n U .e .e) .e)) (.n U (.n U (.n U .e .e) .e) (.n U (.n U .e .e) .e))) (.n U (.n U (.n U (.n U .e .e) .e) (.n U (.n U .e .e) .e)) (.n U (.n U (.n U .e .e) .e) (.n U (.n U .e .e) .e))))) [.o] [.many (.r .o) 21]
theorem e57 : @compF Try.prog (Gl.none Try.prog) Try.f57 1 = f57 := by kernel_rfl
theorem o57 : okF Try.prog Try.f57 = true := by kernel_rfl
theorem g57 : Try.prog.funcs[(57 : Nat)]? = some Try.f57 := by kernel_rfl
noncomputable def c58 : FCode := (.seq (.run [.go (.box 96 (.tmp .o)) (.l .o),
 .go (.move (.con (.slice none 0 0))) (.r .o),
 .go (.move (.con (.slice none 0 0))) (.l (.l .o))]) (.seq (.draw 11 [.go (.fieldAddr 0 (.tmp (.l .o))) (.r (.r (.r .o))),
 .go (.fieldAddr 2 (.tmp (.r (.r (.r .o))))) (.l (.l (.l (.l .o)))),
 .go (.load1 (.tmp (.l (.l (.l (.l .o)))))) (.r (.l (.l (.l .o)))),
 .go (.len 0 (.tmp (.r (.l (.l (.l .o)))))) (.l (.r (.l (.l .o)))),
 .go (.fieldAddr 0 (.tmp (.l .o))) (.l (.l (.r (.l .o)))),
 .go (.fieldAddr 1 (.tmp (.l (.l (.r (.l .o)))))) (.r (.l (.r (.l .o)))),
 .go (.load1 (.tmp (.r (.l (.r (.l .o)))))) (.l (.r (.r (.l .o)))),
 .go (.makeSlice 3 1 8 [(.int .i64 (.ofNat 0))] (.tmp (.l (.r (.l (.l .o))))) (.tmp (.l (.r (.l (.l .o)))))) (.r (.r (.l (.l .o)))),
 .go (.makeSlice 3 1 8 [(.int .i64 (.ofNat 0))] (.tmp (.l (.r (.r (.l .o))))) (.tmp (.l (.r (.r (.l .o)))))) (.r (.r (.r (.l .o)))),
 .go (.move (.tmp (.r (.r (.l (.l .o)))))) (.r .o),
 .go (.move (.tmp (.r (.r (.r (.l .o)))))) (.l (.l .o))] [.ok,.ok,.ok,.ok,.nw none (some (.r (.r (.l (.l .o))))) 7 true,.ok,.ok,.ok,.nw none (some (.r (.r (.r (.l .o))))) 8 true,.nw none (some (.r .o)) 9 false,.nw none (some (.l (.l .o))) 10 false]) (.seq (.seq (.run [.go (.fieldAddr 0 (.tmp (.l .o))) (.l (.l (.l (.r .o)))),
 .go (.fieldAddr 0 (.tmp (.l (.l (.l (.r .o)))))) (.r (.l (.l (.r .o)))),
 .go (.load1 (.tmp (.r (.l (.l (.r .o)))))) (.l (.r (.l (.r .o)))),
 .go (.len 0 (.tmp (.l (.r (.l (.r .o)))))) (.r (.r (.l (.r .o)))),
 .go (.move (.con (.int .i64 (.ofNat 0)))) (.l (.l (.r (.r .o))))]) (.block 0 (.loop (.seq (.run [.go (.bin .lss 3 (.tmp (.l (.l (.r (.r .o))))) (.tmp (.r (.r (.l (.r .o)))))) (.r (.l (.r (.r .o))))]) (.seq (.cond (.tmp (.r (.l (.r (.r .o))))) .skip (.exit 0)) (.seq (.block 1 (.seq (.run [.go (.move (.tmp (.l (.l (.r (.r .o)))))) (.l (.r (.r (.r .o)))),
 .go (.indexAddr none 1 (.tmp (.l (.r (.l (.r .o))))) (.tmp (.l (.l (.r (.r .o)))))) (.r (.r (.r (.r .o)))),
 .go (.load1 (.tmp (.r (.r (.r (.r .o)))))) (.l (.l (.l (.l (.l .o))))),
 .go (.move (.tmp (.l (.r (.r (.r .o)))))) (.r (.l .o)),
 .go (.move (.tmp (.l (.l (.l (.l (.l .o))))))) (.l (.r .o))]) (.seq (.run [.go (.loadN 21 (.tmp (.l .o))) (.r (.l (.l (.l (.l .o))))),
 .go (.fieldAddr 4 (.tmp (.l .o))) (.l (.r (.l (.l (.l .o))))),
 .go (.loadN 8 (.tmp (.l (.r (.l (.l (.l .o))))))) (.r (.r (.l (.l (.l .o))))),
 .go (.move (.tmp (.r (.l .o)))) (.l (.l (.r (.l (.l .o))))),
 .go (.call (.con (.func (.func 94) ⟨[]⟩ ⟨[]⟩)) [(.tmp (.r (.l (.l (.l (.l .o)))))),(.tmp (.r (.r (.l (.l (.l .o)))))),(.tmp (.l (.l (.r (.l (.l .o))))))]) (.r (.l (.r (.l (.l .o))))),
 .go (.call (.con (.func (.func 93) ⟨[]⟩ ⟨[]⟩)) [(.tmp (.r (.l (.r (.l (.l .o))))))]) (.l (.r (.r (.l (.l .o))))),
 .go (.move (.tmp (.l (.r (.r (.l (.l .o))))))) (.r (.r .o))]) (.seq (.run [.go (.move (.con (.slice none 0 0))) (.l (.l (.l .o)))]) (.seq (.seq (.run [.go (.move (.tmp (.r (.r .o)))) (.r (.r (.r (.l (.l .o))))),
 .go (.len 0 (.tmp (.r (.r (.r (.l (.l .o))))))) (.l (.l (.l (.r (.l .o))))),
 .go (.move (.con (.int .i64 (.ofNat 0)))) (.r (.l (.l (.r (.l .o)))))]) (.block 2 (.loop (.seq (.run [.go (.bin .lss 3 (.tmp (.r (.l (.l (.r (.l .o)))))) (.tmp (.l (.l (.l (.r (.l .o))))))) (.l (.r (.l (.r (.l .o)))))]) (.seq (.cond (.tmp (.l (.r (.l (.r (.l .o)))))) .skip (.exit 2)) (.seq (.block 3 (.seq (.run [.go (.indexAddr none 1 (.tmp (.r (.r (.r (.l (.l .o)))))) (.tmp (.r (.l (.l (.r (.l .o))))))) (.r (.r (.l (.r (.l .o))))),
 .go (.load1 (.tmp (.r (.r (.l (.r (.l .o))))))) (.l (.l (.r (.r (.l .o))))),
 .go (.move (.tmp (.l (.l (.r (.r (.l .o))))))) (.l (.r (.l .o)))]) (.run [.go (.move (.tmp (.l (.l (.l .o))))) (.r (.l (.r (.r (.l .o))))),
 .go (.fieldAddr 0 (.tmp (.l .o))) (.l (.r (.r (.r (.l .o))))),
 .go (.fieldAddr 2 (.tmp (.l (.r (.r (.r (.l .o))))))) (.r (.r (.r (.r (.l .o))))),
 .go (.load1 (.tmp (.r (.r (.r (.r (.l .o))))))) (.l (.l (.l (.l (.r .o))))),
 .go (.move (.tmp (.l (.r (.l .o))))) (.r (.l (.l (.l (.r .o))))),
 .go (.indexAddr none 5 (.tmp (.l (.l (.l (.l (.r .o)))))) (.tmp (.r (.l (.l (.l (.r .o))))))) (.l (.r (.l (.l (.r .o))))),
 .go (.fieldAddr 2 (.tmp (.l (.r (.l (.l (.r .o))))))) (.r (.r (.l (.l (.r .o))))),
 .go (.load1 (.tmp (.r (.r (.l (.l (.r .o))))))) (.l (.l (.r (.l (.r .o))))),
 .go (.buildSlice 3 1 [(.int .i64 (.ofNat 0))] [(0,1,(.tmp (.l (.l (.r (.l (.r .o)))))))]) (.r (.l (.r (.l (.r .o))))),
 .go (.append 3 1 8 (.tmp (.r (.l (.r (.r (.l .o)))))) (.tmp (.r (.l (.r (.l (.r .o))))))) (.l (.r (.r (.l (.r .o))))),
 .go (.move (.tmp (.l (.r (.r (.l (.r .o))))))) (.l (.l (.l .o)))]))) (.run [.go (.bin .add 3 (.tmp (.r (.l (.l (.r (.l .o)))))) (.con (.int .i64 (.ofNat 1)))) (.r (.r (.r (.l (.r .o))))),
 .go (.move (.tmp (.r (.r (.r (.l (.r .o))))))) (.r (.l (.l (.r (.l .o)))))]))))))) (.seq (.run [.go (.move (.tmp (.l (.l (.l .o))))) (.r (.l (.l (.r (.r .o))))),
 .go (.move (.tmp (.l (.r .o)))) (.l (.r (.l (.r (.r .o))))),
 .go (.call (.con (.func (.func 54) ⟨[]⟩ ⟨[]⟩)) [(.tmp (.r (.l (.l (.r (.r .o)))))),(.tmp (.l (.r (.l (.r (.r .o))))))]) (.r (.r (.l (.r (.r .o))))),
 .go (.move (.tmp (.r (.r (.l (.r (.r .o))))))) (.l (.l (.l (.r (.r .o))))),
 .go (.extract (.tmp (.l (.l (.l (.r (.r .o)))))) 0) (.l (.l (.r (.r (.r .o))))),
 .go (.extract (.tmp (.l (.l (.l (.r (.r .o)))))) 1) (.r (.l (.r (.r (.r .o))))),
 .go (.move (.tmp (.l (.l (.r (.r (.r .o))))))) (.r (.r (.l .o))),
 .go (.move (.tmp (.r (.l (.r (.r (.r .o))))))) (.l (.l (.r .o)))]) (.seq (.run [.go (.move (.tmp (.r (.r (.l .o))))) (.l (.r (.r (.r (.r .o))))),
 .go (.len 0 (.tmp (.l (.r (.r (.r (.r .o))))))) (.r (.r (.r (.r (.r .o))))),
 .go (.move (.con (.int .i64 (.ofNat 0)))) (.l (.l (.l (.l (.l (.l .o))))))]) (.block 4 (.loop (.seq (.run [.go (.bin .lss 3 (.tmp (.l (.l (.l (.l (.l (.l .o))))))) (.tmp (.r (.r (.r (.r (.r .o))))))) (.r (.l (.l (.l (.l (.l .o))))))]) (.seq (.cond (.tmp (.r (.l (.l (.l (.l (.l .o))))))) .skip (.exit 4)) (.seq (.block 5 (.seq (.run [.go (.move (.tmp (.l (.l (.l (.l (.l (.l .o)))))))) (.l (.r (.l (.l (.l (.l .o)))))),
 .go (.indexAddr none 1 (.tmp (.l (.r (.r (.r (.r .o)))))) (.tmp (.l (.l (.l (.l (.l (.l .o)))))))) (.r (.r (.l (.l (.l (.l .o)))))),
 .go (.load1 (.tmp (.r (.r (.l (.l (.l (.l .o)))))))) (.l (.l (.r (.l (.l (.l .o)))))),
 .go (.move (.tmp (.l (.r (.l (.l (.l (.l .o)))))))) (.r (.l (.r .o))),
 .go (.move (.tmp (.l (.l (.r (.l (.l (.l .o)))))))) (.l (.r (.r .o)))]) (.seq (.run [.go (.move (.tmp (.r .o))) (.r (.l (.r (.l (.l (.l .o)))))),
 .go (.move (.tmp (.r (.r .o)))) (.l (.r (.r (.l (.l (.l .o)))))),
 .go (.move (.tmp (.r (.l (.r .o))))) (.r (.r (.r (.l (.l (.l .o)))))),
 .go (.indexAddr none 1 (.tmp (.l (.r (.r (.l (.l (.l .o))))))) (.tmp (.r (.r (.r (.l (.l (.l .o)))))))) (.l (.l (.l (.r (.l (.l .o)))))),
 .go (.load1 (.tmp (.l (.l (.l (.r (.l (.l .o)))))))) (.r (.l (.l (.r (.l (.l .o)))))),
 .go (.move (.tmp (.l (.r (.r .o))))) (.l (.r (.l (.r (.l (.l .o)))))),
 .go (.indexAddr none 1 (.tmp (.r (.l (.r (.l (.l (.l .o))))))) (.tmp (.r (.l (.l (.r (.l (.l .o)))))))) (.r (.r (.l (.r (.l (.l .o)))))),
 .un (.store 1 (.tmp (.r (.r (.l (.r (.l (.l .o))))))) (.tmp (.l (.r (.l (.r (.l (.l .o))))))))]) (.run [.go (.move (.tmp (.l (.l .o)))) (.l (.l (.r (.r (.l (.l .o)))))),
 .go (.move (.tmp (.r (.r .o)))) (.r (.l (.r (.r (.l (.l .o)))))),
 .go (.move (.tmp (.r (.l (.r .o))))) (.l (.r (.r (.r (.l (.l .o)))))),
 .go (.indexAddr none 1 (.tmp (.r (.l (.r (.r (.l (.l .o))))))) (.tmp (.l (.r (.r (.r (.l (.l .o)))))))) (.r (.r (.r (.r (.l (.l .o)))))),
 .go (.load1 (.tmp (.r (.r (.r (.r (.l (.l .o)))))))) (.l (.l (.l (.l (.r (.l .o)))))),
 .go (.fieldAddr 12 (.tmp (.l .o))) (.r (.l (.l (.l (.r (.l .o)))))),
 .go (.indexAddr (some 8) 1 (.tmp (.r (.l (.l (.l (.r (.l .o))))))) (.tmp (.l (.l (.l (.l (.r (.l .o)))))))) (.l (.r (.l (.l (.r (.l .o)))))),
 .go (.load1 (.tmp (.l (.r (.l (.l (.r (.l .o)))))))) (.r (.r (.l (.l (.r (.l .o)))))),
 .go (.indexAddr none 1 (.tmp (.l (.l (.r (.r (.l (.l .o))))))) (.tmp (.r (.r (.l (.l (.r (.l .o)))))))) (.l (.l (.r (.l (.r (.l .o)))))),
 .go (.load1 (.tmp (.l (.l (.r (.l (.r (.l .o)))))))) (.r (.l (.r (.l (.r (.l .o)))))),
 .go (.move (.tmp (.l (.r (.r .o))))) (.l (.r (.r (.l (.r (.l .o)))))),
 .go (.bin .add 3 (.tmp (.r (.l (.r (.l (.r (.l .o))))))) (.tmp (.l (.r (.r (.l (.r (.l .o)))))))) (.r (.r (.r (.l (.r (.l .o)))))),
 .go (.indexAddr none 1 (.tmp (.l (.l (.r (.r (.l (.l .o))))))) (.tmp (.r (.r (.l (.l (.r (.l .o)))))))) (.l (.l (.l (.r (.r (.l .o)))))),
 .un (.store 1 (.tmp (.l (.l (.l (.r (.r (.l .o))))))) (.tmp (.r (.r (.r (.l (.r (.l .o))))))))])))) (.run [.go (.bin .add 3 (.tmp (.l (.l (.l (.l (.l (.l .o))))))) (.con (.int .i64 (.ofNat 1)))) (.r (.l (.l (.r (.r (.l .o)))))),
 .go (.move (.tmp (.r (.l (.l (.r (.r (.l .o)))))))) (.l (.l (.l (.l (.l (.l .o))))))]))))))))))))) (.run [.go (.bin .add 3 (.tmp (.l (.l (.r (.r .o))))) (.con (.int .i64 (.ofNat 1)))) (.l (.r (.l (.r (.r (.l .o)))))),
 .go (.move (.tmp (.l (.r (.l (.r (.r (.l .o)))))))) (.l (.l (.r (.r .o))))]))))))) (.seq (.run [.go (.move (.tmp (.r .o))) (.r (.r (.l (.r (.r (.l .o)))))),
 .go (.move (.tmp (.l (.l .o)))) (.l (.l (.r (.r (.r (.l .o)))))),
 .go (.move (.tmp (.r (.r (.l (.r (.r (.l .o)))))))) (.r .o),
 .go (.move (.tmp (.l (.l (.r (.r (.r (.l .o)))))))) (.l (.l .o))]) .ret))))
noncomputable def f58 : FFunc := .mk c58 (.n U (.n U (.n U (.n U (.n U (.n U (.n U .e .e) .e) (.n U (.n U .e .e) .e)) (.n U (.n U (.n U .e .e) .e) (.n U (.n U .e .e) .e))) (.n U (.n U (.n U (.n U .e .e) .e) (.n U (.n U .e .e) .e)) (.n U (.n U (.n U .e .e) .e) (.n U (.n U .e .e) .e)))) (.n U (.n U (.n U (.n U (.n U .e .e) .e) (.n U (.n U .e .e) .e)) (.n U (.n U (.n U .e .e) .e) (.n U (.n U .e .e) .e))) (.n U (.n U (.n U (.n U .e .e) .e) (.n U (.n U .e .e) .e)) (.n U (.n U (.n U .e .e) .e) (.n U .e .e))))) (.n U (.n U (.n U (.n U (.n U (.n U .e .e) .e) (.n U (.n U .e .e) .e)) (.n U (.n U (.n U .e .e) .e) (.n U (.n U .e .e) .e))) (.n U (.n U (.n U (.n U .e .e) .e) (.n U (.n U .e .e) .e)) (.n U (.n U (.n U .e .e) .e) (.n U .e .e)))) (.n U (.n U (.n U (.n U (.n U .e .e) .e) (.n U (.n U .e .e) .e)) (.n U (.n U (.n U .e .e) .e) (.n U (.n U .e .e) .e))) (.n U (.n U (.n U (.n U .e .e) .e) (.n U (.n U .e .e) .e)) (.n U (.n U (.n U .e .e) .e) (.n U .e .e)))))) [.o] [.tmp (.r .o),.tmp (.l (.l .o))]
theorem e58 : @compF Try.prog (Gl.none Try.prog) Try.f58 1 = f58 := by kernel_rfl
theorem o58 : okF Try.prog Try.f58 = true := by kernel_rfl
theorem g58 : Try.prog.funcs[(58 : Nat)]? = some Try.f58 := by kernel_rfl
noncomputable def c61 : FCode := (.seq (.run [.go (.box 34 (.tmp .o)) (.l .o),
 .go (.alloc 96 [(.slice none 0 0),(.int .i64 (.ofNat 0)),(.slice none 0 0),(.slice none 0 0),(.int .i64 (.ofNat 0)),(.int .i64 (.ofNat 0)),(.int .i64 (.ofNat 0)),(.int .i64 (.ofNat 0)),(.int .i64 (.ofNat 0)),(.int .i64 (.ofNat 0)),(.int .i64 (.ofNat 0)),(.int .i64 (.ofNat 0)),(.int .i64 (.ofNat 0)),(.int .i64 (.ofNat 0)),(.int .i64 (.ofNat 0)),(.int .i64 (.ofNat 0)),(.int .i64 (.ofNat 0)),(.int .i64 (.ofNat 0)),(.int .i64 (.ofNat 0)),(.int .i64 (.ofNat 0)),(.map none)]) (.r .o),
 .go (.move (.con (.int .i64 (.ofNat 0)))) (.l (.l .o))]) (.seq (.seq (.run [.go (.loadN 4 (.tmp (.l .o))) (.r (.l (.l .o))),
 .go (.call (.con (.func (.func 18) ⟨[]⟩ ⟨[]⟩)) [(.tmp (.r (.l (.l .o))))]) (.l (.r (.l .o))),
 .go (.move (.tmp (.l (.r (.l .o))))) (.r (.l .o))]) (.seq (.run [.go (.move (.tmp (.r (.l .o)))) (.r (.r (.l .o))),
 .go (.bin .neq 29 (.tmp (.r (.r (.l .o)))) (.con (.int .i64 (.ofNat 0)))) (.l (.l (.r .o)))]) (.cond (.tmp (.l (.l (.r .o)))) (.seq (.run [.go (.build [(.slice none 0 0),(.int .i64 (.ofNat 0)),(.slice none 0 0),(.slice none 0 0),(.int .i64 (.ofNat 0)),(.int .i64 (.ofNat 0)),(.int .i64 (.ofNat 0)),(.int .i64 (.ofNat 0)),(.int .i64 (.ofNat 0)),(.int .i64 (.ofNat 0)),(.int .i64 (.ofNat 0)),(.int .i64 (.ofNat 0)),(.int .i64 (.ofNat 0)),(.int .i64 (.ofNat 0)),(.int .i64 (.ofNat 0)),(.int .i64 (.ofNat 0)),(.int .i64 (.ofNat 0)),(.int .i64 (.ofNat 0)),(.int .i64 (.ofNat 0)),(.int .i64 (.ofNat 0)),(.map none)] []) (.r (.l (.r .o))),
 .go (.move (.tmp (.r (.l .o)))) (.l (.r (.r .o))),
 .un (.store 21 (.tmp (.r .o)) (.tmp (.r (.l (.r .o))))),
 .go (.move (.tmp (.l (.r (.r .o))))) (.l (.l .o))]) .ret) .skip))) (.seq (.run [.go (.loadN 4 (.tmp (.l .o))) (.r (.r (.r .o))),
 .go (.call (.con (.func (.func 57) ⟨[]⟩ ⟨[]⟩)) [(.tmp (.r (.r (.r .o))))]) (.l (.l (.l (.l .o)))),
 .go (.alloc 96 [(.slice none 0 0),(.int .i64 (.ofNat 0)),(.slice none 0 0),(.slice none 0 0),(.int .i64 (.ofNat 0)),(.int .i64 (.ofNat 0)),(.int .i64 (.ofNat 0)),(.int .i64 (.ofNat 0)),(.int .i64 (.ofNat 0)),(.int .i64 (.ofNat 0)),(.int .i64 (.ofNat 0)),(.int .i64 (.ofNat 0)),(.int .i64 (.ofNat 0)),(.int .i64 (.ofNat 0)),(.int .i64 (.ofNat 0)),(.int .i64 (.ofNat 0)),(.int .i64 (.ofNat 0)),(.int .i64 (.ofNat 0)),(.int .i64 (.ofNat 0)),(.int .i64 (.ofNat 0)),(.map none)]) (.l (.r .o)),
 .un (.store 21 (.tmp (.l (.r .o))) (.tmp (.l (.l (.l (.l .o))))))]) (.seq (.seq (.run [.go (.fieldAddr 0 (.tmp (.l (.r .o)))) (.r (.l (.l (.l .o)))),
 .go (.fieldAddr 0 (.tmp (.r (.l (.l (.l .o)))))) (.l (.r (.l (.l .o)))),
 .go (.load1 (.tmp (.l (.r (.l (.l .o)))))) (.r (.r (.l (.l .o)))),
 .go (.len 0 (.tmp (.r (.r (.l (.l .o)))))) (.l (.l (.r (.l .o)))),
 .go (.move (.con (.int .i64 (.ofNat 0)))) (.r (.l (.r (.l .o))))]) (.block 0 (.loop (.seq (.run [.go (.bin .lss 3 (.tmp (.r (.l (.r (.l .o))))) (.tmp (.l (.l (.r (.l .o)))))) (.l (.r (.r (.l .o))))]) (.seq (.cond (.tmp (.l (.r (.r (.l .o))))) .skip (.exit 0)) (.seq (.block 1 (.seq (.run [.go (.move (.tmp (.r (.l (.r (.l .o)))))) (.r (.r (.r (.l .o)))),
 .go (.indexAddr none 1 (.tmp (.r (.r (.l (.l .o))))) (.tmp (.r (.l (.r (.l .o)))))) (.l (.l (.l (.r .o)))),
 .go (.load1 (.tmp (.l (.l (.l (.r .o)))))) (.r (.l (.l (.r .o)))),
 .go (.move (.tmp (.r (.r (.r (.l .o)))))) (.r (.r .o)),
 .go (.move (.tmp (.r (.l (.l (.r .o)))))) (.l (.l (.l .o)))]) (.seq (.run [.go (.loadN 21 (.tmp (.l (.r .o)))) (.l (.r (.l (.r .o)))),
 .go (.move (.tmp (.r (.r .o)))) (.r (.r (.l (.r .o)))),
 .go (.call (.con (.func (.func 95) ⟨[]⟩ ⟨[]⟩)) [(.tmp (.l (.r (.l (.r .o))))),(.tmp (.r (.r (.l (.r .o)))))]) (.l (.l (.r (.r .o)))),
 .go (.move (.tmp (.l (.l (.l .o))))) (.r (.l (.r (.r .o)))),
 .go (.call (.con (.func (.func 85) ⟨[]⟩ ⟨[]⟩)) [(.tmp (.l (.l (.r (.r .o))))),(.tmp (.r (.l (.r (.r .o)))))]) (.l (.r (.r (.r .o)))),
 .go (.un .not (.tmp (.l (.r (.r (.r .o)))))) (.r (.r (.r (.r .o))))]) (.cond (.tmp (.r (.r (.r (.r .o))))) (.seq (.run [.go (.build [(.slice none 0 0),(.int .i64 (.ofNat 0)),(.slice none 0 0),(.slice none 0 0),(.int .i64 (.ofNat 0)),(.int .i64 (.ofNat 0)),(.int .i64 (.ofNat 0)),(.int .i64 (.ofNat 0)),(.int .i64 (.ofNat 0)),(.int .i64 (.ofNat 0)),(.int .i64 (.ofNat 0)),(.int .i64 (.ofNat 0)),(.int .i64 (.ofNat 0)),(.int .i64 (.ofNat 0)),(.int .i64 (.ofNat 0)),(.int .i64 (.ofNat 0)),(.int .i64 (.ofNat 0)),(.int .i64 (.ofNat 0)),(.int .i64 (.ofNat 0)),(.int .i64 (.ofNat 0)),(.map none)] []) (.l (.l (.l (.l (.l .o))))),
 .un (.store 21 (.tmp (.r .o)) (.tmp (.l (.l (.l (.l (.l .o))))))),
 .go (.move (.con (.int .i64 (.ofNat 9)))) (.l (.l .o))]) .ret) .skip)))) (.run [.go (.bin .add 3 (.tmp (.r (.l (.r (.l .o))))) (.con (.int .i64 (.ofNat 1)))) (.r (.l (.l (.l (.l .o))))),
 .go (.move (.tmp (.r (.l (.l (.l (.l .o))))))) (.r (.l (.r (.l .o))))]))))))) (.seq (.run [.go (.loadN 21 (.tmp (.l (.r .o)))) (.l (.r (.l (.l (.l .o))))),
 .un (.store 21 (.tmp (.r .o)) (.tmp (.l (.r (.l (.l (.l .o))))))),
 .go (.move (.con (.int .i64 (.ofNat 0)))) (.l (.l .o))]) .ret)))))
noncomputable def f61 : FFunc := .mk c61 (.n U (.n U (.n U (.n U (.n U (.n U .e .e) .e) (.n U .e .e)) (.n U (.n U .e .e) (.n U .e .e))) (.n U (.n U (.n U (.n U .e .e) .e) (.n U .e .e)) (.n U (.n U .e .e) (.n U .e .e)))) (.n U (.n U (.n U (.n U (.n U .e .e) .e) (.n U .e .e)) (.n U (.n U .e .e) (.n U .e .e))) (.n U (.n U (.n U .e .e) (.n U .e .e)) (.n U (.n U .e .e) (.n U .e .e))))) [.o] [.many (.r .o) 21,.tmp (.l (.l .o))]
theorem e61 : @compF Try.prog (Gl.none Try.prog) Try.f61 1 = f61 := by kernel_rfl
theorem o61 : okF Try.prog Try.f61 = true := by kernel_rfl
theorem g61 : Try.prog.funcs[(61 : Nat)]? = some Try.f61 := by kernel_rfl
noncomputable def c62 : FCode := (.seq (.run [.go (.box 96 (.tmp .o)) (.l .o),
 .go (.move (.con (.slice none 0 0))) (.r .o)]) (.seq (.run [.go (.move (.con (.slice none 0 0))) (.l (.l .o))]) (.seq (.seq (.run [.go (.fieldAddr 0 (.tmp (.l .o))) (.r (.r .o)),
 .go (.fieldAddr 2 (.tmp (.r (.r .o)))) (.l (.l (.l .o))),
 .go (.load1 (.tmp (.l (.l (.l .o))))) (.r (.l (.l .o))),
 .go (.len 0 (.tmp (.r (.l (.l .o))))) (.l (.r (.l .o))),
 .go (.move (.con (.int .i64 (.ofNat 0)))) (.r (.r (.l .o)))]) (.block 0 (.loop (.seq (.run [.go (.bin .lss 3 (.tmp (.r (.r (.l .o)))) (.tmp (.l (.r (.l .o))))) (.l (.l (.r .o)))]) (.seq (.cond (.tmp (.l (.l (.r .o)))) .skip (.exit 0)) (.seq (.block 1 (.seq (.run [.go (.move (.tmp (.r (.r (.l .o))))) (.r (.l (.r .o))),
 .go (.indexAddr none 5 (.tmp (.r (.l (.l .o)))) (.tmp (.r (.r (.l .o))))) (.l (.r (.r .o))),
 .go (.loadN 5 (.tmp (.l (.r (.r .o))))) (.r (.r (.r .o))),
 .go (.alloc 3 [(.int .i64 (.ofNat 0))]) (.r (.l .o)),
 .go (.alloc 74 [(.int .i64 (.ofNat 0)),(.int .i64 (.ofNat 0)),(.int .i64 (.ofNat 0)),(.int .i64 (.ofNat 0)),(.int .i64 (.ofNat 0))]) (.l (.r .o)),
 .un (.store 1 (.tmp (.r (.l .o))) (.tmp (.r (.l (.r .o))))),
 .un (.store 5 (.tmp (.l (.r .o))) (.tmp (.r (.r (.r .o)))))]) (.run [.go (.move (.tmp (.l (.l .o)))) (.l (.l (.l (.l .o)))),
 .go (.loadN 21 (.tmp (.l .o))) (.r (.l (.l (.l .o)))),
 .go (.fieldAddr 0 (.tmp (.l (.r .o)))) (.l (.r (.l (.l .o)))),
 .go (.load1 (.tmp (.l (.r (.l (.l .o)))))) (.r (.r (.l (.l .o)))),
 .go (.makeFunc 97 [] [(.tmp (.r (.l .o)))]) (.l (.l (.r (.l .o)))),
 .go (.call (.con (.func (.func 96) ⟨[]⟩ ⟨[]⟩)) [(.tmp (.r (.l (.l (.l .o))))),(.tmp (.r (.r (.l (.l .o))))),(.tmp (.l (.l (.r (.l .o)))))]) (.r (.l (.r (.l .o)))),
 .go (.buildSlice 62 1 [(.int .i64 (.ofNat 0)),(.int .i64 (.ofNat 0))] [(0,2,(.tmp (.r (.l (.r (.l .o))))))]) (.l (.r (.r (.l .o)))),
 .go (.append 62 2 16 (.tmp (.l (.l (.l (.l .o))))) (.tmp (.l (.r (.r (.l .o)))))) (.r (.r (.r (.l .o)))),
 .go (.move (.tmp (.r (.r (.r (.l .o)))))) (.l (.l .o))]))) (.run [.go (.bin .add 3 (.tmp (.r (.r (.l .o)))) (.con (.int .i64 (.ofNat 1)))) (.l (.l (.l (.r .o)))),
 .go (.move (.tmp (.l (.l (.l (.r .o)))))) (.r (.r (.l .o)))]))))))) (.seq (.run [.go (.move (.tmp (.l (.l .o)))) (.r (.l (.l (.r .o)))),
 .go (.move (.tmp (.r (.l (.l (.r .o)))))) (.r .o)]) .ret))))
noncomputable def f62 : FFunc := .mk c62 (.n U (.n U (.n U (.n U (.n U .e .e) (.n U .e .e)) (.n U (.n U .e .e) .e)) (.n U (.n U (.n U .e .e) .e) (.n U (.n U .e .e) .e))) (.n U (.n U (.n U (.n U .e .e) (.n U .e .e)) (.n U (.n U .e .e) .e)) (.n U (.n U (.n U .e .e) .e) (.n U (.n U .e .e) .e)))) [.o] [.tmp (.r .o)]
theorem e62 : @compF Try.prog (Gl.none Try.prog) Try.f62 1 = f62 := by kernel_rfl
theorem o62 : okF Try.prog Try.f62 = true := by kernel_rfl
theorem g62 : Try.prog.funcs[(62 : Nat)]? = some Try.f62 := by kernel_rfl
noncomputable def c63 : FCode := (.seq (.run [.go (.box 96 (.tmp .o)) (.l .o),
 .go (.move (.con (.slice none 0 0))) (.r .o)]) (.seq (.run [.go (.move (.con (.slice none 0 0))) (.l (.l .o))]) (.seq (.seq (.run [.go (.fieldAddr 0 (.tmp (.l .o))) (.l (.r .o)),
 .go (.fieldAddr 1 (.tmp (.l (.r .o)))) (.r (.r .o)),
 .go (.load1 (.tmp (.r (.r .o)))) (.l (.l (.l .o))),
 .go (.move (.con (.int .i64 (.ofNat 0)))) (.r (.l (.l .o)))]) (.block 0 (.loop (.seq (.run [.go (.bin .lss 3 (.tmp (.r (.l (.l .o)))) (.tmp (.l (.l (.l .o))))) (.l (.r (.l .o)))]) (.seq (.cond (.tmp (.l (.r (.l .o)))) .skip (.exit 0)) (.seq (.block 1 (.seq (.run [.go (.move (.tmp (.r (.l (.l .o))))) (.r (.r (.l .o))),
 .go (.move (.tmp (.r (.r (.l .o))))) (.r (.l .o))]) (.run [.go (.move (.tmp (.l (.l .o)))) (.l (.l (.r .o))),
 .go (.loadN 21 (.tmp (.l .o))) (.r (.l (.r .o))),
 .go (.move (.tmp (.r (.l .o)))) (.l (.r (.r .o))),
 .go (.call (.con (.func (.func 98) ⟨[]⟩ ⟨[]⟩)) [(.tmp (.r (.l (.r .o)))),(.tmp (.l (.r (.r .o))))]) (.r (.r (.r .o))),
 .go (.buildSlice 62 1 [(.int .i64 (.ofNat 0)),(.int .i64 (.ofNat 0))] [(0,2,(.tmp (.r (.r (.r .o)))))]) (.l (.l (.l (.l .o)))),
 .go (.append 62 2 16 (.tmp (.l (.l (.r .o)))) (.tmp (.l (.l (.l (.l .o)))))) (.r (.l (.l (.l .o)))),
 .go (.move (.tmp (.r (.l (.l (.l .o)))))) (.l (.l .o))]))) (.run [.go (.bin .add 3 (.tmp (.r (.l (.l .o)))) (.con (.int .i64 (.ofNat 1)))) (.l (.r (.l (.l .o)))),
 .go (.move (.tmp (.l (.r (.l (.l .o)))))) (.r (.l (.l .o)))]))))))) (.seq (.run [.go (.move (.tmp (.l (.l .o)))) (.r (.r (.l (.l .o)))),
 .go (.move (.tmp (.r (.r (.l (.l .o)))))) (.r .o)]) .ret))))
noncomputable def f63 : FFunc := .mk c63 (.n U (.n U (.n U (.n U (.n U .e .e) .e) (.n U .e .e)) (.n U (.n U (.n U .e .e) .e) (.n U .e .e))) (.n U (.n U (.n U (.n U .e .e) .e) (.n U .e .e)) (.n U (.n U (.n U .e .e) .e) (.n U .e .e)))) [.o] [.tmp (.r .o)]
theorem e63 : @compF Try.prog (Gl.none Try.prog) Try.f63 1 = f63 := by kernel_rfl
theorem o63 : okF Try.prog Try.f63 = true := by kernel_rfl
theorem g63 : Try.prog.funcs[(63 : Nat)]? = some Try.f63 := by kernel_rfl
noncomputable def c64 : FCode := (.seq (.run [.go (.box 96 (.tmp .o)) (.r .o),
 .go (.move (.con (.bool false))) (.r (.l .o))]) (.seq (.run [.go (.alloc 128 [(.int .i64 (.ofNat 0)),(.int .i64 (.ofNat 0)),(.int .i64 (.ofNat 0)),(.int .i64 (.ofNat 0))]) (.l (.r .o))]) (.seq (.seq (.run [.go (.move (.tmp (.l .o))) (.r (.l (.l .o))),
 .go (.len 0 (.tmp (.r (.l (.l .o))))) (.l (.r (.l .o))),
 .go (.move (.con (.int .i64 (.ofNat 0)))) (.r (.r (.l .o)))]) (.block 0 (.loop (.seq (.run [.go (.bin .lss 3 (.tmp (.r (.r (.l .o)))) (.tmp (.l (.r (.l .o))))) (.l (.l (.r .o)))]) (.seq (.cond (.tmp (.l (.l (.r .o)))) .skip (.exit 0)) (.seq (.block 1 (.seq (.run [.go (.move (.tmp (.r (.r (.l .o))))) (.r (.l (.r .o))),
 .go (.indexAddr none 1 (.tmp (.r (.l (.l .o)))) (.tmp (.r (.r (.l .o))))) (.l (.r (.r .o))),
 .go (.load1 (.tmp (.l (.r (.r .o))))) (.r (.r (.r .o))),
 .go (.move (.tmp (.r (.l (.r .o))))) (.r (.r .o)),
 .go (.move (.tmp (.r (.r (.r .o))))) (.l (.l (.l .o)))]) (.seq (.seq (.run [.go (.fieldAddr 0 (.tmp (.r .o))) (.l (.l (.l (.l .o)))),
 .go (.fieldAddr 2 (.tmp (.l (.l (.l (.l .o)))))) (.r (.l (.l (.l .o)))),
 .go (.load1 (.tmp (.r (.l (.l (.l .o)))))) (.l (.r (.l (.l .o)))),
 .go (.move (.tmp (.r (.r .o)))) (.r (.r (.l (.l .o)))),
 .go (.indexAddr none 5 (.tmp (.l (.r (.l (.l .o))))) (.tmp (.r (.r (.l (.l .o)))))) (.l (.l (.r (.l .o)))),
 .go (.fieldAddr 3 (.tmp (.l (.l (.r (.l .o)))))) (.r (.l (.r (.l .o)))),
 .go (.loadN 2 (.tmp (.r (.l (.r (.l .o)))))) (.l (.r (.r (.l .o)))),
 .go (.move (.tmp (.l (.l (.l .o))))) (.r (.r (.r (.l .o)))),
 .go (.call (.con (.func (.func 85) ⟨[]⟩ ⟨[]⟩)) [(.tmp (.l (.r (.r (.l .o))))),(.tmp (.r (.r (.r (.l .o)))))]) (.l (.l (.l (.r .o)))),
 .go (.un .not (.tmp (.l (.l (.l (.r .o)))))) (.r (.l (.l (.r .o))))]) (.cond (.tmp (.r (.l (.l (.r .o))))) (.seq (.run [.go (.move (.con (.bool false))) (.r (.l .o))]) .ret) .skip)) (.run [.go (.move (.tmp (.r (.r .o)))) (.l (.r (.l (.r .o)))),
 .go (.fieldAddr 4 (.tmp (.r .o))) (.r (.r (.l (.r .o)))),
 .go (.indexAddr (some 8) 1 (.tmp (.r (.r (.l (.r .o))))) (.tmp (.l (.r (.l (.r .o)))))) (.l (.l (.r (.r .o)))),
 .go (.load1 (.tmp (.l (.l (.r (.r .o)))))) (.r (.l (.r (.r .o)))),
 .go (.indexAddr (some 4) 1 (.tmp (.l (.r .o))) (.tmp (.r (.l (.r (.r .o)))))) (.l (.r (.r (.r .o)))),
 .go (.load1 (.tmp (.l (.r (.r (.r .o)))))) (.r (.r (.r (.r .o)))),
 .go (.move (.tmp (.l (.l (.l .o))))) (.l (.l (.l (.l (.l .o))))),
 .go (.bin .add 3 (.tmp (.r (.r (.r (.r .o))))) (.tmp (.l (.l (.l (.l (.l .o))))))) (.r (.l (.l (.l (.l .o))))),
 .go (.indexAddr (some 4) 1 (.tmp (.l (.r .o))) (.tmp (.r (.l (.r (.r .o)))))) (.l (.r (.l (.l (.l .o))))),
 .un (.store 1 (.tmp (.l (.r (.l (.l (.l .o)))))) (.tmp (.r (.l (.l (.l (.l .o)))))))])))) (.run [.go (.bin .add 3 (.tmp (.r (.r (.l .o)))) (.con (.int .i64 (.ofNat 1)))) (.r (.r (.l (.l (.l .o))))),
 .go (.move (.tmp (.r (.r (.l (.l (.l .o))))))) (.r (.r (.l .o)))]))))))) (.seq (.draw 10 [.go (.fieldAddr 0 (.tmp (.r .o))) (.l (.l (.r (.l (.l .o))))),
 .go (.fieldAddr 0 (.tmp (.l (.l (.r (.l (.l .o))))))) (.r (.l (.r (.l (.l .o))))),
 .go (.load1 (.tmp (.r (.l (.r (.l (.l .o))))))) (.l (.r (.r (.l (.l .o))))),
 .go (.len 0 (.tmp (.l (.r (.r (.l (.l .o))))))) (.r (.r (.r (.l (.l .o))))),
 .go (.sliceSlow 128 (.tmp (.l (.r .o))) none (some (.tmp (.r (.r (.r (.l (.l .o)))))))) (.l (.l (.l (.r (.l .o))))),
 .go (.fieldAddr 0 (.tmp (.r .o))) (.r (.l (.l (.r (.l .o))))),
 .go (.fieldAddr 0 (.tmp (.r (.l (.l (.r (.l .o))))))) (.l (.r (.l (.r (.l .o))))),
 .go (.load1 (.tmp (.l (.r (.l (.r (.l .o))))))) (.r (.r (.l (.r (.l .o))))),
 .go (.call (.con (.func (.func 99) ⟨[]⟩ ⟨[]⟩)) [(.tmp (.l (.l (.l (.r (.l .o)))))),(.tmp (.r (.r (.l (.r (.l .o))))))]) (.l (.l (.r (.r (.l .o))))),
 .go (.move (.tmp (.l (.l (.r (.r (.l .o))))))) (.r (.l .o))] [.ok,.ok,.ok,.ok,.ok,.ok,.ok,.ok,.ok,.ok]) .ret))))
noncomputable def f64 : FFunc := .mk c64 (.n U (.n U (.n U (.n U (.n U (.n U .e .e) .e) (.n U (.n U .e .e) .e)) (.n U (.n U (.n U .e .e) .e) (.n U (.n U .e .e) .e))) (.n U (.n U (.n U (.n U .e .e) .e) (.n U (.n U .e .e) .e)) (.n U (.n U (.n U .e .e) .e) (.n U .e .e)))) (.n U (.n U (.n U (.n U (.n U .e .e) .e) (.n U (.n U .e .e) .e)) (.n U (.n U (.n U .e .e) .e) (.n U .e .e))) (.n U (.n U (.n U (.n U .e .e) .e) (.n U (.n U .e .e) .e)) (.n U (.n U (.n U .e .e) .e) (.n U .e .e))))) [.o,(.l .o)] [.tmp (.r (.l .o))]
theorem e64 : @compF Try.prog (Gl.none Try.prog) Try.f64 2 = f64 := by kernel_rfl
theorem o64 : okF Try.prog Try.f64 = true := by kernel_rfl
theorem g64 : Try.prog.funcs[(64 : Nat)]? = some Try.f64 := by kernel_rfl
noncomputable def c66 : FCode := (.seq (.run [.go (.box 62 (.tmp .o)) (.r .o),
 .go (.move (.con (.int .i64 (.ofNat 0)))) (.r (.l .o))]) (.seq (.run [.go (.move (.con (.int .i64 (.ofNat 0)))) (.l (.r .o))]) (.seq (.seq (.run [.go (.call (.con (.func (.func 100) ⟨[]⟩ ⟨[]⟩)) []) (.r (.l (.l .o))),
 .go (.len 0 (.tmp (.r (.l (.l .o))))) (.l (.r (.l .o))),
 .go (.move (.con (.int .i64 (.ofNat 0)))) (.r (.r (.l .o)))]) (.block 0 (.loop (.seq (.run [.go (.bin .lss 3 (.tmp (.r (.r (.l .o)))) (.tmp (.l (.r (.l .o))))) (.l (.l (.r .o)))]) (.seq (.cond (.tmp (.l (.l (.r .o)))) .skip (.exit 0)) (.seq (.block 1 (.seq (.run [.go (.indexAddr none 1 (.tmp (.r (.l (.l .o)))) (.tmp (.r (.r (.l .o))))) (.r (.l (.r .o))),
 .go (.loadN 1 (.tmp (.r (.l (.r .o))))) (.l (.r (.r .o))),
 .go (.alloc 133 [.nilFunc]) (.l (.l (.l .o))),
 .un (.store 1 (.tmp (.l (.l (.l .o)))) (.tmp (.l (.r (.r .o)))))]) (.draw 15 [.go (.move (.tmp (.l (.r .o)))) (.r (.r (.r .o))),
 .go (.fieldAddr 0 (.tmp (.l (.l (.l .o))))) (.l (.l (.l (.l .o)))),
 .go (.load1 (.tmp (.l (.l (.l (.l .o)))))) (.r (.l (.l (.l .o)))),
 .go (.loadN 2 (.tmp (.r .o))) (.l (.r (.l (.l .o)))),
 .go (.call (.tmp (.r (.l (.l (.l .o))))) [(.tmp (.l (.r (.l (.l .o)))))]) (.r (.r (.l (.l .o)))),
 .go (.move (.tmp (.l .o))) (.l (.l (.r (.l .o)))),
 .go (.bin .sub 3 (.tmp (.r (.r (.l (.l .o))))) (.tmp (.l (.l (.r (.l .o)))))) (.r (.l (.r (.l .o)))),
 .go (.move (.tmp (.l .o))) (.l (.r (.r (.l .o)))),
 .go (.fieldAddr 0 (.tmp (.l (.l (.l .o))))) (.r (.r (.r (.l .o)))),
 .go (.load1 (.tmp (.r (.r (.r (.l .o)))))) (.l (.l (.l (.r .o)))),
 .go (.loadN 2 (.tmp (.r .o))) (.r (.l (.l (.r .o)))),
 .go (.call (.tmp (.l (.l (.l (.r .o))))) [(.tmp (.r (.l (.l (.r .o)))))]) (.l (.r (.l (.r .o)))),
 .go (.bin .sub 3 (.tmp (.l (.r (.r (.l .o))))) (.tmp (.l (.r (.l (.r .o)))))) (.r (.r (.l (.r .o)))),
 .go (.mm true [(.tmp (.r (.r (.r .o)))),(.tmp (.r (.l (.r (.l .o))))),(.tmp (.r (.r (.l (.r .o)))))]) (.l (.l (.r (.r .o)))),
 .go (.move (.tmp (.l (.l (.r (.r .o)))))) (.l (.r .o))] [.ok,.ok,.ok,.ok,.ok,.ok,.ok,.ok,.ok,.rd none (.load1 (.tmp (.r (.r (.r (.l .o)))))) (some (.l (.l (.l (.r .o))))) [0],.rd none (.loadN 2 (.tmp (.r .o))) (some (.r (.l (.l (.r .o))))) [0],.ok,.ok,.ok,.ok]))) (.run [.go (.bin .add 3 (.tmp (.r (.r (.l .o)))) (.con (.int .i64 (.ofNat 1)))) (.r (.l (.r (.r .o)))),
 .go (.move (.tmp (.r (.l (.r (.r .o)))))) (.r (.r (.l .o)))]))))))) (.seq (.run [.go (.move (.tmp (.l (.r .o)))) (.l (.r (.r (.r .o)))),
 .go (.move (.tmp (.l (.r (.r (.r .o)))))) (.r (.l .o))]) .ret))))
noncomputable def f66 : FFunc := .mk c66 (.n U (.n U (.n U (.n U (.n U .e .e) (.n U .e .e)) (.n U (.n U .e .e) (.n U .e .e))) (.n U (.n U (.n U .e .e) (.n U .e .e)) (.n U (.n U .e .e) (.n U .e .e)))) (.n U (.n U (.n U (.n U .e .e) (.n U .e .e)) (.n U (.n U .e .e) (.n U .e .e))) (.n U (.n U (.n U .e .e) (.n U .e .e)) (.n U (.n U .e .e) .e)))) [.o,(.l .o)] [.tmp (.r (.l .o))]
theorem e66 : @compF Try.prog (Gl.none Try.prog) Try.f66 2 = f66 := by kernel_rfl
theorem o66 : okF Try.prog Try.f66 = true := by kernel_rfl
theorem g66 : Try.prog.funcs[(66 : Nat)]? = some Try.f66 := by kernel_rfl
noncomputable def c67 : FCode := (.seq (.run [.go (.box 96 (.tmp .o)) (.r .o),
 .go (.box 3 (.tmp (.l .o))) (.l (.l .o)),
 .go (.move (.con (.bool false))) (.r (.l .o))]) (.seq (.run [.go (.alloc 107 [(.bool false),(.bool false),(.bool false),(.bool false),(.bool false),(.bool false),(.bool false),(.bool false)]) (.l (.r .o))]) (.seq (.run [.go (.alloc 134 [.nilFunc]) (.r (.r .o))]) (.seq (.run [.go (.makeFunc 101 [] [(.tmp (.l (.r .o))),(.tmp (.r .o)),(.tmp (.l (.l .o))),(.tmp (.r (.r .o)))]) (.r (.r (.l .o))),
 .un (.store 1 (.tmp (.r (.r .o))) (.tmp (.r (.r (.l .o)))))]) (.seq (.run [.go (.alloc 4 [(.bool false)]) (.l (.l (.l .o))),
 .go (.alloc 4 [(.bool false)]) (.r (.l (.l .o))),
 .un (.store 1 (.tmp (.l (.l (.l .o)))) (.con (.bool false))),
 .un (.store 1 (.tmp (.r (.l (.l .o)))) (.con (.bool true)))]) (.seq (.seq (.run [.go (.loadN 21 (.tmp (.r .o))) (.l (.l (.r .o))),
 .go (.fieldAddr 12 (.tmp (.r .o))) (.r (.l (.r .o))),
 .go (.loadN 8 (.tmp (.r (.l (.r .o))))) (.l (.r (.r .o))),
 .go (.load1 (.tmp (.l (.l .o)))) (.r (.r (.r .o))),
 .go (.call (.con (.func (.func 94) ⟨[]⟩ ⟨[]⟩)) [(.tmp (.l (.l (.r .o)))),(.tmp (.l (.r (.r .o)))),(.tmp (.r (.r (.r .o))))]) (.l (.l (.l (.l .o))))]) (.block 0 (.rangeFunc (.tmp (.l (.l (.l (.l .o))))) [(.r (.l (.l (.l .o))))] (rfA Try.f67 0) (rfB Try.f67 0) (.run [.go (.move (.tmp (.r (.l (.l (.l .o)))))) (.l (.r (.l .o)))]) (.block 1 (.seq (.seq (.run [.go (.load1 (.tmp (.l (.l (.l .o))))) (.l (.r (.l (.l .o)))),
 .go (.un .not (.tmp (.l (.r (.l (.l .o)))))) (.r (.r (.l (.l .o))))]) (.cond (.tmp (.r (.r (.l (.l .o))))) (.seq (.run [.un (.store 1 (.tmp (.l (.l (.l .o)))) (.con (.bool true)))]) (.run [.go (.load1 (.tmp (.r (.r .o)))) (.l (.l (.r (.l .o)))),
 .go (.move (.tmp (.l (.r (.l .o))))) (.r (.l (.r (.l .o)))),
 .go (.call (.tmp (.l (.l (.r (.l .o))))) [(.tmp (.r (.l (.r (.l .o)))))]) (.l (.r (.r (.l .o))))])) .skip)) (.run [.go (.load1 (.tmp (.r (.l (.l .o))))) (.r (.r (.r (.l .o)))),
 .go (.move (.tmp (.r (.r (.r (.l .o)))))) (.l (.l (.l (.r .o)))),
 .gd (.l (.l (.l (.r .o)))) true (.move (.tmp (.l (.r (.l .o))))) (.r (.l (.l (.r .o)))),
 .gd (.l (.l (.l (.r .o)))) true (.indexAddr (some 8) 1 (.tmp (.l (.r .o))) (.tmp (.r (.l (.l (.r .o)))))) (.l (.r (.l (.r .o)))),
 .gd (.l (.l (.l (.r .o)))) true (.load1 (.tmp (.l (.r (.l (.r .o)))))) (.r (.r (.l (.r .o)))),
 .go (.pick (.tmp (.l (.l (.l (.r .o))))) (.tmp (.r (.r (.l (.r .o))))) (.con (.bool false))) (.l (.l (.r (.r .o)))),
 .un (.store 1 (.tmp (.r (.l (.l .o)))) (.tmp (.l (.l (.r (.r .o))))))])))))) (.seq (.run [.go (.load1 (.tmp (.l (.l (.l .o))))) (.r (.l (.r (.r .o)))),
 .go (.move (.tmp (.r (.l (.r (.r .o)))))) (.l (.r (.r (.r .o)))),
 .gd (.l (.r (.r (.r .o)))) true (.load1 (.tmp (.r (.l (.l .o))))) (.r (.r (.r (.r .o)))),
 .go (.pick (.tmp (.l (.r (.r (.r .o))))) (.tmp (.r (.r (.r (.r .o))))) (.con (.bool false))) (.l (.l (.l (.l (.l .o))))),
 .go (.move (.tmp (.l (.l (.l (.l (.l .o))))))) (.r (.l .o))]) .ret)))))))
noncomputable def f67 : FFunc := .mk c67 (.n U (.n U (.n U (.n U (.n U (.n U .e .e) .e) (.n U .e .e)) (.n U (.n U .e .e) (.n U .e .e))) (.n U (.n U (.n U .e .e) (.n U .e .e)) (.n U (.n U .e .e) (.n U .e .e)))) (.n U (.n U (.n U (.n U .e .e) (.n U .e .e)) (.n U (.n U .e .e) (.n U .e .e))) (.n U (.n U (.n U .e .e) (.n U .e .e)) (.n U (.n U .e .e) (.n U .e .e))))) [.o,(.l .o)] [.tmp (.r (.l .o))]
theorem e67 : @compF Try.prog (Gl.none Try.prog) Try.f67 2 = f67 := by kernel_rfl
theorem o67 : okF Try.prog Try.f67 = true := by kernel_rfl
theorem g67 : Try.prog.funcs[(67 : Nat)]? = some Try.f67 := by kernel_rfl
noncomputable def c69 : FCode := (.seq (.run [.go (.box 62 (.tmp .o)) (.r .o),
 .go (.box 62 (.tmp (.l .o))) (.l (.l .o)),
 .go (.move (.con (.bool false))) (.r (.l .o))]) (.seq (.run [.go (.fieldAddr 0 (.tmp (.r .o))) (.l (.r .o)),
 .go (.load1 (.tmp (.l (.r .o)))) (.r (.r .o)),
 .go (.fieldAddr 1 (.tmp (.r .o))) (.l (.l (.l .o))),
 .go (.load1 (.tmp (.l (.l (.l .o))))) (.r (.l (.l .o))),
 .go (.bin .leq 3 (.tmp (.r (.r .o))) (.tmp (.r (.l (.l .o))))) (.l (.r (.l .o))),
 .go (.move (.tmp (.l (.r (.l .o))))) (.r (.r (.l .o))),
 .gd (.r (.r (.l .o))) true (.call (.con (.func (.func 100) ⟨[]⟩ ⟨[]⟩)) []) (.l (.l (.r .o))),
 .gd (.r (.r (.l .o))) true (.makeFunc 103 [] [(.tmp (.l (.l .o))),(.tmp (.r .o))]) (.r (.l (.r .o))),
 .gd (.r (.r (.l .o))) true (.call (.con (.func (.func 102) ⟨[]⟩ ⟨[]⟩)) [(.tmp (.l (.l (.r .o)))),(.tmp (.r (.l (.r .o))))]) (.l (.r (.r .o))),
 .go (.pick (.tmp (.r (.r (.l .o)))) (.tmp (.l (.r (.r .o)))) (.con (.bool false))) (.r (.r (.r .o))),
 .go (.move (.tmp (.r (.r (.r .o))))) (.r (.l .o))]) .ret))
noncomputable def f69 : FFunc := .mk c69 (.n U (.n U (.n U (.n U .e .e) (.n U .e .e)) (.n U (.n U .e .e) (.n U .e .e))) (.n U (.n U (.n U .e .e) (.n U .e .e)) (.n U (.n U .e .e) (.n U .e .e)))) [.o,(.l .o)] [.tmp (.r (.l .o))]
theorem e69 : @compF Try.prog (Gl.none Try.prog) Try.f69 2 = f69 := by kernel_rfl
theorem o69 : okF Try.prog Try.f69 = true := by kernel_rfl
theorem g69 : Try.prog.funcs[(69 : Nat)]? = some Try.f69 := by kernel_rfl
noncomputable def c70 : FCode := (.seq (.run [.go (.alloc 62 [(.int .i64 (.ofNat 0)),(.int .i64 (.ofNat 0))]) .o]) (.seq (.run [.go (.build [(.int .i64 (.ofNat 0)),(.int .i64 (.ofNat 0))] [(0,1,(.con (.int .i64 (.ofNat 0)))),(1,1,(.con (.int .i64 (.ofNat 40000))))]) (.l .o),
 .un (.store 2 (.tmp .o) (.tmp (.l .o)))]) .ret))
noncomputable def f70 : FFunc := .mk c70 (.n U (.n U .e .e) .e) [] [.many .o 2]
theorem e70 : @compF Try.prog (Gl.none Try.prog) Try.f70 0 = f70 := by kernel_rfl
theorem o70 : okF Try.prog Try.f70 = true := by kernel_rfl
theorem g70 : Try.prog.funcs[(70 : Nat)]? = some Try.f70 := by kernel_rfl
noncomputable def c71 : FCode := (.seq (.run [.go (.box 96 (.tmp .o)) (.r .o),
 .go (.box 62 (.tmp (.l .o))) (.l (.l .o)),
 .go (.alloc 22 [(.slice none 0 0)]) (.r (.l .o)),
 .go (.alloc 3 [(.int .i64 (.ofNat 0))]) (.l (.r .o)),
 .go (.alloc 29 [(.int .i64 (.ofNat 0))]) (.r (.r .o))]) (.scope (.seq (.run [.un (.store 1 (.tmp (.r (.r .o))) (.con (.int .i64 (.ofNat 7))))]) (.seq .skip (.seq (.seq (.run [.go (.fieldAddr 0 (.tmp (.r .o))) (.l (.r (.l .o))),
 .go (.fieldAddr 2 (.tmp (.l (.r (.l .o))))) (.r (.r (.l .o))),
 .go (.load1 (.tmp (.r (.r (.l .o))))) (.l (.l (.r .o))),
 .go (.len 0 (.tmp (.l (.l (.r .o))))) (.r (.l (.r .o))),
 .go (.bin .add 3 (.tmp (.r (.l (.r .o)))) (.con (.int .i64 (.ofNat 1)))) (.l (.r (.r .o))),
 .go (.move (.con (.int .i64 (.ofNat 0)))) (.r (.r (.r .o)))]) (.block 0 (.loop (.seq (.run [.go (.bin .lss 3 (.tmp (.r (.r (.r .o)))) (.tmp (.l (.r (.r .o))))) (.l (.l (.l (.l .o))))]) (.seq (.cond (.tmp (.l (.l (.l (.l .o))))) .skip (.exit 0)) (.seq (.block 1 (.seq (.run [.go (.move (.tmp (.r (.r (.r .o))))) (.r (.l (.l (.l .o)))),
 .go (.alloc 3 [(.int .i64 (.ofNat 0))]) (.l (.l (.l .o))),
 .un (.store 1 (.tmp (.l (.l (.l .o)))) (.tmp (.r (.l (.l (.l .o))))))]) (.seq (.run [.go (.loadN 21 (.tmp (.r .o))) (.l (.r (.l (.l .o)))),
 .go (.load1 (.tmp (.l (.l (.l .o))))) (.r (.r (.l (.l .o)))),
 .go (.call (.con (.func (.func 104) ⟨[]⟩ ⟨[]⟩)) [(.tmp (.l (.r (.l (.l .o))))),(.tmp (.r (.r (.l (.l .o)))))]) (.l (.l (.r (.l .o))))]) (.block 2 (.rangeFunc (.tmp (.l (.l (.r (.l .o))))) [(.r (.l (.r (.l .o))))] (rfA Try.f71 0) (rfB Try.f71 0) (.run [.go (.alloc 93 [(.int .i64 (.ofNat 0)),(.int .i64 (.ofNat 0)),(.int .i64 (.ofNat 0)),(.int .i64 (.ofNat 0)),(.int .i64 (.ofNat 0)),(.int .i64 (.ofNat 0)),(.int .i64 (.ofNat 0)),(.int .i64 (.ofNat 0))]) (.r (.l (.l .o))),
 .un (.store 8 (.tmp (.r (.l (.l .o)))) (.tmp (.r (.l (.r (.l .o))))))]) (.block 3 (.seq (.run [.go (.loadN 8 (.tmp (.r (.l (.l .o))))) (.l (.r (.r (.l .o)))),
 .go (.fieldAddr 12 (.tmp (.r .o))) (.r (.r (.r (.l .o)))),
 .un (.store 8 (.tmp (.r (.r (.r (.l .o))))) (.tmp (.l (.r (.r (.l .o))))))]) (.seq (.run [.go (.loadN 21 (.tmp (.r .o))) (.l (.l (.l (.r .o)))),
 .go (.loadN 2 (.tmp (.l (.l .o)))) (.r (.l (.l (.r .o)))),
 .go (.call (.con (.func (.func 75) ⟨[]⟩ ⟨[]⟩)) [(.tmp (.l (.l (.l (.r .o))))),(.tmp (.r (.l (.l (.r .o)))))]) (.l (.r (.l (.r .o))))]) (.cond (.tmp (.l (.r (.l (.r .o))))) (.seq (.draw 9 [.go (.fieldAddr 0 (.tmp (.r .o))) (.r (.r (.l (.r .o)))),
 .go (.fieldAddr 2 (.tmp (.r (.r (.l (.r .o)))))) (.l (.l (.r (.r .o)))),
 .go (.load1 (.tmp (.l (.l (.r (.r .o)))))) (.r (.l (.r (.r .o)))),
 .go (.len 0 (.tmp (.r (.l (.r (.r .o)))))) (.l (.r (.r (.r .o)))),
 .go (.sliceSlow 93 (.tmp (.r (.l (.l .o)))) none (some (.tmp (.l (.r (.r (.r .o))))))) (.r (.r (.r (.r .o)))),
 .go (.load1 (.tmp (.l (.l (.l .o))))) (.l (.l (.l (.l (.l .o))))),
 .un (.store 1 (.tmp (.r (.l .o))) (.tmp (.r (.r (.r (.r .o)))))),
 .un (.store 1 (.tmp (.l (.r .o))) (.tmp (.l (.l (.l (.l (.l .o))))))),
 .un (.store 1 (.tmp (.r (.r .o))) (.con (.int .i64 (.ofNat 0))))] [.ok,.ok,.ok,.ok,.ok,.rd none (.load1 (.tmp (.l (.l (.l .o))))) (some (.l (.l (.l (.l (.l .o)))))) [7],.ok,.ok,.ok]) (.exit 0)) .skip))))))))) (.run [.go (.bin .add 3 (.tmp (.r (.r (.r .o)))) (.con (.int .i64 (.ofNat 1)))) (.r (.l (.l (.l (.l .o))))),
 .go (.move (.tmp (.r (.l (.l (.l (.l .o))))))) (.r (.r (.r .o)))]))))))) (.seq (.draw 6 [.go (.load1 (.tmp (.r (.l .o)))) (.l (.r (.l (.l (.l .o))))),
 .go (.load1 (.tmp (.l (.r .o)))) (.r (.r (.l (.l (.l .o))))),
 .go (.load1 (.tmp (.r (.r .o)))) (.l (.l (.r (.l (.l .o))))),
 .un (.store 1 (.tmp (.r (.l .o))) (.tmp (.l (.r (.l (.l (.l .o))))))),
 .un (.store 1 (.tmp (.l (.r .o))) (.tmp (.r (.r (.l (.l (.l .o))))))),
 .un (.store 1 (.tmp (.r (.r .o))) (.tmp (.l (.l (.r (.l (.l .o)))))))] [.ok,.rd none (.load1 (.tmp (.l (.r .o)))) (some (.r (.r (.l (.l (.l .o)))))) [4],.rd none (.load1 (.tmp (.r (.r .o)))) (some (.l (.l (.r (.l (.l .o)))))) [4,5],.ok,.ok,.ok]) .ret))))))
noncomputable def f71 : FFunc := .mk c71 (.n U (.n U (.n U (.n U (.n U (.n U .e .e) .e) (.n U .e .e)) (.n U (.n U (.n U .e .e) .e) (.n U .e .e))) (.n U (.n U (.n U (.n U .e .e) .e) (.n U .e .e)) (.n U (.n U .e .e) (.n U .e .e)))) (.n U (.n U (.n U (.n U (.n U .e .e) .e) (.n U .e .e)) (.n U (.n U .e .e) (.n U .e .e))) (.n U (.n U (.n U (.n U .e .e) .e) (.n U .e .e)) (.n U (.n U .e .e) (.n U .e .e))))) [.o,(.l .o)] [.one (.r (.l .o)),.one (.l (.r .o)),.one (.r (.r .o))]
theorem e71 : @compF Try.prog (Gl.none Try.prog) Try.f71 2 = f71 := by kernel_rfl
theorem o71 : okF Try.prog Try.f71 = true := by kernel_rfl
theorem g71 : Try.prog.funcs[(71 : Nat)]? = some Try.f71 := by kernel_rfl
noncomputable def c72 : FCode := (.seq (.run [.go (.box 34 (.tmp .o)) (.r .o),
 .go (.move (.con (.bool false))) (.r (.l .o))]) (.seq (.run [.go (.move (.tmp (.l .o))) (.l (.r .o)),
 .go (.len 0 (.tmp (.l (.r .o)))) (.r (.r .o)),
 .go (.fieldAddr 2 (.tmp (.r .o))) (.l (.l (.l .o))),
 .go (.load1 (.tmp (.l (.l (.l .o))))) (.r (.l (.l .o))),
 .go (.len 0 (.tmp (.r (.l (.l .o))))) (.l (.r (.l .o))),
 .go (.bin .eql 3 (.tmp (.r (.r .o))) (.tmp (.l (.r (.l .o))))) (.r (.r (.l .o))),
 .go (.move (.tmp (.r (.r (.l .o))))) (.l (.l (.r .o))),
 .gd (.l (.l (.r .o))) true (.move (.tmp (.l .o))) (.r (.l (.r .o))),
 .gd (.l (.l (.r .o))) true (.loadN 4 (.tmp (.r .o))) (.l (.r (.r .o))),
 .gd (.l (.l (.r .o))) true (.makeFunc 105 [(.tmp (.l (.r (.r .o))))] []) (.r (.r (.r .o))),
 .gd (.l (.l (.r .o))) true (.call (.con (.func (.func 86) ⟨[]⟩ ⟨[]⟩)) [(.tmp (.r (.l (.r .o)))),(.tmp (.r (.r (.r .o))))]) (.l (.l (.l (.l .o)))),
 .go (.pick (.tmp (.l (.l (.r .o)))) (.tmp (.l (.l (.l (.l .o))))) (.con (.bool false))) (.r (.l (.l (.l .o)))),
 .go (.move (.tmp (.r (.l (.l (.l .o)))))) (.r (.l .o))]) .ret))
noncomputable def f72 : FFunc := .mk c72 (.n U (.n U (.n U (.n U (.n U .e .e) .e) (.n U .e .e)) (.n U (.n U .e .e) (.n U .e .e))) (.n U (.n U (.n U (.n U .e .e) .e) (.n U .e .e)) (.n U (.n U .e .e) (.n U .e .e)))) [.o,(.l .o)] [.tmp (.r (.l .o))]
theorem e72 : @compF Try.prog (Gl.none Try.prog) Try.f72 2 = f72 := by kernel_rfl
theorem o72 : okF Try.prog Try.f72 = true := by kernel_rfl
theorem g72 : Try.prog.funcs[(72 : Nat)]? = some Try.f72 := by kernel_rfl
noncomputable def c73 : FCode := (.seq (.run [.go (.alloc 93 [(.int .i64 (.ofNat 0)),(.int .i64 (.ofNat 0)),(.int .i64 (.ofNat 0)),(.int .i64 (.ofNat 0)),(.int .i64 (.ofNat 0)),(.int .i64 (.ofNat 0)),(.int .i64 (.ofNat 0)),(.int .i64 (.ofNat 0))]) (.r .o)]) (.seq (.run [.go (.alloc 93 [(.int .i64 (.ofNat 0)),(.int .i64 (.ofNat 0)),(.int .i64 (.ofNat 0)),(.int .i64 (.ofNat 0)),(.int .i64 (.ofNat 0)),(.int .i64 (.ofNat 0)),(.int .i64 (.ofNat 0)),(.int .i64 (.ofNat 0))]) (.l (.l .o))]) (.seq (.run [.go (.sliceSlow 93 (.tmp (.l (.l .o))) none none) (.r (.l .o)),
 .go (.move (.tmp .o)) (.l (.r .o)),
 .go (.copy 1 (.tmp (.r (.l .o))) (.tmp (.l (.r .o)))) (.r (.r .o))]) (.seq (.run [.go (.loadN 8 (.tmp (.l (.l .o)))) (.l (.l (.l .o))),
 .un (.store 8 (.tmp (.r .o)) (.tmp (.l (.l (.l .o)))))]) .ret))))
noncomputable def f73 : FFunc := .mk c73 (.n U (.n U (.n U (.n U .e .e) .e) (.n U .e .e)) (.n U (.n U .e .e) (.n U .e .e))) [.o] [.many (.r .o) 8]
theorem e73 : @compF Try.prog (Gl.none Try.prog) Try.f73 1 = f73 := by kernel_rfl
theorem o73 : okF Try.prog Try.f73 = true := by kernel_rfl
theorem g73 : Try.prog.funcs[(73 : Nat)]? = some Try.f73 := by kernel_rfl
noncomputable def c74 : FCode := (.seq (.run [.go (.box 96 (.tmp .o)) (.l .o),
 .go (.move (.con (.int .i64 (.ofNat 0)))) (.r .o)]) (.seq (.run [.go (.move (.con (.int .i64 (.ofNat 0)))) (.l (.l .o))]) (.seq (.seq (.run [.go (.fieldAddr 0 (.tmp (.l .o))) (.r (.r .o)),
 .go (.fieldAddr 2 (.tmp (.r (.r .o)))) (.l (.l (.l .o))),
 .go (.load1 (.tmp (.l (.l (.l .o))))) (.r (.l (.l .o))),
 .go (.len 0 (.tmp (.r (.l (.l .o))))) (.l (.r (.l .o))),
 .go (.move (.con (.int .i64 (.ofNat 0)))) (.r (.r (.l .o)))]) (.block 0 (.loop (.seq (.run [.go (.bin .lss 3 (.tmp (.r (.r (.l .o)))) (.tmp (.l (.r (.l .o))))) (.l (.l (.r .o)))]) (.seq (.cond (.tmp (.l (.l (.r .o)))) .skip (.exit 0)) (.seq (.block 1 (.seq (.run [.go (.move (.tmp (.r (.r (.l .o))))) (.r (.l (.r .o))),
 .go (.indexAddr none 5 (.tmp (.r (.l (.l .o)))) (.tmp (.r (.r (.l .o))))) (.l (.r (.r .o))),
 .go (.loadN 5 (.tmp (.l (.r (.r .o))))) (.r (.r (.r .o))),
 .go (.alloc 74 [(.int .i64 (.ofNat 0)),(.int .i64 (.ofNat 0)),(.int .i64 (.ofNat 0)),(.int .i64 (.ofNat 0)),(.int .i64 (.ofNat 0))]) (.l (.r .o)),
 .go (.move (.tmp (.r (.l (.r .o))))) (.r (.l .o)),
 .un (.store 5 (.tmp (.l (.r .o))) (.tmp (.r (.r (.r .o)))))]) (.seq (.draw 7 [.go (.move (.tmp (.r (.l .o)))) (.l (.l (.l (.l .o)))),
 .go (.fieldAddr 12 (.tmp (.l .o))) (.r (.l (.l (.l .o)))),
 .go (.indexAddr (some 8) 1 (.tmp (.r (.l (.l (.l .o))))) (.tmp (.l (.l (.l (.l .o)))))) (.l (.r (.l (.l .o)))),
 .go (.load1 (.tmp (.l (.r (.l (.l .o)))))) (.r (.r (.l (.l .o)))),
 .go (.fieldAddr 1 (.tmp (.l (.r .o)))) (.l (.l (.r (.l .o)))),
 .go (.load1 (.tmp (.l (.l (.r (.l .o)))))) (.r (.l (.r (.l .o)))),
 .go (.bin .neq 3 (.tmp (.r (.r (.l (.l .o))))) (.tmp (.r (.l (.r (.l .o)))))) (.l (.r (.r (.l .o))))] [.ok,.ok,.ok,.ok,.ok,.ok,.ok]) (.cond (.tmp (.l (.r (.r (.l .o))))) (.run [.go (.move (.tmp (.l (.l .o)))) (.r (.r (.r (.l .o)))),
 .go (.bin .add 3 (.tmp (.r (.r (.r (.l .o))))) (.con (.int .i64 (.ofNat 1)))) (.l (.l (.l (.r .o)))),
 .go (.move (.tmp (.l (.l (.l (.r .o)))))) (.l (.l .o))]) .skip)))) (.run [.go (.bin .add 3 (.tmp (.r (.r (.l .o)))) (.con (.int .i64 (.ofNat 1)))) (.r (.l (.l (.r .o)))),
 .go (.move (.tmp (.r (.l (.l (.r .o)))))) (.r (.r (.l .o)))]))))))) (.seq (.run [.go (.move (.tmp (.l (.l .o)))) (.l (.r (.l (.r .o)))),
 .go (.move (.tmp (.l (.r (.l (.r .o)))))) (.r .o)]) .ret))))
noncomputable def f74 : FFunc := .mk c74 (.n U (.n U (.n U (.n U (.n U .e .e) (.n U .e .e)) (.n U (.n U .e .e) .e)) (.n U (.n U (.n U .e .e) (.n U .e .e)) (.n U (.n U .e .e) .e))) (.n U (.n U (.n U (.n U .e .e) (.n U .e .e)) (.n U (.n U .e .e) .e)) (.n U (.n U (.n U .e .e) .e) (.n U (.n U .e .e) .e)))) [.o] [.tmp (.r .o)]
theorem e74 : @compF Try.prog (Gl.none Try.prog) Try.f74 1 = f74 := by kernel_rfl
theorem o74 : okF Try.prog Try.f74 = true := by kernel_rfl
theorem g74 : Try.prog.funcs[(74 : Nat)]? = some Try.f74 := by kernel_rfl
noncomputable def c75 : FCode := (.seq (.run [.go (.box 96 (.tmp .o)) (.r .o),
 .go (.box 62 (.tmp (.l .o))) (.l (.l .o)),
 .go (.move (.con (.bool false))) (.r (.l .o))]) (.seq (.seq (.run [.go (.fieldAddr 0 (.tmp (.r .o))) (.r (.r .o)),
 .go (.fieldAddr 1 (.tmp (.r (.r .o)))) (.l (.l (.l .o))),
 .go (.load1 (.tmp (.l (.l (.l .o))))) (.r (.l (.l .o))),
 .go (.move (.con (.int .i64 (.ofNat 0)))) (.l (.r (.l .o)))]) (.block 0 (.loop (.seq (.run [.go (.bin .lss 3 (.tmp (.l (.r (.l .o)))) (.tmp (.r (.l (.l .o))))) (.r (.r (.l .o)))]) (.seq (.cond (.tmp (.r (.r (.l .o)))) .skip (.exit 0)) (.seq (.block 1 (.seq (.run [.go (.move (.tmp (.l (.r (.l .o))))) (.l (.l (.r .o))),
 .go (.move (.tmp (.l (.l (.r .o))))) (.l (.r .o))]) (.seq (.draw 12 [.go (.loadN 21 (.tmp (.r .o))) (.r (.l (.r .o))),
 .go (.move (.tmp (.l (.r .o)))) (.l (.r (.r .o))),
 .go (.call (.con (.func (.func 98) ⟨[]⟩ ⟨[]⟩)) [(.tmp (.r (.l (.r .o)))),(.tmp (.l (.r (.r .o))))]) (.r (.r (.r .o))),
 .go (.loadN 2 (.tmp (.l (.l .o)))) (.l (.l (.l (.l .o)))),
 .go (.call (.con (.func (.func 69) ⟨[]⟩ ⟨[]⟩)) [(.tmp (.r (.r (.r .o)))),(.tmp (.l (.l (.l (.l .o)))))]) (.r (.l (.l (.l .o)))),
 .go (.un .not (.tmp (.r (.l (.l (.l .o)))))) (.l (.r (.l (.l .o)))),
 .go (.move (.tmp (.l (.r (.l (.l .o)))))) (.r (.r (.l (.l .o)))),
 .gd (.r (.r (.l (.l .o)))) false (.loadN 21 (.tmp (.r .o))) (.l (.l (.r (.l .o)))),
 .gd (.r (.r (.l (.l .o)))) false (.move (.tmp (.l (.r .o)))) (.r (.l (.r (.l .o)))),
 .gd (.r (.r (.l (.l .o)))) false (.call (.con (.func (.func 67) ⟨[]⟩ ⟨[]⟩)) [(.tmp (.l (.l (.r (.l .o))))),(.tmp (.r (.l (.r (.l .o)))))]) (.l (.r (.r (.l .o)))),
 .gd (.r (.r (.l (.l .o)))) false (.un .not (.tmp (.l (.r (.r (.l .o)))))) (.r (.r (.r (.l .o)))),
 .go (.pick (.tmp (.r (.r (.l (.l .o))))) (.con (.bool true)) (.tmp (.r (.r (.r (.l .o)))))) (.l (.l (.l (.r .o))))] [.ok,.ok,.ok,.rd none (.loadN 2 (.tmp (.l (.l .o)))) (some (.l (.l (.l (.l .o))))) [0],.ok,.ok,.ok,.ok,.ok,.ok,.ok,.ok]) (.cond (.tmp (.l (.l (.l (.r .o))))) (.seq (.run [.go (.move (.con (.bool false))) (.r (.l .o))]) .ret) .skip)))) (.run [.go (.bin .add 3 (.tmp (.l (.r (.l .o)))) (.con (.int .i64 (.ofNat 1)))) (.r (.l (.l (.r .o)))),
 .go (.move (.tmp (.r (.l (.l (.r .o)))))) (.l (.r (.l .o)))]))))))) (.seq (.run [.go (.move (.con (.bool true))) (.r (.l .o))]) .ret)))
noncomputable def f75 : FFunc := .mk c75 (.n U (.n U (.n U (.n U (.n U .e .e) (.n U .e .e)) (.n U (.n U .e .e) .e)) (.n U (.n U (.n U .e .e) .e) (.n U (.n U .e .e) .e))) (.n U (.n U (.n U (.n U .e .e) (.n U .e .e)) (.n U (.n U .e .e) .e)) (.n U (.n U (.n U .e .e) .e) (.n U (.n U .e .e) .e)))) [.o,(.l .o)] [.tmp (.r (.l .o))]
theorem e75 : @compF Try.prog (Gl.none Try.prog) Try.f75 2 = f75 := by kernel_rfl
theorem o75 : okF Try.prog Try.f75 = true := by kernel_rfl
theorem g75 : Try.prog.funcs[(75 : Nat)]? = some Try.f75 := by kernel_rfl
noncomputable def c78 : FCode := (.seq (.run [.go (.move (.con (.bool false))) (.r (.l .o))]) (.seq (.seq (.run [.go (.move (.tmp .o)) (.l (.l (.l .o))),
 .go (.len 0 (.tmp (.l (.l (.l .o))))) (.r (.l (.l .o))),
 .go (.move (.con (.int .i64 (.ofNat 0)))) (.l (.r (.l .o)))]) (.block 0 (.loop (.seq (.run [.go (.bin .lss 3 (.tmp (.l (.r (.l .o)))) (.tmp (.r (.l (.l .o))))) (.r (.r (.l .o)))]) (.seq (.cond (.tmp (.r (.r (.l .o)))) .skip (.exit 0)) (.seq (.block 1 (.seq (.run [.go (.indexAddr none 1 (.tmp (.l (.l (.l .o)))) (.tmp (.l (.r (.l .o))))) (.l (.l (.r .o))),
 .go (.load1 (.tmp (.l (.l (.r .o))))) (.r (.l (.r .o))),
 .go (.move (.tmp (.r (.l (.r .o))))) (.r (.r .o))]) (.seq (.run [.go (.move (.tmp (.l .o))) (.l (.r (.r .o))),
 .go (.move (.tmp (.r (.r .o)))) (.r (.r (.r .o))),
 .go (.call (.tmp (.l (.r (.r .o)))) [(.tmp (.r (.r (.r .o))))]) (.l (.l (.l (.l .o)))),
 .go (.un .not (.tmp (.l (.l (.l (.l .o)))))) (.r (.l (.l (.l .o))))]) (.cond (.tmp (.r (.l (.l (.l .o))))) (.seq (.run [.go (.move (.con (.bool false))) (.r (.l .o))]) .ret) .skip)))) (.run [.go (.bin .add 3 (.tmp (.l (.r (.l .o)))) (.con (.int .i64 (.ofNat 1)))) (.l (.r (.l (.l .o)))),
 .go (.move (.tmp (.l (.r (.l (.l .o)))))) (.l (.r (.l .o)))]))))))) (.seq (.run [.go (.move (.con (.bool true))) (.r (.l .o))]) .ret)))
noncomputable def f78 : FFunc := .mk c78 (.n U (.n U (.n U (.n U (.n U .e .e) .e) (.n U .e .e)) (.n U (.n U (.n U .e .e) .e) (.n U .e .e))) (.n U (.n U (.n U (.n U .e .e) .e) (.n U .e .e)) (.n U (.n U .e .e) (.n U .e .e)))) [.o,(.l .o)] [.tmp (.r (.l .o))]
theorem e78 : @compF Try.prog (Gl.none Try.prog) Try.f78 2 = f78 := by kernel_rfl
theorem o78 : okF Try.prog Try.f78 = true := by kernel_rfl
theorem g78 : Try.prog.funcs[(78 : Nat)]? = some Try.f78 := by kernel_rfl
noncomputable def c79 : FCode := (.seq (.run [.go (.alloc 116 [(.int .i64 (.ofNat 0)),(.int .i64 (.ofNat 0))]) .o]) (.seq (.run [.go (.build [(.int .i64 (.ofNat 0)),(.int .i64 (.ofNat 0))] [(0,1,(.con (.int .i64 (.ofNat 0)))),(1,1,(.con (.int .i64 (.ofNat 10000))))]) (.l .o),
 .un (.store 2 (.tmp .o) (.tmp (.l .o)))]) .ret))
noncomputable def f79 : FFunc := .mk c79 (.n U (.n U .e .e) .e) [] [.many .o 2]
theorem e79 : @compF Try.prog (Gl.none Try.prog) Try.f79 0 = f79 := by kernel_rfl
theorem o79 : okF Try.prog Try.f79 = true := by kernel_rfl
theorem g79 : Try.prog.funcs[(79 : Nat)]? = some Try.f79 := by kernel_rfl
noncomputable def c80 : FCode := (.seq (.run [.go (.box 116 (.tmp .o)) (.r .o),
 .go (.move (.con (.bool false))) (.r (.l .o))]) (.seq (.run [.go (.fieldAddr 0 (.tmp (.r .o))) (.l (.r .o)),
 .go (.load1 (.tmp (.l (.r .o)))) (.r (.r .o)),
 .go (.move (.tmp (.l .o))) (.l (.l (.l .o))),
 .go (.bin .leq 3 (.tmp (.r (.r .o))) (.tmp (.l (.l (.l .o))))) (.r (.l (.l .o))),
 .go (.move (.tmp (.r (.l (.l .o))))) (.l (.r (.l .o))),
 .gd (.l (.r (.l .o))) true (.move (.tmp (.l .o))) (.r (.r (.l .o))),
 .gd (.l (.r (.l .o))) true (.fieldAddr 1 (.tmp (.r .o))) (.l (.l (.r .o))),
 .gd (.l (.r (.l .o))) true (.load1 (.tmp (.l (.l (.r .o))))) (.r (.l (.r .o))),
 .gd (.l (.r (.l .o))) true (.bin .leq 3 (.tmp (.r (.r (.l .o)))) (.tmp (.r (.l (.r .o))))) (.l (.r (.r .o))),
 .go (.pick (.tmp (.l (.r (.l .o)))) (.tmp (.l (.r (.r .o)))) (.con (.bool false))) (.r (.r (.r .o))),
 .go (.move (.tmp (.r (.r (.r .o))))) (.r (.l .o))]) .ret))
noncomputable def f80 : FFunc := .mk c80 (.n U (.n U (.n U (.n U .e .e) (.n U .e .e)) (.n U (.n U .e .e) (.n U .e .e))) (.n U (.n U (.n U .e .e) (.n U .e .e)) (.n U (.n U .e .e) (.n U .e .e)))) [.o,(.l .o)] [.tmp (.r (.l .o))]
theorem e80 : @compF Try.prog (Gl.none Try.prog) Try.f80 2 = f80 := by kernel_rfl
theorem o80 : okF Try.prog Try.f80 = true := by kernel_rfl
theorem g80 : Try.prog.funcs[(80 : Nat)]? = some Try.f80 := by kernel_rfl
noncomputable def c81 : FCode := (.seq (.run [.go (.alloc 116 [(.int .i64 (.ofNat 0)),(.int .i64 (.ofNat 0))]) .o]) (.seq (.run [.go (.build [(.int .i64 (.ofNat 0)),(.int .i64 (.ofNat 0))] [(0,1,(.con (.int .i64 (.ofNat 0)))),(1,1,(.con (.int .i64 (.ofNat 100000))))]) (.l .o),
 .un (.store 2 (.tmp .o) (.tmp (.l .o)))]) .ret))
noncomputable def f81 : FFunc := .mk c81 (.n U (.n U .e .e) .e) [] [.many .o 2]
theorem e81 : @compF Try.prog (Gl.none Try.prog) Try.f81 0 = f81 := by kernel_rfl
theorem o81 : okF Try.prog Try.f81 = true := by kernel_rfl
theorem g81 : Try.prog.funcs[(81 : Nat)]? = some Try.f81 := by kernel_rfl
noncomputable def c82 : FCode := (.seq (.run [.go (.move (.con (.int .i64 (.ofNat 0)))) (.r .o)]) (.seq (.run [.go (.move (.con (.int .i64 (.ofNat 0)))) (.l (.l .o))]) (.seq (.seq (.run [.go (.move (.tmp .o)) (.r (.r .o)),
 .go (.len 0 (.tmp (.r (.r .o)))) (.l (.l (.l .o))),
 .go (.move (.con (.int .i64 (.ofNat 0)))) (.r (.l (.l .o)))]) (.block 0 (.loop (.seq (.run [.go (.bin .lss 3 (.tmp (.r (.l (.l .o)))) (.tmp (.l (.l (.l .o))))) (.l (.r (.l .o)))]) (.seq (.cond (.tmp (.l (.r (.l .o)))) .skip (.exit 0)) (.seq (.block 1 (.seq (.run [.go (.indexAddr none 1 (.tmp (.r (.r .o))) (.tmp (.r (.l (.l .o))))) (.r (.r (.l .o))),
 .go (.load1 (.tmp (.r (.r (.l .o))))) (.l (.l (.r .o))),
 .go (.move (.tmp (.l (.l (.r .o))))) (.l (.r .o))]) (.run [.go (.move (.tmp (.l (.l .o)))) (.r (.l (.r .o))),
 .go (.move (.tmp (.l (.r .o)))) (.l (.r (.r .o))),
 .go (.bin .add 3 (.tmp (.r (.l (.r .o)))) (.tmp (.l (.r (.r .o))))) (.r (.r (.r .o))),
 .go (.move (.tmp (.r (.r (.r .o))))) (.l (.l .o))]))) (.run [.go (.bin .add 3 (.tmp (.r (.l (.l .o)))) (.con (.int .i64 (.ofNat 1)))) (.l (.l (.l (.l .o)))),
 .go (.move (.tmp (.l (.l (.l (.l .o)))))) (.r (.l (.l .o)))]))))))) (.seq (.run [.go (.move (.tmp (.l (.l .o)))) (.r (.l (.l (.l .o)))),
 .go (.move (.tmp (.r (.l (.l (.l .o)))))) (.r .o)]) .ret))))
noncomputable def f82 : FFunc := .mk c82 (.n U (.n U (.n U (.n U (.n U .e .e) .e) (.n U .e .e)) (.n U (.n U .e .e) (.n U .e .e))) (.n U (.n U (.n U (.n U .e .e) .e) (.n U .e .e)) (.n U (.n U .e .e) (.n U .e .e)))) [.o] [.tmp (.r .o)]
theorem e82 : @compF Try.prog (Gl.none Try.prog) Try.f82 1 = f82 := by kernel_rfl
theorem o82 : okF Try.prog Try.f82 = true := by kernel_rfl
theorem g82 : Try.prog.funcs[(82 : Nat)]? = some Try.f82 := by kernel_rfl
noncomputable def c83 : FCode := (.seq (.run [.go (.move (.con (.slice none 0 0))) (.r (.l .o))]) (.seq (.run [.go (.move (.tmp .o)) (.l (.r (.r .o))),
 .go (.call (.con (.func (.func 82) ⟨[]⟩ ⟨[]⟩)) [(.tmp (.l (.r (.r .o))))]) (.r (.r (.r .o))),
 .go (.move (.tmp (.l .o))) (.l (.l (.l (.l .o)))),
 .go (.move (.tmp (.r (.r (.r .o))))) (.l (.r .o)),
 .go (.move (.tmp (.l (.l (.l (.l .o)))))) (.r (.r .o))]) (.seq (.run [.go (.move (.con (.slice none 0 0))) (.l (.l (.l .o))),
 .go (.move (.con (.slice none 0 0))) (.r (.l (.l .o)))]) (.seq (.seq (.run [.go (.move (.tmp .o)) (.r (.l (.l (.l .o)))),
 .go (.len 0 (.tmp (.r (.l (.l (.l .o)))))) (.l (.r (.l (.l .o)))),
 .go (.move (.con (.int .i64 (.ofNat 0)))) (.r (.r (.l (.l .o))))]) (.block 0 (.loop (.seq (.run [.go (.bin .lss 3 (.tmp (.r (.r (.l (.l .o))))) (.tmp (.l (.r (.l (.l .o)))))) (.l (.l (.r (.l .o))))]) (.seq (.cond (.tmp (.l (.l (.r (.l .o))))) .skip (.exit 0)) (.seq (.block 1 (.seq (.run [.go (.indexAddr none 1 (.tmp (.r (.l (.l (.l .o))))) (.tmp (.r (.r (.l (.l .o)))))) (.r (.l (.r (.l .o)))),
 .go (.load1 (.tmp (.r (.l (.r (.l .o)))))) (.l (.r (.r (.l .o)))),
 .go (.move (.tmp (.l (.r (.r (.l .o)))))) (.r (.r (.l .o)))]) (.seq (.run [.go (.move (.tmp (.l .o))) (.r (.r (.r (.l .o)))),
 .go (.move (.tmp (.r (.r (.l .o))))) (.l (.l (.l (.r .o)))),
 .go (.bin .mul 3 (.tmp (.r (.r (.r (.l .o))))) (.tmp (.l (.l (.l (.r .o)))))) (.r (.l (.l (.r .o)))),
 .go (.move (.tmp (.l (.r .o)))) (.l (.r (.l (.r .o)))),
 .go (.bin .quo 3 (.tmp (.r (.l (.l (.r .o))))) (.tmp (.l (.r (.l (.r .o)))))) (.r (.r (.l (.r .o)))),
 .go (.move (.tmp (.r (.r (.l (.r .o)))))) (.l (.l (.r .o)))]) (.seq (.run [.go (.move (.tmp (.r (.r .o)))) (.l (.l (.r (.r .o)))),
 .go (.move (.tmp (.l (.l (.r .o))))) (.r (.l (.r (.r .o)))),
 .go (.bin .sub 3 (.tmp (.l (.l (.r (.r .o))))) (.tmp (.r (.l (.r (.r .o)))))) (.l (.r (.r (.r .o)))),
 .go (.move (.tmp (.l (.r (.r (.r .o)))))) (.r (.r .o))]) (.seq (.run [.go (.move (.tmp (.l (.l (.l .o))))) (.r (.r (.r (.r .o)))),
 .go (.move (.tmp (.l (.l (.r .o))))) (.l (.l (.l (.l (.l .o))))),
 .go (.buildSlice 3 1 [(.int .i64 (.ofNat 0))] [(0,1,(.tmp (.l (.l (.l (.l (.l .o)))))))]) (.r (.l (.l (.l (.l .o))))),
 .go (.append 3 1 8 (.tmp (.r (.r (.r (.r .o))))) (.tmp (.r (.l (.l (.l (.l .o))))))) (.l (.r (.l (.l (.l .o))))),
 .go (.move (.tmp (.l (.r (.l (.l (.l .o))))))) (.l (.l (.l .o)))]) (.run [.go (.move (.tmp (.r (.l (.l .o))))) (.r (.r (.l (.l (.l .o))))),
 .go (.move (.tmp (.l (.l (.r .o))))) (.l (.l (.r (.l (.l .o))))),
 .go (.bin .add 3 (.tmp (.l (.l (.r (.l (.l .o)))))) (.con (.int .i64 (.ofNat 1)))) (.r (.l (.r (.l (.l .o))))),
 .go (.move (.tmp (.l (.r .o)))) (.l (.r (.r (.l (.l .o))))),
 .go (.bin .mul 3 (.tmp (.r (.l (.r (.l (.l .o)))))) (.tmp (.l (.r (.r (.l (.l .o))))))) (.r (.r (.r (.l (.l .o))))),
 .go (.move (.tmp (.l .o))) (.l (.l (.l (.r (.l .o))))),
 .go (.move (.tmp (.r (.r (.l .o))))) (.r (.l (.l (.r (.l .o))))),
 .go (.bin .mul 3 (.tmp (.l (.l (.l (.r (.l .o)))))) (.tmp (.r (.l (.l (.r (.l .o))))))) (.l (.r (.l (.r (.l .o))))),
 .go (.bin .sub 3 (.tmp (.r (.r (.r (.l (.l .o)))))) (.tmp (.l (.r (.l (.r (.l .o))))))) (.r (.r (.l (.r (.l .o))))),
 .go (.buildSlice 3 1 [(.int .i64 (.ofNat 0))] [(0,1,(.tmp (.r (.r (.l (.r (.l .o)))))))]) (.l (.l (.r (.r (.l .o))))),
 .go (.append 3 1 8 (.tmp (.r (.r (.l (.l (.l .o)))))) (.tmp (.l (.l (.r (.r (.l .o))))))) (.r (.l (.r (.r (.l .o))))),
 .go (.move (.tmp (.r (.l (.r (.r (.l .o))))))) (.r (.l (.l .o)))])))))) (.run [.go (.bin .add 3 (.tmp (.r (.r (.l (.l .o))))) (.con (.int .i64 (.ofNat 1)))) (.l (.r (.r (.r (.l .o))))),
 .go (.move (.tmp (.l (.r (.r (.r (.l .o))))))) (.r (.r (.l (.l .o))))]))))))) (.seq (.seq (.run [.go (.move (.tmp (.r (.r .o)))) (.r (.r (.r (.r (.l .o))))),
 .go (.move (.con (.int .i64 (.ofNat 0)))) (.l (.l (.l (.l (.r .o)))))]) (.block 2 (.loop (.seq (.run [.go (.bin .lss 3 (.tmp (.l (.l (.l (.l (.r .o)))))) (.tmp (.r (.r (.r (.r (.l .o))))))) (.r (.l (.l (.l (.r .o)))))]) (.seq (.cond (.tmp (.r (.l (.l (.l (.r .o)))))) .skip (.exit 2)) (.seq (.block 3 (.seq (.draw 9 [.go (.move (.tmp (.r (.l (.l .o))))) (.l (.r (.l (.l (.r .o))))),
 .go (.move (.tmp (.r (.l (.l .o))))) (.r (.r (.l (.l (.r .o))))),
 .go (.indexAddr none 1 (.tmp (.r (.r (.l (.l (.r .o)))))) (.con (.int .i64 (.ofNat 0)))) (.l (.l (.r (.l (.r .o))))),
 .go (.load1 (.tmp (.l (.l (.r (.l (.r .o))))))) (.r (.l (.r (.l (.r .o))))),
 .go (.move (.tmp (.r (.l (.l .o))))) (.l (.r (.r (.l (.r .o))))),
 .go (.slice 3 1 (.tmp (.l (.r (.r (.l (.r .o)))))) (some (.con (.int .i64 (.ofNat 1)))) none) (.r (.r (.r (.l (.r .o))))),
 .go (.call (.con (.func (.func 107) ⟨[]⟩ ⟨[]⟩)) [(.tmp (.r (.l (.r (.l (.r .o)))))),(.tmp (.r (.r (.r (.l (.r .o))))))]) (.l (.l (.l (.r (.r .o))))),
 .go (.call (.con (.func (.func 106) ⟨[]⟩ ⟨[]⟩)) [(.tmp (.l (.r (.l (.l (.r .o)))))),(.tmp (.l (.l (.l (.r (.r .o))))))]) (.r (.l (.l (.r (.r .o))))),
 .go (.move (.tmp (.r (.l (.l (.r (.r .o))))))) (.r (.l (.r .o)))] [.ok,.ok,.ok,.ok,.ok,.ok,.ok,.ok,.ok]) (.seq (.run [.go (.move (.tmp (.l (.l (.l .o))))) (.l (.r (.l (.r (.r .o))))),
 .go (.move (.tmp (.r (.l (.r .o))))) (.r (.r (.l (.r (.r .o))))),
 .go (.indexAddr none 1 (.tmp (.l (.r (.l (.r (.r .o)))))) (.tmp (.r (.r (.l (.r (.r .o))))))) (.l (.l (.r (.r (.r .o))))),
 .go (.load1 (.tmp (.l (.l (.r (.r (.r .o))))))) (.r (.l (.r (.r (.r .o))))),
 .go (.bin .add 3 (.tmp (.r (.l (.r (.r (.r .o)))))) (.con (.int .i64 (.ofNat 1)))) (.l (.r (.r (.r (.r .o))))),
 .go (.indexAddr none 1 (.tmp (.l (.r (.l (.r (.r .o)))))) (.tmp (.r (.r (.l (.r (.r .o))))))) (.r (.r (.r (.r (.r .o))))),
 .un (.store 1 (.tmp (.r (.r (.r (.r (.r .o)))))) (.tmp (.l (.r (.r (.r (.r .o)))))))]) (.run [.go (.move (.tmp (.r (.l (.l .o))))) (.l (.l (.l (.l (.l (.l .o)))))),
 .go (.move (.tmp (.r (.l (.r .o))))) (.r (.l (.l (.l (.l (.l .o)))))),
 .go (.indexAddr none 1 (.tmp (.l (.l (.l (.l (.l (.l .o))))))) (.tmp (.r (.l (.l (.l (.l (.l .o)))))))) (.l (.r (.l (.l (.l (.l .o)))))),
 .go (.load1 (.tmp (.l (.r (.l (.l (.l (.l .o)))))))) (.r (.r (.l (.l (.l (.l .o)))))),
 .go (.move (.tmp (.l (.r .o)))) (.l (.l (.r (.l (.l (.l .o)))))),
 .go (.bin .add 3 (.tmp (.r (.r (.l (.l (.l (.l .o))))))) (.tmp (.l (.l (.r (.l (.l (.l .o)))))))) (.r (.l (.r (.l (.l (.l .o)))))),
 .go (.indexAddr none 1 (.tmp (.l (.l (.l (.l (.l (.l .o))))))) (.tmp (.r (.l (.l (.l (.l (.l .o)))))))) (.l (.r (.r (.l (.l (.l .o)))))),
 .un (.store 1 (.tmp (.l (.r (.r (.l (.l (.l .o))))))) (.tmp (.r (.l (.r (.l (.l (.l .o))))))))])))) (.run [.go (.bin .add 3 (.tmp (.l (.l (.l (.l (.r .o)))))) (.con (.int .i64 (.ofNat 1)))) (.r (.r (.r (.l (.l (.l .o)))))),
 .go (.move (.tmp (.r (.r (.r (.l (.l (.l .o)))))))) (.l (.l (.l (.l (.r .o)))))]))))))) (.seq (.run [.go (.move (.tmp (.l (.l (.l .o))))) (.l (.l (.l (.r (.l (.l .o)))))),
 .go (.move (.tmp (.l (.l (.l (.r (.l (.l .o)))))))) (.r (.l .o))]) .ret))))))
noncomputable def f83 : FFunc := .mk c83 (.n U (.n U (.n U (.n U (.n U (.n U (.n U .e .e) .e) (.n U .e .e)) (.n U (.n U (.n U .e .e) .e) (.n U .e .e))) (.n U (.n U (.n U (.n U .e .e) .e) (.n U .e .e)) (.n U (.n U .e .e) (.n U .e .e)))) (.n U (.n U (.n U (.n U (.n U .e .e) .e) (.n U .e .e)) (.n U (.n U .e .e) (.n U .e .e))) (.n U (.n U (.n U (.n U .e .e) .e) (.n U .e .e)) (.n U (.n U .e .e) (.n U .e .e))))) (.n U (.n U (.n U (.n U (.n U (.n U .e .e) .e) (.n U .e .e)) (.n U (.n U .e .e) (.n U .e .e))) (.n U (.n U (.n U (.n U .e .e) .e) (.n U .e .e)) (.n U (.n U .e .e) (.n U .e .e)))) (.n U (.n U (.n U (.n U (.n U .e .e) .e) (.n U .e .e)) (.n U (.n U .e .e) (.n U .e .e))) (.n U (.n U (.n U (.n U .e .e) .e) (.n U .e .e)) (.n U (.n U .e .e) (.n U .e .e)))))) [.o,(.l .o)] [.tmp (.r (.l .o))]
theorem e83 : @compF Try.prog (Gl.none Try.prog) Try.f83 2 = f83 := by kernel_rfl
theorem o83 : okF Try.prog Try.f83 = true := by kernel_rfl
theorem g83 : Try.prog.funcs[(83 : Nat)]? = some Try.f83 := by kernel_rfl
noncomputable def c84 : FCode := (.seq (.run [.go (.alloc 62 [(.int .i64 (.ofNat 0)),(.int .i64 (.ofNat 0))]) .o]) (.seq (.run [.go (.build [(.int .i64 (.ofNat 0)),(.int .i64 (.ofNat 0))] [(0,1,(.con (.int .i64 (.ofNat 1)))),(1,1,(.con (.int .i64 (.ofNat 4))))]) (.l .o),
 .un (.store 2 (.tmp .o) (.tmp (.l .o)))]) .ret))
noncomputable def f84 : FFunc := .mk c84 (.n U (.n U .e .e) .e) [] [.many .o 2]
theorem e84 : @compF Try.prog (Gl.none Try.prog) Try.f84 0 = f84 := by kernel_rfl
theorem o84 : okF Try.prog Try.f84 = true := by kernel_rfl
theorem g84 : Try.prog.funcs[(84 : Nat)]? = some Try.f84 := by kernel_rfl
noncomputable def c85 : FCode := (.seq (.run [.go (.box 62 (.tmp .o)) (.r .o),
 .go (.move (.con (.bool false))) (.r (.l .o))]) (.seq (.run [.go (.fieldAddr 0 (.tmp (.r .o))) (.l (.r .o)),
 .go (.load1 (.tmp (.l (.r .o)))) (.r (.r .o)),
 .go (.move (.tmp (.l .o))) (.l (.l (.l .o))),
 .go (.bin .leq 3 (.tmp (.r (.r .o))) (.tmp (.l (.l (.l .o))))) (.r (.l (.l .o))),
 .go (.move (.tmp (.r (.l (.l .o))))) (.l (.r (.l .o))),
 .gd (.l (.r (.l .o))) true (.move (.tmp (.l .o))) (.r (.r (.l .o))),
 .gd (.l (.r (.l .o))) true (.fieldAddr 1 (.tmp (.r .o))) (.l (.l (.r .o))),
 .gd (.l (.r (.l .o))) true (.load1 (.tmp (.l (.l (.r .o))))) (.r (.l (.r .o))),
 .gd (.l (.r (.l .o))) true (.bin .leq 3 (.tmp (.r (.r (.l .o)))) (.tmp (.r (.l (.r .o))))) (.l (.r (.r .o))),
 .go (.pick (.tmp (.l (.r (.l .o)))) (.tmp (.l (.r (.r .o)))) (.con (.bool false))) (.r (.r (.r .o))),
 .go (.move (.tmp (.r (.r (.r .o))))) (.r (.l .o))]) .ret))
noncomputable def f85 : FFunc := .mk c85 (.n U (.n U (.n U (.n U .e .e) (.n U .e .e)) (.n U (.n U .e .e) (.n U .e .e))) (.n U (.n U (.n U .e .e) (.n U .e .e)) (.n U (.n U .e .e) (.n U .e .e)))) [.o,(.l .o)] [.tmp (.r (.l .o))]
theorem e85 : @compF Try.prog (Gl.none Try.prog) Try.f85 2 = f85 := by kernel_rfl
theorem o85 : okF Try.prog Try.f85 = true := by kernel_rfl
theorem g85 : Try.prog.funcs[(85 : Nat)]? = some Try.f85 := by kernel_rfl
noncomputable def c86 : FCode := (.seq (.run [.go (.move (.con (.bool false))) (.r (.l .o))]) (.seq (.seq (.run [.go (.move (.tmp .o)) (.l (.l (.l .o))),
 .go (.len 0 (.tmp (.l (.l (.l .o))))) (.r (.l (.l .o))),
 .go (.move (.con (.int .i64 (.ofNat 0)))) (.l (.r (.l .o)))]) (.block 0 (.loop (.seq (.run [.go (.bin .lss 3 (.tmp (.l (.r (.l .o)))) (.tmp (.r (.l (.l .o))))) (.r (.r (.l .o)))]) (.seq (.cond (.tmp (.r (.r (.l .o)))) .skip (.exit 0)) (.seq (.block 1 (.seq (.run [.go (.indexAddr none 1 (.tmp (.l (.l (.l .o)))) (.tmp (.l (.r (.l .o))))) (.l (.l (.r .o))),
 .go (.load1 (.tmp (.l (.l (.r .o))))) (.r (.l (.r .o))),
 .go (.move (.tmp (.r (.l (.r .o))))) (.r (.r .o))]) (.seq (.run [.go (.move (.tmp (.l .o))) (.l (.r (.r .o))),
 .go (.move (.tmp (.r (.r .o)))) (.r (.r (.r .o))),
 .go (.call (.tmp (.l (.r (.r .o)))) [(.tmp (.r (.r (.r .o))))]) (.l (.l (.l (.l .o)))),
 .go (.un .not (.tmp (.l (.l (.l (.l .o)))))) (.r (.l (.l (.l .o))))]) (.cond (.tmp (.r (.l (.l (.l .o))))) (.seq (.run [.go (.move (.con (.bool false))) (.r (.l .o))]) .ret) .skip)))) (.run [.go (.bin .add 3 (.tmp (.l (.r (.l .o)))) (.con (.int .i64 (.ofNat 1)))) (.l (.r (.l (.l .o)))),
 .go (.move (.tmp (.l (.r (.l (.l .o)))))) (.l (.r (.l .o)))]))))))) (.seq (.run [.go (.move (.con (.bool true))) (.r (.l .o))]) .ret)))
noncomputable def f86 : FFunc := .mk c86 (.n U (.n U (.n U (.n U (.n U .e .e) .e) (.n U .e .e)) (.n U (.n U (.n U .e .e) .e) (.n U .e .e))) (.n U (.n U (.n U (.n U .e .e) .e) (.n U .e .e)) (.n U (.n U .e .e) (.n U .e .e)))) [.o,(.l .o)] [.tmp (.r (.l .o))]
theorem e86 : @compF Try.prog (Gl.none Try.prog) Try.f86 2 = f86 := by kernel_rfl
theorem o86 : okF Try.prog Try.f86 = true := by kernel_rfl
theorem g86 : Try.prog.funcs[(86 : Nat)]? = some Try.f86 := by kernel_rfl
noncomputable def c87 : FCode := (.seq (.run [.go (.alloc 62 [(.int .i64 (.ofNat 0)),(.int .i64 (.ofNat 0))]) .o]) (.seq (.run [.go (.build [(.int .i64 (.ofNat 0)),(.int .i64 (.ofNat 0))] [(0,1,(.con (.int .i64 (.ofNat 0)))),(1,1,(.con (.int .i64 (.ofNat 10000))))]) (.l .o),
 .un (.store 2 (.tmp .o) (.tmp (.l .o)))]) .ret))
noncomputable def f87 : FFunc := .mk c87 (.n U (.n U .e .e) .e) [] [.many .o 2]
theorem e87 : @compF Try.prog (Gl.none Try.prog) Try.f87 0 = f87 := by kernel_rfl
theorem o87 : okF Try.prog Try.f87 = true := by kernel_rfl
theorem g87 : Try.prog.funcs[(87 : Nat)]? = some Try.f87 := by kernel_rfl
noncomputable def c88 : FCode := (.seq (.run [.go (.move (.con (.bool false))) (.r (.l .o))]) (.seq (.seq (.run [.go (.move (.tmp .o)) (.l (.l (.l .o))),
 .go (.len 0 (.tmp (.l (.l (.l .o))))) (.r (.l (.l .o))),
 .go (.move (.con (.int .i64 (.ofNat 0)))) (.l (.r (.l .o)))]) (.block 0 (.loop (.seq (.run [.go (.bin .lss 3 (.tmp (.l (.r (.l .o)))) (.tmp (.r (.l (.l .o))))) (.r (.r (.l .o)))]) (.seq (.cond (.tmp (.r (.r (.l .o)))) .skip (.exit 0)) (.seq (.block 1 (.seq (.run [.go (.indexAddr none 5 (.tmp (.l (.l (.l .o)))) (.tmp (.l (.r (.l .o))))) (.l (.l (.r .o))),
 .go (.loadN 5 (.tmp (.l (.l (.r .o))))) (.r (.l (.r .o))),
 .go (.alloc 74 [(.int .i64 (.ofNat 0)),(.int .i64 (.ofNat 0)),(.int .i64 (.ofNat 0)),(.int .i64 (.ofNat 0)),(.int .i64 (.ofNat 0))]) (.r (.r .o)),
 .un (.store 5 (.tmp (.r (.r .o))) (.tmp (.r (.l (.r .o)))))]) (.seq (.run [.go (.move (.tmp (.l .o))) (.l (.r (.r .o))),
 .go (.loadN 5 (.tmp (.r (.r .o)))) (.r (.r (.r .o))),
 .go (.call (.tmp (.l (.r (.r .o)))) [(.tmp (.r (.r (.r .o))))]) (.l (.l (.l (.l .o)))),
 .go (.un .not (.tmp (.l (.l (.l (.l .o)))))) (.r (.l (.l (.l .o))))]) (.cond (.tmp (.r (.l (.l (.l .o))))) (.seq (.run [.go (.move (.con (.bool false))) (.r (.l .o))]) .ret) .skip)))) (.run [.go (.bin .add 3 (.tmp (.l (.r (.l .o)))) (.con (.int .i64 (.ofNat 1)))) (.l (.r (.l (.l .o)))),
 .go (.move (.tmp (.l (.r (.l (.l .o)))))) (.l (.r (.l .o)))]))))))) (.seq (.run [.go (.move (.con (.bool true))) (.r (.l .o))]) .ret)))
noncomputable def f88 : FFunc := .mk c88 (.n U (.n U (.n U (.n U (.n U .e .e) .e) (.n U .e .e)) (.n U (.n U (.n U .e .e) .e) (.n U .e .e))) (.n U (.n U (.n U (.n U .e .e) .e) (.n U .e .e)) (.n U (.n U .e .e) (.n U .e .e)))) [.o,(.l .o)] [.tmp (.r (.l .o))]
theorem e88 : @compF Try.prog (Gl.none Try.prog) Try.f88 2 = f88 := by kernel_rfl
theorem o88 : okF Try.prog Try.f88 = true := by kernel_rfl
theorem g88 : Try.prog.funcs[(88 : Nat)]? = some Try.f88 := by kernel_rfl
noncomputable def c89 : FCode := (.seq (.run [.go (.box 34 (.tmp .o)) (.r .o),
 .go (.box 74 (.tmp (.l .o))) (.l (.l .o)),
 .go (.move (.con (.bool false))) (.r (.l .o))]) (.seq (.draw 23 [.go (.loadN 4 (.tmp (.r .o))) (.l (.r .o)),
 .go (.fieldAddr 0 (.tmp (.l (.l .o)))) (.r (.r .o)),
 .go (.load1 (.tmp (.r (.r .o)))) (.l (.l (.l .o))),
 .go (.call (.con (.func (.func 108) ⟨[]⟩ ⟨[]⟩)) [(.tmp (.l (.r .o))),(.tmp (.l (.l (.l .o))))]) (.r (.l (.l .o))),
 .go (.move (.tmp (.r (.l (.l .o))))) (.l (.r (.l .o))),
 .gd (.l (.r (.l .o))) true (.loadN 4 (.tmp (.r .o))) (.r (.r (.l .o))),
 .gd (.l (.r (.l .o))) true (.fieldAddr 1 (.tmp (.l (.l .o)))) (.l (.l (.r .o))),
 .gd (.l (.r (.l .o))) true (.load1 (.tmp (.l (.l (.r .o))))) (.r (.l (.r .o))),
 .gd (.l (.r (.l .o))) true (.call (.con (.func (.func 105) ⟨[]⟩ ⟨[]⟩)) [(.tmp (.r (.r (.l .o)))),(.tmp (.r (.l (.r .o))))]) (.l (.r (.r .o))),
 .go (.pick (.tmp (.l (.r (.l .o)))) (.tmp (.l (.r (.r .o)))) (.con (.bool false))) (.r (.r (.r .o))),
 .go (.move (.tmp (.r (.r (.r .o))))) (.l (.l (.l (.l .o)))),
 .gd (.l (.l (.l (.l .o)))) true (.call (.con (.func (.func 109) ⟨[]⟩ ⟨[]⟩)) []) (.r (.l (.l (.l .o)))),
 .gd (.l (.l (.l (.l .o)))) true (.fieldAddr 2 (.tmp (.l (.l .o)))) (.l (.r (.l (.l .o)))),
 .gd (.l (.l (.l (.l .o)))) true (.load1 (.tmp (.l (.r (.l (.l .o)))))) (.r (.r (.l (.l .o)))),
 .gd (.l (.l (.l (.l .o)))) true (.call (.con (.func (.func 85) ⟨[]⟩ ⟨[]⟩)) [(.tmp (.r (.l (.l (.l .o))))),(.tmp (.r (.r (.l (.l .o)))))]) (.l (.l (.r (.l .o)))),
 .go (.pick (.tmp (.l (.l (.l (.l .o))))) (.tmp (.l (.l (.r (.l .o))))) (.con (.bool false))) (.r (.l (.r (.l .o)))),
 .go (.move (.tmp (.r (.l (.r (.l .o)))))) (.l (.r (.r (.l .o)))),
 .gd (.l (.r (.r (.l .o)))) true (.fieldAddr 3 (.tmp (.l (.l .o)))) (.r (.r (.r (.l .o)))),
 .gd (.l (.r (.r (.l .o)))) true (.loadN 2 (.tmp (.r (.r (.r (.l .o)))))) (.l (.l (.l (.r .o)))),
 .gd (.l (.r (.r (.l .o)))) true (.call (.con (.func (.func 87) ⟨[]⟩ ⟨[]⟩)) []) (.r (.l (.l (.r .o)))),
 .gd (.l (.r (.r (.l .o)))) true (.call (.con (.func (.func 69) ⟨[]⟩ ⟨[]⟩)) [(.tmp (.l (.l (.l (.r .o))))),(.tmp (.r (.l (.l (.r .o)))))]) (.l (.r (.l (.r .o)))),
 .go (.pick (.tmp (.l (.r (.r (.l .o))))) (.tmp (.l (.r (.l (.r .o))))) (.con (.bool false))) (.r (.r (.l (.r .o)))),
 .go (.move (.tmp (.r (.r (.l (.r .o)))))) (.r (.l .o))] [.ok,.ok,.ok,.ok,.ok,.ok,.ok,.ok,.ok,.ok,.ok,.ok,.ok,.rd (some ((.l (.l (.l (.l .o)))),true)) (.load1 (.tmp (.l (.r (.l (.l .o)))))) (some (.r (.r (.l (.l .o))))) [9],.ok,.ok,.ok,.ok,.rd (some ((.l (.r (.r (.l .o)))),true)) (.loadN 2 (.tmp (.r (.r (.r (.l .o)))))) (some (.l (.l (.l (.r .o))))) [20],.ok,.ok,.ok,.ok]) .ret))
noncomputable def f89 : FFunc := .mk c89 (.n U (.n U (.n U (.n U (.n U .e .e) (.n U .e .e)) (.n U (.n U .e .e) .e)) (.n U (.n U (.n U .e .e) (.n U .e .e)) (.n U (.n U .e .e) .e))) (.n U (.n U (.n U (.n U .e .e) (.n U .e .e)) (.n U (.n U .e .e) .e)) (.n U (.n U (.n U .e .e) (.n U .e .e)) (.n U (.n U .e .e) .e)))) [.o,(.l .o)] [.tmp (.r (.l .o))]
theorem e89 : @compF Try.prog (Gl.none Try.prog) Try.f89 2 = f89 := by kernel_rfl
theorem o89 : okF Try.prog Try.f89 = true := by kernel_rfl
theorem g89 : Try.prog.funcs[(89 : Nat)]? = some Try.f89 := by kernel_rfl
noncomputable def c90 : FCode := (.seq (.run [.go (.move (.con (.bool false))) (.r (.l .o))]) (.seq (.seq (.run [.go (.move (.tmp .o)) (.l (.l (.l .o))),
 .go (.len 0 (.tmp (.l (.l (.l .o))))) (.r (.l (.l .o))),
 .go (.move (.con (.int .i64 (.ofNat 0)))) (.l (.r (.l .o)))]) (.block 0 (.loop (.seq (.run [.go (.bin .lss 3 (.tmp (.l (.r (.l .o)))) (.tmp (.r (.l (.l .o))))) (.r (.r (.l .o)))]) (.seq (.cond (.tmp (.r (.r (.l .o)))) .skip (.exit 0)) (.seq (.block 1 (.seq (.run [.go (.indexAddr none 2 (.tmp (.l (.l (.l .o)))) (.tmp (.l (.r (.l .o))))) (.l (.l (.r .o))),
 .go (.loadN 2 (.tmp (.l (.l (.r .o))))) (.r (.l (.r .o))),
 .go (.alloc 76 [(.int .i64 (.ofNat 0)),(.int .i64 (.ofNat 0))]) (.r (.r .o)),
 .un (.store 2 (.tmp (.r (.r .o))) (.tmp (.r (.l (.r .o)))))]) (.seq (.run [.go (.move (.tmp (.l .o))) (.l (.r (.r .o))),
 .go (.loadN 2 (.tmp (.r (.r .o)))) (.r (.r (.r .o))),
 .go (.call (.tmp (.l (.r (.r .o)))) [(.tmp (.r (.r (.r .o))))]) (.l (.l (.l (.l .o)))),
 .go (.un .not (.tmp (.l (.l (.l (.l .o)))))) (.r (.l (.l (.l .o))))]) (.cond (.tmp (.r (.l (.l (.l .o))))) (.seq (.run [.go (.move (.con (.bool false))) (.r (.l .o))]) .ret) .skip)))) (.run [.go (.bin .add 3 (.tmp (.l (.r (.l .o)))) (.con (.int .i64 (.ofNat 1)))) (.l (.r (.l (.l .o)))),
 .go (.move (.tmp (.l (.r (.l (.l .o)))))) (.l (.r (.l .o)))]))))))) (.seq (.run [.go (.move (.con (.bool true))) (.r (.l .o))]) .ret)))
noncomputable def f90 : FFunc := .mk c90 (.n U (.n U (.n U (.n U (.n U .e .e) .e) (.n U .e .e)) (.n U (.n U (.n U .e .e) .e) (.n U .e .e))) (.n U (.n U (.n U (.n U .e .e) .e) (.n U .e .e)) (.n U (.n U .e .e) (.n U .e .e)))) [.o,(.l .o)] [.tmp (.r (.l .o))]
theorem e90 : @compF Try.prog (Gl.none Try.prog) Try.f90 2 = f90 := by kernel_rfl
theorem o90 : okF Try.prog Try.f90 = true := by kernel_rfl
theorem g90 : Try.prog.funcs[(90 : Nat)]? = some Try.f90 := by kernel_rfl
noncomputable def c91 : FCode := (.seq (.run [.go (.box 34 (.tmp .o)) (.r .o),
 .go (.box 76 (.tmp (.l .o))) (.l (.l .o)),
 .go (.move (.con (.bool false))) (.r (.l .o))]) (.seq (.run [.go (.loadN 4 (.tmp (.r .o))) (.r (.r .o)),
 .go (.makeFunc 110 [(.tmp (.r (.r .o)))] []) (.l (.l (.l .o))),
 .go (.move (.tmp (.l (.l (.l .o))))) (.l (.r .o))]) (.seq (.run [.go (.move (.tmp (.l (.r .o)))) (.r (.l (.l .o))),
 .go (.fieldAddr 0 (.tmp (.l (.l .o)))) (.l (.r (.l .o))),
 .go (.load1 (.tmp (.l (.r (.l .o))))) (.r (.r (.l .o))),
 .go (.call (.tmp (.r (.l (.l .o)))) [(.tmp (.r (.r (.l .o))))]) (.l (.l (.r .o))),
 .go (.move (.tmp (.l (.l (.r .o))))) (.r (.l (.r .o))),
 .gd (.r (.l (.r .o))) true (.move (.tmp (.l (.r .o)))) (.l (.r (.r .o))),
 .gd (.r (.l (.r .o))) true (.fieldAddr 1 (.tmp (.l (.l .o)))) (.r (.r (.r .o))),
 .gd (.r (.l (.r .o))) true (.load1 (.tmp (.r (.r (.r .o))))) (.l (.l (.l (.l .o)))),
 .gd (.r (.l (.r .o))) true (.call (.tmp (.l (.r (.r .o)))) [(.tmp (.l (.l (.l (.l .o)))))]) (.r (.l (.l (.l .o)))),
 .go (.pick (.tmp (.r (.l (.r .o)))) (.tmp (.r (.l (.l (.l .o))))) (.con (.bool false))) (.l (.r (.l (.l .o)))),
 .go (.move (.tmp (.l (.r (.l (.l .o)))))) (.r (.r (.l (.l .o)))),
 .gd (.r (.r (.l (.l .o)))) true (.fieldAddr 0 (.tmp (.l (.l .o)))) (.l (.l (.r (.l .o)))),
 .gd (.r (.r (.l (.l .o)))) true (.load1 (.tmp (.l (.l (.r (.l .o)))))) (.r (.l (.r (.l .o)))),
 .gd (.r (.r (.l (.l .o)))) true (.fieldAddr 1 (.tmp (.l (.l .o)))) (.l (.r (.r (.l .o)))),
 .gd (.r (.r (.l (.l .o)))) true (.load1 (.tmp (.l (.r (.r (.l .o)))))) (.r (.r (.r (.l .o)))),
 .gd (.r (.r (.l (.l .o)))) true (.bin .neq 3 (.tmp (.r (.l (.r (.l .o))))) (.tmp (.r (.r (.r (.l .o)))))) (.l (.l (.l (.r .o)))),
 .go (.pick (.tmp (.r (.r (.l (.l .o))))) (.tmp (.l (.l (.l (.r .o))))) (.con (.bool false))) (.r (.l (.l (.r .o)))),
 .go (.move (.tmp (.r (.l (.l (.r .o)))))) (.r (.l .o))]) .ret)))
noncomputable def f91 : FFunc := .mk c91 (.n U (.n U (.n U (.n U (.n U .e .e) (.n U .e .e)) (.n U (.n U .e .e) .e)) (.n U (.n U (.n U .e .e) .e) (.n U (.n U .e .e) .e))) (.n U (.n U (.n U (.n U .e .e) (.n U .e .e)) (.n U (.n U .e .e) .e)) (.n U (.n U (.n U .e .e) .e) (.n U (.n U .e .e) .e)))) [.o,(.l .o)] [.tmp (.r (.l .o))]
theorem e91 : @compF Try.prog (Gl.none Try.prog) Try.f91 2 = f91 := by kernel_rfl
theorem o91 : okF Try.prog Try.f91 = true := by kernel_rfl
theorem g91 : Try.prog.funcs[(91 : Nat)]? = some Try.f91 := by kernel_rfl
noncomputable def c92 : FCode := (.seq (.run [.go (.box 34 (.tmp .o)) (.l .o),
 .go (.move (.con (.bool false))) (.r .o)]) (.seq (.run [.go (.alloc 128 [(.int .i64 (.ofNat 0)),(.int .i64 (.ofNat 0)),(.int .i64 (.ofNat 0)),(.int .i64 (.ofNat 0))]) (.l (.l .o))]) (.seq (.seq (.run [.go (.fieldAddr 2 (.tmp (.l .o))) (.r (.r .o)),
 .go (.load1 (.tmp (.r (.r .o)))) (.l (.l (.l .o))),
 .go (.len 0 (.tmp (.l (.l (.l .o))))) (.r (.l (.l .o))),
 .go (.move (.con (.int .i64 (.ofNat 0)))) (.l (.r (.l .o)))]) (.block 0 (.loop (.seq (.run [.go (.bin .lss 3 (.tmp (.l (.r (.l .o)))) (.tmp (.r (.l (.l .o))))) (.r (.r (.l .o)))]) (.seq (.cond (.tmp (.r (.r (.l .o)))) .skip (.exit 0)) (.seq (.block 1 (.seq (.run [.go (.indexAddr none 5 (.tmp (.l (.l (.l .o)))) (.tmp (.l (.r (.l .o))))) (.l (.l (.r .o))),
 .go (.loadN 5 (.tmp (.l (.l (.r .o))))) (.r (.l (.r .o))),
 .go (.alloc 74 [(.int .i64 (.ofNat 0)),(.int .i64 (.ofNat 0)),(.int .i64 (.ofNat 0)),(.int .i64 (.ofNat 0)),(.int .i64 (.ofNat 0))]) (.l (.r .o)),
 .un (.store 5 (.tmp (.l (.r .o))) (.tmp (.r (.l (.r .o)))))]) (.draw 9 [.go (.fieldAddr 0 (.tmp (.l (.r .o)))) (.l (.r (.r .o))),
 .go (.load1 (.tmp (.l (.r (.r .o))))) (.r (.r (.r .o))),
 .go (.indexAddr (some 4) 1 (.tmp (.l (.l .o))) (.tmp (.r (.r (.r .o))))) (.l (.l (.l (.l .o)))),
 .go (.load1 (.tmp (.l (.l (.l (.l .o)))))) (.r (.l (.l (.l .o)))),
 .go (.fieldAddr 2 (.tmp (.l (.r .o)))) (.l (.r (.l (.l .o)))),
 .go (.load1 (.tmp (.l (.r (.l (.l .o)))))) (.r (.r (.l (.l .o)))),
 .go (.bin .add 3 (.tmp (.r (.l (.l (.l .o))))) (.tmp (.r (.r (.l (.l .o)))))) (.l (.l (.r (.l .o)))),
 .go (.indexAddr (some 4) 1 (.tmp (.l (.l .o))) (.tmp (.r (.r (.r .o))))) (.r (.l (.r (.l .o)))),
 .un (.store 1 (.tmp (.r (.l (.r (.l .o))))) (.tmp (.l (.l (.r (.l .o))))))] [.ok,.ok,.ok,.ok,.ok,.ok,.ok,.ok,.ok]))) (.run [.go (.bin .add 3 (.tmp (.l (.r (.l .o)))) (.con (.int .i64 (.ofNat 1)))) (.l (.r (.r (.l .o)))),
 .go (.move (.tmp (.l (.r (.r (.l .o)))))) (.l (.r (.l .o)))]))))))) (.seq (.run [.go (.fieldAddr 0 (.tmp (.l .o))) (.r (.r (.r (.l .o)))),
 .go (.load1 (.tmp (.r (.r (.r (.l .o)))))) (.l (.l (.l (.r .o)))),
 .go (.len 0 (.tmp (.l (.l (.l (.r .o)))))) (.r (.l (.l (.r .o)))),
 .go (.sliceSlow 128 (.tmp (.l (.l .o))) none (some (.tmp (.r (.l (.l (.r .o))))))) (.l (.r (.l (.r .o)))),
 .go (.call (.con (.func (.func 86) ⟨[]⟩ ⟨[]⟩)) [(.tmp (.l (.r (.l (.r .o))))),(.con (.func (.func 111) ⟨[]⟩ ⟨[]⟩))]) (.r (.r (.l (.r .o)))),
 .go (.move (.tmp (.r (.r (.l (.r .o)))))) (.r .o)]) .ret))))
noncomputable def f92 : FFunc := .mk c92 (.n U (.n U (.n U (.n U (.n U .e .e) (.n U .e .e)) (.n U (.n U .e .e) .e)) (.n U (.n U (.n U .e .e) (.n U .e .e)) (.n U (.n U .e .e) .e))) (.n U (.n U (.n U (.n U .e .e) (.n U .e .e)) (.n U (.n U .e .e) .e)) (.n U (.n U (.n U .e .e) (.n U .e .e)) (.n U (.n U .e .e) .e)))) [.o] [.tmp (.r .o)]
theorem e92 : @compF Try.prog (Gl.none Try.prog) Try.f92 1 = f92 := by kernel_rfl
theorem o92 : okF Try.prog Try.f92 = true := by kernel_rfl
theorem g92 : Try.prog.funcs[(92 : Nat)]? = some Try.f92 := by kernel_rfl
noncomputable def c93 : FCode := (.seq (.run [.go (.move (.con (.slice none 0 0))) (.r .o)]) (.seq (.run [.go (.move (.tmp .o)) (.l (.l .o)),
 .go (.call (.con (.func (.func 112) ⟨[]⟩ ⟨[]⟩)) [(.con (.slice none 0 0)),(.tmp (.l (.l .o)))]) (.r (.l .o)),
 .go (.move (.tmp (.r (.l .o)))) (.r .o)]) .ret))
noncomputable def f93 : FFunc := .mk c93 (.n U (.n U (.n U .e .e) .e) (.n U (.n U .e .e) .e)) [.o] [.tmp (.r .o)]
theorem e93 : @compF Try.prog (Gl.none Try.prog) Try.f93 1 = f93 := by kernel_rfl
theorem o93 : okF Try.prog Try.f93 = true := by kernel_rfl
theorem g93 : Try.prog.funcs[(93 : Nat)]? = some Try.f93 := by kernel_rfl
noncomputable def c94 : FCode := (.seq (.run [.go (.box 96 (.tmp .o)) (.l (.l .o)),
 .go (.box 93 (.tmp (.l .o))) (.r (.l .o)),
 .go (.box 3 (.tmp (.r .o))) (.l (.r .o)),
 .go (.move (.con .nilFunc)) (.r (.r .o))]) (.seq (.run [.go (.makeFunc 113 [] [(.tmp (.l (.l .o))),(.tmp (.r (.l .o))),(.tmp (.l (.r .o)))]) (.l (.l (.l .o))),
 .go (.move (.tmp (.l (.l (.l .o))))) (.r (.r .o))]) .ret))
noncomputable def f94 : FFunc := .mk c94 (.n U (.n U (.n U (.n U .e .e) .e) (.n U .e .e)) (.n U (.n U .e .e) (.n U .e .e))) [.o,(.l .o),(.r .o)] [.tmp (.r (.r .o))]
theorem e94 : @compF Try.prog (Gl.none Try.prog) Try.f94 3 = f94 := by kernel_rfl
theorem o94 : okF Try.prog Try.f94 = true := by kernel_rfl
theorem g94 : Try.prog.funcs[(94 : Nat)]? = some Try.f94 := by kernel_rfl
noncomputable def c95 : FCode := (.seq (.run [.go (.box 96 (.tmp .o)) (.r .o),
 .go (.alloc 62 [(.int .i64 (.ofNat 0)),(.int .i64 (.ofNat 0))]) (.r (.l .o))]) (.seq (.run [.go (.alloc 62 [(.int .i64 (.ofNat 0)),(.int .i64 (.ofNat 0))]) (.l (.r .o))]) (.seq (.seq (.run [.go (.loadN 21 (.tmp (.r .o))) (.l (.l (.l .o))),
 .go (.fieldAddr 4 (.tmp (.r .o))) (.r (.l (.l .o))),
 .go (.loadN 8 (.tmp (.r (.l (.l .o))))) (.l (.r (.l .o))),
 .go (.move (.tmp (.l .o))) (.r (.r (.l .o))),
 .go (.call (.con (.func (.func 94) ⟨[]⟩ ⟨[]⟩)) [(.tmp (.l (.l (.l .o)))),(.tmp (.l (.r (.l .o)))),(.tmp (.r (.r (.l .o))))]) (.l (.l (.r .o)))]) (.block 0 (.rangeFunc (.tmp (.l (.l (.r .o)))) [(.r (.l (.r .o)))] (rfA Try.f95 0) (rfB Try.f95 0) (.run [.go (.move (.tmp (.r (.l (.r .o))))) (.r (.r .o))]) (.block 1 (.draw 10 [.go (.loadN 2 (.tmp (.l (.r .o)))) (.l (.r (.r .o))),
 .go (.fieldAddr 0 (.tmp (.r .o))) (.r (.r (.r .o))),
 .go (.fieldAddr 2 (.tmp (.r (.r (.r .o))))) (.l (.l (.l (.l .o)))),
 .go (.load1 (.tmp (.l (.l (.l (.l .o)))))) (.r (.l (.l (.l .o)))),
 .go (.move (.tmp (.r (.r .o)))) (.l (.r (.l (.l .o)))),
 .go (.indexAddr none 5 (.tmp (.r (.l (.l (.l .o))))) (.tmp (.l (.r (.l (.l .o)))))) (.r (.r (.l (.l .o)))),
 .go (.fieldAddr 3 (.tmp (.r (.r (.l (.l .o)))))) (.l (.l (.r (.l .o)))),
 .go (.loadN 2 (.tmp (.l (.l (.r (.l .o)))))) (.r (.l (.r (.l .o)))),
 .go (.call (.con (.func (.func 114) ⟨[]⟩ ⟨[]⟩)) [(.tmp (.l (.r (.r .o)))),(.tmp (.r (.l (.r (.l .o)))))]) (.l (.r (.r (.l .o)))),
 .un (.store 2 (.tmp (.l (.r .o))) (.tmp (.l (.r (.r (.l .o))))))] [.ok,.ok,.ok,.ok,.ok,.ok,.ok,.ok,.ok,.ok]))))) (.seq (.run [.go (.loadN 2 (.tmp (.l (.r .o)))) (.r (.r (.r (.l .o)))),
 .un (.store 2 (.tmp (.r (.l .o))) (.tmp (.r (.r (.r (.l .o))))))]) .ret))))
noncomputable def f95 : FFunc := .mk c95 (.n U (.n U (.n U (.n U (.n U .e .e) .e) (.n U (.n U .e .e) .e)) (.n U (.n U (.n U .e .e) .e) (.n U (.n U .e .e) .e))) (.n U (.n U (.n U (.n U .e .e) .e) (.n U (.n U .e .e) .e)) (.n U (.n U (.n U .e .e) .e) (.n U (.n U .e .e) .e)))) [.o,(.l .o)] [.many (.r (.l .o)) 2]
theorem e95 : @compF Try.prog (Gl.none Try.prog) Try.f95 2 = f95 := by kernel_rfl
theorem o95 : okF Try.prog Try.f95 = true := by kernel_rfl
theorem g95 : Try.prog.funcs[(95 : Nat)]? = some Try.f95 := by kernel_rfl
noncomputable def c96 : FCode := (.seq (.run [.go (.box 96 (.tmp .o)) (.l (.l .o)),
 .go (.box 106 (.tmp (.r .o))) (.l (.r .o)),
 .go (.alloc 62 [(.int .i64 (.ofNat 0)),(.int .i64 (.ofNat 0))]) (.r (.r .o))]) (.seq (.run [.go (.alloc 62 [(.int .i64 (.ofNat 0)),(.int .i64 (.ofNat 0))]) (.l (.l (.l .o))),
 .go (.alloc 62 [(.int .i64 (.ofNat 0)),(.int .i64 (.ofNat 0))]) (.r (.l (.l .o)))]) (.seq (.seq (.run [.go (.loadN 21 (.tmp (.l (.l .o)))) (.r (.l (.r .o))),
 .go (.fieldAddr 4 (.tmp (.l (.l .o)))) (.l (.r (.r .o))),
 .go (.loadN 8 (.tmp (.l (.r (.r .o))))) (.r (.r (.r .o))),
 .go (.move (.tmp (.l .o))) (.l (.l (.l (.l .o)))),
 .go (.call (.con (.func (.func 94) ⟨[]⟩ ⟨[]⟩)) [(.tmp (.r (.l (.r .o)))),(.tmp (.r (.r (.r .o)))),(.tmp (.l (.l (.l (.l .o)))))]) (.r (.l (.l (.l .o))))]) (.block 0 (.rangeFunc (.tmp (.r (.l (.l (.l .o))))) [(.l (.r (.l (.l .o))))] (rfA Try.f96 0) (rfB Try.f96 0) (.run [.go (.move (.tmp (.l (.r (.l (.l .o)))))) (.l (.r (.l .o)))]) (.block 1 (.seq (.run [.go (.fieldAddr 0 (.tmp (.l (.l .o)))) (.r (.r (.l (.l .o)))),
 .go (.fieldAddr 2 (.tmp (.r (.r (.l (.l .o)))))) (.l (.l (.r (.l .o)))),
 .go (.load1 (.tmp (.l (.l (.r (.l .o)))))) (.r (.l (.r (.l .o)))),
 .go (.move (.tmp (.l (.r (.l .o))))) (.l (.r (.r (.l .o)))),
 .go (.indexAddr none 5 (.tmp (.r (.l (.r (.l .o))))) (.tmp (.l (.r (.r (.l .o)))))) (.r (.r (.r (.l .o)))),
 .go (.fieldAddr 3 (.tmp (.r (.r (.r (.l .o)))))) (.l (.l (.l (.r .o)))),
 .go (.loadN 2 (.tmp (.l (.l (.l (.r .o)))))) (.r (.l (.l (.r .o)))),
 .go (.alloc 62 [(.int .i64 (.ofNat 0)),(.int .i64 (.ofNat 0))]) (.r (.r (.l .o))),
 .un (.store 2 (.tmp (.r (.r (.l .o)))) (.tmp (.r (.l (.l (.r .o))))))]) (.seq (.run [.go (.load1 (.tmp (.l (.r .o)))) (.l (.r (.l (.r .o)))),
 .go (.move (.tmp (.l (.r (.l .o))))) (.r (.r (.l (.r .o)))),
 .go (.call (.tmp (.l (.r (.l (.r .o))))) [(.tmp (.r (.r (.l (.r .o)))))]) (.l (.l (.r (.r .o))))]) (.cond (.tmp (.l (.l (.r (.r .o))))) (.run [.go (.loadN 2 (.tmp (.l (.l (.l .o))))) (.r (.l (.r (.r .o)))),
 .go (.loadN 2 (.tmp (.r (.r (.l .o))))) (.l (.r (.r (.r .o)))),
 .go (.call (.con (.func (.func 114) ⟨[]⟩ ⟨[]⟩)) [(.tmp (.r (.l (.r (.r .o))))),(.tmp (.l (.r (.r (.r .o)))))]) (.r (.r (.r (.r .o)))),
 .un (.store 2 (.tmp (.l (.l (.l .o)))) (.tmp (.r (.r (.r (.r .o))))))]) (.run [.go (.loadN 2 (.tmp (.r (.l (.l .o))))) (.l (.l (.l (.l (.l .o))))),
 .go (.loadN 2 (.tmp (.r (.r (.l .o))))) (.r (.l (.l (.l (.l .o))))),
 .go (.call (.con (.func (.func 114) ⟨[]⟩ ⟨[]⟩)) [(.tmp (.l (.l (.l (.l (.l .o)))))),(.tmp (.r (.l (.l (.l (.l .o))))))]) (.l (.r (.l (.l (.l .o))))),
 .un (.store 2 (.tmp (.r (.l (.l .o)))) (.tmp (.l (.r (.l (.l (.l .o)))))))])))))))) (.seq (.run [.go (.fieldAddr 0 (.tmp (.l (.l .o)))) (.r (.r (.l (.l (.l .o))))),
 .go (.fieldAddr 0 (.tmp (.r (.r (.l (.l (.l .o))))))) (.l (.l (.r (.l (.l .o))))),
 .go (.load1 (.tmp (.l (.l (.r (.l (.l .o))))))) (.r (.l (.r (.l (.l .o))))),
 .go (.move (.tmp (.l .o))) (.l (.r (.r (.l (.l .o))))),
 .go (.indexAddr none 1 (.tmp (.r (.l (.r (.l (.l .o)))))) (.tmp (.l (.r (.r (.l (.l .o))))))) (.r (.r (.r (.l (.l .o))))),
 .go (.load1 (.tmp (.r (.r (.r (.l (.l .o))))))) (.l (.l (.l (.r (.l .o))))),
 .go (.move (.tmp (.l (.l (.l (.r (.l .o))))))) (.l (.l (.r .o)))]) (.seq (.draw 17 [.go (.fieldAddr 0 (.tmp (.l (.l (.l .o))))) (.r (.l (.l (.r (.l .o))))),
 .go (.load1 (.tmp (.r (.l (.l (.r (.l .o))))))) (.l (.r (.l (.r (.l .o))))),
 .go (.move (.tmp (.l (.l (.r .o))))) (.r (.r (.l (.r (.l .o))))),
 .go (.fieldAddr 1 (.tmp (.r (.l (.l .o))))) (.l (.l (.r (.r (.l .o))))),
 .go (.load1 (.tmp (.l (.l (.r (.r (.l .o))))))) (.r (.l (.r (.r (.l .o))))),
 .go (.bin .sub 3 (.tmp (.r (.r (.l (.r (.l .o)))))) (.tmp (.r (.l (.r (.r (.l .o))))))) (.l (.r (.r (.r (.l .o))))),
 .go (.mm true [(.tmp (.l (.r (.l (.r (.l .o)))))),(.tmp (.l (.r (.r (.r (.l .o))))))]) (.r (.r (.r (.r (.l .o))))),
 .go (.fieldAddr 1 (.tmp (.l (.l (.l .o))))) (.l (.l (.l (.l (.r .o))))),
 .go (.load1 (.tmp (.l (.l (.l (.l (.r .o))))))) (.r (.l (.l (.l (.r .o))))),
 .go (.move (.tmp (.l (.l (.r .o))))) (.l (.r (.l (.l (.r .o))))),
 .go (.fieldAddr 0 (.tmp (.r (.l (.l .o))))) (.r (.r (.l (.l (.r .o))))),
 .go (.load1 (.tmp (.r (.r (.l (.l (.r .o))))))) (.l (.l (.r (.l (.r .o))))),
 .go (.bin .sub 3 (.tmp (.l (.r (.l (.l (.r .o)))))) (.tmp (.l (.l (.r (.l (.r .o))))))) (.r (.l (.r (.l (.r .o))))),
 .go (.buildSlice 3 1 [(.int .i64 (.ofNat 0))] [(0,1,(.tmp (.r (.l (.r (.l (.r .o)))))))]) (.l (.r (.r (.l (.r .o))))),
 .go (.call (.con (.func (.func 115) ⟨[]⟩ ⟨[]⟩)) [(.tmp (.r (.l (.l (.l (.r .o)))))),(.tmp (.l (.r (.r (.l (.r .o))))))]) (.r (.r (.r (.l (.r .o))))),
 .go (.build [(.int .i64 (.ofNat 0)),(.int .i64 (.ofNat 0))] [(0,1,(.tmp (.r (.r (.r (.r (.l .o))))))),(1,1,(.tmp (.r (.r (.r (.l (.r .o)))))))]) (.l (.l (.l (.r (.r .o))))),
 .un (.store 2 (.tmp (.r (.r .o))) (.tmp (.l (.l (.l (.r (.r .o)))))))] [.ok,.rd none (.load1 (.tmp (.r (.l (.l (.r (.l .o))))))) (some (.l (.r (.l (.r (.l .o)))))) [14,15],.ok,.ok,.rd none (.load1 (.tmp (.l (.l (.r (.r (.l .o))))))) (some (.r (.l (.r (.r (.l .o)))))) [14,15],.ok,.rd none (.mm true [(.tmp (.l (.r (.l (.r (.l .o)))))),(.tmp (.l (.r (.r (.r (.l .o))))))]) (some (.r (.r (.r (.r (.l .o)))))) [14,15],.ok,.rd none (.load1 (.tmp (.l (.l (.l (.l (.r .o))))))) (some (.r (.l (.l (.l (.r .o)))))) [14],.ok,.ok,.ok,.ok,.ok,.ok,.ok,.ok]) .ret)))))
noncomputable def f96 : FFunc := .mk c96 (.n U (.n U (.n U (.n U (.n U (.n U .e .e) (.n U .e .e)) (.n U (.n U .e .e) (.n U .e .e))) (.n U (.n U (.n U .e .e) (.n U .e .e)) (.n U (.n U .e .e) .e))) (.n U (.n U (.n U (.n U .e .e) (.n U .e .e)) (.n U (.n U .e .e) .e)) (.n U (.n U (.n U .e .e) (.n U .e .e)) (.n U (.n U .e .e) .e)))) (.n U (.n U (.n U (.n U (.n U .e .e) (.n U .e .e)) (.n U (.n U .e .e) .e)) (.n U (.n U (.n U .e .e) (.n U .e .e)) (.n U (.n U .e .e) .e))) (.n U (.n U (.n U (.n U .e .e) (.n U .e .e)) (.n U (.n U .e .e) .e)) (.n U (.n U (.n U .e .e) (.n U .e .e)) (.n U (.n U .e .e) .e))))) [.o,(.l .o),(.r .o)] [.many (.r (.r .o)) 2]
theorem e96 : @compF Try.prog (Gl.none Try.prog) Try.f96 3 = f96 := by kernel_rfl
theorem o96 : okF Try.prog Try.f96 = true := by kernel_rfl
theorem g96 : Try.prog.funcs[(96 : Nat)]? = some Try.f96 := by kernel_rfl
noncomputable def c97 : FCode := (.seq (.run [.go (.move (.con (.bool false))) (.l (.l .o))]) (.seq (.run [.go (.move (.tmp .o)) (.r (.l .o)),
 .go (.load1 (.tmp (.l .o))) (.l (.r .o)),
 .go (.bin .eql 3 (.tmp (.r (.l .o))) (.tmp (.l (.r .o)))) (.r (.r .o)),
 .go (.move (.tmp (.r (.r .o)))) (.l (.l .o))]) .ret))
noncomputable def f97 : FFunc := .mk c97 (.n U (.n U (.n U .e .e) (.n U .e .e)) (.n U (.n U .e .e) (.n U .e .e))) [.o,(.l .o)] [.tmp (.l (.l .o))]
theorem e97 : @compF Try.prog (Gl.none Try.prog) Try.f97 2 = f97 := by kernel_rfl
theorem o97 : okF Try.prog Try.f97 = true := by kernel_rfl
theorem g97 : Try.prog.funcs[(97 : Nat)]? = some Try.f97 := by kernel_rfl
noncomputable def c98 : FCode := (.seq (.run [.go (.box 96 (.tmp .o)) (.r .o),
 .go (.box 3 (.tmp (.l .o))) (.l (.l .o)),
 .go (.alloc 62 [(.int .i64 (.ofNat 0)),(.int .i64 (.ofNat 0))]) (.r (.l .o))]) (.seq (.run [.go (.alloc 62 [(.int .i64 (.ofNat 0)),(.int .i64 (.ofNat 0))]) (.l (.r .o))]) (.seq (.seq (.run [.go (.fieldAddr 0 (.tmp (.r .o))) (.l (.l (.l .o))),
 .go (.fieldAddr 0 (.tmp (.l (.l (.l .o))))) (.r (.l (.l .o))),
 .go (.load1 (.tmp (.r (.l (.l .o))))) (.l (.r (.l .o))),
 .go (.len 0 (.tmp (.l (.r (.l .o))))) (.r (.r (.l .o))),
 .go (.move (.con (.int .i64 (.ofNat 0)))) (.l (.l (.r .o)))]) (.block 0 (.loop (.seq (.run [.go (.bin .lss 3 (.tmp (.l (.l (.r .o)))) (.tmp (.r (.r (.l .o))))) (.r (.l (.r .o)))]) (.seq (.cond (.tmp (.r (.l (.r .o)))) .skip (.exit 0)) (.seq (.block 1 (.seq (.run [.go (.move (.tmp (.l (.l (.r .o))))) (.l (.r (.r .o))),
 .go (.move (.tmp (.l (.r (.r .o))))) (.r (.r .o))]) (.draw 7 [.go (.loadN 2 (.tmp (.l (.r .o)))) (.r (.r (.r .o))),
 .go (.loadN 21 (.tmp (.r .o))) (.l (.l (.l (.l .o)))),
 .go (.move (.tmp (.r (.r .o)))) (.r (.l (.l (.l .o)))),
 .go (.makeFunc 116 [] [(.tmp (.r .o)),(.tmp (.l (.l .o)))]) (.l (.r (.l (.l .o)))),
 .go (.call (.con (.func (.func 96) ⟨[]⟩ ⟨[]⟩)) [(.tmp (.l (.l (.l (.l .o))))),(.tmp (.r (.l (.l (.l .o))))),(.tmp (.l (.r (.l (.l .o)))))]) (.r (.r (.l (.l .o)))),
 .go (.call (.con (.func (.func 114) ⟨[]⟩ ⟨[]⟩)) [(.tmp (.r (.r (.r .o)))),(.tmp (.r (.r (.l (.l .o)))))]) (.l (.l (.r (.l .o)))),
 .un (.store 2 (.tmp (.l (.r .o))) (.tmp (.l (.l (.r (.l .o))))))] [.rd none (.loadN 2 (.tmp (.l (.r .o)))) (some (.r (.r (.r .o)))) [5],.ok,.ok,.ok,.ok,.ok,.ok]))) (.run [.go (.bin .add 3 (.tmp (.l (.l (.r .o)))) (.con (.int .i64 (.ofNat 1)))) (.r (.l (.r (.l .o)))),
 .go (.move (.tmp (.r (.l (.r (.l .o)))))) (.l (.l (.r .o)))]))))))) (.seq (.run [.go (.loadN 2 (.tmp (.l (.r .o)))) (.l (.r (.r (.l .o)))),
 .un (.store 2 (.tmp (.r (.l .o))) (.tmp (.l (.r (.r (.l .o))))))]) .ret))))
noncomputable def f98 : FFunc := .mk c98 (.n U (.n U (.n U (.n U (.n U .e .e) .e) (.n U (.n U .e .e) .e)) (.n U (.n U (.n U .e .e) .e) (.n U (.n U .e .e) .e))) (.n U (.n U (.n U (.n U .e .e) .e) (.n U (.n U .e .e) .e)) (.n U (.n U (.n U .e .e) .e) (.n U .e .e)))) [.o,(.l .o)] [.many (.r (.l .o)) 2]
theorem e98 : @compF Try.prog (Gl.none Try.prog) Try.f98 2 = f98 := by kernel_rfl
theorem o98 : okF Try.prog Try.f98 = true := by kernel_rfl
theorem g98 : Try.prog.funcs[(98 : Nat)]? = some Try.f98 := by kernel_rfl
noncomputable def c99 : FCode := (.seq (.run [.go (.move (.con (.bool false))) (.r (.l .o))]) (.seq (.seq (.run [.go (.move (.tmp .o)) (.r (.r .o)),
 .go (.len 0 (.tmp (.r (.r .o)))) (.l (.l (.l .o))),
 .go (.move (.tmp (.l .o))) (.r (.l (.l .o))),
 .go (.len 0 (.tmp (.r (.l (.l .o))))) (.l (.r (.l .o))),
 .go (.bin .neq 3 (.tmp (.l (.l (.l .o)))) (.tmp (.l (.r (.l .o))))) (.r (.r (.l .o)))]) (.cond (.tmp (.r (.r (.l .o)))) (.seq (.run [.go (.move (.con (.bool false))) (.r (.l .o))]) .ret) .skip)) (.seq (.seq (.run [.go (.move (.tmp .o)) (.l (.l (.r .o))),
 .go (.len 0 (.tmp (.l (.l (.r .o))))) (.r (.l (.r .o))),
 .go (.move (.con (.int .i64 (.ofNat 0)))) (.l (.r (.r .o)))]) (.block 0 (.loop (.seq (.run [.go (.bin .lss 3 (.tmp (.l (.r (.r .o)))) (.tmp (.r (.l (.r .o))))) (.r (.r (.r .o)))]) (.seq (.cond (.tmp (.r (.r (.r .o)))) .skip (.exit 0)) (.seq (.block 1 (.seq (.run [.go (.move (.tmp (.l (.r (.r .o))))) (.l (.l (.l (.l .o)))),
 .go (.move (.tmp (.l (.l (.l (.l .o)))))) (.l (.r .o))]) (.seq (.draw 9 [.go (.move (.tmp .o)) (.r (.l (.l (.l .o)))),
 .go (.move (.tmp (.l (.r .o)))) (.l (.r (.l (.l .o)))),
 .go (.indexAddr none 1 (.tmp (.r (.l (.l (.l .o))))) (.tmp (.l (.r (.l (.l .o)))))) (.r (.r (.l (.l .o)))),
 .go (.load1 (.tmp (.r (.r (.l (.l .o)))))) (.l (.l (.r (.l .o)))),
 .go (.move (.tmp (.l .o))) (.r (.l (.r (.l .o)))),
 .go (.move (.tmp (.l (.r .o)))) (.l (.r (.r (.l .o)))),
 .go (.indexAddr none 1 (.tmp (.r (.l (.r (.l .o))))) (.tmp (.l (.r (.r (.l .o)))))) (.r (.r (.r (.l .o)))),
 .go (.load1 (.tmp (.r (.r (.r (.l .o)))))) (.l (.l (.l (.r .o)))),
 .go (.bin .neq 3 (.tmp (.l (.l (.r (.l .o))))) (.tmp (.l (.l (.l (.r .o)))))) (.r (.l (.l (.r .o))))] [.ok,.ok,.ok,.ok,.ok,.ok,.ok,.ok,.ok]) (.cond (.tmp (.r (.l (.l (.r .o))))) (.seq (.run [.go (.move (.con (.bool false))) (.r (.l .o))]) .ret) .skip)))) (.run [.go (.bin .add 3 (.tmp (.l (.r (.r .o)))) (.con (.int .i64 (.ofNat 1)))) (.l (.r (.l (.r .o)))),
 .go (.move (.tmp (.l (.r (.l (.r .o)))))) (.l (.r (.r .o)))]))))))) (.seq (.run [.go (.move (.con (.bool true))) (.r (.l .o))]) .ret))))
noncomputable def f99 : FFunc := .mk c99 (.n U (.n U (.n U (.n U (.n U .e .e) (.n U .e .e)) (.n U (.n U .e .e) .e)) (.n U (.n U (.n U .e .e) (.n U .e .e)) (.n U (.n U .e .e) .e))) (.n U (.n U (.n U (.n U .e .e) (.n U .e .e)) (.n U (.n U .e .e) .e)) (.n U (.n U (.n U .e .e) .e) (.n U (.n U .e .e) .e)))) [.o,(.l .o)] [.tmp (.r (.l .o))]
theorem e99 : @compF Try.prog (Gl.none Try.prog) Try.f99 2 = f99 := by kernel_rfl
theorem o99 : okF Try.prog Try.f99 = true := by kernel_rfl
theorem g99 : Try.prog.funcs[(99 : Nat)]? = some Try.f99 := by kernel_rfl
noncomputable def c100 : FCode := (.seq (.run [.go (.move (.con (.slice none 0 0))) .o]) (.seq (.run [.go (.build [.nilFunc] [(0,1,(.con (.func (.func 117) ⟨[]⟩ ⟨[]⟩)))]) (.l .o),
 .go (.build [.nilFunc] [(0,1,(.con (.func (.func 118) ⟨[]⟩ ⟨[]⟩)))]) (.r .o),
 .go (.buildSlice 133 2 [.nilFunc,.nilFunc] [(0,1,(.tmp (.l .o))),(1,1,(.tmp (.r .o)))]) (.l (.l .o)),
 .go (.move (.tmp (.l (.l .o)))) .o]) .ret))
noncomputable def f100 : FFunc := .mk c100 (.n U (.n U (.n U .e .e) .e) (.n U .e .e)) [] [.tmp .o]
theorem e100 : @compF Try.prog (Gl.none Try.prog) Try.f100 0 = f100 := by kernel_rfl
theorem o100 : okF Try.prog Try.f100 = true := by kernel_rfl
theorem g100 : Try.prog.funcs[(100 : Nat)]? = some Try.f100 := by kernel_rfl
noncomputable def c101 : FCode := (.seq (.run [.go (.box 3 (.tmp .o)) (.l (.r .o))]) (.seq (.run [.go (.load1 (.tmp (.l (.r .o)))) (.l (.l (.l .o))),
 .go (.indexAddr (some 8) 1 (.tmp (.l .o)) (.tmp (.l (.l (.l .o))))) (.r (.l (.l .o))),
 .un (.store 1 (.tmp (.r (.l (.l .o)))) (.con (.bool true)))]) (.seq (.run [.go (.loadN 21 (.tmp (.r .o))) (.l (.r (.l .o))),
 .go (.fieldAddr 12 (.tmp (.r .o))) (.r (.r (.l .o))),
 .go (.loadN 8 (.tmp (.r (.r (.l .o))))) (.l (.l (.r .o))),
 .go (.load1 (.tmp (.l (.l .o)))) (.r (.l (.r .o))),
 .go (.call (.con (.func (.func 94) ⟨[]⟩ ⟨[]⟩)) [(.tmp (.l (.r (.l .o)))),(.tmp (.l (.l (.r .o)))),(.tmp (.r (.l (.r .o))))]) (.l (.r (.r .o)))]) (.block 0 (.rangeFunc (.tmp (.l (.r (.r .o)))) [(.r (.r (.r .o)))] (rfA Try.f101 0) (rfB Try.f101 0) (.run [.go (.move (.tmp (.r (.r (.r .o))))) (.r (.r .o))]) (.block 1 (.seq (.run [.go (.move (.tmp (.r (.r .o)))) (.l (.l (.l (.l .o)))),
 .go (.indexAddr (some 8) 1 (.tmp (.l .o)) (.tmp (.l (.l (.l (.l .o)))))) (.r (.l (.l (.l .o)))),
 .go (.load1 (.tmp (.r (.l (.l (.l .o)))))) (.l (.r (.l (.l .o)))),
 .go (.un .not (.tmp (.l (.r (.l (.l .o)))))) (.r (.r (.l (.l .o)))),
 .go (.move (.tmp (.r (.r (.l (.l .o)))))) (.l (.l (.r (.l .o)))),
 .gd (.l (.l (.r (.l .o)))) true (.fieldAddr 20 (.tmp (.r .o))) (.r (.l (.r (.l .o)))),
 .gd (.l (.l (.r (.l .o)))) true (.load1 (.tmp (.r (.l (.r (.l .o)))))) (.l (.r (.r (.l .o)))),
 .gd (.l (.l (.r (.l .o)))) true (.load1 (.tmp (.l (.r .o)))) (.r (.r (.r (.l .o)))),
 .gd (.l (.l (.r (.l .o)))) true (.move (.tmp (.r (.r .o)))) (.l (.l (.l (.r .o)))),
 .gd (.l (.l (.r (.l .o)))) true (.build [(.int .i64 (.ofNat 0)),(.int .i64 (.ofNat 0))] [(0,1,(.tmp (.r (.r (.r (.l .o)))))),(1,1,(.tmp (.l (.l (.l (.r .o))))))]) (.r (.l (.l (.r .o)))),
 .gd (.l (.l (.r (.l .o)))) true (.lookup 76 (.bool false) (.tmp (.l (.r (.r (.l .o))))) (.tmp (.r (.l (.l (.r .o))))) false) (.l (.r (.l (.r .o)))),
 .go (.pick (.tmp (.l (.l (.r (.l .o))))) (.tmp (.l (.r (.l (.r .o))))) (.con (.bool false))) (.r (.r (.l (.r .o))))]) (.cond (.tmp (.r (.r (.l (.r .o))))) (.run [.go (.load1 (.tmp (.r (.l .o)))) (.l (.l (.r (.r .o)))),
 .go (.move (.tmp (.r (.r .o)))) (.r (.l (.r (.r .o)))),
 .go (.call (.tmp (.l (.l (.r (.r .o))))) [(.tmp (.r (.l (.r (.r .o)))))]) (.l (.r (.r (.r .o))))]) .skip))))))))
noncomputable def f101 : FFunc := .mk c101 (.n U (.n U (.n U (.n U (.n U .e .e) (.n U .e .e)) (.n U (.n U .e .e) (.n U .e .e))) (.n U (.n U (.n U .e .e) (.n U .e .e)) (.n U (.n U .e .e) (.n U .e .e)))) (.n U (.n U (.n U (.n U .e .e) (.n U .e .e)) (.n U (.n U .e .e) (.n U .e .e))) (.n U (.n U (.n U .e .e) (.n U .e .e)) (.n U (.n U .e .e) .e)))) [.o,(.l .o),(.r .o),(.l (.l .o)),(.r (.l .o))] []
theorem e101 : @compF Try.prog (Gl.none Try.prog) Try.f101 5 = f101 := by kernel_rfl
theorem o101 : okF Try.prog Try.f101 = true := by kernel_rfl
theorem g101 : Try.prog.funcs[(101 : Nat)]? = some Try.f101 := by kernel_rfl
noncomputable def c102 : FCode := (.seq (.run [.go (.move (.con (.bool false))) (.r (.l .o))]) (.seq (.seq (.run [.go (.move (.tmp .o)) (.l (.l (.l .o))),
 .go (.len 0 (.tmp (.l (.l (.l .o))))) (.r (.l (.l .o))),
 .go (.move (.con (.int .i64 (.ofNat 0)))) (.l (.r (.l .o)))]) (.block 0 (.loop (.seq (.run [.go (.bin .lss 3 (.tmp (.l (.r (.l .o)))) (.tmp (.r (.l (.l .o))))) (.r (.r (.l .o)))]) (.seq (.cond (.tmp (.r (.r (.l .o)))) .skip (.exit 0)) (.seq (.block 1 (.seq (.run [.go (.indexAddr none 1 (.tmp (.l (.l (.l .o)))) (.tmp (.l (.r (.l .o))))) (.l (.l (.r .o))),
 .go (.loadN 1 (.tmp (.l (.l (.r .o))))) (.r (.l (.r .o))),
 .go (.alloc 133 [.nilFunc]) (.r (.r .o)),
 .un (.store 1 (.tmp (.r (.r .o))) (.tmp (.r (.l (.r .o)))))]) (.seq (.run [.go (.move (.tmp (.l .o))) (.l (.r (.r .o))),
 .go (.loadN 1 (.tmp (.r (.r .o)))) (.r (.r (.r .o))),
 .go (.call (.tmp (.l (.r (.r .o)))) [(.tmp (.r (.r (.r .o))))]) (.l (.l (.l (.l .o)))),
 .go (.un .not (.tmp (.l (.l (.l (.l .o)))))) (.r (.l (.l (.l .o))))]) (.cond (.tmp (.r (.l (.l (.l .o))))) (.seq (.run [.go (.move (.con (.bool false))) (.r (.l .o))]) .ret) .skip)))) (.run [.go (.bin .add 3 (.tmp (.l (.r (.l .o)))) (.con (.int .i64 (.ofNat 1)))) (.l (.r (.l (.l .o)))),
 .go (.move (.tmp (.l (.r (.l (.l .o)))))) (.l (.r (.l .o)))]))))))) (.seq (.run [.go (.move (.con (.bool true))) (.r (.l .o))]) .ret)))
noncomputable def f102 : FFunc := .mk c102 (.n U (.n U (.n U (.n U (.n U .e .e) .e) (.n U .e .e)) (.n U (.n U (.n U .e .e) .e) (.n U .e .e))) (.n U (.n U (.n U (.n U .e .e) .e) (.n U .e .e)) (.n U (.n U .e .e) (.n U .e .e)))) [.o,(.l .o)] [.tmp (.r (.l .o))]
theorem e102 : @compF Try.prog (Gl.none Try.prog) Try.f102 2 = f102 := by kernel_rfl
theorem o102 : okF Try.prog Try.f102 = true := by kernel_rfl
theorem g102 : Try.prog.funcs[(102 : Nat)]? = some Try.f102 := by kernel_rfl
noncomputable def c103 : FCode := (.seq (.run [.go (.box 133 (.tmp .o)) (.l (.l .o)),
 .go (.move (.con (.bool false))) (.r (.l .o))]) (.seq (.draw 7 [.go (.loadN 2 (.tmp (.l .o))) (.l (.r .o)),
 .go (.fieldAddr 0 (.tmp (.l (.l .o)))) (.r (.r .o)),
 .go (.load1 (.tmp (.r (.r .o)))) (.l (.l (.l .o))),
 .go (.loadN 2 (.tmp (.r .o))) (.r (.l (.l .o))),
 .go (.call (.tmp (.l (.l (.l .o)))) [(.tmp (.r (.l (.l .o))))]) (.l (.r (.l .o))),
 .go (.call (.con (.func (.func 85) ⟨[]⟩ ⟨[]⟩)) [(.tmp (.l (.r .o))),(.tmp (.l (.r (.l .o))))]) (.r (.r (.l .o))),
 .go (.move (.tmp (.r (.r (.l .o))))) (.r (.l .o))] [.rd none (.loadN 2 (.tmp (.l .o))) (some (.l (.r .o))) [5],.ok,.ok,.ok,.ok,.ok,.ok]) .ret))
noncomputable def f103 : FFunc := .mk c103 (.n U (.n U (.n U (.n U .e .e) .e) (.n U (.n U .e .e) .e)) (.n U (.n U (.n U .e .e) .e) (.n U (.n U .e .e) .e))) [.o,(.l .o),(.r .o)] [.tmp (.r (.l .o))]
theorem e103 : @compF Try.prog (Gl.none Try.prog) Try.f103 3 = f103 := by kernel_rfl
theorem o103 : okF Try.prog Try.f103 = true := by kernel_rfl
theorem g103 : Try.prog.funcs[(103 : Nat)]? = some Try.f103 := by kernel_rfl
noncomputable def c104 : FCode := (.seq (.run [.go (.box 96 (.tmp .o)) (.r .o),
 .go (.box 3 (.tmp (.l .o))) (.l (.l .o)),
 .go (.move (.con .nilFunc)) (.r (.l .o))]) (.seq (.run [.go (.makeFunc 119 [] [(.tmp (.r .o)),(.tmp (.l (.l .o)))]) (.l (.r .o)),
 .go (.move (.tmp (.l (.r .o)))) (.r (.l .o))]) .ret))
noncomputable def f104 : FFunc := .mk c104 (.n U (.n U (.n U .e .e) (.n U .e .e)) (.n U (.n U .e .e) .e)) [.o,(.l .o)] [.tmp (.r (.l .o))]
theorem e104 : @compF Try.prog (Gl.none Try.prog) Try.f104 2 = f104 := by kernel_rfl
theorem o104 : okF Try.prog Try.f104 = true := by kernel_rfl
theorem g104 : Try.prog.funcs[(104 : Nat)]? = some Try.f104 := by kernel_rfl
noncomputable def c105 : FCode := (.seq (.run [.go (.box 34 (.tmp .o)) (.r .o),
 .go (.move (.con (.bool false))) (.r (.l .o))]) (.seq (.run [.go (.move (.tmp (.l .o))) (.l (.r .o)),
 .go (.bin .leq 3 (.con (.int .i64 (.ofNat 0))) (.tmp (.l (.r .o)))) (.r (.r .o)),
 .go (.move (.tmp (.r (.r .o)))) (.l (.l (.l .o))),
 .gd (.l (.l (.l .o))) true (.move (.tmp (.l .o))) (.r (.l (.l .o))),
 .gd (.l (.l (.l .o))) true (.fieldAddr 1 (.tmp (.r .o))) (.l (.r (.l .o))),
 .gd (.l (.l (.l .o))) true (.load1 (.tmp (.l (.r (.l .o))))) (.r (.r (.l .o))),
 .gd (.l (.l (.l .o))) true (.bin .lss 3 (.tmp (.r (.l (.l .o)))) (.tmp (.r (.r (.l .o))))) (.l (.l (.r .o))),
 .go (.pick (.tmp (.l (.l (.l .o)))) (.tmp (.l (.l (.r .o)))) (.con (.bool false))) (.r (.l (.r .o))),
 .go (.move (.tmp (.r (.l (.r .o))))) (.r (.l .o))]) .ret))
noncomputable def f105 : FFunc := .mk c105 (.n U (.n U (.n U (.n U .e .e) (.n U .e .e)) (.n U (.n U .e .e) .e)) (.n U (.n U (.n U .e .e) (.n U .e .e)) (.n U (.n U .e .e) .e))) [.o,(.l .o)] [.tmp (.r (.l .o))]
theorem e105 : @compF Try.prog (Gl.none Try.prog) Try.f105 2 = f105 := by kernel_rfl
theorem o105 : okF Try.prog Try.f105 = true := by kernel_rfl
theorem g105 : Try.prog.funcs[(105 : Nat)]? = some Try.f105 := by kernel_rfl
noncomputable def c106 : FCode := (.seq (.run [.go (.move (.con (.int .i64 (.ofNat 0)))) (.r (.l .o))]) (.seq (.seq (.run [.go (.move (.tmp .o)) (.r (.r .o)),
 .go (.len 0 (.tmp (.r (.r .o)))) (.l (.l (.l .o))),
 .go (.move (.con (.int .i64 (.ofNat 0)))) (.r (.l (.l .o)))]) (.block 0 (.loop (.seq (.run [.go (.bin .lss 3 (.tmp (.r (.l (.l .o)))) (.tmp (.l (.l (.l .o))))) (.l (.r (.l .o)))]) (.seq (.cond (.tmp (.l (.r (.l .o)))) .skip (.exit 0)) (.seq (.block 1 (.seq (.run [.go (.move (.tmp (.r (.l (.l .o))))) (.r (.r (.l .o))),
 .go (.move (.tmp (.r (.r (.l .o))))) (.l (.r .o))]) (.seq (.run [.go (.move (.tmp (.l .o))) (.l (.l (.r .o))),
 .go (.move (.tmp .o)) (.r (.l (.r .o))),
 .go (.move (.tmp (.l (.r .o)))) (.l (.r (.r .o))),
 .go (.indexAddr none 1 (.tmp (.r (.l (.r .o)))) (.tmp (.l (.r (.r .o))))) (.r (.r (.r .o))),
 .go (.load1 (.tmp (.r (.r (.r .o))))) (.l (.l (.l (.l .o)))),
 .go (.bin .eql 3 (.tmp (.l (.l (.r .o)))) (.tmp (.l (.l (.l (.l .o)))))) (.r (.l (.l (.l .o))))]) (.cond (.tmp (.r (.l (.l (.l .o))))) (.seq (.run [.go (.move (.tmp (.l (.r .o)))) (.l (.r (.l (.l .o)))),
 .go (.move (.tmp (.l (.r (.l (.l .o)))))) (.r (.l .o))]) .ret) .skip)))) (.run [.go (.bin .add 3 (.tmp (.r (.l (.l .o)))) (.con (.int .i64 (.ofNat 1)))) (.r (.r (.l (.l .o)))),
 .go (.move (.tmp (.r (.r (.l (.l .o)))))) (.r (.l (.l .o)))]))))))) (.seq (.run [.go (.move (.con (.int .i64 (.negSucc 0)))) (.r (.l .o))]) .ret)))
noncomputable def f106 : FFunc := .mk c106 (.n U (.n U (.n U (.n U (.n U .e .e) .e) (.n U .e .e)) (.n U (.n U (.n U .e .e) .e) (.n U .e .e))) (.n U (.n U (.n U (.n U .e .e) .e) (.n U .e .e)) (.n U (.n U (.n U .e .e) .e) (.n U .e .e)))) [.o,(.l .o)] [.tmp (.r (.l .o))]
theorem e106 : @compF Try.prog (Gl.none Try.prog) Try.f106 2 = f106 := by kernel_rfl
theorem o106 : okF Try.prog Try.f106 = true := by kernel_rfl
theorem g106 : Try.prog.funcs[(106 : Nat)]? = some Try.f106 := by kernel_rfl
noncomputable def c107 : FCode := (.seq (.run [.go (.move (.con (.int .i64 (.ofNat 0)))) (.r (.l .o))]) (.seq (.seq (.run [.go (.move (.tmp (.l .o))) (.l (.l (.l .o))),
 .go (.len 0 (.tmp (.l (.l (.l .o))))) (.r (.l (.l .o))),
 .go (.move (.con (.int .i64 (.ofNat 0)))) (.l (.r (.l .o)))]) (.block 0 (.loop (.seq (.run [.go (.bin .lss 3 (.tmp (.l (.r (.l .o)))) (.tmp (.r (.l (.l .o))))) (.r (.r (.l .o)))]) (.seq (.cond (.tmp (.r (.r (.l .o)))) .skip (.exit 0)) (.seq (.block 1 (.seq (.run [.go (.indexAddr none 1 (.tmp (.l (.l (.l .o)))) (.tmp (.l (.r (.l .o))))) (.l (.l (.r .o))),
 .go (.load1 (.tmp (.l (.l (.r .o))))) (.r (.l (.r .o))),
 .go (.move (.tmp (.r (.l (.r .o))))) (.r (.r .o))]) (.run [.go (.move (.tmp .o)) (.l (.r (.r .o))),
 .go (.move (.tmp (.r (.r .o)))) (.r (.r (.r .o))),
 .go (.mm false [(.tmp (.l (.r (.r .o)))),(.tmp (.r (.r (.r .o))))]) (.l (.l (.l (.l .o)))),
 .go (.move (.tmp (.l (.l (.l (.l .o)))))) .o]))) (.run [.go (.bin .add 3 (.tmp (.l (.r (.l .o)))) (.con (.int .i64 (.ofNat 1)))) (.r (.l (.l (.l .o)))),
 .go (.move (.tmp (.r (.l (.l (.l .o)))))) (.l (.r (.l .o)))]))))))) (.seq (.run [.go (.move (.tmp .o)) (.l (.r (.l (.l .o)))),
 .go (.move (.tmp (.l (.r (.l (.l .o)))))) (.r (.l .o))]) .ret)))
noncomputable def f107 : FFunc := .mk c107 (.n U (.n U (.n U (.n U (.n U .e .e) .e) (.n U .e .e)) (.n U (.n U (.n U .e .e) .e) (.n U .e .e))) (.n U (.n U (.n U (.n U .e .e) .e) (.n U .e .e)) (.n U (.n U .e .e) (.n U .e .e)))) [.o,(.l .o)] [.tmp (.r (.l .o))]
theorem e107 : @compF Try.prog (Gl.none Try.prog) Try.f107 2 = f107 := by kernel_rfl
theorem o107 : okF Try.prog Try.f107 = true := by kernel_rfl
theorem g107 : Try.prog.funcs[(107 : Nat)]? = some Try.f107 := by kernel_rfl
noncomputable def c108 : FCode := (.seq (.run [.go (.box 34 (.tmp .o)) (.r .o),
 .go (.move (.con (.bool false))) (.r (.l .o))]) (.seq (.run [.go (.move (.tmp (.l .o))) (.l (.r .o)),
 .go (.bin .leq 3 (.con (.int .i64 (.ofNat 0))) (.tmp (.l (.r .o)))) (.r (.r .o)),
 .go (.move (.tmp (.r (.r .o)))) (.l (.l (.l .o))),
 .gd (.l (.l (.l .o))) true (.move (.tmp (.l .o))) (.r (.l (.l .o))),
 .gd (.l (.l (.l .o))) true (.fieldAddr 0 (.tmp (.r .o))) (.l (.r (.l .o))),
 .gd (.l (.l (.l .o))) true (.load1 (.tmp (.l (.r (.l .o))))) (.r (.r (.l .o))),
 .gd (.l (.l (.l .o))) true (.len 0 (.tmp (.r (.r (.l .o))))) (.l (.l (.r .o))),
 .gd (.l (.l (.l .o))) true (.bin .lss 3 (.tmp (.r (.l (.l .o)))) (.tmp (.l (.l (.r .o))))) (.r (.l (.r .o))),
 .go (.pick (.tmp (.l (.l (.l .o)))) (.tmp (.r (.l (.r .o)))) (.con (.bool false))) (.l (.r (.r .o))),
 .go (.move (.tmp (.l (.r (.r .o))))) (.r (.l .o))]) .ret))
noncomputable def f108 : FFunc := .mk c108 (.n U (.n U (.n U (.n U .e .e) (.n U .e .e)) (.n U (.n U .e .e) (.n U .e .e))) (.n U (.n U (.n U .e .e) (.n U .e .e)) (.n U (.n U .e .e) .e))) [.o,(.l .o)] [.tmp (.r (.l .o))]
theorem e108 : @compF Try.prog (Gl.none Try.prog) Try.f108 2 = f108 := by kernel_rfl
theorem o108 : okF Try.prog Try.f108 = true := by kernel_rfl
theorem g108 : Try.prog.funcs[(108 : Nat)]? = some Try.f108 := by kernel_rfl
noncomputable def c109 : FCode := (.seq (.run [.go (.alloc 62 [(.int .i64 (.ofNat 0)),(.int .i64 (.ofNat 0))]) .o]) (.seq (.run [.go (.build [(.int .i64 (.ofNat 0)),(.int .i64 (.ofNat 0))] [(0,1,(.con (.int .i64 (.ofNat 0)))),(1,1,(.con (.int .i64 (.ofNat 1000))))]) (.l .o),
 .un (.store 2 (.tmp .o) (.tmp (.l .o)))]) .ret))
noncomputable def f109 : FFunc := .mk c109 (.n U (.n U .e .e) .e) [] [.many .o 2]
theorem e109 : @compF Try.prog (Gl.none Try.prog) Try.f109 0 = f109 := by kernel_rfl
theorem o109 : okF Try.prog Try.f109 = true := by kernel_rfl
theorem g109 : Try.prog.funcs[(109 : Nat)]? = some Try.f109 := by kernel_rfl
noncomputable def c110 : FCode := (.seq (.run [.go (.box 34 (.tmp .o)) (.r .o),
 .go (.move (.con (.bool false))) (.r (.l .o))]) (.seq (.run [.go (.move (.tmp (.l .o))) (.l (.r .o)),
 .go (.bin .leq 3 (.con (.int .i64 (.ofNat 0))) (.tmp (.l (.r .o)))) (.r (.r .o)),
 .go (.move (.tmp (.r (.r .o)))) (.l (.l (.l .o))),
 .gd (.l (.l (.l .o))) true (.move (.tmp (.l .o))) (.r (.l (.l .o))),
 .gd (.l (.l (.l .o))) true (.fieldAddr 2 (.tmp (.r .o))) (.l (.r (.l .o))),
 .gd (.l (.l (.l .o))) true (.load1 (.tmp (.l (.r (.l .o))))) (.r (.r (.l .o))),
 .gd (.l (.l (.l .o))) true (.len 0 (.tmp (.r (.r (.l .o))))) (.l (.l (.r .o))),
 .gd (.l (.l (.l .o))) true (.bin .lss 3 (.tmp (.r (.l (.l .o)))) (.tmp (.l (.l (.r .o))))) (.r (.l (.r .o))),
 .go (.pick (.tmp (.l (.l (.l .o)))) (.tmp (.r (.l (.r .o)))) (.con (.bool false))) (.l (.r (.r .o))),
 .go (.move (.tmp (.l (.r (.r .o))))) (.r (.l .o))]) .ret))
noncomputable def f110 : FFunc := .mk c110 (.n U (.n U (.n U (.n U .e .e) (.n U .e .e)) (.n U (.n U .e .e) (.n U .e .e))) (.n U (.n U (.n U .e .e) (.n U .e .e)) (.n U (.n U .e .e) .e))) [.o,(.l .o)] [.tmp (.r (.l .o))]
theorem e110 : @compF Try.prog (Gl.none Try.prog) Try.f110 2 = f110 := by kernel_rfl
theorem o110 : okF Try.prog Try.f110 = true := by kernel_rfl
theorem g110 : Try.prog.funcs[(110 : Nat)]? = some Try.f110 := by kernel_rfl
noncomputable def c111 : FCode := (.seq (.run [.go (.move (.con (.bool false))) (.r .o)]) (.seq (.run [.go (.move (.tmp .o)) (.l (.l .o)),
 .go (.bin .gtr 3 (.tmp (.l (.l .o))) (.con (.int .i64 (.ofNat 0)))) (.r (.l .o)),
 .go (.move (.tmp (.r (.l .o)))) (.r .o)]) .ret))
noncomputable def f111 : FFunc := .mk c111 (.n U (.n U (.n U .e .e) .e) (.n U (.n U .e .e) .e)) [.o] [.tmp (.r .o)]
theorem e111 : @compF Try.prog (Gl.none Try.prog) Try.f111 1 = f111 := by kernel_rfl
theorem o111 : okF Try.prog Try.f111 = true := by kernel_rfl
theorem g111 : Try.prog.funcs[(111 : Nat)]? = some Try.f111 := by kernel_rfl
noncomputable def c112 : FCode := (.seq (.run [.go (.box 22 (.tmp .o)) (.r .o),
 .go (.move (.con (.slice none 0 0))) (.r (.l .o))]) (.seq (.seq (.run [.go (.move (.tmp (.l .o))) (.r (.r .o))]) (.block 0 (.rangeFunc (.tmp (.r (.r .o))) [(.l (.l (.l .o)))] (rfA Try.f112 0) (rfB Try.f112 0) (.run [.go (.move (.tmp (.l (.l (.l .o))))) (.l (.r .o))]) (.block 1 (.run [.go (.load1 (.tmp (.r .o))) (.r (.l (.l .o))),
 .go (.move (.tmp (.l (.r .o)))) (.l (.r (.l .o))),
 .go (.buildSlice 3 1 [(.int .i64 (.ofNat 0))] [(0,1,(.tmp (.l (.r (.l .o)))))]) (.r (.r (.l .o))),
 .go (.append 3 1 8 (.tmp (.r (.l (.l .o)))) (.tmp (.r (.r (.l .o))))) (.l (.l (.r .o))),
 .un (.store 1 (.tmp (.r .o)) (.tmp (.l (.l (.r .o)))))]))))) (.seq (.run [.go (.load1 (.tmp (.r .o))) (.r (.l (.r .o))),
 .go (.move (.tmp (.r (.l (.r .o))))) (.r (.l .o))]) .ret)))
noncomputable def f112 : FFunc := .mk c112 (.n U (.n U (.n U (.n U .e .e) (.n U .e .e)) (.n U (.n U .e .e) .e)) (.n U (.n U (.n U .e .e) (.n U .e .e)) (.n U (.n U .e .e) .e))) [.o,(.l .o)] [.tmp (.r (.l .o))]
theorem e112 : @compF Try.prog (Gl.none Try.prog) Try.f112 2 = f112 := by kernel_rfl
theorem o112 : okF Try.prog Try.f112 = true := by kernel_rfl
theorem g112 : Try.prog.funcs[(112 : Nat)]? = some Try.f112 := by kernel_rfl
noncomputable def c113 : FCode := (.seq (.run [.go (.fieldAddr 0 (.tmp (.l .o))) (.r (.r .o)),
 .go (.fieldAddr 2 (.tmp (.r (.r .o)))) (.l (.l (.l .o))),
 .go (.load1 (.tmp (.l (.l (.l .o))))) (.r (.l (.l .o))),
 .go (.len 0 (.tmp (.r (.l (.l .o))))) (.l (.r (.l .o))),
 .go (.move (.con (.int .i64 (.ofNat 0)))) (.r (.r (.l .o)))]) (.block 0 (.loop (.seq (.run [.go (.bin .lss 3 (.tmp (.r (.r (.l .o)))) (.tmp (.l (.r (.l .o))))) (.l (.l (.r .o)))]) (.seq (.cond (.tmp (.l (.l (.r .o)))) .skip (.exit 0)) (.seq (.block 1 (.seq (.run [.go (.move (.tmp (.r (.r (.l .o))))) (.r (.l (.r .o))),
 .go (.move (.tmp (.r (.l (.r .o))))) (.l (.r .o))]) (.seq (.draw 11 [.go (.move (.tmp (.l (.r .o)))) (.l (.r (.r .o))),
 .go (.indexAddr (some 8) 1 (.tmp (.r .o)) (.tmp (.l (.r (.r .o))))) (.r (.r (.r .o))),
 .go (.load1 (.tmp (.r (.r (.r .o))))) (.l (.l (.l (.l .o)))),
 .go (.load1 (.tmp (.l (.l .o)))) (.r (.l (.l (.l .o)))),
 .go (.bin .eql 3 (.tmp (.l (.l (.l (.l .o))))) (.tmp (.r (.l (.l (.l .o)))))) (.l (.r (.l (.l .o)))),
 .go (.move (.tmp (.l (.r (.l (.l .o)))))) (.r (.r (.l (.l .o)))),
 .gd (.r (.r (.l (.l .o)))) true (.move (.tmp .o)) (.l (.l (.r (.l .o)))),
 .gd (.r (.r (.l (.l .o)))) true (.move (.tmp (.l (.r .o)))) (.r (.l (.r (.l .o)))),
 .gd (.r (.r (.l (.l .o)))) true (.call (.tmp (.l (.l (.r (.l .o))))) [(.tmp (.r (.l (.r (.l .o)))))]) (.l (.r (.r (.l .o)))),
 .gd (.r (.r (.l (.l .o)))) true (.un .not (.tmp (.l (.r (.r (.l .o)))))) (.r (.r (.r (.l .o)))),
 .go (.pick (.tmp (.r (.r (.l (.l .o))))) (.tmp (.r (.r (.r (.l .o))))) (.con (.bool false))) (.l (.l (.l (.r .o))))] [.ok,.ok,.ok,.ok,.ok,.ok,.ok,.ok,.ok,.ok,.ok]) (.cond (.tmp (.l (.l (.l (.r .o))))) .ret .skip)))) (.run [.go (.bin .add 3 (.tmp (.r (.r (.l .o)))) (.con (.int .i64 (.ofNat 1)))) (.r (.l (.l (.r .o)))),
 .go (.move (.tmp (.r (.l (.l (.r .o)))))) (.r (.r (.l .o)))])))))))
noncomputable def f113 : FFunc := .mk c113 (.n U (.n U (.n U (.n U (.n U .e .e) (.n U .e .e)) (.n U (.n U .e .e) .e)) (.n U (.n U (.n U .e .e) .e) (.n U (.n U .e .e) .e))) (.n U (.n U (.n U (.n U .e .e) (.n U .e .e)) (.n U (.n U .e .e) .e)) (.n U (.n U (.n U .e .e) .e) (.n U (.n U .e .e) .e)))) [.o,(.l .o),(.r .o),(.l (.l .o))] []
theorem e113 : @compF Try.prog (Gl.none Try.prog) Try.f113 4 = f113 := by kernel_rfl
theorem o113 : okF Try.prog Try.f113 = true := by kernel_rfl
theorem g113 : Try.prog.funcs[(113 : Nat)]? = some Try.f113 := by kernel_rfl
noncomputable def c114 : FCode := (.seq (.run [.go (.box 62 (.tmp .o)) (.r .o),
 .go (.box 62 (.tmp (.l .o))) (.l (.l .o)),
 .go (.alloc 62 [(.int .i64 (.ofNat 0)),(.int .i64 (.ofNat 0))]) (.r (.l .o))]) (.seq (.run [.go (.fieldAddr 0 (.tmp (.r .o))) (.l (.r .o)),
 .go (.load1 (.tmp (.l (.r .o)))) (.r (.r .o)),
 .go (.fieldAddr 0 (.tmp (.l (.l .o)))) (.l (.l (.l .o))),
 .go (.load1 (.tmp (.l (.l (.l .o))))) (.r (.l (.l .o))),
 .go (.bin .add 3 (.tmp (.r (.r .o))) (.tmp (.r (.l (.l .o))))) (.l (.r (.l .o))),
 .go (.fieldAddr 1 (.tmp (.r .o))) (.r (.r (.l .o))),
 .go (.load1 (.tmp (.r (.r (.l .o))))) (.l (.l (.r .o))),
 .go (.fieldAddr 1 (.tmp (.l (.l .o)))) (.r (.l (.r .o))),
 .go (.load1 (.tmp (.r (.l (.r .o))))) (.l (.r (.r .o))),
 .go (.bin .add 3 (.tmp (.l (.l (.r .o)))) (.tmp (.l (.r (.r .o))))) (.r (.r (.r .o))),
 .go (.build [(.int .i64 (.ofNat 0)),(.int .i64 (.ofNat 0))] [(0,1,(.tmp (.l (.r (.l .o))))),(1,1,(.tmp (.r (.r (.r .o)))))]) (.l (.l (.l (.l .o)))),
 .un (.store 2 (.tmp (.r (.l .o))) (.tmp (.l (.l (.l (.l .o))))))]) .ret))
noncomputable def f114 : FFunc := .mk c114 (.n U (.n U (.n U (.n U (.n U .e .e) .e) (.n U .e .e)) (.n U (.n U .e .e) (.n U .e .e))) (.n U (.n U (.n U .e .e) (.n U .e .e)) (.n U (.n U .e .e) (.n U .e .e)))) [.o,(.l .o)] [.many (.r (.l .o)) 2]
theorem e114 : @compF Try.prog (Gl.none Try.prog) Try.f114 2 = f114 := by kernel_rfl
theorem o114 : okF Try.prog Try.f114 = true := by kernel_rfl
theorem g114 : Try.prog.funcs[(114 : Nat)]? = some Try.f114 := by kernel_rfl
noncomputable def c115 : FCode := (.seq (.run [.go (.move (.con (.int .i64 (.ofNat 0)))) (.r (.l .o))]) (.seq (.seq (.run [.go (.move (.tmp (.l .o))) (.l (.l (.l .o))),
 .go (.len 0 (.tmp (.l (.l (.l .o))))) (.r (.l (.l .o))),
 .go (.move (.con (.int .i64 (.ofNat 0)))) (.l (.r (.l .o)))]) (.block 0 (.loop (.seq (.run [.go (.bin .lss 3 (.tmp (.l (.r (.l .o)))) (.tmp (.r (.l (.l .o))))) (.r (.r (.l .o)))]) (.seq (.cond (.tmp (.r (.r (.l .o)))) .skip (.exit 0)) (.seq (.block 1 (.seq (.run [.go (.indexAddr none 1 (.tmp (.l (.l (.l .o)))) (.tmp (.l (.r (.l .o))))) (.l (.l (.r .o))),
 .go (.load1 (.tmp (.l (.l (.r .o))))) (.r (.l (.r .o))),
 .go (.move (.tmp (.r (.l (.r .o))))) (.r (.r .o))]) (.run [.go (.move (.tmp .o)) (.l (.r (.r .o))),
 .go (.move (.tmp (.r (.r .o)))) (.r (.r (.r .o))),
 .go (.mm false [(.tmp (.l (.r (.r .o)))),(.tmp (.r (.r (.r .o))))]) (.l (.l (.l (.l .o)))),
 .go (.move (.tmp (.l (.l (.l (.l .o)))))) .o]))) (.run [.go (.bin .add 3 (.tmp (.l (.r (.l .o)))) (.con (.int .i64 (.ofNat 1)))) (.r (.l (.l (.l .o)))),
 .go (.move (.tmp (.r (.l (.l (.l .o)))))) (.l (.r (.l .o)))]))))))) (.seq (.run [.go (.move (.tmp .o)) (.l (.r (.l (.l .o)))),
 .go (.move (.tmp (.l (.r (.l (.l .o)))))) (.r (.l .o))]) .ret)))
noncomputable def f115 : FFunc := .mk c115 (.n U (.n U (.n U (.n U (.n U .e .e) .e) (.n U .e .e)) (.n U (.n U (.n U .e .e) .e) (.n U .e .e))) (.n U (.n U (.n U (.n U .e .e) .e) (.n U .e .e)) (.n U (.n U .e .e) (.n U .e .e)))) [.o,(.l .o)] [.tmp (.r (.l .o))]
theorem e115 : @compF Try.prog (Gl.none Try.prog) Try.f115 2 = f115 := by kernel_rfl
theorem o115 : okF Try.prog Try.f115 = true := by kernel_rfl
theorem g115 : Try.prog.funcs[(115 : Nat)]? = some Try.f115 := by kernel_rfl
noncomputable def c116 : FCode := (.seq (.run [.go (.move (.con (.bool false))) (.r (.l .o))]) (.seq (.draw 7 [.go (.move (.tmp .o)) (.l (.r .o)),
 .go (.fieldAddr 12 (.tmp (.l .o))) (.r (.r .o)),
 .go (.indexAddr (some 8) 1 (.tmp (.r (.r .o))) (.tmp (.l (.r .o)))) (.l (.l (.l .o))),
 .go (.load1 (.tmp (.l (.l (.l .o))))) (.r (.l (.l .o))),
 .go (.load1 (.tmp (.r .o))) (.l (.r (.l .o))),
 .go (.bin .eql 3 (.tmp (.r (.l (.l .o)))) (.tmp (.l (.r (.l .o))))) (.r (.r (.l .o))),
 .go (.move (.tmp (.r (.r (.l .o))))) (.r (.l .o))] [.ok,.ok,.ok,.ok,.ok,.ok,.ok]) .ret))
noncomputable def f116 : FFunc := .mk c116 (.n U (.n U (.n U (.n U .e .e) .e) (.n U (.n U .e .e) .e)) (.n U (.n U (.n U .e .e) .e) (.n U (.n U .e .e) .e))) [.o,(.l .o),(.r .o)] [.tmp (.r (.l .o))]
theorem e116 : @compF Try.prog (Gl.none Try.prog) Try.f116 3 = f116 := by kernel_rfl
theorem o116 : okF Try.prog Try.f116 = true := by kernel_rfl
theorem g116 : Try.prog.funcs[(116 : Nat)]? = some Try.f116 := by kernel_rfl
noncomputable def c117 : FCode := (.seq (.run [.go (.box 62 (.tmp .o)) (.l .o),
 .go (.move (.con (.int .i64 (.ofNat 0)))) (.r .o)]) (.seq (.run [.go (.fieldAddr 0 (.tmp (.l .o))) (.l (.l .o)),
 .go (.load1 (.tmp (.l (.l .o)))) (.r (.l .o)),
 .go (.move (.tmp (.r (.l .o)))) (.r .o)]) .ret))
noncomputable def f117 : FFunc := .mk c117 (.n U (.n U (.n U .e .e) .e) (.n U (.n U .e .e) .e)) [.o] [.tmp (.r .o)]
theorem e117 : @compF Try.prog (Gl.none Try.prog) Try.f117 1 = f117 := by kernel_rfl
theorem o117 : okF Try.prog Try.f117 = true := by kernel_rfl
theorem g117 : Try.prog.funcs[(117 : Nat)]? = some Try.f117 := by kernel_rfl
noncomputable def c118 : FCode := (.seq (.run [.go (.box 62 (.tmp .o)) (.l .o),
 .go (.move (.con (.int .i64 (.ofNat 0)))) (.r .o)]) (.seq (.run [.go (.fieldAddr 1 (.tmp (.l .o))) (.l (.l .o)),
 .go (.load1 (.tmp (.l (.l .o)))) (.r (.l .o)),
 .go (.move (.tmp (.r (.l .o)))) (.r .o)]) .ret))
noncomputable def f118 : FFunc := .mk c118 (.n U (.n U (.n U .e .e) .e) (.n U (.n U .e .e) .e)) [.o] [.tmp (.r .o)]
theorem e118 : @compF Try.prog (Gl.none Try.prog) Try.f118 1 = f118 := by kernel_rfl
theorem o118 : okF Try.prog Try.f118 = true := by kernel_rfl
theorem g118 : Try.prog.funcs[(118 : Nat)]? = some Try.f118 := by kernel_rfl
noncomputable def c119 : FCode := (.seq (.run [.go (.box 144 (.tmp .o)) (.l (.l .o))]) (.seq (.run [.go (.alloc 93 [(.int .i64 (.ofNat 0)),(.int .i64 (.ofNat 0)),(.int .i64 (.ofNat 0)),(.int .i64 (.ofNat 0)),(.int .i64 (.ofNat 0)),(.int .i64 (.ofNat 0)),(.int .i64 (.ofNat 0)),(.int .i64 (.ofNat 0))]) (.r (.l .o))]) (.seq (.run [.go (.alloc 145 [.nilFunc]) (.l (.r .o))]) (.seq (.run [.go (.makeFunc 120 [] [(.tmp (.l .o)),(.tmp (.l (.l .o))),(.tmp (.r (.l .o))),(.tmp (.l (.r .o)))]) (.r (.r .o)),
 .un (.store 1 (.tmp (.l (.r .o))) (.tmp (.r (.r .o))))]) (.run [.go (.load1 (.tmp (.l (.r .o)))) (.l (.l (.l .o))),
 .go (.load1 (.tmp (.r .o))) (.r (.l (.l .o))),
 .go (.call (.tmp (.l (.l (.l .o)))) [(.con (.int .i64 (.ofNat 0))),(.tmp (.r (.l (.l .o))))]) (.l (.r (.l .o)))])))))
noncomputable def f119 : FFunc := .mk c119 (.n U (.n U (.n U (.n U .e .e) .e) (.n U (.n U .e .e) .e)) (.n U (.n U (.n U .e .e) .e) (.n U .e .e))) [.o,(.l .o),(.r .o)] []
theorem e119 : @compF Try.prog (Gl.none Try.prog) Try.f119 3 = f119 := by kernel_rfl
theorem o119 : okF Try.prog Try.f119 = true := by kernel_rfl
theorem g119 : Try.prog.funcs[(119 : Nat)]? = some Try.f119 := by kernel_rfl
noncomputable def c120 : FCode := (.seq (.run [.go (.move (.con (.bool false))) (.r (.l (.l .o)))]) (.seq (.block 0 (.seq (.run [.go (.move (.tmp (.l .o))) (.r (.l (.r .o))),
 .go (.bin .lss 3 (.tmp (.r (.l (.r .o)))) (.con (.int .i64 (.ofNat 0)))) (.l (.r (.r .o))),
 .go (.move (.tmp (.l (.r (.r .o))))) (.r (.r (.r .o))),
 .gd (.r (.r (.r .o))) false (.move (.tmp (.l .o))) (.l (.l (.l (.l .o)))),
 .gd (.r (.r (.r .o))) false (.fieldAddr 0 (.tmp (.r .o))) (.r (.l (.l (.l .o)))),
 .gd (.r (.r (.r .o))) false (.fieldAddr 2 (.tmp (.r (.l (.l (.l .o)))))) (.l (.r (.l (.l .o)))),
 .gd (.r (.r (.r .o))) false (.load1 (.tmp (.l (.r (.l (.l .o)))))) (.r (.r (.l (.l .o)))),
 .gd (.r (.r (.r .o))) false (.len 0 (.tmp (.r (.r (.l (.l .o)))))) (.l (.l (.r (.l .o)))),
 .gd (.r (.r (.r .o))) false (.move (.tmp .o)) (.r (.l (.r (.l .o)))),
 .gd (.r (.r (.r .o))) false (.bin .sub 3 (.tmp (.l (.l (.r (.l .o))))) (.tmp (.r (.l (.r (.l .o)))))) (.l (.r (.r (.l .o)))),
 .gd (.r (.r (.r .o))) false (.bin .gtr 3 (.tmp (.l (.l (.l (.l .o))))) (.tmp (.l (.r (.r (.l .o)))))) (.r (.r (.r (.l .o)))),
 .go (.pick (.tmp (.r (.r (.r .o)))) (.con (.bool true)) (.tmp (.r (.r (.r (.l .o)))))) (.l (.l (.l (.r .o)))),
 .go (.move (.tmp (.l (.l (.l (.r .o)))))) (.l (.l (.r .o)))]) (.cond (.tmp (.l (.l (.r .o)))) (.seq (.run [.go (.move (.con (.bool true))) (.r (.l (.l .o)))]) .ret) (.seq (.run [.go (.move (.tmp .o)) (.l (.r (.l (.r .o)))),
 .go (.fieldAddr 0 (.tmp (.r .o))) (.r (.r (.l (.r .o)))),
 .go (.fieldAddr 2 (.tmp (.r (.r (.l (.r .o)))))) (.l (.l (.r (.r .o)))),
 .go (.load1 (.tmp (.l (.l (.r (.r .o)))))) (.r (.l (.r (.r .o)))),
 .go (.len 0 (.tmp (.r (.l (.r (.r .o)))))) (.l (.r (.r (.r .o)))),
 .go (.bin .eql 3 (.tmp (.l (.r (.l (.r .o))))) (.tmp (.l (.r (.r (.r .o)))))) (.r (.r (.r (.r .o)))),
 .go (.move (.tmp (.r (.r (.r (.r .o)))))) (.r (.l (.l (.r .o))))]) (.cond (.tmp (.r (.l (.l (.r .o))))) (.seq (.run [.go (.load1 (.tmp (.l (.l .o)))) (.l (.l (.l (.l (.l .o))))),
 .go (.loadN 8 (.tmp (.r (.l .o)))) (.r (.l (.l (.l (.l .o))))),
 .go (.call (.tmp (.l (.l (.l (.l (.l .o)))))) [(.tmp (.r (.l (.l (.l (.l .o))))))]) (.l (.r (.l (.l (.l .o))))),
 .go (.move (.tmp (.l (.r (.l (.l (.l .o))))))) (.r (.l (.l .o)))]) .ret) .skip))))) (.seq (.seq (.run [.go (.fieldAddr 0 (.tmp (.r .o))) (.r (.r (.l (.l (.l .o))))),
 .go (.fieldAddr 1 (.tmp (.r (.r (.l (.l (.l .o))))))) (.l (.l (.r (.l (.l .o))))),
 .go (.load1 (.tmp (.l (.l (.r (.l (.l .o))))))) (.r (.l (.r (.l (.l .o))))),
 .go (.move (.con (.int .i64 (.ofNat 0)))) (.l (.r (.r (.l (.l .o)))))]) (.block 1 (.loop (.seq (.run [.go (.bin .lss 3 (.tmp (.l (.r (.r (.l (.l .o)))))) (.tmp (.r (.l (.r (.l (.l .o))))))) (.r (.r (.r (.l (.l .o)))))]) (.seq (.cond (.tmp (.r (.r (.r (.l (.l .o)))))) .skip (.exit 1)) (.seq (.block 2 (.seq (.run [.go (.move (.tmp (.l (.r (.r (.l (.l .o))))))) (.l (.l (.l (.r (.l .o))))),
 .go (.move (.tmp (.l (.l (.l (.r (.l .o))))))) (.l (.r (.l .o)))]) (.seq (.run [.go (.move (.tmp (.l .o))) (.r (.l (.l (.r (.l .o))))),
 .go (.move (.tmp (.r (.l (.l (.r (.l .o))))))) (.r (.r (.l .o)))]) (.seq (.seq (.run [.go (.move (.tmp (.l (.r (.l .o))))) (.l (.r (.l (.r (.l .o))))),
 .go (.fieldAddr 0 (.tmp (.r .o))) (.r (.r (.l (.r (.l .o))))),
 .go (.fieldAddr 2 (.tmp (.r (.r (.l (.r (.l .o))))))) (.l (.l (.r (.r (.l .o))))),
 .go (.load1 (.tmp (.l (.l (.r (.r (.l .o))))))) (.r (.l (.r (.r (.l .o))))),
 .go (.move (.tmp .o)) (.l (.r (.r (.r (.l .o))))),
 .go (.indexAddr none 5 (.tmp (.r (.l (.r (.r (.l .o)))))) (.tmp (.l (.r (.r (.r (.l .o))))))) (.r (.r (.r (.r (.l .o))))),
 .go (.fieldAddr 1 (.tmp (.r (.r (.r (.r (.l .o))))))) (.l (.l (.l (.l (.r .o))))),
 .go (.load1 (.tmp (.l (.l (.l (.l (.r .o))))))) (.r (.l (.l (.l (.r .o))))),
 .go (.bin .neq 3 (.tmp (.l (.r (.l (.r (.l .o)))))) (.tmp (.r (.l (.l (.l (.r .o))))))) (.l (.r (.l (.l (.r .o)))))]) (.cond (.tmp (.l (.r (.l (.l (.r .o)))))) (.run [.go (.move (.tmp (.r (.r (.l .o))))) (.r (.r (.l (.l (.r .o))))),
 .go (.bin .sub 3 (.tmp (.r (.r (.l (.l (.r .o)))))) (.con (.int .i64 (.ofNat 1)))) (.l (.l (.r (.l (.r .o))))),
 .go (.move (.tmp (.l (.l (.r (.l (.r .o))))))) (.r (.r (.l .o)))]) .skip)) (.seq (.run [.go (.move (.tmp .o)) (.r (.l (.r (.l (.r .o))))),
 .go (.move (.tmp (.l (.r (.l .o))))) (.l (.r (.r (.l (.r .o))))),
 .go (.indexAddr (some 8) 1 (.tmp (.r (.l .o))) (.tmp (.r (.l (.r (.l (.r .o))))))) (.r (.r (.r (.l (.r .o))))),
 .un (.store 1 (.tmp (.r (.r (.r (.l (.r .o)))))) (.tmp (.l (.r (.r (.l (.r .o)))))))]) (.seq (.run [.go (.load1 (.tmp (.l (.r .o)))) (.l (.l (.l (.r (.r .o))))),
 .go (.move (.tmp .o)) (.r (.l (.l (.r (.r .o))))),
 .go (.bin .add 3 (.tmp (.r (.l (.l (.r (.r .o)))))) (.con (.int .i64 (.ofNat 1)))) (.l (.r (.l (.r (.r .o))))),
 .go (.move (.tmp (.r (.r (.l .o))))) (.r (.r (.l (.r (.r .o))))),
 .go (.call (.tmp (.l (.l (.l (.r (.r .o)))))) [(.tmp (.l (.r (.l (.r (.r .o)))))),(.tmp (.r (.r (.l (.r (.r .o))))))]) (.l (.l (.r (.r (.r .o))))),
 .go (.un .not (.tmp (.l (.l (.r (.r (.r .o))))))) (.r (.l (.r (.r (.r .o)))))]) (.cond (.tmp (.r (.l (.r (.r (.r .o)))))) (.seq (.run [.go (.move (.con (.bool false))) (.r (.l (.l .o)))]) .ret) .skip))))))) (.run [.go (.bin .add 3 (.tmp (.l (.r (.r (.l (.l .o)))))) (.con (.int .i64 (.ofNat 1)))) (.l (.r (.r (.r (.r .o))))),
 .go (.move (.tmp (.l (.r (.r (.r (.r .o))))))) (.l (.r (.r (.l (.l .o)))))]))))))) (.seq (.run [.go (.move (.con (.bool true))) (.r (.l (.l .o)))]) .ret))))
noncomputable def f120 : FFunc := .mk c120 (.n U (.n U (.n U (.n U (.n U (.n U .e .e) (.n U .e .e)) (.n U (.n U .e .e) (.n U .e .e))) (.n U (.n U (.n U .e .e) (.n U .e .e)) (.n U (.n U .e .e) (.n U .e .e)))) (.n U (.n U (.n U (.n U .e .e) (.n U .e .e)) (.n U (.n U .e .e) (.n U .e .e))) (.n U (.n U (.n U .e .e) (.n U .e .e)) (.n U (.n U .e .e) (.n U .e .e))))) (.n U (.n U (.n U (.n U (.n U .e .e) (.n U .e .e)) (.n U (.n U .e .e) (.n U .e .e))) (.n U (.n U (.n U .e .e) (.n U .e .e)) (.n U (.n U .e .e) (.n U .e .e)))) (.n U (.n U (.n U (.n U .e .e) (.n U .e .e)) (.n U (.n U .e .e) (.n U .e .e))) (.n U (.n U (.n U .e .e) (.n U .e .e)) (.n U (.n U .e .e) .e))))) [.o,(.l .o),(.r .o),(.l (.l .o)),(.r (.l .o)),(.l (.r .o))] [.tmp (.r (.l (.l .o)))]
theorem e120 : @compF Try.prog (Gl.none Try.prog) Try.f120 6 = f120 := by kernel_rfl
theorem o120 : okF Try.prog Try.f120 = true := by kernel_rfl
theorem g120 : Try.prog.funcs[(120 : Nat)]? = some Try.f120 := by kernel_rfl
noncomputable def tbl0 : FT := (.n .bad (.n .bad (.n .bad (.n f7 (.n .bad (.n .bad (.n f63 (.n .bad .e .e) .e) (.n f95 .e .e)) (.n f47 (.n f79 .e .e) (.n f111 .e .e))) (.n f23 (.n f39 (.n f71 (.n .bad .e .e) .e) (.n f103 .e .e)) (.n f55 (.n f87 .e .e) (.n f119 .e .e)))) (.n .bad (.n .bad (.n .bad (.n f67 (.n .bad .e .e) .e) (.n f99 .e .e)) (.n .bad (.n f83 .e .e) (.n f115 .e .e))) (.n f27 (.n .bad (.n f75 .e .e) (.n f107 .e .e)) (.n .bad (.n f91 .e .e) (.n .bad .e .e))))) (.n .bad (.n .bad (.n f17 (.n .bad (.n .bad (.n .bad .e .e) .e) (.n f97 .e .e)) (.n .bad (.n f81 .e .e) (.n f113 .e .e))) (.n .bad (.n f41 (.n f73 (.n .bad .e .e) .e) (.n f105 .e .e)) (.n f57 (.n f89 .e .e) (.n .bad .e .e)))) (.n .bad (.n .bad (.n f37 (.n f69 (.n .bad .e .e) .e) (.n f101 .e .e)) (.n .bad (.n f85 .e .e) (.n f117 .e .e))) (.n .bad (.n .bad (.n .bad .e .e) (.n f109 .e .e)) (.n f61 (.n f93 .e .e) (.n .bad .e .e)))))) (.n .bad (.n .bad (.n .bad (.n .bad (.n .bad (.n f64 (.n .bad .e .e) .e) (.n f96 .e .e)) (.n f48 (.n f80 .e .e) (.n f112 .e .e))) (.n .bad (.n .bad (.n f72 (.n .bad .e .e) .e) (.n f104 .e .e)) (.n f56 (.n f88 .e .e) (.n f120 .e .e)))) (.n .bad (.n f20 (.n f36 (.n .bad (.n .bad .e .e) .e) (.n f100 .e .e)) (.n .bad (.n f84 .e .e) (.n f116 .e .e))) (.n f28 (.n .bad (.n .bad .e .e) (.n f108 .e .e)) (.n .bad (.n f92 .e .e) (.n .bad .e .e))))) (.n .bad (.n .bad (.n f18 (.n .bad (.n f66 (.n .bad .e .e) .e) (.n f98 .e .e)) (.n .bad (.n f82 .e .e) (.n f114 .e .e))) (.n f26 (.n .bad (.n f74 .e .e) (.n f106 .e .e)) (.n f58 (.n f90 .e .e) (.n .bad .e .e)))) (.n .bad (.n .bad (.n .bad (.n f70 (.n .bad .e .e) .e) (.n f102 .e .e)) (.n f54 (.n f86 .e .e) (.n f118 .e .e))) (.n .bad (.n .bad (.n f78 .e .e) (.n f110 .e .e)) (.n f62 (.n f94 .e .e) (.n .bad .e .e)))))))
noncomputable def F0 (n : Nat) : FFunc := look tbl0 n
def orcs0 (_n : Nat) : Option Bool := none
theorem ok0 (O : Orc Try.prog) (h : O.O = orcs0) : @FnOk Try.prog (Gl.none Try.prog) O F0 := @fnOk_of Try.prog (Gl.none Try.prog) O _ (by rw [h]; exact ⟨.inl rfl, ⟨.inl rfl, ⟨.inl rfl, ⟨.inr (.inr ⟨rfl, _, _, g7, o7, e7⟩), ⟨.inl rfl, ⟨.inl rfl, ⟨.inr (.inr ⟨rfl, _, _, g63, o63, e63⟩), ⟨.inl rfl, trivial, trivial⟩, trivial⟩, ⟨.inr (.inr ⟨rfl, _, _, g95, o95, e95⟩), trivial, trivial⟩⟩, ⟨.inr (.inr ⟨rfl, _, _, g47, o47, e47⟩), ⟨.inr (.inr ⟨rfl, _, _, g79, o79, e79⟩), trivial, trivial⟩, ⟨.inr (.inr ⟨rfl, _, _, g111, o111, e111⟩), trivial, trivial⟩⟩⟩, ⟨.inr (.inr ⟨rfl, _, _, g23, o23, e23⟩), ⟨.inr (.inr ⟨rfl, _, _, g39, o39, e39⟩), ⟨.inr (.inr ⟨rfl, _, _, g71, o71, e71⟩), ⟨.inl rfl, trivial, trivial⟩, trivial⟩, ⟨.inr (.inr ⟨rfl, _, _, g103, o103, e103⟩), trivial, trivial⟩⟩, ⟨.inr (.inr ⟨rfl, _, _, g55, o55, e55⟩), ⟨.inr (.inr ⟨rfl, _, _, g87, o87, e87⟩), trivial, trivial⟩, ⟨.inr (.inr ⟨rfl, _, _, g119, o119, e119⟩), trivial, trivial⟩⟩⟩⟩, ⟨.inl rfl, ⟨.inl rfl, ⟨.inl rfl, ⟨.inr (.inr ⟨rfl, _, _, g67, o67, e67⟩), ⟨.inl rfl, trivial, trivial⟩, trivial⟩, ⟨.inr (.inr ⟨rfl, _, _, g99, o99, e99⟩), trivial, trivial⟩⟩, ⟨.inl rfl, ⟨.inr (.inr ⟨rfl, _, _, g83, o83, e83⟩), trivial, trivial⟩, ⟨.inr (.inr ⟨rfl, _, _, g115, o115, e115⟩), trivial, trivial⟩⟩⟩, ⟨.inr (.inr ⟨rfl, _, _, g27, o27, e27⟩), ⟨.inl rfl, ⟨.inr (.inr ⟨rfl, _, _, g75, o75, e75⟩), trivial, trivial⟩, ⟨.inr (.inr ⟨rfl, _, _, g107, o107, e107⟩), trivial, trivial⟩⟩, ⟨.inl rfl, ⟨.inr (.inr ⟨rfl, _, _, g91, o91, e91⟩), trivial, trivial⟩, ⟨.inl rfl, trivial, trivial⟩⟩⟩⟩⟩, ⟨.inl rfl, ⟨.inl rfl, ⟨.inr (.inr ⟨rfl, _, _, g17, o17, e17⟩), ⟨.inl rfl, ⟨.inl rfl, ⟨.inl rfl, trivial, trivial⟩, trivial⟩, ⟨.inr (.inr ⟨rfl, _, _, g97, o97, e97⟩), trivial, trivial⟩⟩, ⟨.inl rfl, ⟨.inr (.inr ⟨rfl, _, _, g81, o81, e81⟩), trivial, trivial⟩, ⟨.inr (.inr ⟨rfl, _, _, g113, o113, e113⟩), trivial, trivial⟩⟩⟩, ⟨.inl rfl, ⟨.inr (.inr ⟨rfl, _, _, g41, o41, e41⟩), ⟨.inr (.inr ⟨rfl, _, _, g73, o73, e73⟩), ⟨.inl rfl, trivial, trivial⟩, trivial⟩, ⟨.inr (.inr ⟨rfl, _, _, g105, o105, e105⟩), trivial, trivial⟩⟩, ⟨.inr (.inr ⟨rfl, _, _, g57, o57, e57⟩), ⟨.inr (.inr ⟨rfl, _, _, g89, o89, e89⟩), trivial, trivial⟩, ⟨.inl rfl, trivial, trivial⟩⟩⟩⟩, ⟨.inl rfl, ⟨.inl rfl, ⟨.inr (.inr ⟨rfl, _, _, g37, o37, e37⟩), ⟨.inr (.inr ⟨rfl, _, _, g69, o69, e69⟩), ⟨.inl rfl, trivial, trivial⟩, trivial⟩, ⟨.inr (.inr ⟨rfl, _, _, g101, o101, e101⟩), trivial, trivial⟩⟩, ⟨.inl rfl, ⟨.inr (.inr ⟨rfl, _, _, g85, o85, e85⟩), trivial, trivial⟩, ⟨.inr (.inr ⟨rfl, _, _, g117, o117, e117⟩), trivial, trivial⟩⟩⟩, ⟨.inl rfl, ⟨.inl rfl, ⟨.inl rfl, trivial, trivial⟩, ⟨.inr (.inr ⟨rfl, _, _, g109, o109, e109⟩), trivial, trivial⟩⟩, ⟨.inr (.inr ⟨rfl, _, _, g61, o61, e61⟩), ⟨.inr (.inr ⟨rfl, _, _, g93, o93, e93⟩), trivial, trivial⟩, ⟨.inl rfl, trivial, trivial⟩⟩⟩⟩⟩⟩, ⟨.inl rfl, ⟨.inl rfl, ⟨.inl rfl, ⟨.inl rfl, ⟨.inl rfl, ⟨.inr (.inr ⟨rfl, _, _, g64, o64, e64⟩), ⟨.inl rfl, trivial, trivial⟩, trivial⟩, ⟨.inr (.inr ⟨rfl, _, _, g96, o96, e96⟩), trivial, trivial⟩⟩, ⟨.inr (.inr ⟨rfl, _, _, g48, o48, e48⟩), ⟨.inr (.inr ⟨rfl, _, _, g80, o80, e80⟩), trivial, trivial⟩, ⟨.inr (.inr ⟨rfl, _, _, g112, o112, e112⟩), trivial, trivial⟩⟩⟩, ⟨.inl rfl, ⟨.inl rfl, ⟨.inr (.inr ⟨rfl, _, _, g72, o72, e72⟩), ⟨.inl rfl, trivial, trivial⟩, trivial⟩, ⟨.inr (.inr ⟨rfl, _, _, g104, o104, e104⟩), trivial, trivial⟩⟩, ⟨.inr (.inr ⟨rfl, _, _, g56, o56, e56⟩), ⟨.inr (.inr ⟨rfl, _, _, g88, o88, e88⟩), trivial, trivial⟩, ⟨.inr (.inr ⟨rfl, _, _, g120, o120, e120⟩), trivial, trivial⟩⟩⟩⟩, ⟨.inl rfl, ⟨.inr (.inr ⟨rfl, _, _, g20, o20, e20⟩), ⟨.inr (.inr ⟨rfl, _, _, g36, o36, e36⟩), ⟨.inl rfl, ⟨.inl rfl, trivial, trivial⟩, trivial⟩, ⟨.inr (.inr ⟨rfl, _, _, g100, o100, e100⟩), trivial, trivial⟩⟩, ⟨.inl rfl, ⟨.inr (.inr ⟨rfl, _, _, g84, o84, e84⟩), trivial, trivial⟩, ⟨.inr (.inr ⟨rfl, _, _, g116, o116, e116⟩), trivial, trivial⟩⟩⟩, ⟨.inr (.inr ⟨rfl, _, _, g28, o28, e28⟩), ⟨.inl rfl, ⟨.inl rfl, trivial, trivial⟩, ⟨.inr (.inr ⟨rfl, _, _, g108, o108, e108⟩), trivial, trivial⟩⟩, ⟨.inl rfl, ⟨.inr (.inr ⟨rfl, _, _, g92, o92, e92⟩), trivial, trivial⟩, ⟨.inl rfl, trivial, trivial⟩⟩⟩⟩⟩, ⟨.inl rfl, ⟨.inl rfl, ⟨.inr (.inr ⟨rfl, _, _, g18, o18, e18⟩), ⟨.inl rfl, ⟨.inr (.inr ⟨rfl, _, _, g66, o66, e66⟩), ⟨.inl rfl, trivial, trivial⟩, trivial⟩, ⟨.inr (.inr ⟨rfl, _, _, g98, o98, e98⟩), trivial, trivial⟩⟩, ⟨.inl rfl, ⟨.inr (.inr ⟨rfl, _, _, g82, o82, e82⟩), trivial, trivial⟩, ⟨.inr (.inr ⟨rfl, _, _, g114, o114, e114⟩), trivial, trivial⟩⟩⟩, ⟨.inr (.inr ⟨rfl, _, _, g26, o26, e26⟩), ⟨.inl rfl, ⟨.inr (.inr ⟨rfl, _, _, g74, o74, e74⟩), trivial, trivial⟩, ⟨.inr (.inr ⟨rfl, _, _, g106, o106, e106⟩), trivial, trivial⟩⟩, ⟨.inr (.inr ⟨rfl, _, _, g58, o58, e58⟩), ⟨.inr (.inr ⟨rfl, _, _, g90, o90, e90⟩), trivial, trivial⟩, ⟨.inl rfl, trivial, trivial⟩⟩⟩⟩, ⟨.inl rfl, ⟨.inl rfl, ⟨.inl rfl, ⟨.inr (.inr ⟨rfl, _, _, g70, o70, e70⟩), ⟨.inl rfl, trivial, trivial⟩, trivial⟩, ⟨.inr (.inr ⟨rfl, _, _, g102, o102, e102⟩), trivial, trivial⟩⟩, ⟨.inr (.inr ⟨rfl, _, _, g54, o54, e54⟩), ⟨.inr (.inr ⟨rfl, _, _, g86, o86, e86⟩), trivial, trivial⟩, ⟨.inr (.inr ⟨rfl, _, _, g118, o118, e118⟩), trivial, trivial⟩⟩⟩, ⟨.inl rfl, ⟨.inl rfl, ⟨.inr (.inr ⟨rfl, _, _, g78, o78, e78⟩), trivial, trivial⟩, ⟨.inr (.inr ⟨rfl, _, _, g110, o110, e110⟩), trivial, trivial⟩⟩, ⟨.inr (.inr ⟨rfl, _, _, g62, o62, e62⟩), ⟨.inr (.inr ⟨rfl, _, _, g94, o94, e94⟩), trivial, trivial⟩, ⟨.inl rfl, trivial, trivial⟩⟩⟩⟩⟩⟩⟩)
noncomputable def tbl1 : FT := (.n .bad (.n .bad (.n .bad (.n f7 (.n .bad (.n .bad (.n f63 (.n .bad .e .e) .e) (.n f95 .e .e)) (.n f47 (.n f79 .e .e) (.n f111 .e .e))) (.n f23 (.n f39 (.n f71 (.n .bad .e .e) .e) (.n f103 .e .e)) (.n f55 (.n f87 .e .e) (.n f119 .e .e)))) (.n .bad (.n .bad (.n .bad (.n f67 (.n .bad .e .e) .e) (.n f99 .e .e)) (.n .bad (.n f83 .e .e) (.n f115 .e .e))) (.n f27 (.n .bad (.n f75 .e .e) (.n f107 .e .e)) (.n .bad (.n f91 .e .e) (.n .bad .e .e))))) (.n .bad (.n .bad (.n (.orc true) (.n .bad (.n .bad (.n .bad .e .e) .e) (.n f97 .e .e)) (.n .bad (.n f81 .e .e) (.n f113 .e .e))) (.n .bad (.n f41 (.n f73 (.n .bad .e .e) .e) (.n f105 .e .e)) (.n f57 (.n f89 .e .e) (.n .bad .e .e)))) (.n .bad (.n .bad (.n f37 (.n f69 (.n .bad .e .e) .e) (.n f101 .e .e)) (.n .bad (.n f85 .e .e) (.n f117 .e .e))) (.n .bad (.n .bad (.n .bad .e .e) (.n f109 .e .e)) (.n f61 (.n f93 .e .e) (.n .bad .e .e)))))) (.n .bad (.n .bad (.n .bad (.n .bad (.n .bad (.n f64 (.n .bad .e .e) .e) (.n f96 .e .e)) (.n f48 (.n f80 .e .e) (.n f112 .e .e))) (.n .bad (.n .bad (.n f72 (.n .bad .e .e) .e) (.n f104 .e .e)) (.n f56 (.n f88 .e .e) (.n f120 .e .e)))) (.n .bad (.n f20 (.n f36 (.n .bad (.n .bad .e .e) .e) (.n f100 .e .e)) (.n .bad (.n f84 .e .e) (.n f116 .e .e))) (.n f28 (.n .bad (.n .bad .e .e) (.n f108 .e .e)) (.n .bad (.n f92 .e .e) (.n .bad .e .e))))) (.n .bad (.n .bad (.n f18 (.n .bad (.n f66 (.n .bad .e .e) .e) (.n f98 .e .e)) (.n .bad (.n f82 .e .e) (.n f114 .e .e))) (.n f26 (.n .bad (.n f74 .e .e) (.n f106 .e .e)) (.n f58 (.n f90 .e .e) (.n .bad .e .e)))) (.n .bad (.n .bad (.n .bad (.n f70 (.n .bad .e .e) .e) (.n f102 .e .e)) (.n f54 (.n f86 .e .e) (.n f118 .e .e))) (.n .bad (.n .bad (.n f78 .e .e) (.n f110 .e .e)) (.n f62 (.n f94 .e .e) (.n .bad .e .e)))))))
noncomputable def F1 (n : Nat) : FFunc := look tbl1 n
def orcs1 (_n : Nat) : Option Bool := if _n = 17 then some true else none
theorem ok1 (O : Orc Try.prog) (h : O.O = orcs1) : @FnOk Try.prog (Gl.none Try.prog) O F1 := @fnOk_of Try.prog (Gl.none Try.prog) O _ (by rw [h]; exact ⟨.inl rfl, ⟨.inl rfl, ⟨.inl rfl, ⟨.inr (.inr ⟨rfl, _, _, g7, o7, e7⟩), ⟨.inl rfl, ⟨.inl rfl, ⟨.inr (.inr ⟨rfl, _, _, g63, o63, e63⟩), ⟨.inl rfl, trivial, trivial⟩, trivial⟩, ⟨.inr (.inr ⟨rfl, _, _, g95, o95, e95⟩), trivial, trivial⟩⟩, ⟨.inr (.inr ⟨rfl, _, _, g47, o47, e47⟩), ⟨.inr (.inr ⟨rfl, _, _, g79, o79, e79⟩), trivial, trivial⟩, ⟨.inr (.inr ⟨rfl, _, _, g111, o111, e111⟩), trivial, trivial⟩⟩⟩, ⟨.inr (.inr ⟨rfl, _, _, g23, o23, e23⟩), ⟨.inr (.inr ⟨rfl, _, _, g39, o39, e39⟩), ⟨.inr (.inr ⟨rfl, _, _, g71, o71, e71⟩), ⟨.inl rfl, trivial, trivial⟩, trivial⟩, ⟨.inr (.inr ⟨rfl, _, _, g103, o103, e103⟩), trivial, trivial⟩⟩, ⟨.inr (.inr ⟨rfl, _, _, g55, o55, e55⟩), ⟨.inr (.inr ⟨rfl, _, _, g87, o87, e87⟩), trivial, trivial⟩, ⟨.inr (.inr ⟨rfl, _, _, g119, o119, e119⟩), trivial, trivial⟩⟩⟩⟩, ⟨.inl rfl, ⟨.inl rfl, ⟨.inl rfl, ⟨.inr (.inr ⟨rfl, _, _, g67, o67, e67⟩), ⟨.inl rfl, trivial, trivial⟩, trivial⟩, ⟨.inr (.inr ⟨rfl, _, _, g99, o99, e99⟩), trivial, trivial⟩⟩, ⟨.inl rfl, ⟨.inr (.inr ⟨rfl, _, _, g83, o83, e83⟩), trivial, trivial⟩, ⟨.inr (.inr ⟨rfl, _, _, g115, o115, e115⟩), trivial, trivial⟩⟩⟩, ⟨.inr (.inr ⟨rfl, _, _, g27, o27, e27⟩), ⟨.inl rfl, ⟨.inr (.inr ⟨rfl, _, _, g75, o75, e75⟩), trivial, trivial⟩, ⟨.inr (.inr ⟨rfl, _, _, g107, o107, e107⟩), trivial, trivial⟩⟩, ⟨.inl rfl, ⟨.inr (.inr ⟨rfl, _, _, g91, o91, e91⟩), trivial, trivial⟩, ⟨.inl rfl, trivial, trivial⟩⟩⟩⟩⟩, ⟨.inl rfl, ⟨.inl rfl, ⟨.inr (.inl ⟨_, rfl, rfl⟩), ⟨.inl rfl, ⟨.inl rfl, ⟨.inl rfl, trivial, trivial⟩, trivial⟩, ⟨.inr (.inr ⟨rfl, _, _, g97, o97, e97⟩), trivial, trivial⟩⟩, ⟨.inl rfl, ⟨.inr (.inr ⟨rfl, _, _, g81, o81, e81⟩), trivial, trivial⟩, ⟨.inr (.inr ⟨rfl, _, _, g113, o113, e113⟩), trivial, trivial⟩⟩⟩, ⟨.inl rfl, ⟨.inr (.inr ⟨rfl, _, _, g41, o41, e41⟩), ⟨.inr (.inr ⟨rfl, _, _, g73, o73, e73⟩), ⟨.inl rfl, trivial, trivial⟩, trivial⟩, ⟨.inr (.inr ⟨rfl, _, _, g105, o105, e105⟩), trivial, trivial⟩⟩, ⟨.inr (.inr ⟨rfl, _, _, g57, o57, e57⟩), ⟨.inr (.inr ⟨rfl, _, _, g89, o89, e89⟩), trivial, trivial⟩, ⟨.inl rfl, trivial, trivial⟩⟩⟩⟩, ⟨.inl rfl, ⟨.inl rfl, ⟨.inr (.inr ⟨rfl, _, _, g37, o37, e37⟩), ⟨.inr (.inr ⟨rfl, _, _, g69, o69, e69⟩), ⟨.inl rfl, trivial, trivial⟩, trivial⟩, ⟨.inr (.inr ⟨rfl, _, _, g101, o101, e101⟩), trivial, trivial⟩⟩, ⟨.inl rfl, ⟨.inr (.inr ⟨rfl, _, _, g85, o85, e85⟩), trivial, trivial⟩, ⟨.inr (.inr ⟨rfl, _, _, g117, o117, e117⟩), trivial, trivial⟩⟩⟩, ⟨.inl rfl, ⟨.inl rfl, ⟨.inl rfl, trivial, trivial⟩, ⟨.inr (.inr ⟨rfl, _, _, g109, o109, e109⟩), trivial, trivial⟩⟩, ⟨.inr (.inr ⟨rfl, _, _, g61, o61, e61⟩), ⟨.inr (.inr ⟨rfl, _, _, g93, o93, e93⟩), trivial, trivial⟩, ⟨.inl rfl, trivial, trivial⟩⟩⟩⟩⟩⟩, ⟨.inl rfl, ⟨.inl rfl, ⟨.inl rfl, ⟨.inl rfl, ⟨.inl rfl, ⟨.inr (.inr ⟨rfl, _, _, g64, o64, e64⟩), ⟨.inl rfl, trivial, trivial⟩, trivial⟩, ⟨.inr (.inr ⟨rfl, _, _, g96, o96, e96⟩), trivial, trivial⟩⟩, ⟨.inr (.inr ⟨rfl, _, _, g48, o48, e48⟩), ⟨.inr (.inr ⟨rfl, _, _, g80, o80, e80⟩), trivial, trivial⟩, ⟨.inr (.inr ⟨rfl, _, _, g112, o112, e112⟩), trivial, trivial⟩⟩⟩, ⟨.inl rfl, ⟨.inl rfl, ⟨.inr (.inr ⟨rfl, _, _, g72, o72, e72⟩), ⟨.inl rfl, trivial, trivial⟩, trivial⟩, ⟨.inr (.inr ⟨rfl, _, _, g104, o104, e104⟩), trivial, trivial⟩⟩, ⟨.inr (.inr ⟨rfl, _, _, g56, o56, e56⟩), ⟨.inr (.inr ⟨rfl, _, _, g88, o88, e88⟩), trivial, trivial⟩, ⟨.inr (.inr ⟨rfl, _, _, g120, o120, e120⟩), trivial, trivial⟩⟩⟩⟩, ⟨.inl rfl, ⟨.inr (.inr ⟨rfl, _, _, g20, o20, e20⟩), ⟨.inr (.inr ⟨rfl, _, _, g36, o36, e36⟩), ⟨.inl rfl, ⟨.inl rfl, trivial, trivial⟩, trivial⟩, ⟨.inr (.inr ⟨rfl, _, _, g100, o100, e100⟩), trivial, trivial⟩⟩, ⟨.inl rfl, ⟨.inr (.inr ⟨rfl, _, _, g84, o84, e84⟩), trivial, trivial⟩, ⟨.inr (.inr ⟨rfl, _, _, g116, o116, e116⟩), trivial, trivial⟩⟩⟩, ⟨.inr (.inr ⟨rfl, _, _, g28, o28, e28⟩), ⟨.inl rfl, ⟨.inl rfl, trivial, trivial⟩, ⟨.inr (.inr ⟨rfl, _, _, g108, o108, e108⟩), trivial, trivial⟩⟩, ⟨.inl rfl, ⟨.inr (.inr ⟨rfl, _, _, g92, o92, e92⟩), trivial, trivial⟩, ⟨.inl rfl, trivial, trivial⟩⟩⟩⟩⟩, ⟨.inl rfl, ⟨.inl rfl, ⟨.inr (.inr ⟨rfl, _, _, g18, o18, e18⟩), ⟨.inl rfl, ⟨.inr (.inr ⟨rfl, _, _, g66, o66, e66⟩), ⟨.inl rfl, trivial, trivial⟩, trivial⟩, ⟨.inr (.inr ⟨rfl, _, _, g98, o98, e98⟩), trivial, trivial⟩⟩, ⟨.inl rfl, ⟨.inr (.inr ⟨rfl, _, _, g82, o82, e82⟩), trivial, trivial⟩, ⟨.inr (.inr ⟨rfl, _, _, g114, o114, e114⟩), trivial, trivial⟩⟩⟩, ⟨.inr (.inr ⟨rfl, _, _, g26, o26, e26⟩), ⟨.inl rfl, ⟨.inr (.inr ⟨rfl, _, _, g74, o74, e74⟩), trivial, trivial⟩, ⟨.inr (.inr ⟨rfl, _, _, g106, o106, e106⟩), trivial, trivial⟩⟩, ⟨.inr (.inr ⟨rfl, _, _, g58, o58, e58⟩), ⟨.inr (.inr ⟨rfl, _, _, g90, o90, e90⟩), trivial, trivial⟩, ⟨.inl rfl, trivial, trivial⟩⟩⟩⟩, ⟨.inl rfl, ⟨.inl rfl, ⟨.inl rfl, ⟨.inr (.inr ⟨rfl, _, _, g70, o70, e70⟩), ⟨.inl rfl, trivial, trivial⟩, trivial⟩, ⟨.inr (.inr ⟨rfl, _, _, g102, o102, e102⟩), trivial, trivial⟩⟩, ⟨.inr (.inr ⟨rfl, _, _, g54, o54, e54⟩), ⟨.inr (.inr ⟨rfl, _, _, g86, o86, e86⟩), trivial, trivial⟩, ⟨.inr (.inr ⟨rfl, _, _, g118, o118, e118⟩), trivial, trivial⟩⟩⟩, ⟨.inl rfl, ⟨.inl rfl, ⟨.inr (.inr ⟨rfl, _, _, g78, o78, e78⟩), trivial, trivial⟩, ⟨.inr (.inr ⟨rfl, _, _, g110, o110, e110⟩), trivial, trivial⟩⟩, ⟨.inr (.inr ⟨rfl, _, _, g62, o62, e62⟩), ⟨.inr (.inr ⟨rfl, _, _, g94, o94, e94⟩), trivial, trivial⟩, ⟨.inl rfl, trivial, trivial⟩⟩⟩⟩⟩⟩⟩)
end Go.Xe.TW
