/- The code of the program's functions, their types resolved, as the machine for the kernel runs it: definitions, and for each that it is the program's own. Conditions: none. -/
import Derived.Test.YtefoodhfkkcmcaaYk
import Derived.Test.YtefoodhfkkcmcaaProg
import Derived.KernelRfl
namespace Go.Xe.TA
open Go Go.Xe Go.Proofs
set_option maxRecDepth 1000000
abbrev U : Value := .tuple ⟨[]⟩
def p0 : Pth := .o
def p1 : Pth := .l p0
def p2 : Pth := .r p0
def p3 : Pth := .l p1
def p4 : Pth := .r p1
def p5 : Pth := .l p2
def p6 : Pth := .r p2
def p7 : Pth := .l p3
def p8 : Pth := .r p3
def p9 : Pth := .l p4
def p10 : Pth := .r p4
def p11 : Pth := .l p5
def p12 : Pth := .r p5
def p13 : Pth := .l p6
def p14 : Pth := .r p6
def p15 : Pth := .l p7
def p16 : Pth := .r p7
def p17 : Pth := .l p8
def p18 : Pth := .r p8
def p19 : Pth := .l p9
def p20 : Pth := .r p9
def p21 : Pth := .l p10
def p22 : Pth := .r p10
def p23 : Pth := .l p11
def p24 : Pth := .r p11
def p25 : Pth := .l p12
def p26 : Pth := .r p12
def p27 : Pth := .l p13
def p28 : Pth := .r p13
def p29 : Pth := .l p14
def p30 : Pth := .r p14
def p31 : Pth := .l p15
def p32 : Pth := .r p15
def p33 : Pth := .l p16
def p34 : Pth := .r p16
def p35 : Pth := .l p17
def p36 : Pth := .r p17
def p37 : Pth := .l p18
def p38 : Pth := .r p18
def p39 : Pth := .l p19
def p40 : Pth := .r p19
def p41 : Pth := .l p20
def p42 : Pth := .r p20
def p43 : Pth := .l p21
def p44 : Pth := .r p21
def p45 : Pth := .l p22
def p46 : Pth := .r p22
def p47 : Pth := .l p23
def p48 : Pth := .r p23
def p49 : Pth := .l p24
def p50 : Pth := .r p24
def p51 : Pth := .l p25
def p52 : Pth := .r p25
def p53 : Pth := .l p26
def p54 : Pth := .r p26
def p55 : Pth := .l p27
def p56 : Pth := .r p27
def p57 : Pth := .l p28
def p58 : Pth := .r p28
def p59 : Pth := .l p29
def p60 : Pth := .r p29
def p61 : Pth := .l p30
def p62 : Pth := .r p30
def p63 : Pth := .l p31
def p64 : Pth := .r p31
def p65 : Pth := .l p32
def p66 : Pth := .r p32
def p67 : Pth := .l p33
def p68 : Pth := .r p33
def p69 : Pth := .l p34
def p70 : Pth := .r p34
def p71 : Pth := .l p35
def p72 : Pth := .r p35
def p73 : Pth := .l p36
def p74 : Pth := .r p36
def p75 : Pth := .l p37
def p76 : Pth := .r p37
def p77 : Pth := .l p38
def p78 : Pth := .r p38
def p79 : Pth := .l p39
def p80 : Pth := .r p39
def p81 : Pth := .l p40
def p82 : Pth := .r p40
def p83 : Pth := .l p41
def p84 : Pth := .r p41
def p85 : Pth := .l p42
def p86 : Pth := .r p42
def p87 : Pth := .l p43
def p88 : Pth := .r p43
def p89 : Pth := .l p44
def p90 : Pth := .r p44
def p91 : Pth := .l p45
def p92 : Pth := .r p45
def p93 : Pth := .l p46
def p94 : Pth := .r p46
def p95 : Pth := .l p47
def p96 : Pth := .r p47
def p97 : Pth := .l p48
def p98 : Pth := .r p48
def p99 : Pth := .l p49
def p100 : Pth := .r p49
def p101 : Pth := .l p50
def p102 : Pth := .r p50
def p103 : Pth := .l p51
def p104 : Pth := .r p51
def p105 : Pth := .l p52
def p106 : Pth := .r p52
def p107 : Pth := .l p53
def p108 : Pth := .r p53
def p109 : Pth := .l p54
def p110 : Pth := .r p54
def p111 : Pth := .l p55
def p112 : Pth := .r p55
def p113 : Pth := .l p56
def p114 : Pth := .r p56
def p115 : Pth := .l p57
def p116 : Pth := .r p57
def p117 : Pth := .l p58
def p118 : Pth := .r p58
def p119 : Pth := .l p59
def p120 : Pth := .r p59
def p121 : Pth := .l p60
def p122 : Pth := .r p60
def p123 : Pth := .l p61
def p124 : Pth := .r p61
def p125 : Pth := .l p62
def p126 : Pth := .r p62
def p127 : Pth := .l p63
def p128 : Pth := .r p63
def p129 : Pth := .l p64
def p130 : Pth := .r p64
def p131 : Pth := .l p65
def p132 : Pth := .r p65
def p133 : Pth := .l p66
def p134 : Pth := .r p66
def p135 : Pth := .l p67
def p136 : Pth := .r p67
def p137 : Pth := .l p68
def p138 : Pth := .r p68
def p139 : Pth := .l p69
def p140 : Pth := .r p69
def p141 : Pth := .l p70
def p142 : Pth := .r p70
def p143 : Pth := .l p71
def p144 : Pth := .r p71
def p145 : Pth := .l p72
def p146 : Pth := .r p72
def p147 : Pth := .l p73
def p148 : Pth := .r p73
def p149 : Pth := .l p74
def p150 : Pth := .r p74
def p151 : Pth := .l p75
def p152 : Pth := .r p75
def p153 : Pth := .l p76
def p154 : Pth := .r p76
def p155 : Pth := .l p77
def p156 : Pth := .r p77
def p157 : Pth := .l p78
def p158 : Pth := .r p78
def p159 : Pth := .l p79
def p160 : Pth := .r p79
def p161 : Pth := .l p80
def p162 : Pth := .r p80
def p163 : Pth := .l p81
def p164 : Pth := .r p81
def p165 : Pth := .l p82
def p166 : Pth := .r p82
def p167 : Pth := .l p83
def p168 : Pth := .r p83
def p169 : Pth := .l p84
def p170 : Pth := .r p84
def p171 : Pth := .l p85
def p172 : Pth := .r p85
def p173 : Pth := .l p86
def p174 : Pth := .r p86
def p175 : Pth := .l p87
def p176 : Pth := .r p87
def p177 : Pth := .l p88
noncomputable def c23 : FCode := (.seq (.run [.go (.box 28 (.tmp p0)) p2,
 .go (.move (.con (.slice none 0 0))) p4,
 .go (.move (.con (.int .i64 (.ofNat 0)))) p5]) (.seq (.seq (.run [.go (.loadN 4 (.tmp p2)) p7,
 .go (.call (.con (.func (.func 64) ⟨[]⟩ ⟨[]⟩)) [(.tmp p7)]) p8,
 .go (.un .not (.tmp p8)) p9]) (.cond (.tmp p9) (.seq (.run [.go (.move (.con (.slice none 0 0))) p4,
 .go (.move (.con (.int .i64 (.ofNat 1)))) p5]) .ret) .skip)) (.seq (.seq (.run [.go (.move (.tmp p1)) p10,
 .go (.buildSlice 3 1 [(.int .i64 (.ofNat 0))] [(0,1,(.tmp p10))]) p11,
 .go (.call (.con (.func (.func 67) ⟨[]⟩ ⟨[]⟩)) [(.tmp p11)]) p12,
 .go (.un .not (.tmp p12)) p13]) (.cond (.tmp p13) (.seq (.run [.go (.move (.con (.slice none 0 0))) p4,
 .go (.move (.con (.int .i64 (.ofNat 2)))) p5]) .ret) .skip)) (.seq (.run [.go (.loadN 4 (.tmp p2)) p14,
 .go (.move (.tmp p1)) p15,
 .go (.build [(.int .i64 (.ofNat 0)),(.int .i64 (.ofNat 0)),(.int .i64 (.ofNat 0)),(.int .i64 (.ofNat 0)),(.int .i64 (.ofNat 0))] [(0,4,(.tmp p14)),(4,1,(.tmp p15))]) p16,
 .go (.call (.con (.func (.func 68) ⟨[]⟩ ⟨[]⟩)) [(.tmp p16)]) p17,
 .go (.alloc 113 [(.bool false),(.bool false),(.bool false),(.bool false),(.bool false),(.bool false),(.bool false),(.bool false),(.bool false),(.bool false),(.bool false),(.bool false),(.bool false),(.bool false),(.bool false),(.bool false),(.bool false),(.bool false),(.bool false),(.bool false),(.bool false),(.bool false),(.bool false),(.bool false),(.bool false),(.bool false),(.bool false),(.bool false),(.bool false),(.bool false),(.bool false),(.bool false),(.bool false),(.bool false),(.bool false),(.bool false),(.bool false),(.bool false),(.bool false),(.bool false),(.bool false),(.bool false),(.bool false),(.bool false),(.bool false),(.bool false),(.bool false),(.bool false),(.bool false),(.bool false),(.bool false),(.bool false),(.bool false),(.bool false),(.bool false),(.bool false),(.bool false),(.bool false),(.bool false),(.bool false),(.bool false),(.bool false),(.bool false),(.bool false),(.bool false),(.bool false),(.bool false),(.bool false),(.bool false),(.bool false),(.bool false),(.bool false),(.bool false),(.bool false),(.bool false),(.bool false),(.bool false),(.bool false),(.bool false),(.bool false),(.bool false),(.bool false),(.bool false),(.bool false),(.bool false),(.bool false),(.bool false),(.bool false),(.bool false),(.bool false),(.bool false),(.bool false),(.bool false),(.bool false),(.bool false),(.bool false),(.bool false),(.bool false),(.bool false),(.bool false),(.bool false),(.bool false),(.bool false),(.bool false),(.bool false),(.bool false),(.bool false),(.bool false),(.bool false),(.bool false),(.bool false),(.bool false),(.bool false),(.bool false),(.bool false),(.bool false),(.bool false),(.bool false),(.bool false),(.bool false),(.bool false)]) p6,
 .un (.store 121 (.tmp p6) (.tmp p17))]) (.seq (.run [.go (.loadN 121 (.tmp p6)) p18,
 .go (.call (.con (.func (.func 69) ⟨[]⟩ ⟨[]⟩)) [(.tmp p18)]) p19,
 .go (.move (.tmp p19)) p4,
 .go (.move (.con (.int .i64 (.ofNat 0)))) p5]) .ret)))))
noncomputable def f23 : FFunc := .mk c23 (.n U (.n U (.n U (.n U (.n U .e .e) .e) (.n U (.n U .e .e) .e)) (.n U (.n U (.n U .e .e) .e) (.n U .e .e))) (.n U (.n U (.n U (.n U .e .e) .e) (.n U .e .e)) (.n U (.n U (.n U .e .e) .e) (.n U .e .e)))) [p0,p1] [.tmp p4,.tmp p5]
theorem e23 : @compF Try.prog (Gl.none Try.prog) Try.f23 2 = f23 := by kernel_rfl
theorem o23 : okF Try.prog Try.f23 = true := by kernel_rfl
theorem g23 : Try.prog.funcs[(23 : Nat)]? = some Try.f23 := by kernel_rfl
noncomputable def c26 : FCode := (.seq (.run [.go (.move (.con (.bool false))) p0]) (.seq (.run [.go (.call (.con (.func (.func 54) ⟨[]⟩ ⟨[]⟩)) []) p12,
 .go (.indexAddr none 4 (.tmp p12) (.con (.int .i64 (.ofNat 1)))) p13,
 .go (.loadN 4 (.tmp p13)) p14,
 .go (.call (.con (.func (.func 23) ⟨[]⟩ ⟨[]⟩)) [(.tmp p14),(.con (.int .i64 (.ofNat 20)))]) p15,
 .go (.move (.tmp p15)) p11,
 .go (.extract (.tmp p11) 0) p16,
 .go (.extract (.tmp p11) 1) p17,
 .go (.move (.tmp p16)) p1,
 .go (.move (.tmp p17)) p2]) (.seq (.run [.go (.build [(.int .i64 (.ofNat 0)),(.int .i64 (.ofNat 0)),(.int .i64 (.ofNat 0))] [(0,1,(.con (.int .i64 (.ofNat 12000)))),(2,1,(.con (.int .i64 (.ofNat 30))))]) p19,
 .go (.buildSlice 89 1 [(.int .i64 (.ofNat 0)),(.int .i64 (.ofNat 0)),(.int .i64 (.ofNat 0))] [(0,3,(.tmp p19))]) p20,
 .go (.call (.con (.func (.func 55) ⟨[]⟩ ⟨[]⟩)) [(.tmp p20)]) p21,
 .go (.call (.con (.func (.func 40) ⟨[]⟩ ⟨[]⟩)) [(.tmp p21)]) p22,
 .go (.move (.tmp p22)) p18,
 .go (.extract (.tmp p18) 0) p23,
 .go (.extract (.tmp p18) 1) p24,
 .go (.move (.tmp p23)) p3,
 .go (.move (.tmp p24)) p4]) (.seq (.run [.go (.build [(.int .i64 (.ofNat 0)),(.int .i64 (.ofNat 0)),(.int .i64 (.ofNat 0))] [(0,1,(.con (.int .i64 (.ofNat 12000)))),(2,1,(.con (.int .i64 (.ofNat 30))))]) p26,
 .go (.buildSlice 89 1 [(.int .i64 (.ofNat 0)),(.int .i64 (.ofNat 0)),(.int .i64 (.ofNat 0))] [(0,3,(.tmp p26))]) p27,
 .go (.call (.con (.func (.func 55) ⟨[]⟩ ⟨[]⟩)) [(.tmp p27)]) p28,
 .go (.call (.con (.func (.func 46) ⟨[]⟩ ⟨[]⟩)) [(.tmp p28),(.con (.int .i64 (.ofNat 10950)))]) p29,
 .go (.move (.tmp p29)) p25,
 .go (.extract (.tmp p25) 0) p30,
 .go (.extract (.tmp p25) 1) p31,
 .go (.move (.tmp p30)) p5,
 .go (.move (.tmp p31)) p6]) (.seq (.run [.go (.build [(.int .i64 (.ofNat 0)),(.int .i64 (.ofNat 0)),(.int .i64 (.ofNat 0))] [(0,1,(.con (.int .i64 (.ofNat 12000)))),(2,1,(.con (.int .i64 (.ofNat 30))))]) p33,
 .go (.build [(.int .i64 (.ofNat 0)),(.int .i64 (.ofNat 0)),(.int .i64 (.ofNat 0))] [(0,1,(.con (.int .i64 (.ofNat 12000)))),(2,1,(.con (.int .i64 (.ofNat 40))))]) p34,
 .go (.buildSlice 89 2 [(.int .i64 (.ofNat 0)),(.int .i64 (.ofNat 0)),(.int .i64 (.ofNat 0)),(.int .i64 (.ofNat 0)),(.int .i64 (.ofNat 0)),(.int .i64 (.ofNat 0))] [(0,3,(.tmp p33)),(3,3,(.tmp p34))]) p35,
 .go (.call (.con (.func (.func 55) ⟨[]⟩ ⟨[]⟩)) [(.tmp p35)]) p36,
 .go (.call (.con (.func (.func 48) ⟨[]⟩ ⟨[]⟩)) [(.tmp p36)]) p37,
 .go (.move (.tmp p37)) p32,
 .go (.extract (.tmp p32) 0) p38,
 .go (.extract (.tmp p32) 1) p39,
 .go (.move (.tmp p38)) p7,
 .go (.move (.tmp p39)) p8]) (.seq (.run [.go (.buildSlice 3 4 [(.int .i64 (.ofNat 0)),(.int .i64 (.ofNat 0)),(.int .i64 (.ofNat 0)),(.int .i64 (.ofNat 0))] [(0,1,(.con (.int .i64 (.ofNat 20)))),(1,1,(.con (.int .i64 (.ofNat 25)))),(2,1,(.con (.int .i64 (.ofNat 31)))),(3,1,(.con (.int .i64 (.ofNat 40))))]) p41,
 .go (.call (.con (.func (.func 36) ⟨[]⟩ ⟨[]⟩)) [(.tmp p41),(.con (.int .i64 (.ofNat 5)))]) p42,
 .go (.move (.tmp p42)) p40,
 .go (.extract (.tmp p40) 0) p43,
 .go (.extract (.tmp p40) 1) p44,
 .go (.move (.tmp p43)) p9,
 .go (.move (.tmp p44)) p10]) (.seq (.draw 64 [.go (.move (.tmp p2)) p45,
 .go (.bin .eql 24 (.tmp p45) (.con (.int .i64 (.ofNat 0)))) p46,
 .go (.move (.tmp p46)) p47,
 .gd p47 true (.move (.tmp p1)) p48,
 .gd p47 true (.len 0 (.tmp p48)) p49,
 .gd p47 true (.bin .eql 3 (.tmp p49) (.con (.int .i64 (.ofNat 1)))) p50,
 .go (.pick (.tmp p47) (.tmp p50) (.con (.bool false))) p51,
 .go (.move (.tmp p51)) p52,
 .gd p52 true (.move (.tmp p1)) p53,
 .gd p52 true (.indexAddr none 2 (.tmp p53) (.con (.int .i64 (.ofNat 0)))) p54,
 .gd p52 true (.loadN 2 (.tmp p54)) p55,
 .gd p52 true (.call (.con (.func (.func 34) ⟨[]⟩ ⟨[]⟩)) [(.con (.int .i64 (.ofNat 19))),(.con (.int .i64 (.ofNat 23)))]) p56,
 .gd p52 true (.bin .eql 48 (.tmp p55) (.tmp p56)) p57,
 .go (.pick (.tmp p52) (.tmp p57) (.con (.bool false))) p58,
 .go (.move (.tmp p58)) p59,
 .gd p59 true (.move (.tmp p4)) p60,
 .gd p59 true (.bin .eql 24 (.tmp p60) (.con (.int .i64 (.ofNat 0)))) p61,
 .go (.pick (.tmp p59) (.tmp p61) (.con (.bool false))) p62,
 .go (.move (.tmp p62)) p63,
 .gd p63 true (.move (.tmp p3)) p64,
 .gd p63 true (.len 0 (.tmp p64)) p65,
 .gd p63 true (.bin .eql 3 (.tmp p65) (.con (.int .i64 (.ofNat 1)))) p66,
 .go (.pick (.tmp p63) (.tmp p66) (.con (.bool false))) p67,
 .go (.move (.tmp p67)) p68,
 .gd p68 true (.move (.tmp p3)) p69,
 .gd p68 true (.indexAddr none 2 (.tmp p69) (.con (.int .i64 (.ofNat 0)))) p70,
 .gd p68 true (.loadN 2 (.tmp p70)) p71,
 .gd p68 true (.call (.con (.func (.func 34) ⟨[]⟩ ⟨[]⟩)) [(.con (.int .i64 (.ofNat 686))),(.con (.int .i64 (.ofNat 1050)))]) p72,
 .gd p68 true (.bin .eql 48 (.tmp p71) (.tmp p72)) p73,
 .go (.pick (.tmp p68) (.tmp p73) (.con (.bool false))) p74,
 .go (.move (.tmp p74)) p75,
 .gd p75 true (.move (.tmp p6)) p76,
 .gd p75 true (.bin .eql 24 (.tmp p76) (.con (.int .i64 (.ofNat 0)))) p77,
 .go (.pick (.tmp p75) (.tmp p77) (.con (.bool false))) p78,
 .go (.move (.tmp p78)) p79,
 .gd p79 true (.move (.tmp p5)) p80,
 .gd p79 true (.len 0 (.tmp p80)) p81,
 .gd p79 true (.bin .eql 3 (.tmp p81) (.con (.int .i64 (.ofNat 1)))) p82,
 .go (.pick (.tmp p79) (.tmp p82) (.con (.bool false))) p83,
 .go (.move (.tmp p83)) p84,
 .gd p84 true (.move (.tmp p5)) p85,
 .gd p84 true (.indexAddr none 2 (.tmp p85) (.con (.int .i64 (.ofNat 0)))) p86,
 .gd p84 true (.loadN 2 (.tmp p86)) p87,
 .gd p84 true (.call (.con (.func (.func 34) ⟨[]⟩ ⟨[]⟩)) [(.con (.int .i64 (.ofNat 27))),(.con (.int .i64 (.ofNat 28)))]) p88,
 .gd p84 true (.bin .eql 48 (.tmp p87) (.tmp p88)) p89,
 .go (.pick (.tmp p84) (.tmp p89) (.con (.bool false))) p90,
 .go (.move (.tmp p90)) p91,
 .gd p91 true (.move (.tmp p8)) p92,
 .gd p91 true (.bin .eql 24 (.tmp p92) (.con (.int .i64 (.ofNat 0)))) p93,
 .go (.pick (.tmp p91) (.tmp p93) (.con (.bool false))) p94,
 .go (.move (.tmp p94)) p95,
 .gd p95 true (.move (.tmp p7)) p96,
 .gd p95 true (.buildSlice 3 1 [(.int .i64 (.ofNat 0))] [(0,1,(.con (.int .i64 (.ofNat 2))))]) p97,
 .gd p95 true (.call (.con (.func (.func 49) ⟨[]⟩ ⟨[]⟩)) [(.tmp p96),(.tmp p97)]) p98,
 .go (.pick (.tmp p95) (.tmp p98) (.con (.bool false))) p99,
 .go (.move (.tmp p99)) p100,
 .gd p100 true (.move (.tmp p10)) p101,
 .gd p100 true (.bin .eql 24 (.tmp p101) (.con (.int .i64 (.ofNat 0)))) p102,
 .go (.pick (.tmp p100) (.tmp p102) (.con (.bool false))) p103,
 .go (.move (.tmp p103)) p104,
 .gd p104 true (.move (.tmp p9)) p105,
 .gd p104 true (.bin .eql 3 (.tmp p105) (.con (.int .i64 (.ofNat 3750)))) p106,
 .go (.pick (.tmp p104) (.tmp p106) (.con (.bool false))) p107,
 .go (.move (.tmp p107)) p0] [.ok,.ok,.ok,.ok,.ok,.ok,.ok,.ok,.ok,.ok,.rd (some (p52,true)) (.loadN 2 (.tmp p54)) (some p55) [12],.ok,.ok,.ok,.ok,.ok,.ok,.ok,.ok,.ok,.ok,.ok,.ok,.ok,.ok,.ok,.rd (some (p68,true)) (.loadN 2 (.tmp p70)) (some p71) [28],.ok,.ok,.ok,.ok,.ok,.ok,.ok,.ok,.ok,.ok,.ok,.ok,.ok,.ok,.ok,.rd (some (p84,true)) (.loadN 2 (.tmp p86)) (some p87) [44],.ok,.ok,.ok,.ok,.ok,.ok,.ok,.ok,.ok,.ok,.ok,.ok,.ok,.ok,.ok,.ok,.ok,.ok,.ok,.ok,.ok]) .ret)))))))
noncomputable def f26 : FFunc := .mk c26 (.n U (.n U (.n U (.n U (.n U (.n U (.n U .e .e) (.n U .e .e)) (.n U (.n U .e .e) .e)) (.n U (.n U (.n U .e .e) (.n U .e .e)) (.n U (.n U .e .e) .e))) (.n U (.n U (.n U (.n U .e .e) (.n U .e .e)) (.n U (.n U .e .e) .e)) (.n U (.n U (.n U .e .e) (.n U .e .e)) (.n U (.n U .e .e) .e)))) (.n U (.n U (.n U (.n U (.n U .e .e) (.n U .e .e)) (.n U (.n U .e .e) .e)) (.n U (.n U (.n U .e .e) (.n U .e .e)) (.n U (.n U .e .e) .e))) (.n U (.n U (.n U (.n U .e .e) (.n U .e .e)) (.n U (.n U .e .e) .e)) (.n U (.n U (.n U .e .e) .e) (.n U (.n U .e .e) .e))))) (.n U (.n U (.n U (.n U (.n U (.n U .e .e) (.n U .e .e)) (.n U (.n U .e .e) .e)) (.n U (.n U (.n U .e .e) (.n U .e .e)) (.n U (.n U .e .e) .e))) (.n U (.n U (.n U (.n U .e .e) (.n U .e .e)) (.n U (.n U .e .e) .e)) (.n U (.n U (.n U .e .e) .e) (.n U (.n U .e .e) .e)))) (.n U (.n U (.n U (.n U (.n U .e .e) (.n U .e .e)) (.n U (.n U .e .e) .e)) (.n U (.n U (.n U .e .e) (.n U .e .e)) (.n U (.n U .e .e) .e))) (.n U (.n U (.n U (.n U .e .e) (.n U .e .e)) (.n U (.n U .e .e) .e)) (.n U (.n U (.n U .e .e) .e) (.n U (.n U .e .e) .e)))))) [] [.tmp p0]
theorem e26 : @compF Try.prog (Gl.none Try.prog) Try.f26 0 = f26 := by kernel_rfl
theorem o26 : okF Try.prog Try.f26 = true := by kernel_rfl
theorem g26 : Try.prog.funcs[(26 : Nat)]? = some Try.f26 := by kernel_rfl
noncomputable def c34 : FCode := (.seq (.run [.go (.alloc 48 [(.int .i64 (.ofNat 0)),(.int .i64 (.ofNat 0))]) p4]) (.seq (.run [.go (.move (.tmp p0)) p5,
 .go (.move (.tmp p1)) p6,
 .go (.build [(.int .i64 (.ofNat 0)),(.int .i64 (.ofNat 0))] [(0,1,(.tmp p5)),(1,1,(.tmp p6))]) p7,
 .un (.store 2 (.tmp p4) (.tmp p7))]) .ret))
noncomputable def f34 : FFunc := .mk c34 (.n U (.n U (.n U (.n U .e .e) .e) (.n U .e .e)) (.n U (.n U .e .e) (.n U .e .e))) [p0,p1] [.many p4 2]
theorem e34 : @compF Try.prog (Gl.none Try.prog) Try.f34 2 = f34 := by kernel_rfl
theorem o34 : okF Try.prog Try.f34 = true := by kernel_rfl
theorem g34 : Try.prog.funcs[(34 : Nat)]? = some Try.f34 := by kernel_rfl
noncomputable def c36 : FCode := (.seq (.run [.go (.move (.con (.int .i64 (.ofNat 0)))) p4,
 .go (.move (.con (.int .i64 (.ofNat 0)))) p5]) (.seq (.block 0 (.seq (.run [.go (.move (.tmp p0)) p10,
 .go (.len 0 (.tmp p10)) p11,
 .go (.bin .gtr 3 (.tmp p11) (.con (.int .i64 (.ofNat 200)))) p12,
 .go (.move (.tmp p12)) p9]) (.cond (.tmp p9) (.seq (.run [.go (.move (.con (.int .i64 (.ofNat 0)))) p4,
 .go (.move (.con (.int .i64 (.ofNat 3)))) p5]) .ret) (.seq (.run [.go (.move (.tmp p1)) p14,
 .go (.call (.con (.func (.func 76) ⟨[]⟩ ⟨[]⟩)) [(.tmp p14)]) p15,
 .go (.un .not (.tmp p15)) p16,
 .go (.move (.tmp p16)) p13]) (.cond (.tmp p13) (.seq (.run [.go (.move (.con (.int .i64 (.ofNat 0)))) p4,
 .go (.move (.con (.int .i64 (.ofNat 1)))) p5]) .ret) (.seq (.run [.go (.move (.tmp p0)) p18,
 .go (.call (.con (.func (.func 67) ⟨[]⟩ ⟨[]⟩)) [(.tmp p18)]) p19,
 .go (.un .not (.tmp p19)) p20,
 .go (.move (.tmp p20)) p17]) (.cond (.tmp p17) (.seq (.run [.go (.move (.con (.int .i64 (.ofNat 0)))) p4,
 .go (.move (.con (.int .i64 (.ofNat 2)))) p5]) .ret) (.seq (.run [.go (.move (.tmp p0)) p22,
 .go (.len 0 (.tmp p22)) p23,
 .go (.bin .eql 3 (.tmp p23) (.con (.int .i64 (.ofNat 0)))) p24,
 .go (.move (.tmp p24)) p21]) (.cond (.tmp p21) (.seq (.run [.go (.move (.con (.int .i64 (.ofNat 0)))) p4,
 .go (.move (.con (.int .i64 (.ofNat 7)))) p5]) .ret) .skip))))))))) (.seq (.run [.go (.move (.con (.int .i64 (.ofNat 0)))) p6]) (.seq (.seq (.run [.go (.move (.tmp p0)) p25,
 .go (.len 0 (.tmp p25)) p26,
 .go (.move (.con (.int .i64 (.ofNat 0)))) p27]) (.block 1 (.loop (.seq (.run [.go (.bin .lss 3 (.tmp p27) (.tmp p26)) p28]) (.seq (.cond (.tmp p28) .skip (.exit 1)) (.seq (.block 2 (.seq (.run [.go (.indexAddr none 1 (.tmp p25) (.tmp p27)) p29,
 .go (.load1 (.tmp p29)) p30,
 .go (.move (.tmp p30)) p8]) (.seq (.run [.go (.move (.tmp p8)) p31,
 .go (.move (.tmp p1)) p32,
 .go (.bin .rem 3 (.tmp p31) (.tmp p32)) p33,
 .go (.bin .eql 3 (.tmp p33) (.con (.int .i64 (.ofNat 0)))) p34]) (.cond (.tmp p34) (.run [.go (.move (.tmp p6)) p35,
 .go (.bin .add 3 (.tmp p35) (.con (.int .i64 (.ofNat 1)))) p36,
 .go (.move (.tmp p36)) p6]) .skip)))) (.run [.go (.bin .add 3 (.tmp p27) (.con (.int .i64 (.ofNat 1)))) p37,
 .go (.move (.tmp p37)) p27]))))))) (.seq (.run [.go (.move (.tmp p6)) p38,
 .go (.move (.tmp p1)) p39,
 .go (.bin .mul 3 (.tmp p38) (.tmp p39)) p40,
 .go (.bin .mul 3 (.tmp p40) (.con (.int .i64 (.ofNat 1000)))) p41,
 .go (.move (.tmp p0)) p42,
 .go (.len 0 (.tmp p42)) p43,
 .go (.bin .quo 3 (.tmp p41) (.tmp p43)) p44,
 .go (.move (.tmp p44)) p4,
 .go (.move (.con (.int .i64 (.ofNat 0)))) p5]) .ret)))))
noncomputable def f36 : FFunc := .mk c36 (.n U (.n U (.n U (.n U (.n U (.n U .e .e) .e) (.n U (.n U .e .e) .e)) (.n U (.n U (.n U .e .e) .e) (.n U (.n U .e .e) .e))) (.n U (.n U (.n U (.n U .e .e) .e) (.n U (.n U .e .e) .e)) (.n U (.n U (.n U .e .e) .e) (.n U .e .e)))) (.n U (.n U (.n U (.n U (.n U .e .e) .e) (.n U (.n U .e .e) .e)) (.n U (.n U (.n U .e .e) .e) (.n U (.n U .e .e) .e))) (.n U (.n U (.n U (.n U .e .e) .e) (.n U (.n U .e .e) .e)) (.n U (.n U (.n U .e .e) .e) (.n U .e .e))))) [p0,p1] [.tmp p4,.tmp p5]
theorem e36 : @compF Try.prog (Gl.none Try.prog) Try.f36 2 = f36 := by kernel_rfl
theorem o36 : okF Try.prog Try.f36 = true := by kernel_rfl
theorem g36 : Try.prog.funcs[(36 : Nat)]? = some Try.f36 := by kernel_rfl
noncomputable def c38 : FCode := (.seq (.run [.go (.box 66 (.tmp p0)) p1,
 .go (.move (.con (.int .i64 (.ofNat 0)))) p2]) (.seq (.seq (.run [.go (.fieldAddr 2 (.tmp p1)) p3,
 .go (.load1 (.tmp p3)) p4,
 .go (.len 0 (.tmp p4)) p5,
 .go (.bin .gtr 3 (.tmp p5) (.con (.int .i64 (.ofNat 4)))) p6,
 .go (.move (.tmp p6)) p7,
 .gd p7 false (.fieldAddr 3 (.tmp p1)) p8,
 .gd p7 false (.load1 (.tmp p8)) p9,
 .gd p7 false (.len 0 (.tmp p9)) p10,
 .gd p7 false (.bin .gtr 3 (.tmp p10) (.con (.int .i64 (.ofNat 8)))) p11,
 .go (.pick (.tmp p7) (.con (.bool true)) (.tmp p11)) p12]) (.cond (.tmp p12) (.seq (.run [.go (.move (.con (.int .i64 (.ofNat 3)))) p2]) .ret) .skip)) (.seq (.seq (.run [.go (.loadN 4 (.tmp p1)) p13,
 .go (.call (.con (.func (.func 77) ⟨[]⟩ ⟨[]⟩)) [(.tmp p13)]) p14,
 .go (.un .not (.tmp p14)) p15]) (.cond (.tmp p15) (.seq (.run [.go (.move (.con (.int .i64 (.ofNat 1)))) p2]) .ret) .skip)) (.seq (.run [.go (.move (.con (.int .i64 (.ofNat 0)))) p2]) .ret))))
noncomputable def f38 : FFunc := .mk c38 (.n U (.n U (.n U (.n U (.n U .e .e) .e) (.n U .e .e)) (.n U (.n U .e .e) (.n U .e .e))) (.n U (.n U (.n U .e .e) (.n U .e .e)) (.n U (.n U .e .e) (.n U .e .e)))) [p0] [.tmp p2]
theorem e38 : @compF Try.prog (Gl.none Try.prog) Try.f38 1 = f38 := by kernel_rfl
theorem o38 : okF Try.prog Try.f38 = true := by kernel_rfl
theorem g38 : Try.prog.funcs[(38 : Nat)]? = some Try.f38 := by kernel_rfl
noncomputable def c40 : FCode := (.seq (.run [.go (.box 66 (.tmp p0)) p1,
 .go (.move (.con (.slice none 0 0))) p2,
 .go (.move (.con (.int .i64 (.ofNat 0)))) p3]) (.seq (.run [.go (.loadN 4 (.tmp p1)) p8,
 .go (.call (.con (.func (.func 78) ⟨[]⟩ ⟨[]⟩)) [(.tmp p8)]) p9,
 .go (.move (.tmp p9)) p7,
 .go (.extract (.tmp p7) 0) p10,
 .go (.extract (.tmp p7) 1) p11,
 .go (.move (.tmp p10)) p4,
 .go (.move (.tmp p11)) p5]) (.seq (.seq (.run [.go (.move (.tmp p5)) p12,
 .go (.bin .neq 24 (.tmp p12) (.con (.int .i64 (.ofNat 0)))) p13]) (.cond (.tmp p13) (.seq (.run [.go (.move (.tmp p5)) p14,
 .go (.move (.con (.slice none 0 0))) p2,
 .go (.move (.tmp p14)) p3]) .ret) .skip)) (.seq (.run [.go (.move (.tmp p4)) p15,
 .go (.call (.con (.func (.func 79) ⟨[]⟩ ⟨[]⟩)) [(.tmp p15)]) p16,
 .go (.move (.tmp p16)) p6]) (.seq (.seq (.run [.go (.move (.tmp p6)) p17,
 .go (.len 0 (.tmp p17)) p18,
 .go (.bin .eql 3 (.tmp p18) (.con (.int .i64 (.ofNat 0)))) p19]) (.cond (.tmp p19) (.seq (.run [.go (.move (.con (.slice none 0 0))) p2,
 .go (.move (.con (.int .i64 (.ofNat 9)))) p3]) .ret) .skip)) (.seq (.run [.go (.move (.tmp p6)) p20,
 .go (.move (.tmp p20)) p2,
 .go (.move (.con (.int .i64 (.ofNat 0)))) p3]) .ret))))))
noncomputable def f40 : FFunc := .mk c40 (.n U (.n U (.n U (.n U (.n U .e .e) .e) (.n U (.n U .e .e) .e)) (.n U (.n U (.n U .e .e) .e) (.n U .e .e))) (.n U (.n U (.n U (.n U .e .e) .e) (.n U (.n U .e .e) .e)) (.n U (.n U (.n U .e .e) .e) (.n U .e .e)))) [p0] [.tmp p2,.tmp p3]
theorem e40 : @compF Try.prog (Gl.none Try.prog) Try.f40 1 = f40 := by kernel_rfl
theorem o40 : okF Try.prog Try.f40 = true := by kernel_rfl
theorem g40 : Try.prog.funcs[(40 : Nat)]? = some Try.f40 := by kernel_rfl
noncomputable def c46 : FCode := (.seq (.run [.go (.box 66 (.tmp p0)) p2,
 .go (.move (.con (.slice none 0 0))) p4,
 .go (.move (.con (.int .i64 (.ofNat 0)))) p5]) (.seq (.run [.go (.loadN 4 (.tmp p2)) p11,
 .go (.call (.con (.func (.func 78) ⟨[]⟩ ⟨[]⟩)) [(.tmp p11)]) p12,
 .go (.move (.tmp p12)) p10,
 .go (.extract (.tmp p10) 0) p13,
 .go (.extract (.tmp p10) 1) p14,
 .go (.move (.tmp p13)) p6,
 .go (.move (.tmp p14)) p7]) (.seq (.seq (.run [.go (.move (.tmp p7)) p15,
 .go (.bin .neq 24 (.tmp p15) (.con (.int .i64 (.ofNat 0)))) p16]) (.cond (.tmp p16) (.seq (.run [.go (.move (.tmp p7)) p17,
 .go (.move (.con (.slice none 0 0))) p4,
 .go (.move (.tmp p17)) p5]) .ret) .skip)) (.seq (.seq (.run [.go (.move (.tmp p1)) p18,
 .go (.buildSlice 3 1 [(.int .i64 (.ofNat 0))] [(0,1,(.tmp p18))]) p19,
 .go (.call (.con (.func (.func 62) ⟨[]⟩ ⟨[]⟩)) [(.tmp p19)]) p20,
 .go (.un .not (.tmp p20)) p21]) (.cond (.tmp p21) (.seq (.run [.go (.move (.con (.slice none 0 0))) p4,
 .go (.move (.con (.int .i64 (.ofNat 2)))) p5]) .ret) .skip)) (.seq (.run [.go (.move (.tmp p6)) p22,
 .go (.call (.con (.func (.func 79) ⟨[]⟩ ⟨[]⟩)) [(.tmp p22)]) p23,
 .go (.move (.tmp p23)) p8]) (.seq (.seq (.run [.go (.move (.tmp p8)) p24,
 .go (.len 0 (.tmp p24)) p25,
 .go (.bin .eql 3 (.tmp p25) (.con (.int .i64 (.ofNat 0)))) p26]) (.cond (.tmp p26) (.seq (.run [.go (.move (.con (.slice none 0 0))) p4,
 .go (.move (.con (.int .i64 (.ofNat 9)))) p5]) .ret) .skip)) (.seq (.run [.go (.move (.tmp p8)) p27,
 .go (.move (.tmp p1)) p28,
 .go (.call (.con (.func (.func 85) ⟨[]⟩ ⟨[]⟩)) [(.tmp p27),(.tmp p28)]) p29,
 .go (.move (.tmp p29)) p9]) (.seq (.seq (.run [.go (.move (.tmp p9)) p30,
 .go (.len 0 (.tmp p30)) p31,
 .go (.bin .eql 3 (.tmp p31) (.con (.int .i64 (.ofNat 0)))) p32]) (.cond (.tmp p32) (.seq (.run [.go (.move (.con (.slice none 0 0))) p4,
 .go (.move (.con (.int .i64 (.ofNat 7)))) p5]) .ret) .skip)) (.seq (.run [.go (.move (.tmp p9)) p33,
 .go (.move (.tmp p33)) p4,
 .go (.move (.con (.int .i64 (.ofNat 0)))) p5]) .ret)))))))))
noncomputable def f46 : FFunc := .mk c46 (.n U (.n U (.n U (.n U (.n U (.n U .e .e) .e) (.n U .e .e)) (.n U (.n U .e .e) (.n U .e .e))) (.n U (.n U (.n U (.n U .e .e) .e) (.n U .e .e)) (.n U (.n U .e .e) (.n U .e .e)))) (.n U (.n U (.n U (.n U (.n U .e .e) .e) (.n U .e .e)) (.n U (.n U .e .e) (.n U .e .e))) (.n U (.n U (.n U .e .e) (.n U .e .e)) (.n U (.n U .e .e) (.n U .e .e))))) [p0,p1] [.tmp p4,.tmp p5]
theorem e46 : @compF Try.prog (Gl.none Try.prog) Try.f46 2 = f46 := by kernel_rfl
theorem o46 : okF Try.prog Try.f46 = true := by kernel_rfl
theorem g46 : Try.prog.funcs[(46 : Nat)]? = some Try.f46 := by kernel_rfl
noncomputable def c48 : FCode := (.seq (.run [.go (.box 66 (.tmp p0)) p1,
 .go (.move (.con (.slice none 0 0))) p2,
 .go (.move (.con (.int .i64 (.ofNat 0)))) p3]) (.seq (.run [.go (.loadN 4 (.tmp p1)) p7,
 .go (.call (.con (.func (.func 78) ⟨[]⟩ ⟨[]⟩)) [(.tmp p7)]) p8,
 .go (.move (.tmp p8)) p6,
 .go (.extract (.tmp p6) 0) p9,
 .go (.extract (.tmp p6) 1) p10,
 .go (.move (.tmp p9)) p4,
 .go (.move (.tmp p10)) p5]) (.seq (.seq (.run [.go (.move (.tmp p5)) p11,
 .go (.bin .neq 24 (.tmp p11) (.con (.int .i64 (.ofNat 0)))) p12]) (.cond (.tmp p12) (.seq (.run [.go (.move (.tmp p5)) p13,
 .go (.move (.con (.slice none 0 0))) p2,
 .go (.move (.tmp p13)) p3]) .ret) .skip)) (.seq (.run [.go (.move (.tmp p4)) p14,
 .go (.call (.con (.func (.func 86) ⟨[]⟩ ⟨[]⟩)) [(.tmp p14)]) p15,
 .go (.move (.tmp p15)) p2,
 .go (.move (.con (.int .i64 (.ofNat 0)))) p3]) .ret))))
noncomputable def f48 : FFunc := .mk c48 (.n U (.n U (.n U (.n U (.n U .e .e) .e) (.n U .e .e)) (.n U (.n U .e .e) (.n U .e .e))) (.n U (.n U (.n U .e .e) (.n U .e .e)) (.n U (.n U .e .e) (.n U .e .e)))) [p0] [.tmp p2,.tmp p3]
theorem e48 : @compF Try.prog (Gl.none Try.prog) Try.f48 1 = f48 := by kernel_rfl
theorem o48 : okF Try.prog Try.f48 = true := by kernel_rfl
theorem g48 : Try.prog.funcs[(48 : Nat)]? = some Try.f48 := by kernel_rfl
noncomputable def c49 : FCode := (.seq (.run [.go (.move (.con (.bool false))) p4]) (.seq (.seq (.run [.go (.move (.tmp p0)) p6,
 .go (.len 0 (.tmp p6)) p7,
 .go (.move (.tmp p1)) p8,
 .go (.len 0 (.tmp p8)) p9,
 .go (.bin .neq 3 (.tmp p7) (.tmp p9)) p10]) (.cond (.tmp p10) (.seq (.run [.go (.move (.con (.bool false))) p4]) .ret) .skip)) (.seq (.seq (.run [.go (.move (.con (.int .i64 (.ofNat 0)))) p5]) (.block 0 (.loop (.seq (.seq (.run [.go (.move (.tmp p5)) p11,
 .go (.move (.tmp p0)) p12,
 .go (.len 0 (.tmp p12)) p13,
 .go (.bin .lss 3 (.tmp p11) (.tmp p13)) p14]) (.cond (.tmp p14) .skip (.exit 0))) (.seq (.block 1 (.seq (.draw 9 [.go (.move (.tmp p0)) p17,
 .go (.move (.tmp p5)) p18,
 .go (.indexAddr none 1 (.tmp p17) (.tmp p18)) p19,
 .go (.load1 (.tmp p19)) p20,
 .go (.move (.tmp p1)) p21,
 .go (.move (.tmp p5)) p22,
 .go (.indexAddr none 1 (.tmp p21) (.tmp p22)) p23,
 .go (.load1 (.tmp p23)) p24,
 .go (.bin .neq 3 (.tmp p20) (.tmp p24)) p25] [.ok,.ok,.ok,.ok,.ok,.ok,.ok,.ok,.ok]) (.cond (.tmp p25) (.seq (.run [.go (.move (.con (.bool false))) p4]) .ret) .skip))) (.run [.go (.move (.tmp p5)) p15,
 .go (.bin .add 3 (.tmp p15) (.con (.int .i64 (.ofNat 1)))) p16,
 .go (.move (.tmp p16)) p5])))))) (.seq (.run [.go (.move (.con (.bool true))) p4]) .ret))))
noncomputable def f49 : FFunc := .mk c49 (.n U (.n U (.n U (.n U (.n U .e .e) (.n U .e .e)) (.n U (.n U .e .e) .e)) (.n U (.n U (.n U .e .e) (.n U .e .e)) (.n U (.n U .e .e) .e))) (.n U (.n U (.n U (.n U .e .e) (.n U .e .e)) (.n U (.n U .e .e) .e)) (.n U (.n U (.n U .e .e) .e) (.n U (.n U .e .e) .e)))) [p0,p1] [.tmp p4]
theorem e49 : @compF Try.prog (Gl.none Try.prog) Try.f49 2 = f49 := by kernel_rfl
theorem o49 : okF Try.prog Try.f49 = true := by kernel_rfl
theorem g49 : Try.prog.funcs[(49 : Nat)]? = some Try.f49 := by kernel_rfl
noncomputable def c54 : FCode := (.seq (.run [.go (.move (.con (.slice none 0 0))) p0]) (.seq (.run [.go (.build [(.int .i64 (.ofNat 0)),(.int .i64 (.ofNat 0)),(.int .i64 (.ofNat 0)),(.int .i64 (.ofNat 0))] [(1,1,(.con (.int .i64 (.ofNat 1))))]) p1,
 .go (.build [(.int .i64 (.ofNat 0)),(.int .i64 (.ofNat 0)),(.int .i64 (.ofNat 0)),(.int .i64 (.ofNat 0))] [(0,1,(.con (.int .i64 (.ofNat 20)))),(1,1,(.con (.int .i64 (.ofNat 5)))),(2,1,(.con (.int .i64 (.ofNat 1)))),(3,1,(.con (.int .i64 (.ofNat 1))))]) p2,
 .go (.buildSlice 28 2 [(.int .i64 (.ofNat 0)),(.int .i64 (.ofNat 0)),(.int .i64 (.ofNat 0)),(.int .i64 (.ofNat 0)),(.int .i64 (.ofNat 0)),(.int .i64 (.ofNat 0)),(.int .i64 (.ofNat 0)),(.int .i64 (.ofNat 0))] [(0,4,(.tmp p1)),(4,4,(.tmp p2))]) p3,
 .go (.move (.tmp p3)) p0]) .ret))
noncomputable def f54 : FFunc := .mk c54 (.n U (.n U (.n U .e .e) .e) (.n U .e .e)) [] [.tmp p0]
theorem e54 : @compF Try.prog (Gl.none Try.prog) Try.f54 0 = f54 := by kernel_rfl
theorem o54 : okF Try.prog Try.f54 = true := by kernel_rfl
theorem g54 : Try.prog.funcs[(54 : Nat)]? = some Try.f54 := by kernel_rfl
noncomputable def c55 : FCode := (.seq (.run [.go (.alloc 66 [(.int .i64 (.ofNat 0)),(.int .i64 (.ofNat 0)),(.slice none 0 0),(.slice none 0 0)]) p2]) (.seq (.run [.go (.call (.con (.func (.func 34) ⟨[]⟩ ⟨[]⟩)) [(.con (.int .i64 (.ofNat 0))),(.con (.int .i64 (.ofNat 20000)))]) p3,
 .go (.call (.con (.func (.func 54) ⟨[]⟩ ⟨[]⟩)) []) p4,
 .go (.build [(.int .i64 (.ofNat 0)),(.int .i64 (.ofNat 0)),(.int .i64 (.ofNat 0))] [(0,1,(.con (.int .i64 (.ofNat 10000)))),(1,1,(.con (.int .i64 (.ofNat 1)))),(2,1,(.con (.int .i64 (.ofNat 25))))]) p5,
 .go (.buildSlice 89 1 [(.int .i64 (.ofNat 0)),(.int .i64 (.ofNat 0)),(.int .i64 (.ofNat 0))] [(0,3,(.tmp p5))]) p6,
 .go (.move (.tmp p0)) p7,
 .go (.append 89 3 24 (.tmp p6) (.tmp p7)) p8,
 .go (.build [(.int .i64 (.ofNat 0)),(.int .i64 (.ofNat 0)),(.slice none 0 0),(.slice none 0 0)] [(0,2,(.tmp p3)),(2,1,(.tmp p4)),(3,1,(.tmp p8))]) p9,
 .un (.store 4 (.tmp p2) (.tmp p9))]) .ret))
noncomputable def f55 : FFunc := .mk c55 (.n U (.n U (.n U (.n U .e .e) .e) (.n U (.n U .e .e) .e)) (.n U (.n U (.n U .e .e) .e) (.n U .e .e))) [p0] [.many p2 4]
theorem e55 : @compF Try.prog (Gl.none Try.prog) Try.f55 1 = f55 := by kernel_rfl
theorem o55 : okF Try.prog Try.f55 = true := by kernel_rfl
theorem g55 : Try.prog.funcs[(55 : Nat)]? = some Try.f55 := by kernel_rfl
noncomputable def c62 : FCode := (.seq (.run [.go (.move (.con (.bool false))) p2]) (.seq (.run [.go (.move (.tmp p0)) p3,
 .go (.call (.con (.func (.func 90) ⟨[]⟩ ⟨[]⟩)) []) p4,
 .go (.makeFunc 65 [(.tmp p4)] []) p5,
 .go (.call (.con (.func (.func 89) ⟨[]⟩ ⟨[]⟩)) [(.tmp p3),(.tmp p5)]) p6,
 .go (.move (.tmp p6)) p2]) .ret))
noncomputable def f62 : FFunc := .mk c62 (.n U (.n U (.n U .e .e) (.n U .e .e)) (.n U (.n U .e .e) (.n U .e .e))) [p0] [.tmp p2]
theorem e62 : @compF Try.prog (Gl.none Try.prog) Try.f62 1 = f62 := by kernel_rfl
theorem o62 : okF Try.prog Try.f62 = true := by kernel_rfl
theorem g62 : Try.prog.funcs[(62 : Nat)]? = some Try.f62 := by kernel_rfl
noncomputable def c63 : FCode := (.seq (.run [.go (.move (.con (.int .i64 (.ofNat 0)))) p4]) (.seq (.run [.go (.move (.tmp p1)) p5,
 .go (.move (.tmp p0)) p6,
 .go (.bin .sub 3 (.tmp p5) (.tmp p6)) p7,
 .go (.bin .quo 3 (.tmp p7) (.con (.int .i64 (.ofNat 365)))) p8,
 .go (.move (.tmp p8)) p4]) .ret))
noncomputable def f63 : FFunc := .mk c63 (.n U (.n U (.n U (.n U .e .e) .e) (.n U .e .e)) (.n U (.n U (.n U .e .e) .e) (.n U .e .e))) [p0,p1] [.tmp p4]
theorem e63 : @compF Try.prog (Gl.none Try.prog) Try.f63 2 = f63 := by kernel_rfl
theorem o63 : okF Try.prog Try.f63 = true := by kernel_rfl
theorem g63 : Try.prog.funcs[(63 : Nat)]? = some Try.f63 := by kernel_rfl
noncomputable def c64 : FCode := (.seq (.run [.go (.box 28 (.tmp p0)) p1,
 .go (.move (.con (.bool false))) p2]) (.seq (.run [.go (.call (.con (.func (.func 73) ⟨[]⟩ ⟨[]⟩)) []) p5,
 .go (.build [(.int .i64 (.ofNat 0)),(.int .i64 (.ofNat 0))] [(0,1,(.con (.int .i64 (.ofNat 0)))),(1,1,(.con (.int .i64 (.ofNat 5))))]) p6,
 .go (.alloc 48 [(.int .i64 (.ofNat 0)),(.int .i64 (.ofNat 0))]) p3,
 .go (.alloc 48 [(.int .i64 (.ofNat 0)),(.int .i64 (.ofNat 0))]) p4,
 .un (.store 2 (.tmp p3) (.tmp p5)),
 .un (.store 2 (.tmp p4) (.tmp p6))]) (.seq (.run [.go (.loadN 2 (.tmp p3)) p7,
 .go (.fieldAddr 0 (.tmp p1)) p8,
 .go (.load1 (.tmp p8)) p9,
 .go (.call (.con (.func (.func 65) ⟨[]⟩ ⟨[]⟩)) [(.tmp p7),(.tmp p9)]) p10,
 .go (.move (.tmp p10)) p11,
 .gd p11 true (.fieldAddr 1 (.tmp p1)) p12,
 .gd p11 true (.load1 (.tmp p12)) p13,
 .gd p11 true (.call (.con (.func (.func 76) ⟨[]⟩ ⟨[]⟩)) [(.tmp p13)]) p14,
 .go (.pick (.tmp p11) (.tmp p14) (.con (.bool false))) p15,
 .go (.move (.tmp p15)) p16,
 .gd p16 true (.fieldAddr 2 (.tmp p1)) p17,
 .gd p16 true (.load1 (.tmp p17)) p18,
 .gd p16 true (.bin .eql 3 (.tmp p18) (.con (.int .i64 (.ofNat 0)))) p19,
 .gd p16 true (.move (.tmp p19)) p20,
 .gd p20 false (.fieldAddr 2 (.tmp p1)) p21,
 .gd p20 false (.load1 (.tmp p21)) p22,
 .gd p20 false (.bin .eql 3 (.tmp p22) (.con (.int .i64 (.ofNat 1)))) p23,
 .gd p16 true (.pick (.tmp p20) (.con (.bool true)) (.tmp p23)) p24,
 .go (.pick (.tmp p16) (.tmp p24) (.con (.bool false))) p25,
 .go (.move (.tmp p25)) p26,
 .gd p26 true (.loadN 2 (.tmp p4)) p27,
 .gd p26 true (.fieldAddr 3 (.tmp p1)) p28,
 .gd p26 true (.load1 (.tmp p28)) p29,
 .gd p26 true (.call (.con (.func (.func 65) ⟨[]⟩ ⟨[]⟩)) [(.tmp p27),(.tmp p29)]) p30,
 .go (.pick (.tmp p26) (.tmp p30) (.con (.bool false))) p31,
 .go (.move (.tmp p31)) p2]) .ret)))
noncomputable def f64 : FFunc := .mk c64 (.n U (.n U (.n U (.n U (.n U (.n U .e .e) .e) (.n U .e .e)) (.n U (.n U .e .e) (.n U .e .e))) (.n U (.n U (.n U .e .e) (.n U .e .e)) (.n U (.n U .e .e) (.n U .e .e)))) (.n U (.n U (.n U (.n U .e .e) (.n U .e .e)) (.n U (.n U .e .e) (.n U .e .e))) (.n U (.n U (.n U .e .e) (.n U .e .e)) (.n U (.n U .e .e) (.n U .e .e))))) [p0] [.tmp p2]
theorem e64 : @compF Try.prog (Gl.none Try.prog) Try.f64 1 = f64 := by kernel_rfl
theorem o64 : okF Try.prog Try.f64 = true := by kernel_rfl
theorem g64 : Try.prog.funcs[(64 : Nat)]? = some Try.f64 := by kernel_rfl
noncomputable def c65 : FCode := (.seq (.run [.go (.box 48 (.tmp p0)) p2,
 .go (.move (.con (.bool false))) p4]) (.seq (.run [.go (.fieldAddr 0 (.tmp p2)) p5,
 .go (.load1 (.tmp p5)) p6,
 .go (.move (.tmp p1)) p7,
 .go (.bin .leq 3 (.tmp p6) (.tmp p7)) p8,
 .go (.move (.tmp p8)) p9,
 .gd p9 true (.move (.tmp p1)) p10,
 .gd p9 true (.fieldAddr 1 (.tmp p2)) p11,
 .gd p9 true (.load1 (.tmp p11)) p12,
 .gd p9 true (.bin .leq 3 (.tmp p10) (.tmp p12)) p13,
 .go (.pick (.tmp p9) (.tmp p13) (.con (.bool false))) p14,
 .go (.move (.tmp p14)) p4]) .ret))
noncomputable def f65 : FFunc := .mk c65 (.n U (.n U (.n U (.n U .e .e) (.n U .e .e)) (.n U (.n U .e .e) (.n U .e .e))) (.n U (.n U (.n U .e .e) (.n U .e .e)) (.n U (.n U .e .e) (.n U .e .e)))) [p0,p1] [.tmp p4]
theorem e65 : @compF Try.prog (Gl.none Try.prog) Try.f65 2 = f65 := by kernel_rfl
theorem o65 : okF Try.prog Try.f65 = true := by kernel_rfl
theorem g65 : Try.prog.funcs[(65 : Nat)]? = some Try.f65 := by kernel_rfl
noncomputable def c66 : FCode := (.seq (.run [.go (.box 28 (.tmp p0)) p2,
 .go (.move (.con (.int .i64 (.ofNat 0)))) p4]) (.seq (.seq (.run [.go (.move (.tmp p1)) p5,
 .go (.fieldAddr 0 (.tmp p2)) p6,
 .go (.load1 (.tmp p6)) p7,
 .go (.bin .lss 3 (.tmp p5) (.tmp p7)) p8]) (.cond (.tmp p8) (.seq (.run [.go (.move (.tmp p1)) p9,
 .go (.move (.tmp p9)) p4]) .ret) .skip)) (.seq (.draw 7 [.go (.loadN 4 (.tmp p2)) p10,
 .go (.call (.con (.func (.func 91) ⟨[]⟩ ⟨[]⟩)) [(.tmp p10)]) p11,
 .go (.field1 0 (.tmp p11)) p12,
 .go (.loadN 4 (.tmp p2)) p13,
 .go (.move (.tmp p1)) p14,
 .go (.call (.tmp p12) [(.tmp p13),(.tmp p14)]) p15,
 .go (.move (.tmp p15)) p4] [.ok,.ok,.ok,.rd none (.loadN 4 (.tmp p2)) (some p13) [0],.ok,.ok,.ok]) .ret)))
noncomputable def f66 : FFunc := .mk c66 (.n U (.n U (.n U (.n U (.n U .e .e) .e) (.n U .e .e)) (.n U (.n U .e .e) (.n U .e .e))) (.n U (.n U (.n U .e .e) (.n U .e .e)) (.n U (.n U .e .e) (.n U .e .e)))) [p0,p1] [.tmp p4]
theorem e66 : @compF Try.prog (Gl.none Try.prog) Try.f66 2 = f66 := by kernel_rfl
theorem o66 : okF Try.prog Try.f66 = true := by kernel_rfl
theorem g66 : Try.prog.funcs[(66 : Nat)]? = some Try.f66 := by kernel_rfl
noncomputable def c67 : FCode := (.seq (.run [.go (.move (.con (.bool false))) p2]) (.seq (.run [.go (.build [(.int .i64 (.ofNat 0)),(.int .i64 (.ofNat 0))] [(0,1,(.con (.int .i64 (.ofNat 0)))),(1,1,(.con (.int .i64 (.ofNat 140))))]) p4,
 .go (.alloc 48 [(.int .i64 (.ofNat 0)),(.int .i64 (.ofNat 0))]) p3,
 .un (.store 2 (.tmp p3) (.tmp p4))]) (.seq (.run [.go (.move (.tmp p0)) p5,
 .go (.loadN 2 (.tmp p3)) p6,
 .go (.makeFunc 65 [(.tmp p6)] []) p7,
 .go (.call (.con (.func (.func 89) ⟨[]⟩ ⟨[]⟩)) [(.tmp p5),(.tmp p7)]) p8,
 .go (.move (.tmp p8)) p2]) .ret)))
noncomputable def f67 : FFunc := .mk c67 (.n U (.n U (.n U (.n U .e .e) .e) (.n U .e .e)) (.n U (.n U (.n U .e .e) .e) (.n U .e .e))) [p0] [.tmp p2]
theorem e67 : @compF Try.prog (Gl.none Try.prog) Try.f67 1 = f67 := by kernel_rfl
theorem o67 : okF Try.prog Try.f67 = true := by kernel_rfl
theorem g67 : Try.prog.funcs[(67 : Nat)]? = some Try.f67 := by kernel_rfl
noncomputable def c68 : FCode := (.seq (.run [.go (.box 115 (.tmp p0)) p1,
 .go (.alloc 113 [(.bool false),(.bool false),(.bool false),(.bool false),(.bool false),(.bool false),(.bool false),(.bool false),(.bool false),(.bool false),(.bool false),(.bool false),(.bool false),(.bool false),(.bool false),(.bool false),(.bool false),(.bool false),(.bool false),(.bool false),(.bool false),(.bool false),(.bool false),(.bool false),(.bool false),(.bool false),(.bool false),(.bool false),(.bool false),(.bool false),(.bool false),(.bool false),(.bool false),(.bool false),(.bool false),(.bool false),(.bool false),(.bool false),(.bool false),(.bool false),(.bool false),(.bool false),(.bool false),(.bool false),(.bool false),(.bool false),(.bool false),(.bool false),(.bool false),(.bool false),(.bool false),(.bool false),(.bool false),(.bool false),(.bool false),(.bool false),(.bool false),(.bool false),(.bool false),(.bool false),(.bool false),(.bool false),(.bool false),(.bool false),(.bool false),(.bool false),(.bool false),(.bool false),(.bool false),(.bool false),(.bool false),(.bool false),(.bool false),(.bool false),(.bool false),(.bool false),(.bool false),(.bool false),(.bool false),(.bool false),(.bool false),(.bool false),(.bool false),(.bool false),(.bool false),(.bool false),(.bool false),(.bool false),(.bool false),(.bool false),(.bool false),(.bool false),(.bool false),(.bool false),(.bool false),(.bool false),(.bool false),(.bool false),(.bool false),(.bool false),(.bool false),(.bool false),(.bool false),(.bool false),(.bool false),(.bool false),(.bool false),(.bool false),(.bool false),(.bool false),(.bool false),(.bool false),(.bool false),(.bool false),(.bool false),(.bool false),(.bool false),(.bool false),(.bool false),(.bool false),(.bool false)]) p2]) (.seq (.run [.go (.alloc 113 [(.bool false),(.bool false),(.bool false),(.bool false),(.bool false),(.bool false),(.bool false),(.bool false),(.bool false),(.bool false),(.bool false),(.bool false),(.bool false),(.bool false),(.bool false),(.bool false),(.bool false),(.bool false),(.bool false),(.bool false),(.bool false),(.bool false),(.bool false),(.bool false),(.bool false),(.bool false),(.bool false),(.bool false),(.bool false),(.bool false),(.bool false),(.bool false),(.bool false),(.bool false),(.bool false),(.bool false),(.bool false),(.bool false),(.bool false),(.bool false),(.bool false),(.bool false),(.bool false),(.bool false),(.bool false),(.bool false),(.bool false),(.bool false),(.bool false),(.bool false),(.bool false),(.bool false),(.bool false),(.bool false),(.bool false),(.bool false),(.bool false),(.bool false),(.bool false),(.bool false),(.bool false),(.bool false),(.bool false),(.bool false),(.bool false),(.bool false),(.bool false),(.bool false),(.bool false),(.bool false),(.bool false),(.bool false),(.bool false),(.bool false),(.bool false),(.bool false),(.bool false),(.bool false),(.bool false),(.bool false),(.bool false),(.bool false),(.bool false),(.bool false),(.bool false),(.bool false),(.bool false),(.bool false),(.bool false),(.bool false),(.bool false),(.bool false),(.bool false),(.bool false),(.bool false),(.bool false),(.bool false),(.bool false),(.bool false),(.bool false),(.bool false),(.bool false),(.bool false),(.bool false),(.bool false),(.bool false),(.bool false),(.bool false),(.bool false),(.bool false),(.bool false),(.bool false),(.bool false),(.bool false),(.bool false),(.bool false),(.bool false),(.bool false),(.bool false),(.bool false),(.bool false)]) p3]) (.seq (.seq (.run [.go (.move (.con (.int .i64 (.ofNat 0)))) p6]) (.block 0 (.loop (.seq (.run [.go (.bin .lss 3 (.tmp p6) (.con (.int .i64 (.ofNat 121)))) p7]) (.seq (.cond (.tmp p7) .skip (.exit 0)) (.seq (.block 1 (.seq (.run [.go (.move (.tmp p6)) p8,
 .go (.move (.tmp p8)) p4]) (.seq (.run [.go (.move (.tmp p4)) p9,
 .go (.fieldAddr 0 (.tmp p1)) p10,
 .go (.fieldAddr 3 (.tmp p10)) p11,
 .go (.load1 (.tmp p11)) p12,
 .go (.bin .sub 3 (.tmp p9) (.tmp p12)) p13,
 .go (.buildSlice 3 1 [(.int .i64 (.ofNat 0))] [(0,1,(.tmp p13))]) p14,
 .go (.call (.con (.func (.func 92) ⟨[]⟩ ⟨[]⟩)) [(.con (.int .i64 (.ofNat 0))),(.tmp p14)]) p15,
 .go (.move (.tmp p15)) p5]) (.block 2 (.loop (.seq (.seq (.run [.go (.move (.tmp p5)) p16,
 .go (.move (.tmp p4)) p17,
 .go (.fieldAddr 0 (.tmp p1)) p18,
 .go (.fieldAddr 3 (.tmp p18)) p19,
 .go (.load1 (.tmp p19)) p20,
 .go (.bin .add 3 (.tmp p17) (.tmp p20)) p21,
 .go (.bin .leq 3 (.tmp p16) (.tmp p21)) p22]) (.cond (.tmp p22) .skip (.exit 2))) (.seq (.block 3 (.seq (.draw 7 [.go (.fieldAddr 0 (.tmp p1)) p25,
 .go (.loadN 4 (.tmp p25)) p26,
 .go (.move (.tmp p5)) p27,
 .go (.call (.con (.func (.func 66) ⟨[]⟩ ⟨[]⟩)) [(.tmp p26),(.tmp p27)]) p28,
 .go (.fieldAddr 4 (.tmp p1)) p29,
 .go (.load1 (.tmp p29)) p30,
 .go (.bin .eql 3 (.tmp p28) (.tmp p30)) p31] [.ok,.ok,.ok,.ok,.ok,.rd none (.load1 (.tmp p29)) (some p30) [0],.ok]) (.cond (.tmp p31) (.run [.go (.move (.tmp p4)) p32,
 .go (.indexAddr (some 121) 1 (.tmp p3) (.tmp p32)) p33,
 .un (.store 1 (.tmp p33) (.con (.bool true)))]) .skip))) (.run [.go (.move (.tmp p5)) p23,
 .go (.bin .add 3 (.tmp p23) (.con (.int .i64 (.ofNat 1)))) p24,
 .go (.move (.tmp p24)) p5])))))))) (.run [.go (.bin .add 3 (.tmp p6) (.con (.int .i64 (.ofNat 1)))) p34,
 .go (.move (.tmp p34)) p6]))))))) (.seq (.run [.go (.loadN 121 (.tmp p3)) p35,
 .un (.store 121 (.tmp p2) (.tmp p35))]) .ret))))
noncomputable def f68 : FFunc := .mk c68 (.n U (.n U (.n U (.n U (.n U (.n U .e .e) .e) (.n U .e .e)) (.n U (.n U (.n U .e .e) .e) (.n U .e .e))) (.n U (.n U (.n U (.n U .e .e) .e) (.n U .e .e)) (.n U (.n U .e .e) (.n U .e .e)))) (.n U (.n U (.n U (.n U (.n U .e .e) .e) (.n U .e .e)) (.n U (.n U .e .e) (.n U .e .e))) (.n U (.n U (.n U (.n U .e .e) .e) (.n U .e .e)) (.n U (.n U .e .e) (.n U .e .e))))) [p0] [.many p2 121]
theorem e68 : @compF Try.prog (Gl.none Try.prog) Try.f68 1 = f68 := by kernel_rfl
theorem o68 : okF Try.prog Try.f68 = true := by kernel_rfl
theorem g68 : Try.prog.funcs[(68 : Nat)]? = some Try.f68 := by kernel_rfl
noncomputable def c69 : FCode := (.seq (.run [.go (.box 113 (.tmp p0)) p1,
 .go (.move (.con (.slice none 0 0))) p2]) (.seq (.run [.go (.move (.con (.slice none 0 0))) p3]) (.seq (.seq (.run [.go (.loadN 121 (.tmp p1)) p6,
 .go (.move (.con (.int .i64 (.ofNat 0)))) p7]) (.block 0 (.loop (.seq (.run [.go (.bin .lss 3 (.tmp p7) (.con (.int .i64 (.ofNat 121)))) p8]) (.seq (.cond (.tmp p8) .skip (.exit 0)) (.seq (.block 1 (.seq (.run [.go (.move (.tmp p7)) p9,
 .go (.index 121 1 true (.tmp p6) (.tmp p7)) p10,
 .go (.move (.tmp p9)) p4,
 .go (.move (.tmp p10)) p5]) (.seq (.run [.go (.move (.tmp p5)) p11]) (.cond (.tmp p11) (.run [.go (.move (.tmp p3)) p12,
 .go (.move (.tmp p4)) p13,
 .go (.move (.tmp p4)) p14,
 .go (.build [(.int .i64 (.ofNat 0)),(.int .i64 (.ofNat 0))] [(0,1,(.tmp p13)),(1,1,(.tmp p14))]) p15,
 .go (.buildSlice 48 1 [(.int .i64 (.ofNat 0)),(.int .i64 (.ofNat 0))] [(0,2,(.tmp p15))]) p16,
 .go (.append 48 2 16 (.tmp p12) (.tmp p16)) p17,
 .go (.move (.tmp p17)) p3]) .skip)))) (.run [.go (.bin .add 3 (.tmp p7) (.con (.int .i64 (.ofNat 1)))) p18,
 .go (.move (.tmp p18)) p7]))))))) (.seq (.run [.go (.move (.tmp p3)) p19,
 .go (.call (.con (.func (.func 93) ⟨[]⟩ ⟨[]⟩)) [(.tmp p19)]) p20,
 .go (.move (.tmp p20)) p2]) .ret))))
noncomputable def f69 : FFunc := .mk c69 (.n U (.n U (.n U (.n U (.n U .e .e) .e) (.n U (.n U .e .e) .e)) (.n U (.n U (.n U .e .e) .e) (.n U .e .e))) (.n U (.n U (.n U (.n U .e .e) .e) (.n U (.n U .e .e) .e)) (.n U (.n U (.n U .e .e) .e) (.n U .e .e)))) [p0] [.tmp p2]
theorem e69 : @compF Try.prog (Gl.none Try.prog) Try.f69 1 = f69 := by kernel_rfl
theorem o69 : okF Try.prog Try.f69 = true := by kernel_rfl
theorem g69 : Try.prog.funcs[(69 : Nat)]? = some Try.f69 := by kernel_rfl
noncomputable def c72 : FCode := (.seq (.run [.go (.box 48 (.tmp p0)) p2,
 .go (.box 48 (.tmp p1)) p3,
 .go (.move (.con (.bool false))) p4]) (.seq (.run [.go (.fieldAddr 0 (.tmp p3)) p5,
 .go (.load1 (.tmp p5)) p6,
 .go (.fieldAddr 0 (.tmp p2)) p7,
 .go (.load1 (.tmp p7)) p8,
 .go (.bin .leq 3 (.tmp p6) (.tmp p8)) p9,
 .go (.move (.tmp p9)) p10,
 .gd p10 true (.fieldAddr 0 (.tmp p2)) p11,
 .gd p10 true (.load1 (.tmp p11)) p12,
 .gd p10 true (.fieldAddr 1 (.tmp p2)) p13,
 .gd p10 true (.load1 (.tmp p13)) p14,
 .gd p10 true (.bin .leq 3 (.tmp p12) (.tmp p14)) p15,
 .go (.pick (.tmp p10) (.tmp p15) (.con (.bool false))) p16,
 .go (.move (.tmp p16)) p17,
 .gd p17 true (.fieldAddr 1 (.tmp p2)) p18,
 .gd p17 true (.load1 (.tmp p18)) p19,
 .gd p17 true (.fieldAddr 1 (.tmp p3)) p20,
 .gd p17 true (.load1 (.tmp p20)) p21,
 .gd p17 true (.bin .leq 3 (.tmp p19) (.tmp p21)) p22,
 .go (.pick (.tmp p17) (.tmp p22) (.con (.bool false))) p23,
 .go (.move (.tmp p23)) p4]) .ret))
noncomputable def f72 : FFunc := .mk c72 (.n U (.n U (.n U (.n U (.n U .e .e) (.n U .e .e)) (.n U (.n U .e .e) .e)) (.n U (.n U (.n U .e .e) .e) (.n U (.n U .e .e) .e))) (.n U (.n U (.n U (.n U .e .e) .e) (.n U (.n U .e .e) .e)) (.n U (.n U (.n U .e .e) .e) (.n U (.n U .e .e) .e)))) [p0,p1] [.tmp p4]
theorem e72 : @compF Try.prog (Gl.none Try.prog) Try.f72 2 = f72 := by kernel_rfl
theorem o72 : okF Try.prog Try.f72 = true := by kernel_rfl
theorem g72 : Try.prog.funcs[(72 : Nat)]? = some Try.f72 := by kernel_rfl
noncomputable def c73 : FCode := (.seq (.run [.go (.alloc 48 [(.int .i64 (.ofNat 0)),(.int .i64 (.ofNat 0))]) p0]) (.seq (.run [.go (.build [(.int .i64 (.ofNat 0)),(.int .i64 (.ofNat 0))] [(0,1,(.con (.int .i64 (.ofNat 0)))),(1,1,(.con (.int .i64 (.ofNat 120))))]) p1,
 .un (.store 2 (.tmp p0) (.tmp p1))]) .ret))
noncomputable def f73 : FFunc := .mk c73 (.n U (.n U .e .e) .e) [] [.many p0 2]
theorem e73 : @compF Try.prog (Gl.none Try.prog) Try.f73 0 = f73 := by kernel_rfl
theorem o73 : okF Try.prog Try.f73 = true := by kernel_rfl
theorem g73 : Try.prog.funcs[(73 : Nat)]? = some Try.f73 := by kernel_rfl
noncomputable def c74 : FCode := (.seq (.run [.go (.box 115 (.tmp p1)) p3,
 .go (.alloc 113 [(.bool false),(.bool false),(.bool false),(.bool false),(.bool false),(.bool false),(.bool false),(.bool false),(.bool false),(.bool false),(.bool false),(.bool false),(.bool false),(.bool false),(.bool false),(.bool false),(.bool false),(.bool false),(.bool false),(.bool false),(.bool false),(.bool false),(.bool false),(.bool false),(.bool false),(.bool false),(.bool false),(.bool false),(.bool false),(.bool false),(.bool false),(.bool false),(.bool false),(.bool false),(.bool false),(.bool false),(.bool false),(.bool false),(.bool false),(.bool false),(.bool false),(.bool false),(.bool false),(.bool false),(.bool false),(.bool false),(.bool false),(.bool false),(.bool false),(.bool false),(.bool false),(.bool false),(.bool false),(.bool false),(.bool false),(.bool false),(.bool false),(.bool false),(.bool false),(.bool false),(.bool false),(.bool false),(.bool false),(.bool false),(.bool false),(.bool false),(.bool false),(.bool false),(.bool false),(.bool false),(.bool false),(.bool false),(.bool false),(.bool false),(.bool false),(.bool false),(.bool false),(.bool false),(.bool false),(.bool false),(.bool false),(.bool false),(.bool false),(.bool false),(.bool false),(.bool false),(.bool false),(.bool false),(.bool false),(.bool false),(.bool false),(.bool false),(.bool false),(.bool false),(.bool false),(.bool false),(.bool false),(.bool false),(.bool false),(.bool false),(.bool false),(.bool false),(.bool false),(.bool false),(.bool false),(.bool false),(.bool false),(.bool false),(.bool false),(.bool false),(.bool false),(.bool false),(.bool false),(.bool false),(.bool false),(.bool false),(.bool false),(.bool false),(.bool false),(.bool false),(.bool false)]) p4]) (.seq (.run [.go (.move (.tmp p0)) p8,
 .go (.loadN 5 (.tmp p3)) p9,
 .go (.lookup 115 (.agg ⟨[(.bool false),(.bool false),(.bool false),(.bool false),(.bool false),(.bool false),(.bool false),(.bool false),(.bool false),(.bool false),(.bool false),(.bool false),(.bool false),(.bool false),(.bool false),(.bool false),(.bool false),(.bool false),(.bool false),(.bool false),(.bool false),(.bool false),(.bool false),(.bool false),(.bool false),(.bool false),(.bool false),(.bool false),(.bool false),(.bool false),(.bool false),(.bool false),(.bool false),(.bool false),(.bool false),(.bool false),(.bool false),(.bool false),(.bool false),(.bool false),(.bool false),(.bool false),(.bool false),(.bool false),(.bool false),(.bool false),(.bool false),(.bool false),(.bool false),(.bool false),(.bool false),(.bool false),(.bool false),(.bool false),(.bool false),(.bool false),(.bool false),(.bool false),(.bool false),(.bool false),(.bool false),(.bool false),(.bool false),(.bool false),(.bool false),(.bool false),(.bool false),(.bool false),(.bool false),(.bool false),(.bool false),(.bool false),(.bool false),(.bool false),(.bool false),(.bool false),(.bool false),(.bool false),(.bool false),(.bool false),(.bool false),(.bool false),(.bool false),(.bool false),(.bool false),(.bool false),(.bool false),(.bool false),(.bool false),(.bool false),(.bool false),(.bool false),(.bool false),(.bool false),(.bool false),(.bool false),(.bool false),(.bool false),(.bool false),(.bool false),(.bool false),(.bool false),(.bool false),(.bool false),(.bool false),(.bool false),(.bool false),(.bool false),(.bool false),(.bool false),(.bool false),(.bool false),(.bool false),(.bool false),(.bool false),(.bool false),(.bool false),(.bool false),(.bool false),(.bool false),(.bool false)]⟩) (.tmp p8) (.tmp p9) true) p10,
 .go (.move (.tmp p10)) p7,
 .go (.extract (.tmp p7) 0) p11,
 .go (.extract (.tmp p7) 1) p12,
 .go (.alloc 113 [(.bool false),(.bool false),(.bool false),(.bool false),(.bool false),(.bool false),(.bool false),(.bool false),(.bool false),(.bool false),(.bool false),(.bool false),(.bool false),(.bool false),(.bool false),(.bool false),(.bool false),(.bool false),(.bool false),(.bool false),(.bool false),(.bool false),(.bool false),(.bool false),(.bool false),(.bool false),(.bool false),(.bool false),(.bool false),(.bool false),(.bool false),(.bool false),(.bool false),(.bool false),(.bool false),(.bool false),(.bool false),(.bool false),(.bool false),(.bool false),(.bool false),(.bool false),(.bool false),(.bool false),(.bool false),(.bool false),(.bool false),(.bool false),(.bool false),(.bool false),(.bool false),(.bool false),(.bool false),(.bool false),(.bool false),(.bool false),(.bool false),(.bool false),(.bool false),(.bool false),(.bool false),(.bool false),(.bool false),(.bool false),(.bool false),(.bool false),(.bool false),(.bool false),(.bool false),(.bool false),(.bool false),(.bool false),(.bool false),(.bool false),(.bool false),(.bool false),(.bool false),(.bool false),(.bool false),(.bool false),(.bool false),(.bool false),(.bool false),(.bool false),(.bool false),(.bool false),(.bool false),(.bool false),(.bool false),(.bool false),(.bool false),(.bool false),(.bool false),(.bool false),(.bool false),(.bool false),(.bool false),(.bool false),(.bool false),(.bool false),(.bool false),(.bool false),(.bool false),(.bool false),(.bool false),(.bool false),(.bool false),(.bool false),(.bool false),(.bool false),(.bool false),(.bool false),(.bool false),(.bool false),(.bool false),(.bool false),(.bool false),(.bool false),(.bool false),(.bool false),(.bool false)]) p5,
 .un (.store 121 (.tmp p5) (.tmp p11)),
 .go (.move (.tmp p12)) p6]) (.seq (.seq (.run [.go (.move (.tmp p6)) p13,
 .go (.un .not (.tmp p13)) p14]) (.cond (.tmp p14) (.seq (.run [.go (.loadN 5 (.tmp p3)) p15,
 .go (.call (.con (.func (.func 68) ⟨[]⟩ ⟨[]⟩)) [(.tmp p15)]) p16,
 .un (.store 121 (.tmp p5) (.tmp p16))]) (.run [.go (.move (.tmp p0)) p17,
 .go (.loadN 5 (.tmp p3)) p18,
 .go (.loadN 121 (.tmp p5)) p19,
 .un (.mapUpdate 115 (.tmp p17) (.tmp p18) (.tmp p19))])) .skip)) (.seq (.run [.go (.loadN 121 (.tmp p5)) p20,
 .un (.store 121 (.tmp p4) (.tmp p20))]) .ret))))
noncomputable def f74 : FFunc := .mk c74 (.n U (.n U (.n U (.n U (.n U .e .e) .e) (.n U (.n U .e .e) .e)) (.n U (.n U (.n U .e .e) .e) (.n U .e .e))) (.n U (.n U (.n U (.n U .e .e) .e) (.n U (.n U .e .e) .e)) (.n U (.n U (.n U .e .e) .e) (.n U .e .e)))) [p0,p1] [.many p4 121]
theorem e74 : @compF Try.prog (Gl.none Try.prog) Try.f74 2 = f74 := by kernel_rfl
theorem o74 : okF Try.prog Try.f74 = true := by kernel_rfl
theorem g74 : Try.prog.funcs[(74 : Nat)]? = some Try.f74 := by kernel_rfl
noncomputable def c76 : FCode := (.seq (.run [.go (.move (.con (.bool false))) p2]) (.seq (.run [.go (.move (.tmp p0)) p3,
 .go (.bin .leq 3 (.con (.int .i64 (.ofNat 1))) (.tmp p3)) p4,
 .go (.move (.tmp p4)) p5,
 .gd p5 true (.move (.tmp p0)) p6,
 .gd p5 true (.bin .leq 3 (.tmp p6) (.con (.int .i64 (.ofNat 12)))) p7,
 .go (.pick (.tmp p5) (.tmp p7) (.con (.bool false))) p8,
 .go (.move (.tmp p8)) p2]) .ret))
noncomputable def f76 : FFunc := .mk c76 (.n U (.n U (.n U (.n U .e .e) .e) (.n U .e .e)) (.n U (.n U (.n U .e .e) .e) (.n U .e .e))) [p0] [.tmp p2]
theorem e76 : @compF Try.prog (Gl.none Try.prog) Try.f76 1 = f76 := by kernel_rfl
theorem o76 : okF Try.prog Try.f76 = true := by kernel_rfl
theorem g76 : Try.prog.funcs[(76 : Nat)]? = some Try.f76 := by kernel_rfl
noncomputable def c77 : FCode := (.seq (.run [.go (.box 66 (.tmp p0)) p1,
 .go (.move (.con (.bool false))) p2]) (.seq (.draw 23 [.go (.fieldAddr 0 (.tmp p1)) p3,
 .go (.loadN 2 (.tmp p3)) p4,
 .go (.call (.con (.func (.func 90) ⟨[]⟩ ⟨[]⟩)) []) p5,
 .go (.call (.con (.func (.func 72) ⟨[]⟩ ⟨[]⟩)) [(.tmp p4),(.tmp p5)]) p6,
 .go (.move (.tmp p6)) p7,
 .gd p7 true (.fieldAddr 2 (.tmp p1)) p8,
 .gd p7 true (.load1 (.tmp p8)) p9,
 .gd p7 true (.len 0 (.tmp p9)) p10,
 .gd p7 true (.bin .gtr 3 (.tmp p10) (.con (.int .i64 (.ofNat 0)))) p11,
 .go (.pick (.tmp p7) (.tmp p11) (.con (.bool false))) p12,
 .go (.move (.tmp p12)) p13,
 .gd p13 true (.fieldAddr 2 (.tmp p1)) p14,
 .gd p13 true (.load1 (.tmp p14)) p15,
 .gd p13 true (.call (.con (.func (.func 94) ⟨[]⟩ ⟨[]⟩)) [(.tmp p15),(.con (.func (.func 64) ⟨[]⟩ ⟨[]⟩))]) p16,
 .go (.pick (.tmp p13) (.tmp p16) (.con (.bool false))) p17,
 .go (.move (.tmp p17)) p18,
 .gd p18 true (.fieldAddr 3 (.tmp p1)) p19,
 .gd p18 true (.load1 (.tmp p19)) p20,
 .gd p18 true (.loadN 4 (.tmp p1)) p21,
 .gd p18 true (.makeFunc 95 [(.tmp p21)] []) p22,
 .gd p18 true (.call (.con (.func (.func 80) ⟨[]⟩ ⟨[]⟩)) [(.tmp p20),(.tmp p22)]) p23,
 .go (.pick (.tmp p18) (.tmp p23) (.con (.bool false))) p24,
 .go (.move (.tmp p24)) p2] [.ok,.rd none (.loadN 2 (.tmp p3)) (some p4) [3],.ok,.ok,.ok,.ok,.ok,.ok,.ok,.ok,.ok,.ok,.ok,.ok,.ok,.ok,.ok,.ok,.ok,.ok,.ok,.ok,.ok]) .ret))
noncomputable def f77 : FFunc := .mk c77 (.n U (.n U (.n U (.n U (.n U .e .e) (.n U .e .e)) (.n U (.n U .e .e) .e)) (.n U (.n U (.n U .e .e) .e) (.n U (.n U .e .e) .e))) (.n U (.n U (.n U (.n U .e .e) (.n U .e .e)) (.n U (.n U .e .e) .e)) (.n U (.n U (.n U .e .e) .e) (.n U (.n U .e .e) .e)))) [p0] [.tmp p2]
theorem e77 : @compF Try.prog (Gl.none Try.prog) Try.f77 1 = f77 := by kernel_rfl
theorem o77 : okF Try.prog Try.f77 = true := by kernel_rfl
theorem g77 : Try.prog.funcs[(77 : Nat)]? = some Try.f77 := by kernel_rfl
noncomputable def c78 : FCode := (.seq (.run [.go (.box 66 (.tmp p0)) p1,
 .go (.move (.con (.pointer none))) p2,
 .go (.move (.con (.int .i64 (.ofNat 0)))) p3]) (.seq (.seq (.run [.go (.loadN 4 (.tmp p1)) p10,
 .go (.call (.con (.func (.func 38) ⟨[]⟩ ⟨[]⟩)) [(.tmp p10)]) p11,
 .go (.move (.tmp p11)) p4]) (.seq (.run [.go (.move (.tmp p4)) p12,
 .go (.bin .neq 24 (.tmp p12) (.con (.int .i64 (.ofNat 0)))) p13]) (.cond (.tmp p13) (.seq (.run [.go (.move (.tmp p4)) p14,
 .go (.move (.con (.pointer none))) p2,
 .go (.move (.tmp p14)) p3]) .ret) .skip))) (.seq (.run [.go (.loadN 4 (.tmp p1)) p15,
 .go (.makeMap 115) p16,
 .go (.build [(.int .i64 (.ofNat 0)),(.int .i64 (.ofNat 0)),(.slice none 0 0),(.slice none 0 0),(.map none),(.slice none 0 0),(.slice none 0 0),(.slice none 0 0),(.slice none 0 0),(.slice none 0 0),(.slice none 0 0),(.slice none 0 0),(.slice none 0 0)] [(0,4,(.tmp p15)),(4,1,(.tmp p16))]) p17,
 .go (.box 149 (.tmp p17)) p18,
 .go (.move (.tmp p18)) p5]) (.seq (.seq (.run [.go (.move (.tmp p5)) p19,
 .go (.nilCheck (.tmp p19)) p20,
 .go (.fieldAddr 0 (.tmp p20)) p21,
 .go (.fieldAddr 3 (.tmp p21)) p22,
 .go (.load1 (.tmp p22)) p23,
 .go (.len 0 (.tmp p23)) p24,
 .go (.move (.con (.int .i64 (.ofNat 0)))) p25]) (.block 0 (.loop (.seq (.run [.go (.bin .lss 3 (.tmp p25) (.tmp p24)) p26]) (.seq (.cond (.tmp p26) .skip (.exit 0)) (.seq (.block 1 (.seq (.run [.go (.move (.tmp p25)) p27,
 .go (.indexAddr none 3 (.tmp p23) (.tmp p25)) p28,
 .go (.loadN 3 (.tmp p28)) p29,
 .go (.alloc 89 [(.int .i64 (.ofNat 0)),(.int .i64 (.ofNat 0)),(.int .i64 (.ofNat 0))]) p7,
 .go (.move (.tmp p27)) p6,
 .un (.store 3 (.tmp p7) (.tmp p29))]) (.seq (.run [.go (.alloc 30 [(.slice none 0 0)]) p8]) (.seq (.seq (.run [.go (.move (.tmp p5)) p30,
 .go (.loadN 3 (.tmp p7)) p31,
 .go (.call (.con (.func (.func 96) ⟨[]⟩ ⟨[]⟩)) [(.tmp p30),(.tmp p31)]) p32]) (.block 2 (.rangeFunc (.tmp p32) [p33] (rfA Try.f78 0) (rfB Try.f78 0) (.run [.go (.move (.tmp p33)) p9]) (.block 3 (.draw 8 [.go (.load1 (.tmp p8)) p34,
 .go (.move (.tmp p9)) p35,
 .go (.fieldAddr 0 (.tmp p7)) p36,
 .go (.load1 (.tmp p36)) p37,
 .go (.call (.con (.func (.func 97) ⟨[]⟩ ⟨[]⟩)) [(.tmp p35),(.tmp p37)]) p38,
 .go (.buildSlice 48 1 [(.int .i64 (.ofNat 0)),(.int .i64 (.ofNat 0))] [(0,2,(.tmp p38))]) p39,
 .go (.append 48 2 16 (.tmp p34) (.tmp p39)) p40,
 .un (.store 1 (.tmp p8) (.tmp p40))] [.rd none (.load1 (.tmp p8)) (some p34) [5,6],.ok,.ok,.ok,.ok,.ok,.ok,.ok]))))) (.draw 8 [.go (.move (.tmp p5)) p41,
 .go (.move (.tmp p6)) p42,
 .go (.load1 (.tmp p8)) p43,
 .go (.call (.con (.func (.func 93) ⟨[]⟩ ⟨[]⟩)) [(.tmp p43)]) p44,
 .go (.nilCheck (.tmp p41)) p45,
 .go (.fieldAddr 5 (.tmp p45)) p46,
 .go (.indexAddr (some 8) 1 (.tmp p46) (.tmp p42)) p47,
 .un (.store 1 (.tmp p47) (.tmp p44))] [.ok,.ok,.ok,.ok,.ok,.ok,.ok,.ok]))))) (.run [.go (.bin .add 3 (.tmp p25) (.con (.int .i64 (.ofNat 1)))) p48,
 .go (.move (.tmp p48)) p25]))))))) (.seq (.run [.go (.move (.tmp p5)) p49,
 .go (.move (.tmp p49)) p2,
 .go (.move (.con (.int .i64 (.ofNat 0)))) p3]) .ret)))))
noncomputable def f78 : FFunc := .mk c78 (.n U (.n U (.n U (.n U (.n U (.n U .e .e) (.n U .e .e)) (.n U (.n U .e .e) .e)) (.n U (.n U (.n U .e .e) .e) (.n U (.n U .e .e) .e))) (.n U (.n U (.n U (.n U .e .e) (.n U .e .e)) (.n U (.n U .e .e) .e)) (.n U (.n U (.n U .e .e) .e) (.n U (.n U .e .e) .e)))) (.n U (.n U (.n U (.n U (.n U .e .e) (.n U .e .e)) (.n U (.n U .e .e) .e)) (.n U (.n U (.n U .e .e) .e) (.n U (.n U .e .e) .e))) (.n U (.n U (.n U (.n U .e .e) .e) (.n U (.n U .e .e) .e)) (.n U (.n U (.n U .e .e) .e) (.n U (.n U .e .e) .e))))) [p0] [.tmp p2,.tmp p3]
theorem e78 : @compF Try.prog (Gl.none Try.prog) Try.f78 1 = f78 := by kernel_rfl
theorem o78 : okF Try.prog Try.f78 = true := by kernel_rfl
theorem g78 : Try.prog.funcs[(78 : Nat)]? = some Try.f78 := by kernel_rfl
noncomputable def c79 : FCode := (.seq (.run [.go (.move (.con (.slice none 0 0))) p2]) (.seq (.run [.go (.move (.tmp p0)) p5,
 .go (.nilCheck (.tmp p5)) p6,
 .go (.fieldAddr 0 (.tmp p6)) p7,
 .go (.fieldAddr 0 (.tmp p7)) p8,
 .go (.loadN 2 (.tmp p8)) p9,
 .go (.buildSlice 48 1 [(.int .i64 (.ofNat 0)),(.int .i64 (.ofNat 0))] [(0,2,(.tmp p9))]) p10,
 .go (.move (.tmp p10)) p3]) (.seq (.seq (.run [.go (.move (.tmp p0)) p11,
 .go (.nilCheck (.tmp p11)) p12,
 .go (.fieldAddr 0 (.tmp p12)) p13,
 .go (.fieldAddr 3 (.tmp p13)) p14,
 .go (.load1 (.tmp p14)) p15,
 .go (.len 0 (.tmp p15)) p16,
 .go (.move (.con (.int .i64 (.ofNat 0)))) p17]) (.block 0 (.loop (.seq (.run [.go (.bin .lss 3 (.tmp p17) (.tmp p16)) p18]) (.seq (.cond (.tmp p18) .skip (.exit 0)) (.seq (.block 1 (.seq (.run [.go (.move (.tmp p17)) p19,
 .go (.move (.tmp p19)) p4]) (.run [.go (.move (.tmp p3)) p20,
 .go (.move (.tmp p0)) p21,
 .go (.move (.tmp p4)) p22,
 .go (.nilCheck (.tmp p21)) p23,
 .go (.fieldAddr 5 (.tmp p23)) p24,
 .go (.indexAddr (some 8) 1 (.tmp p24) (.tmp p22)) p25,
 .go (.load1 (.tmp p25)) p26,
 .go (.call (.con (.func (.func 98) ⟨[]⟩ ⟨[]⟩)) [(.tmp p20),(.tmp p26)]) p27,
 .go (.move (.tmp p27)) p3]))) (.run [.go (.bin .add 3 (.tmp p17) (.con (.int .i64 (.ofNat 1)))) p28,
 .go (.move (.tmp p28)) p17]))))))) (.seq (.run [.go (.move (.tmp p3)) p29,
 .go (.move (.tmp p29)) p2]) .ret))))
noncomputable def f79 : FFunc := .mk c79 (.n U (.n U (.n U (.n U (.n U .e .e) (.n U .e .e)) (.n U (.n U .e .e) (.n U .e .e))) (.n U (.n U (.n U .e .e) (.n U .e .e)) (.n U (.n U .e .e) (.n U .e .e)))) (.n U (.n U (.n U (.n U .e .e) (.n U .e .e)) (.n U (.n U .e .e) (.n U .e .e))) (.n U (.n U (.n U .e .e) (.n U .e .e)) (.n U (.n U .e .e) .e)))) [p0] [.tmp p2]
theorem e79 : @compF Try.prog (Gl.none Try.prog) Try.f79 1 = f79 := by kernel_rfl
theorem o79 : okF Try.prog Try.f79 = true := by kernel_rfl
theorem g79 : Try.prog.funcs[(79 : Nat)]? = some Try.f79 := by kernel_rfl
noncomputable def c80 : FCode := (.seq (.run [.go (.move (.con (.bool false))) p4]) (.seq (.seq (.run [.go (.move (.tmp p0)) p7,
 .go (.len 0 (.tmp p7)) p8,
 .go (.move (.con (.int .i64 (.ofNat 0)))) p9]) (.block 0 (.loop (.seq (.run [.go (.bin .lss 3 (.tmp p9) (.tmp p8)) p10]) (.seq (.cond (.tmp p10) .skip (.exit 0)) (.seq (.block 1 (.seq (.run [.go (.indexAddr none 3 (.tmp p7) (.tmp p9)) p11,
 .go (.loadN 3 (.tmp p11)) p12,
 .go (.alloc 89 [(.int .i64 (.ofNat 0)),(.int .i64 (.ofNat 0)),(.int .i64 (.ofNat 0))]) p6,
 .un (.store 3 (.tmp p6) (.tmp p12))]) (.seq (.run [.go (.move (.tmp p1)) p13,
 .go (.loadN 3 (.tmp p6)) p14,
 .go (.call (.tmp p13) [(.tmp p14)]) p15,
 .go (.un .not (.tmp p15)) p16]) (.cond (.tmp p16) (.seq (.run [.go (.move (.con (.bool false))) p4]) .ret) .skip)))) (.run [.go (.bin .add 3 (.tmp p9) (.con (.int .i64 (.ofNat 1)))) p17,
 .go (.move (.tmp p17)) p9]))))))) (.seq (.run [.go (.move (.con (.bool true))) p4]) .ret)))
noncomputable def f80 : FFunc := .mk c80 (.n U (.n U (.n U (.n U (.n U .e .e) .e) (.n U .e .e)) (.n U (.n U (.n U .e .e) .e) (.n U .e .e))) (.n U (.n U (.n U (.n U .e .e) .e) (.n U .e .e)) (.n U (.n U .e .e) (.n U .e .e)))) [p0,p1] [.tmp p4]
theorem e80 : @compF Try.prog (Gl.none Try.prog) Try.f80 2 = f80 := by kernel_rfl
theorem o80 : okF Try.prog Try.f80 = true := by kernel_rfl
theorem g80 : Try.prog.funcs[(80 : Nat)]? = some Try.f80 := by kernel_rfl
noncomputable def c85 : FCode := (.seq (.run [.go (.move (.con (.slice none 0 0))) p4]) (.seq (.run [.go (.move (.con (.slice none 0 0))) p5]) (.seq (.seq (.run [.go (.move (.tmp p0)) p8,
 .go (.move (.tmp p1)) p9,
 .go (.build [(.int .i64 (.ofNat 0)),(.int .i64 (.ofNat 0))] [(0,1,(.con (.int .i64 (.negSucc 49999)))),(1,1,(.tmp p9))]) p10,
 .go (.buildSlice 48 1 [(.int .i64 (.ofNat 0)),(.int .i64 (.ofNat 0))] [(0,2,(.tmp p10))]) p11,
 .go (.call (.con (.func (.func 98) ⟨[]⟩ ⟨[]⟩)) [(.tmp p8),(.tmp p11)]) p12,
 .go (.len 0 (.tmp p12)) p13,
 .go (.move (.con (.int .i64 (.ofNat 0)))) p14]) (.block 0 (.loop (.seq (.run [.go (.bin .lss 3 (.tmp p14) (.tmp p13)) p15]) (.seq (.cond (.tmp p15) .skip (.exit 0)) (.seq (.block 1 (.seq (.run [.go (.indexAddr none 2 (.tmp p12) (.tmp p14)) p16,
 .go (.loadN 2 (.tmp p16)) p17,
 .go (.alloc 48 [(.int .i64 (.ofNat 0)),(.int .i64 (.ofNat 0))]) p7,
 .un (.store 2 (.tmp p7) (.tmp p17))]) (.draw 13 [.go (.move (.tmp p5)) p18,
 .go (.fieldAddr 1 (.tmp p7)) p19,
 .go (.load1 (.tmp p19)) p20,
 .go (.move (.tmp p1)) p21,
 .go (.call (.con (.func (.func 63) ⟨[]⟩ ⟨[]⟩)) [(.tmp p20),(.tmp p21)]) p22,
 .go (.fieldAddr 0 (.tmp p7)) p23,
 .go (.load1 (.tmp p23)) p24,
 .go (.move (.tmp p1)) p25,
 .go (.call (.con (.func (.func 63) ⟨[]⟩ ⟨[]⟩)) [(.tmp p24),(.tmp p25)]) p26,
 .go (.build [(.int .i64 (.ofNat 0)),(.int .i64 (.ofNat 0))] [(0,1,(.tmp p22)),(1,1,(.tmp p26))]) p27,
 .go (.buildSlice 48 1 [(.int .i64 (.ofNat 0)),(.int .i64 (.ofNat 0))] [(0,2,(.tmp p27))]) p28,
 .go (.append 48 2 16 (.tmp p18) (.tmp p28)) p29,
 .go (.move (.tmp p29)) p5] [.ok,.ok,.ok,.ok,.ok,.ok,.rd none (.load1 (.tmp p23)) (some p24) [0],.ok,.ok,.ok,.ok,.ok,.ok]))) (.run [.go (.bin .add 3 (.tmp p14) (.con (.int .i64 (.ofNat 1)))) p30,
 .go (.move (.tmp p30)) p14]))))))) (.seq (.run [.go (.move (.tmp p5)) p31,
 .go (.call (.con (.func (.func 93) ⟨[]⟩ ⟨[]⟩)) [(.tmp p31)]) p32,
 .go (.move (.tmp p32)) p4]) .ret))))
noncomputable def f85 : FFunc := .mk c85 (.n U (.n U (.n U (.n U (.n U (.n U .e .e) .e) (.n U .e .e)) (.n U (.n U .e .e) (.n U .e .e))) (.n U (.n U (.n U .e .e) (.n U .e .e)) (.n U (.n U .e .e) (.n U .e .e)))) (.n U (.n U (.n U (.n U (.n U .e .e) .e) (.n U .e .e)) (.n U (.n U .e .e) (.n U .e .e))) (.n U (.n U (.n U .e .e) (.n U .e .e)) (.n U (.n U .e .e) (.n U .e .e))))) [p0,p1] [.tmp p4]
theorem e85 : @compF Try.prog (Gl.none Try.prog) Try.f85 2 = f85 := by kernel_rfl
theorem o85 : okF Try.prog Try.f85 = true := by kernel_rfl
theorem g85 : Try.prog.funcs[(85 : Nat)]? = some Try.f85 := by kernel_rfl
noncomputable def c86 : FCode := (.seq (.run [.go (.move (.con (.slice none 0 0))) p2]) (.scope (.seq (.run [.go (.alloc 45 [(.slice none 0 0)]) p3]) (.seq .skip (.seq (.seq (.run [.go (.move (.tmp p0)) p7,
 .go (.nilCheck (.tmp p7)) p8,
 .go (.fieldAddr 0 (.tmp p8)) p9,
 .go (.fieldAddr 3 (.tmp p9)) p10,
 .go (.load1 (.tmp p10)) p11,
 .go (.len 0 (.tmp p11)) p12,
 .go (.bin .add 3 (.tmp p12) (.con (.int .i64 (.ofNat 1)))) p13,
 .go (.move (.con (.int .i64 (.ofNat 0)))) p14]) (.block 0 (.loop (.seq (.run [.go (.bin .lss 3 (.tmp p14) (.tmp p13)) p15]) (.seq (.cond (.tmp p15) .skip (.exit 0)) (.seq (.block 1 (.seq (.run [.go (.move (.tmp p14)) p16,
 .go (.move (.tmp p16)) p4]) (.seq (.run [.go (.move (.tmp p0)) p17,
 .go (.move (.tmp p4)) p18,
 .go (.call (.con (.func (.func 101) ⟨[]⟩ ⟨[]⟩)) [(.tmp p17),(.tmp p18)]) p19]) (.block 2 (.rangeFunc (.tmp p19) [p20,p21] (rfA Try.f86 0) (rfB Try.f86 0) (.seq (.run [.go (.move (.tmp p20)) p5]) (.run [.go (.move (.tmp p21)) p6])) (.block 3 (.seq (.run [.go (.move (.tmp p6)) p22,
 .go (.len 0 (.tmp p22)) p23,
 .go (.bin .gtr 3 (.tmp p23) (.con (.int .i64 (.ofNat 0)))) p24]) (.cond (.tmp p24) (.seq (.run [.go (.move (.tmp p5)) p25,
 .un (.store 1 (.tmp p3) (.tmp p25))]) (.exit 0)) .skip)))))))) (.run [.go (.bin .add 3 (.tmp p14) (.con (.int .i64 (.ofNat 1)))) p26,
 .go (.move (.tmp p26)) p14]))))))) (.seq (.run [.go (.load1 (.tmp p3)) p27,
 .go (.move (.tmp p27)) p2]) .ret))))))
noncomputable def f86 : FFunc := .mk c86 (.n U (.n U (.n U (.n U (.n U .e .e) (.n U .e .e)) (.n U (.n U .e .e) (.n U .e .e))) (.n U (.n U (.n U .e .e) (.n U .e .e)) (.n U (.n U .e .e) .e))) (.n U (.n U (.n U (.n U .e .e) (.n U .e .e)) (.n U (.n U .e .e) .e)) (.n U (.n U (.n U .e .e) (.n U .e .e)) (.n U (.n U .e .e) .e)))) [p0] [.tmp p2]
theorem e86 : @compF Try.prog (Gl.none Try.prog) Try.f86 1 = f86 := by kernel_rfl
theorem o86 : okF Try.prog Try.f86 = true := by kernel_rfl
theorem g86 : Try.prog.funcs[(86 : Nat)]? = some Try.f86 := by kernel_rfl
noncomputable def c89 : FCode := (.seq (.run [.go (.move (.con (.bool false))) p4]) (.seq (.seq (.run [.go (.move (.tmp p0)) p7,
 .go (.len 0 (.tmp p7)) p8,
 .go (.move (.con (.int .i64 (.ofNat 0)))) p9]) (.block 0 (.loop (.seq (.run [.go (.bin .lss 3 (.tmp p9) (.tmp p8)) p10]) (.seq (.cond (.tmp p10) .skip (.exit 0)) (.seq (.block 1 (.seq (.run [.go (.indexAddr none 1 (.tmp p7) (.tmp p9)) p11,
 .go (.load1 (.tmp p11)) p12,
 .go (.move (.tmp p12)) p6]) (.seq (.run [.go (.move (.tmp p1)) p13,
 .go (.move (.tmp p6)) p14,
 .go (.call (.tmp p13) [(.tmp p14)]) p15,
 .go (.un .not (.tmp p15)) p16]) (.cond (.tmp p16) (.seq (.run [.go (.move (.con (.bool false))) p4]) .ret) .skip)))) (.run [.go (.bin .add 3 (.tmp p9) (.con (.int .i64 (.ofNat 1)))) p17,
 .go (.move (.tmp p17)) p9]))))))) (.seq (.run [.go (.move (.con (.bool true))) p4]) .ret)))
noncomputable def f89 : FFunc := .mk c89 (.n U (.n U (.n U (.n U (.n U .e .e) .e) (.n U .e .e)) (.n U (.n U (.n U .e .e) .e) (.n U .e .e))) (.n U (.n U (.n U (.n U .e .e) .e) (.n U .e .e)) (.n U (.n U .e .e) (.n U .e .e)))) [p0,p1] [.tmp p4]
theorem e89 : @compF Try.prog (Gl.none Try.prog) Try.f89 2 = f89 := by kernel_rfl
theorem o89 : okF Try.prog Try.f89 = true := by kernel_rfl
theorem g89 : Try.prog.funcs[(89 : Nat)]? = some Try.f89 := by kernel_rfl
noncomputable def c90 : FCode := (.seq (.run [.go (.alloc 48 [(.int .i64 (.ofNat 0)),(.int .i64 (.ofNat 0))]) p0]) (.seq (.run [.go (.build [(.int .i64 (.ofNat 0)),(.int .i64 (.ofNat 0))] [(0,1,(.con (.int .i64 (.negSucc 49999)))),(1,1,(.con (.int .i64 (.ofNat 50000))))]) p1,
 .un (.store 2 (.tmp p0) (.tmp p1))]) .ret))
noncomputable def f90 : FFunc := .mk c90 (.n U (.n U .e .e) .e) [] [.many p0 2]
theorem e90 : @compF Try.prog (Gl.none Try.prog) Try.f90 0 = f90 := by kernel_rfl
theorem o90 : okF Try.prog Try.f90 = true := by kernel_rfl
theorem g90 : Try.prog.funcs[(90 : Nat)]? = some Try.f90 := by kernel_rfl
noncomputable def c91 : FCode := (.seq (.run [.go (.box 28 (.tmp p0)) p1,
 .go (.alloc 140 [.nilFunc]) p2]) (.seq (.seq (.run [.go (.fieldAddr 2 (.tmp p1)) p3,
 .go (.load1 (.tmp p3)) p4,
 .go (.bin .eql 3 (.tmp p4) (.con (.int .i64 (.ofNat 1)))) p5]) (.cond (.tmp p5) (.seq (.run [.go (.build [.nilFunc] [(0,1,(.con (.func (.func 102) ⟨[]⟩ ⟨[]⟩)))]) p6,
 .un (.store 1 (.tmp p2) (.tmp p6))]) .ret) .skip)) (.seq (.run [.go (.build [.nilFunc] [(0,1,(.con (.func (.func 103) ⟨[]⟩ ⟨[]⟩)))]) p7,
 .un (.store 1 (.tmp p2) (.tmp p7))]) .ret)))
noncomputable def f91 : FFunc := .mk c91 (.n U (.n U (.n U (.n U .e .e) .e) (.n U .e .e)) (.n U (.n U .e .e) (.n U .e .e))) [p0] [.many p2 1]
theorem e91 : @compF Try.prog (Gl.none Try.prog) Try.f91 1 = f91 := by kernel_rfl
theorem o91 : okF Try.prog Try.f91 = true := by kernel_rfl
theorem g91 : Try.prog.funcs[(91 : Nat)]? = some Try.f91 := by kernel_rfl
noncomputable def c92 : FCode := (.seq (.run [.go (.move (.con (.int .i64 (.ofNat 0)))) p4]) (.seq (.seq (.run [.go (.move (.tmp p1)) p7,
 .go (.len 0 (.tmp p7)) p8,
 .go (.move (.con (.int .i64 (.ofNat 0)))) p9]) (.block 0 (.loop (.seq (.run [.go (.bin .lss 3 (.tmp p9) (.tmp p8)) p10]) (.seq (.cond (.tmp p10) .skip (.exit 0)) (.seq (.block 1 (.seq (.run [.go (.indexAddr none 1 (.tmp p7) (.tmp p9)) p11,
 .go (.load1 (.tmp p11)) p12,
 .go (.move (.tmp p12)) p6]) (.seq (.run [.go (.move (.tmp p6)) p13,
 .go (.move (.tmp p0)) p14,
 .go (.bin .gtr 3 (.tmp p13) (.tmp p14)) p15]) (.cond (.tmp p15) (.run [.go (.move (.tmp p6)) p16,
 .go (.move (.tmp p16)) p0]) .skip)))) (.run [.go (.bin .add 3 (.tmp p9) (.con (.int .i64 (.ofNat 1)))) p17,
 .go (.move (.tmp p17)) p9]))))))) (.seq (.run [.go (.move (.tmp p0)) p18,
 .go (.move (.tmp p18)) p4]) .ret)))
noncomputable def f92 : FFunc := .mk c92 (.n U (.n U (.n U (.n U (.n U .e .e) .e) (.n U .e .e)) (.n U (.n U (.n U .e .e) .e) (.n U .e .e))) (.n U (.n U (.n U (.n U .e .e) .e) (.n U .e .e)) (.n U (.n U (.n U .e .e) .e) (.n U .e .e)))) [p0,p1] [.tmp p4]
theorem e92 : @compF Try.prog (Gl.none Try.prog) Try.f92 2 = f92 := by kernel_rfl
theorem o92 : okF Try.prog Try.f92 = true := by kernel_rfl
theorem g92 : Try.prog.funcs[(92 : Nat)]? = some Try.f92 := by kernel_rfl
noncomputable def c93 : FCode := (.seq (.run [.go (.move (.con (.slice none 0 0))) p2]) (.seq (.run [.go (.move (.tmp p0)) p8,
 .go (.call (.con (.func (.func 104) ⟨[]⟩ ⟨[]⟩)) [(.tmp p8)]) p9,
 .go (.move (.tmp p9)) p3]) (.seq (.run [.go (.move (.tmp p3)) p10,
 .go (.call (.con (.func (.func 105) ⟨[]⟩ ⟨[]⟩)) [(.tmp p10),(.con (.func (.func 106) ⟨[]⟩ ⟨[]⟩))]) p11]) (.seq (.run [.go (.move (.con (.slice none 0 0))) p4]) (.seq (.seq (.run [.go (.move (.tmp p3)) p12,
 .go (.len 0 (.tmp p12)) p13,
 .go (.move (.con (.int .i64 (.ofNat 0)))) p14]) (.block 0 (.loop (.seq (.run [.go (.bin .lss 3 (.tmp p14) (.tmp p13)) p15]) (.seq (.cond (.tmp p15) .skip (.exit 0)) (.seq (.block 1 (.seq (.run [.go (.indexAddr none 2 (.tmp p12) (.tmp p14)) p16,
 .go (.loadN 2 (.tmp p16)) p17,
 .go (.alloc 48 [(.int .i64 (.ofNat 0)),(.int .i64 (.ofNat 0))]) p6,
 .un (.store 2 (.tmp p6) (.tmp p17))]) (.seq (.run [.go (.move (.tmp p4)) p18,
 .go (.len 0 (.tmp p18)) p19,
 .go (.bin .sub 3 (.tmp p19) (.con (.int .i64 (.ofNat 1)))) p20,
 .go (.move (.tmp p20)) p7]) (.seq (.draw 13 [.go (.move (.tmp p7)) p21,
 .go (.bin .geq 3 (.tmp p21) (.con (.int .i64 (.ofNat 0)))) p22,
 .go (.move (.tmp p22)) p23,
 .gd p23 true (.fieldAddr 0 (.tmp p6)) p24,
 .gd p23 true (.load1 (.tmp p24)) p25,
 .gd p23 true (.move (.tmp p4)) p26,
 .gd p23 true (.move (.tmp p7)) p27,
 .gd p23 true (.indexAddr none 2 (.tmp p26) (.tmp p27)) p28,
 .gd p23 true (.fieldAddr 1 (.tmp p28)) p29,
 .gd p23 true (.load1 (.tmp p29)) p30,
 .gd p23 true (.bin .add 3 (.tmp p30) (.con (.int .i64 (.ofNat 1)))) p31,
 .gd p23 true (.bin .leq 3 (.tmp p25) (.tmp p31)) p32,
 .go (.pick (.tmp p23) (.tmp p32) (.con (.bool false))) p33] [.ok,.ok,.ok,.ok,.ok,.ok,.ok,.ok,.ok,.ok,.ok,.ok,.ok]) (.cond (.tmp p33) (.draw 14 [.go (.move (.tmp p4)) p34,
 .go (.move (.tmp p7)) p35,
 .go (.move (.tmp p4)) p36,
 .go (.move (.tmp p7)) p37,
 .go (.indexAddr none 2 (.tmp p36) (.tmp p37)) p38,
 .go (.fieldAddr 1 (.tmp p38)) p39,
 .go (.load1 (.tmp p39)) p40,
 .go (.fieldAddr 1 (.tmp p6)) p41,
 .go (.load1 (.tmp p41)) p42,
 .go (.buildSlice 3 1 [(.int .i64 (.ofNat 0))] [(0,1,(.tmp p42))]) p43,
 .go (.call (.con (.func (.func 92) ⟨[]⟩ ⟨[]⟩)) [(.tmp p40),(.tmp p43)]) p44,
 .go (.indexAddr none 2 (.tmp p34) (.tmp p35)) p45,
 .go (.fieldAddr 1 (.tmp p45)) p46,
 .un (.store 1 (.tmp p46) (.tmp p44))] [.ok,.ok,.ok,.ok,.ok,.ok,.rd none (.load1 (.tmp p39)) (some p40) [10],.ok,.ok,.ok,.ok,.ok,.ok,.ok]) (.run [.go (.move (.tmp p4)) p47,
 .go (.loadN 2 (.tmp p6)) p48,
 .go (.buildSlice 48 1 [(.int .i64 (.ofNat 0)),(.int .i64 (.ofNat 0))] [(0,2,(.tmp p48))]) p49,
 .go (.append 48 2 16 (.tmp p47) (.tmp p49)) p50,
 .go (.move (.tmp p50)) p4])))))) (.run [.go (.bin .add 3 (.tmp p14) (.con (.int .i64 (.ofNat 1)))) p51,
 .go (.move (.tmp p51)) p14]))))))) (.seq (.run [.go (.move (.tmp p4)) p52,
 .go (.move (.tmp p52)) p2]) .ret))))))
noncomputable def f93 : FFunc := .mk c93 (.n U (.n U (.n U (.n U (.n U (.n U .e .e) (.n U .e .e)) (.n U (.n U .e .e) .e)) (.n U (.n U (.n U .e .e) (.n U .e .e)) (.n U (.n U .e .e) .e))) (.n U (.n U (.n U (.n U .e .e) (.n U .e .e)) (.n U (.n U .e .e) .e)) (.n U (.n U (.n U .e .e) .e) (.n U (.n U .e .e) .e)))) (.n U (.n U (.n U (.n U (.n U .e .e) (.n U .e .e)) (.n U (.n U .e .e) .e)) (.n U (.n U (.n U .e .e) (.n U .e .e)) (.n U (.n U .e .e) .e))) (.n U (.n U (.n U (.n U .e .e) (.n U .e .e)) (.n U (.n U .e .e) .e)) (.n U (.n U (.n U .e .e) .e) (.n U (.n U .e .e) .e))))) [p0] [.tmp p2]
theorem e93 : @compF Try.prog (Gl.none Try.prog) Try.f93 1 = f93 := by kernel_rfl
theorem o93 : okF Try.prog Try.f93 = true := by kernel_rfl
theorem g93 : Try.prog.funcs[(93 : Nat)]? = some Try.f93 := by kernel_rfl
noncomputable def c94 : FCode := (.seq (.run [.go (.move (.con (.bool false))) p4]) (.seq (.seq (.run [.go (.move (.tmp p0)) p7,
 .go (.len 0 (.tmp p7)) p8,
 .go (.move (.con (.int .i64 (.ofNat 0)))) p9]) (.block 0 (.loop (.seq (.run [.go (.bin .lss 3 (.tmp p9) (.tmp p8)) p10]) (.seq (.cond (.tmp p10) .skip (.exit 0)) (.seq (.block 1 (.seq (.run [.go (.indexAddr none 4 (.tmp p7) (.tmp p9)) p11,
 .go (.loadN 4 (.tmp p11)) p12,
 .go (.alloc 28 [(.int .i64 (.ofNat 0)),(.int .i64 (.ofNat 0)),(.int .i64 (.ofNat 0)),(.int .i64 (.ofNat 0))]) p6,
 .un (.store 4 (.tmp p6) (.tmp p12))]) (.seq (.run [.go (.move (.tmp p1)) p13,
 .go (.loadN 4 (.tmp p6)) p14,
 .go (.call (.tmp p13) [(.tmp p14)]) p15,
 .go (.un .not (.tmp p15)) p16]) (.cond (.tmp p16) (.seq (.run [.go (.move (.con (.bool false))) p4]) .ret) .skip)))) (.run [.go (.bin .add 3 (.tmp p9) (.con (.int .i64 (.ofNat 1)))) p17,
 .go (.move (.tmp p17)) p9]))))))) (.seq (.run [.go (.move (.con (.bool true))) p4]) .ret)))
noncomputable def f94 : FFunc := .mk c94 (.n U (.n U (.n U (.n U (.n U .e .e) .e) (.n U .e .e)) (.n U (.n U (.n U .e .e) .e) (.n U .e .e))) (.n U (.n U (.n U (.n U .e .e) .e) (.n U .e .e)) (.n U (.n U .e .e) (.n U .e .e)))) [p0,p1] [.tmp p4]
theorem e94 : @compF Try.prog (Gl.none Try.prog) Try.f94 2 = f94 := by kernel_rfl
theorem o94 : okF Try.prog Try.f94 = true := by kernel_rfl
theorem g94 : Try.prog.funcs[(94 : Nat)]? = some Try.f94 := by kernel_rfl
noncomputable def c95 : FCode := (.seq (.run [.go (.box 66 (.tmp p0)) p2,
 .go (.box 89 (.tmp p1)) p3,
 .go (.move (.con (.bool false))) p4]) (.seq (.run [.go (.fieldAddr 0 (.tmp p3)) p5,
 .go (.load1 (.tmp p5)) p6,
 .go (.buildSlice 3 1 [(.int .i64 (.ofNat 0))] [(0,1,(.tmp p6))]) p7,
 .go (.call (.con (.func (.func 62) ⟨[]⟩ ⟨[]⟩)) [(.tmp p7)]) p8,
 .go (.move (.tmp p8)) p9,
 .gd p9 true (.fieldAddr 1 (.tmp p3)) p10,
 .gd p9 true (.load1 (.tmp p10)) p11,
 .gd p9 true (.bin .leq 3 (.con (.int .i64 (.ofNat 0))) (.tmp p11)) p12,
 .go (.pick (.tmp p9) (.tmp p12) (.con (.bool false))) p13,
 .go (.move (.tmp p13)) p14,
 .gd p14 true (.fieldAddr 1 (.tmp p3)) p15,
 .gd p14 true (.load1 (.tmp p15)) p16,
 .gd p14 true (.fieldAddr 2 (.tmp p2)) p17,
 .gd p14 true (.load1 (.tmp p17)) p18,
 .gd p14 true (.len 0 (.tmp p18)) p19,
 .gd p14 true (.bin .lss 3 (.tmp p16) (.tmp p19)) p20,
 .go (.pick (.tmp p14) (.tmp p20) (.con (.bool false))) p21,
 .go (.move (.tmp p21)) p22,
 .gd p22 true (.fieldAddr 2 (.tmp p3)) p23,
 .gd p22 true (.load1 (.tmp p23)) p24,
 .gd p22 true (.buildSlice 3 1 [(.int .i64 (.ofNat 0))] [(0,1,(.tmp p24))]) p25,
 .gd p22 true (.call (.con (.func (.func 67) ⟨[]⟩ ⟨[]⟩)) [(.tmp p25)]) p26,
 .go (.pick (.tmp p22) (.tmp p26) (.con (.bool false))) p27,
 .go (.move (.tmp p27)) p4]) .ret))
noncomputable def f95 : FFunc := .mk c95 (.n U (.n U (.n U (.n U (.n U .e .e) (.n U .e .e)) (.n U (.n U .e .e) (.n U .e .e))) (.n U (.n U (.n U .e .e) (.n U .e .e)) (.n U (.n U .e .e) .e))) (.n U (.n U (.n U (.n U .e .e) (.n U .e .e)) (.n U (.n U .e .e) .e)) (.n U (.n U (.n U .e .e) (.n U .e .e)) (.n U (.n U .e .e) .e)))) [p0,p1] [.tmp p4]
theorem e95 : @compF Try.prog (Gl.none Try.prog) Try.f95 2 = f95 := by kernel_rfl
theorem o95 : okF Try.prog Try.f95 = true := by kernel_rfl
theorem g95 : Try.prog.funcs[(95 : Nat)]? = some Try.f95 := by kernel_rfl
noncomputable def c96 : FCode := (.seq (.run [.go (.box 125 (.tmp p0)) p2,
 .go (.box 89 (.tmp p1)) p3,
 .go (.move (.con .nilFunc)) p4]) (.seq (.run [.go (.makeFunc 108 [] [(.tmp p2),(.tmp p3)]) p5,
 .go (.move (.tmp p5)) p4]) .ret))
noncomputable def f96 : FFunc := .mk c96 (.n U (.n U (.n U .e .e) (.n U .e .e)) (.n U (.n U .e .e) .e)) [p0,p1] [.tmp p4]
theorem e96 : @compF Try.prog (Gl.none Try.prog) Try.f96 2 = f96 := by kernel_rfl
theorem o96 : okF Try.prog Try.f96 = true := by kernel_rfl
theorem g96 : Try.prog.funcs[(96 : Nat)]? = some Try.f96 := by kernel_rfl
noncomputable def c97 : FCode := (.seq (.run [.go (.alloc 48 [(.int .i64 (.ofNat 0)),(.int .i64 (.ofNat 0))]) p4]) (.seq (.run [.go (.move (.tmp p1)) p5,
 .go (.move (.tmp p0)) p6,
 .go (.bin .add 3 (.tmp p6) (.con (.int .i64 (.ofNat 1)))) p7,
 .go (.bin .mul 3 (.con (.int .i64 (.ofNat 365))) (.tmp p7)) p8,
 .go (.bin .sub 3 (.tmp p5) (.tmp p8)) p9,
 .go (.bin .add 3 (.tmp p9) (.con (.int .i64 (.ofNat 1)))) p10,
 .go (.move (.tmp p1)) p11,
 .go (.move (.tmp p0)) p12,
 .go (.bin .mul 3 (.con (.int .i64 (.ofNat 365))) (.tmp p12)) p13,
 .go (.bin .sub 3 (.tmp p11) (.tmp p13)) p14,
 .go (.build [(.int .i64 (.ofNat 0)),(.int .i64 (.ofNat 0))] [(0,1,(.tmp p10)),(1,1,(.tmp p14))]) p15,
 .un (.store 2 (.tmp p4) (.tmp p15))]) .ret))
noncomputable def f97 : FFunc := .mk c97 (.n U (.n U (.n U (.n U (.n U .e .e) .e) (.n U .e .e)) (.n U (.n U .e .e) (.n U .e .e))) (.n U (.n U (.n U .e .e) (.n U .e .e)) (.n U (.n U .e .e) (.n U .e .e)))) [p0,p1] [.many p4 2]
theorem e97 : @compF Try.prog (Gl.none Try.prog) Try.f97 2 = f97 := by kernel_rfl
theorem o97 : okF Try.prog Try.f97 = true := by kernel_rfl
theorem g97 : Try.prog.funcs[(97 : Nat)]? = some Try.f97 := by kernel_rfl
noncomputable def c98 : FCode := (.seq (.run [.go (.move (.con (.slice none 0 0))) p4]) (.seq (.run [.go (.move (.con (.slice none 0 0))) p5]) (.seq (.seq (.run [.go (.move (.tmp p0)) p11,
 .go (.len 0 (.tmp p11)) p12,
 .go (.move (.con (.int .i64 (.ofNat 0)))) p13]) (.block 0 (.loop (.seq (.run [.go (.bin .lss 3 (.tmp p13) (.tmp p12)) p14]) (.seq (.cond (.tmp p14) .skip (.exit 0)) (.seq (.block 1 (.seq (.run [.go (.indexAddr none 2 (.tmp p11) (.tmp p13)) p15,
 .go (.loadN 2 (.tmp p15)) p16,
 .go (.alloc 48 [(.int .i64 (.ofNat 0)),(.int .i64 (.ofNat 0))]) p7,
 .un (.store 2 (.tmp p7) (.tmp p16))]) (.seq (.run [.go (.move (.tmp p1)) p17,
 .go (.len 0 (.tmp p17)) p18,
 .go (.move (.con (.int .i64 (.ofNat 0)))) p19]) (.block 2 (.loop (.seq (.run [.go (.bin .lss 3 (.tmp p19) (.tmp p18)) p20]) (.seq (.cond (.tmp p20) .skip (.exit 2)) (.seq (.block 3 (.seq (.run [.go (.indexAddr none 2 (.tmp p17) (.tmp p19)) p21,
 .go (.loadN 2 (.tmp p21)) p22,
 .go (.alloc 48 [(.int .i64 (.ofNat 0)),(.int .i64 (.ofNat 0))]) p9,
 .un (.store 2 (.tmp p9) (.tmp p22))]) (.seq (.draw 15 [.go (.fieldAddr 0 (.tmp p7)) p23,
 .go (.load1 (.tmp p23)) p24,
 .go (.fieldAddr 0 (.tmp p9)) p25,
 .go (.load1 (.tmp p25)) p26,
 .go (.buildSlice 3 1 [(.int .i64 (.ofNat 0))] [(0,1,(.tmp p26))]) p27,
 .go (.call (.con (.func (.func 92) ⟨[]⟩ ⟨[]⟩)) [(.tmp p24),(.tmp p27)]) p28,
 .go (.fieldAddr 1 (.tmp p7)) p29,
 .go (.load1 (.tmp p29)) p30,
 .go (.fieldAddr 1 (.tmp p9)) p31,
 .go (.load1 (.tmp p31)) p32,
 .go (.buildSlice 3 1 [(.int .i64 (.ofNat 0))] [(0,1,(.tmp p32))]) p33,
 .go (.call (.con (.func (.func 109) ⟨[]⟩ ⟨[]⟩)) [(.tmp p30),(.tmp p33)]) p34,
 .go (.build [(.int .i64 (.ofNat 0)),(.int .i64 (.ofNat 0))] [(0,1,(.tmp p28)),(1,1,(.tmp p34))]) p35,
 .go (.alloc 48 [(.int .i64 (.ofNat 0)),(.int .i64 (.ofNat 0))]) p10,
 .un (.store 2 (.tmp p10) (.tmp p35))] [.ok,.ok,.ok,.ok,.nw none (some p27) 4 true,.ok,.ok,.rd none (.load1 (.tmp p29)) (some p30) [0],.ok,.rd none (.load1 (.tmp p31)) (some p32) [0],.nw none (some p33) 10 true,.ok,.ok,.nw none (some p10) 13 true,.ok]) (.seq (.run [.go (.fieldAddr 0 (.tmp p10)) p36,
 .go (.load1 (.tmp p36)) p37,
 .go (.fieldAddr 1 (.tmp p10)) p38,
 .go (.load1 (.tmp p38)) p39,
 .go (.bin .leq 3 (.tmp p37) (.tmp p39)) p40]) (.cond (.tmp p40) (.run [.go (.move (.tmp p5)) p41,
 .go (.loadN 2 (.tmp p10)) p42,
 .go (.buildSlice 48 1 [(.int .i64 (.ofNat 0)),(.int .i64 (.ofNat 0))] [(0,2,(.tmp p42))]) p43,
 .go (.append 48 2 16 (.tmp p41) (.tmp p43)) p44,
 .go (.move (.tmp p44)) p5]) .skip))))) (.run [.go (.bin .add 3 (.tmp p19) (.con (.int .i64 (.ofNat 1)))) p45,
 .go (.move (.tmp p45)) p19]))))))))) (.run [.go (.bin .add 3 (.tmp p13) (.con (.int .i64 (.ofNat 1)))) p46,
 .go (.move (.tmp p46)) p13]))))))) (.seq (.run [.go (.move (.tmp p5)) p47,
 .go (.move (.tmp p47)) p4]) .ret))))
noncomputable def f98 : FFunc := .mk c98 (.n U (.n U (.n U (.n U (.n U (.n U .e .e) (.n U .e .e)) (.n U (.n U .e .e) .e)) (.n U (.n U (.n U .e .e) .e) (.n U (.n U .e .e) .e))) (.n U (.n U (.n U (.n U .e .e) .e) (.n U (.n U .e .e) .e)) (.n U (.n U (.n U .e .e) .e) (.n U (.n U .e .e) .e)))) (.n U (.n U (.n U (.n U (.n U .e .e) .e) (.n U (.n U .e .e) .e)) (.n U (.n U (.n U .e .e) .e) (.n U (.n U .e .e) .e))) (.n U (.n U (.n U (.n U .e .e) .e) (.n U (.n U .e .e) .e)) (.n U (.n U (.n U .e .e) .e) (.n U (.n U .e .e) .e))))) [p0,p1] [.tmp p4]
theorem e98 : @compF Try.prog (Gl.none Try.prog) Try.f98 2 = f98 := by kernel_rfl
theorem o98 : okF Try.prog Try.f98 = true := by kernel_rfl
theorem g98 : Try.prog.funcs[(98 : Nat)]? = some Try.f98 := by kernel_rfl
noncomputable def c99 : FCode := (.seq (.run [.go (.box 89 (.tmp p1)) p3,
 .go (.alloc 113 [(.bool false),(.bool false),(.bool false),(.bool false),(.bool false),(.bool false),(.bool false),(.bool false),(.bool false),(.bool false),(.bool false),(.bool false),(.bool false),(.bool false),(.bool false),(.bool false),(.bool false),(.bool false),(.bool false),(.bool false),(.bool false),(.bool false),(.bool false),(.bool false),(.bool false),(.bool false),(.bool false),(.bool false),(.bool false),(.bool false),(.bool false),(.bool false),(.bool false),(.bool false),(.bool false),(.bool false),(.bool false),(.bool false),(.bool false),(.bool false),(.bool false),(.bool false),(.bool false),(.bool false),(.bool false),(.bool false),(.bool false),(.bool false),(.bool false),(.bool false),(.bool false),(.bool false),(.bool false),(.bool false),(.bool false),(.bool false),(.bool false),(.bool false),(.bool false),(.bool false),(.bool false),(.bool false),(.bool false),(.bool false),(.bool false),(.bool false),(.bool false),(.bool false),(.bool false),(.bool false),(.bool false),(.bool false),(.bool false),(.bool false),(.bool false),(.bool false),(.bool false),(.bool false),(.bool false),(.bool false),(.bool false),(.bool false),(.bool false),(.bool false),(.bool false),(.bool false),(.bool false),(.bool false),(.bool false),(.bool false),(.bool false),(.bool false),(.bool false),(.bool false),(.bool false),(.bool false),(.bool false),(.bool false),(.bool false),(.bool false),(.bool false),(.bool false),(.bool false),(.bool false),(.bool false),(.bool false),(.bool false),(.bool false),(.bool false),(.bool false),(.bool false),(.bool false),(.bool false),(.bool false),(.bool false),(.bool false),(.bool false),(.bool false),(.bool false),(.bool false),(.bool false)]) p4]) (.seq (.draw 18 [.go (.move (.tmp p0)) p5,
 .go (.nilCheck (.tmp p5)) p6,
 .go (.fieldAddr 4 (.tmp p6)) p7,
 .go (.load1 (.tmp p7)) p8,
 .go (.move (.tmp p0)) p9,
 .go (.nilCheck (.tmp p9)) p10,
 .go (.fieldAddr 0 (.tmp p10)) p11,
 .go (.fieldAddr 2 (.tmp p11)) p12,
 .go (.load1 (.tmp p12)) p13,
 .go (.fieldAddr 1 (.tmp p3)) p14,
 .go (.load1 (.tmp p14)) p15,
 .go (.indexAddr none 4 (.tmp p13) (.tmp p15)) p16,
 .go (.loadN 4 (.tmp p16)) p17,
 .go (.fieldAddr 2 (.tmp p3)) p18,
 .go (.load1 (.tmp p18)) p19,
 .go (.build [(.int .i64 (.ofNat 0)),(.int .i64 (.ofNat 0)),(.int .i64 (.ofNat 0)),(.int .i64 (.ofNat 0)),(.int .i64 (.ofNat 0))] [(0,4,(.tmp p17)),(4,1,(.tmp p19))]) p20,
 .go (.call (.con (.func (.func 74) ⟨[]⟩ ⟨[]⟩)) [(.tmp p8),(.tmp p20)]) p21,
 .un (.store 121 (.tmp p4) (.tmp p21))] [.ok,.ok,.ok,.ok,.ok,.ok,.ok,.ok,.ok,.ok,.ok,.ok,.ok,.ok,.ok,.ok,.ok,.ok]) .ret))
noncomputable def f99 : FFunc := .mk c99 (.n U (.n U (.n U (.n U (.n U .e .e) .e) (.n U (.n U .e .e) .e)) (.n U (.n U (.n U .e .e) .e) (.n U (.n U .e .e) .e))) (.n U (.n U (.n U (.n U .e .e) .e) (.n U (.n U .e .e) .e)) (.n U (.n U (.n U .e .e) .e) (.n U .e .e)))) [p0,p1] [.many p4 121]
theorem e99 : @compF Try.prog (Gl.none Try.prog) Try.f99 2 = f99 := by kernel_rfl
theorem o99 : okF Try.prog Try.f99 = true := by kernel_rfl
theorem g99 : Try.prog.funcs[(99 : Nat)]? = some Try.f99 := by kernel_rfl
noncomputable def c101 : FCode := (.seq (.run [.go (.box 125 (.tmp p0)) p2,
 .go (.box 3 (.tmp p1)) p3,
 .go (.move (.con .nilFunc)) p4]) (.seq (.run [.go (.makeFunc 110 [] [(.tmp p2),(.tmp p3)]) p5,
 .go (.move (.tmp p5)) p4]) .ret))
noncomputable def f101 : FFunc := .mk c101 (.n U (.n U (.n U .e .e) (.n U .e .e)) (.n U (.n U .e .e) .e)) [p0,p1] [.tmp p4]
theorem e101 : @compF Try.prog (Gl.none Try.prog) Try.f101 2 = f101 := by kernel_rfl
theorem o101 : okF Try.prog Try.f101 = true := by kernel_rfl
theorem g101 : Try.prog.funcs[(101 : Nat)]? = some Try.f101 := by kernel_rfl
noncomputable def c102 : FCode := (.seq (.run [.go (.box 28 (.tmp p0)) p2,
 .go (.move (.con (.int .i64 (.ofNat 0)))) p4]) (.seq (.run [.go (.loadN 4 (.tmp p2)) p5,
 .go (.move (.tmp p1)) p6,
 .go (.fieldAddr 1 (.tmp p2)) p7,
 .go (.load1 (.tmp p7)) p8,
 .go (.bin .quo 3 (.tmp p8) (.con (.int .i64 (.ofNat 2)))) p9,
 .go (.bin .add 3 (.tmp p6) (.tmp p9)) p10,
 .go (.call (.con (.func (.func 103) ⟨[]⟩ ⟨[]⟩)) [(.tmp p5),(.tmp p10)]) p11,
 .go (.move (.tmp p11)) p4]) .ret))
noncomputable def f102 : FFunc := .mk c102 (.n U (.n U (.n U (.n U .e .e) (.n U .e .e)) (.n U (.n U .e .e) .e)) (.n U (.n U (.n U .e .e) .e) (.n U (.n U .e .e) .e))) [p0,p1] [.tmp p4]
theorem e102 : @compF Try.prog (Gl.none Try.prog) Try.f102 2 = f102 := by kernel_rfl
theorem o102 : okF Try.prog Try.f102 = true := by kernel_rfl
theorem g102 : Try.prog.funcs[(102 : Nat)]? = some Try.f102 := by kernel_rfl
noncomputable def c103 : FCode := (.seq (.run [.go (.box 28 (.tmp p0)) p2,
 .go (.move (.con (.int .i64 (.ofNat 0)))) p4]) (.seq (.run [.go (.move (.tmp p1)) p5,
 .go (.move (.tmp p1)) p6,
 .go (.fieldAddr 1 (.tmp p2)) p7,
 .go (.load1 (.tmp p7)) p8,
 .go (.bin .rem 3 (.tmp p6) (.tmp p8)) p9,
 .go (.bin .sub 3 (.tmp p5) (.tmp p9)) p10,
 .go (.move (.tmp p10)) p4]) .ret))
noncomputable def f103 : FFunc := .mk c103 (.n U (.n U (.n U (.n U .e .e) .e) (.n U (.n U .e .e) .e)) (.n U (.n U (.n U .e .e) .e) (.n U (.n U .e .e) .e))) [p0,p1] [.tmp p4]
theorem e103 : @compF Try.prog (Gl.none Try.prog) Try.f103 2 = f103 := by kernel_rfl
theorem o103 : okF Try.prog Try.f103 = true := by kernel_rfl
theorem g103 : Try.prog.funcs[(103 : Nat)]? = some Try.f103 := by kernel_rfl
noncomputable def c104 : FCode := (.seq (.run [.go (.move (.con (.slice none 0 0))) p2]) (.seq (.seq (.run [.go (.move (.tmp p0)) p3,
 .go (.bin .eql 30 (.tmp p3) (.con (.slice none 0 0))) p4]) (.cond (.tmp p4) (.seq (.run [.go (.move (.con (.slice none 0 0))) p2]) .ret) .skip)) (.seq (.run [.go (.buildSlice 48 0 [] []) p5,
 .go (.move (.tmp p0)) p6,
 .go (.append 48 2 16 (.tmp p5) (.tmp p6)) p7,
 .go (.move (.tmp p7)) p2]) .ret)))
noncomputable def f104 : FFunc := .mk c104 (.n U (.n U (.n U (.n U .e .e) .e) (.n U .e .e)) (.n U (.n U .e .e) (.n U .e .e))) [p0] [.tmp p2]
theorem e104 : @compF Try.prog (Gl.none Try.prog) Try.f104 1 = f104 := by kernel_rfl
theorem o104 : okF Try.prog Try.f104 = true := by kernel_rfl
theorem g104 : Try.prog.funcs[(104 : Nat)]? = some Try.f104 := by kernel_rfl
noncomputable def c105 : FCode := (.seq (.run [.go (.move (.tmp p0)) p5,
 .go (.len 0 (.tmp p5)) p6,
 .go (.move (.tmp p6)) p4]) (.run [.go (.move (.tmp p0)) p7,
 .go (.move (.tmp p4)) p8,
 .go (.move (.tmp p4)) p9,
 .go (.conv .u64 (.tmp p9)) p10,
 .go (.call (.con (.func (.func 114) ⟨[]⟩ ⟨[]⟩)) [(.tmp p10)]) p11,
 .go (.move (.tmp p1)) p12,
 .go (.call (.con (.func (.func 113) ⟨[]⟩ ⟨[]⟩)) [(.tmp p7),(.con (.int .i64 (.ofNat 0))),(.tmp p8),(.tmp p11),(.tmp p12)]) p13]))
noncomputable def f105 : FFunc := .mk c105 (.n U (.n U (.n U (.n U .e .e) (.n U .e .e)) (.n U (.n U .e .e) (.n U .e .e))) (.n U (.n U (.n U .e .e) (.n U .e .e)) (.n U (.n U .e .e) .e))) [p0,p1] []
theorem e105 : @compF Try.prog (Gl.none Try.prog) Try.f105 2 = f105 := by kernel_rfl
theorem o105 : okF Try.prog Try.f105 = true := by kernel_rfl
theorem g105 : Try.prog.funcs[(105 : Nat)]? = some Try.f105 := by kernel_rfl
noncomputable def c106 : FCode := (.seq (.run [.go (.box 48 (.tmp p0)) p2,
 .go (.box 48 (.tmp p1)) p3,
 .go (.move (.con (.int .i64 (.ofNat 0)))) p4]) (.seq (.run [.go (.fieldAddr 0 (.tmp p2)) p5,
 .go (.load1 (.tmp p5)) p6,
 .go (.fieldAddr 0 (.tmp p3)) p7,
 .go (.load1 (.tmp p7)) p8,
 .go (.call (.con (.func (.func 107) ⟨[]⟩ ⟨[]⟩)) [(.tmp p6),(.tmp p8)]) p9,
 .go (.move (.tmp p9)) p4]) .ret))
noncomputable def f106 : FFunc := .mk c106 (.n U (.n U (.n U (.n U .e .e) .e) (.n U (.n U .e .e) .e)) (.n U (.n U (.n U .e .e) .e) (.n U .e .e))) [p0,p1] [.tmp p4]
theorem e106 : @compF Try.prog (Gl.none Try.prog) Try.f106 2 = f106 := by kernel_rfl
theorem o106 : okF Try.prog Try.f106 = true := by kernel_rfl
theorem g106 : Try.prog.funcs[(106 : Nat)]? = some Try.f106 := by kernel_rfl
noncomputable def c107 : FCode := (.seq (.run [.go (.move (.con (.int .i64 (.ofNat 0)))) p4]) (.seq (.run [.go (.move (.tmp p0)) p7,
 .go (.call (.con (.func (.func 115) ⟨[]⟩ ⟨[]⟩)) [(.tmp p7)]) p8,
 .go (.move (.tmp p8)) p5]) (.seq (.run [.go (.move (.tmp p1)) p9,
 .go (.call (.con (.func (.func 115) ⟨[]⟩ ⟨[]⟩)) [(.tmp p9)]) p10,
 .go (.move (.tmp p10)) p6]) (.seq (.seq (.run [.go (.move (.tmp p5)) p11]) (.cond (.tmp p11) (.seq (.seq (.run [.go (.move (.tmp p6)) p12]) (.cond (.tmp p12) (.seq (.run [.go (.move (.con (.int .i64 (.ofNat 0)))) p4]) .ret) .skip)) (.seq (.run [.go (.move (.con (.int .i64 (.negSucc 0)))) p4]) .ret)) .skip)) (.seq (.seq (.run [.go (.move (.tmp p6)) p13]) (.cond (.tmp p13) (.seq (.run [.go (.move (.con (.int .i64 (.ofNat 1)))) p4]) .ret) .skip)) (.seq (.seq (.run [.go (.move (.tmp p0)) p14,
 .go (.move (.tmp p1)) p15,
 .go (.bin .lss 3 (.tmp p14) (.tmp p15)) p16]) (.cond (.tmp p16) (.seq (.run [.go (.move (.con (.int .i64 (.negSucc 0)))) p4]) .ret) .skip)) (.seq (.seq (.run [.go (.move (.tmp p0)) p17,
 .go (.move (.tmp p1)) p18,
 .go (.bin .gtr 3 (.tmp p17) (.tmp p18)) p19]) (.cond (.tmp p19) (.seq (.run [.go (.move (.con (.int .i64 (.ofNat 1)))) p4]) .ret) .skip)) (.seq (.run [.go (.move (.con (.int .i64 (.ofNat 0)))) p4]) .ret))))))))
noncomputable def f107 : FFunc := .mk c107 (.n U (.n U (.n U (.n U (.n U .e .e) .e) (.n U (.n U .e .e) .e)) (.n U (.n U (.n U .e .e) .e) (.n U .e .e))) (.n U (.n U (.n U (.n U .e .e) .e) (.n U .e .e)) (.n U (.n U (.n U .e .e) .e) (.n U .e .e)))) [p0,p1] [.tmp p4]
theorem e107 : @compF Try.prog (Gl.none Try.prog) Try.f107 2 = f107 := by kernel_rfl
theorem o107 : okF Try.prog Try.f107 = true := by kernel_rfl
theorem g107 : Try.prog.funcs[(107 : Nat)]? = some Try.f107 := by kernel_rfl
noncomputable def c108 : FCode := (.seq (.run [.go (.load1 (.tmp p1)) p6,
 .go (.loadN 3 (.tmp p2)) p7,
 .go (.call (.con (.func (.func 99) ⟨[]⟩ ⟨[]⟩)) [(.tmp p6),(.tmp p7)]) p8,
 .go (.move (.con (.int .i64 (.ofNat 0)))) p9]) (.block 0 (.loop (.seq (.run [.go (.bin .lss 3 (.tmp p9) (.con (.int .i64 (.ofNat 121)))) p10]) (.seq (.cond (.tmp p10) .skip (.exit 0)) (.seq (.block 1 (.seq (.run [.go (.move (.tmp p9)) p11,
 .go (.index 121 1 true (.tmp p8) (.tmp p9)) p12,
 .go (.move (.tmp p11)) p4,
 .go (.move (.tmp p12)) p5]) (.seq (.run [.go (.move (.tmp p5)) p13,
 .go (.move (.tmp p13)) p14,
 .gd p14 true (.move (.tmp p0)) p15,
 .gd p14 true (.move (.tmp p4)) p16,
 .gd p14 true (.call (.tmp p15) [(.tmp p16)]) p17,
 .gd p14 true (.un .not (.tmp p17)) p18,
 .go (.pick (.tmp p14) (.tmp p18) (.con (.bool false))) p19]) (.cond (.tmp p19) .ret .skip)))) (.run [.go (.bin .add 3 (.tmp p9) (.con (.int .i64 (.ofNat 1)))) p20,
 .go (.move (.tmp p20)) p9])))))))
noncomputable def f108 : FFunc := .mk c108 (.n U (.n U (.n U (.n U (.n U .e .e) .e) (.n U (.n U .e .e) .e)) (.n U (.n U (.n U .e .e) .e) (.n U .e .e))) (.n U (.n U (.n U (.n U .e .e) .e) (.n U (.n U .e .e) .e)) (.n U (.n U (.n U .e .e) .e) (.n U .e .e)))) [p0,p1,p2] []
theorem e108 : @compF Try.prog (Gl.none Try.prog) Try.f108 3 = f108 := by kernel_rfl
theorem o108 : okF Try.prog Try.f108 = true := by kernel_rfl
theorem g108 : Try.prog.funcs[(108 : Nat)]? = some Try.f108 := by kernel_rfl
noncomputable def c109 : FCode := (.seq (.run [.go (.move (.con (.int .i64 (.ofNat 0)))) p4]) (.seq (.seq (.run [.go (.move (.tmp p1)) p7,
 .go (.len 0 (.tmp p7)) p8,
 .go (.move (.con (.int .i64 (.ofNat 0)))) p9]) (.block 0 (.loop (.seq (.run [.go (.bin .lss 3 (.tmp p9) (.tmp p8)) p10]) (.seq (.cond (.tmp p10) .skip (.exit 0)) (.seq (.block 1 (.seq (.run [.go (.indexAddr none 1 (.tmp p7) (.tmp p9)) p11,
 .go (.load1 (.tmp p11)) p12,
 .go (.move (.tmp p12)) p6]) (.seq (.run [.go (.move (.tmp p6)) p13,
 .go (.move (.tmp p0)) p14,
 .go (.bin .lss 3 (.tmp p13) (.tmp p14)) p15]) (.cond (.tmp p15) (.run [.go (.move (.tmp p6)) p16,
 .go (.move (.tmp p16)) p0]) .skip)))) (.run [.go (.bin .add 3 (.tmp p9) (.con (.int .i64 (.ofNat 1)))) p17,
 .go (.move (.tmp p17)) p9]))))))) (.seq (.run [.go (.move (.tmp p0)) p18,
 .go (.move (.tmp p18)) p4]) .ret)))
noncomputable def f109 : FFunc := .mk c109 (.n U (.n U (.n U (.n U (.n U .e .e) .e) (.n U .e .e)) (.n U (.n U (.n U .e .e) .e) (.n U .e .e))) (.n U (.n U (.n U (.n U .e .e) .e) (.n U .e .e)) (.n U (.n U (.n U .e .e) .e) (.n U .e .e)))) [p0,p1] [.tmp p4]
theorem e109 : @compF Try.prog (Gl.none Try.prog) Try.f109 2 = f109 := by kernel_rfl
theorem o109 : okF Try.prog Try.f109 = true := by kernel_rfl
theorem g109 : Try.prog.funcs[(109 : Nat)]? = some Try.f109 := by kernel_rfl
noncomputable def c110 : FCode := (.seq (.run [.go (.box 161 (.tmp p0)) p3]) (.seq (.run [.go (.alloc 162 [.nilFunc]) p4]) (.seq (.run [.go (.makeFunc 111 [] [(.tmp p1),(.tmp p2),(.tmp p3),(.tmp p4)]) p5,
 .un (.store 1 (.tmp p4) (.tmp p5))]) (.draw 8 [.go (.load1 (.tmp p4)) p6,
 .go (.load1 (.tmp p1)) p7,
 .go (.nilCheck (.tmp p7)) p8,
 .go (.fieldAddr 0 (.tmp p8)) p9,
 .go (.fieldAddr 0 (.tmp p9)) p10,
 .go (.loadN 2 (.tmp p10)) p11,
 .go (.buildSlice 48 1 [(.int .i64 (.ofNat 0)),(.int .i64 (.ofNat 0))] [(0,2,(.tmp p11))]) p12,
 .go (.call (.tmp p6) [(.con (.int .i64 (.ofNat 0))),(.con (.slice none 0 0)),(.tmp p12)]) p13] [.rd none (.load1 (.tmp p4)) (some p6) [7],.ok,.ok,.ok,.ok,.ok,.ok,.ok]))))
noncomputable def f110 : FFunc := .mk c110 (.n U (.n U (.n U (.n U .e .e) (.n U .e .e)) (.n U (.n U .e .e) (.n U .e .e))) (.n U (.n U (.n U .e .e) (.n U .e .e)) (.n U (.n U .e .e) .e))) [p0,p1,p2] []
theorem e110 : @compF Try.prog (Gl.none Try.prog) Try.f110 3 = f110 := by kernel_rfl
theorem o110 : okF Try.prog Try.f110 = true := by kernel_rfl
theorem g110 : Try.prog.funcs[(110 : Nat)]? = some Try.f110 := by kernel_rfl
noncomputable def c111 : FCode := (.seq (.run [.go (.move (.con (.bool false))) p10]) (.seq (.seq (.run [.go (.move (.tmp p0)) p11,
 .go (.load1 (.tmp p3)) p12,
 .go (.nilCheck (.tmp p12)) p13,
 .go (.fieldAddr 0 (.tmp p13)) p14,
 .go (.fieldAddr 3 (.tmp p14)) p15,
 .go (.load1 (.tmp p15)) p16,
 .go (.len 0 (.tmp p16)) p17,
 .go (.bin .eql 3 (.tmp p11) (.tmp p17)) p18]) (.cond (.tmp p18) (.seq (.run [.go (.move (.tmp p1)) p19,
 .go (.len 0 (.tmp p19)) p20,
 .go (.load1 (.tmp p4)) p21,
 .go (.bin .lss 3 (.tmp p20) (.tmp p21)) p22,
 .go (.move (.tmp p22)) p23,
 .gd p23 false (.load1 (.tmp p5)) p24,
 .gd p23 false (.move (.tmp p1)) p25,
 .gd p23 false (.move (.tmp p2)) p26,
 .gd p23 false (.call (.tmp p24) [(.tmp p25),(.tmp p26)]) p27,
 .go (.pick (.tmp p23) (.con (.bool true)) (.tmp p27)) p28,
 .go (.move (.tmp p28)) p10]) .ret) .skip)) (.seq (.seq (.draw 17 [.go (.move (.tmp p1)) p29,
 .go (.len 0 (.tmp p29)) p30,
 .go (.load1 (.tmp p4)) p31,
 .go (.bin .lss 3 (.tmp p30) (.tmp p31)) p32,
 .go (.move (.tmp p32)) p33,
 .gd p33 true (.load1 (.tmp p6)) p34,
 .gd p33 true (.move (.tmp p0)) p35,
 .gd p33 true (.bin .add 3 (.tmp p35) (.con (.int .i64 (.ofNat 1)))) p36,
 .gd p33 true (.move (.tmp p1)) p37,
 .gd p33 true (.move (.tmp p0)) p38,
 .gd p33 true (.buildSlice 3 1 [(.int .i64 (.ofNat 0))] [(0,1,(.tmp p38))]) p39,
 .gd p33 true (.buildSlice 45 2 [(.slice none 0 0),(.slice none 0 0)] [(0,1,(.tmp p37)),(1,1,(.tmp p39))]) p40,
 .gd p33 true (.call (.con (.func (.func 112) ⟨[]⟩ ⟨[]⟩)) [(.tmp p40)]) p41,
 .gd p33 true (.move (.tmp p2)) p42,
 .gd p33 true (.call (.tmp p34) [(.tmp p36),(.tmp p41),(.tmp p42)]) p43,
 .gd p33 true (.un .not (.tmp p43)) p44,
 .go (.pick (.tmp p33) (.tmp p44) (.con (.bool false))) p45] [.ok,.ok,.ok,.ok,.ok,.rd (some (p33,true)) (.load1 (.tmp p6)) (some p34) [11,12,13],.ok,.ok,.ok,.ok,.ok,.ok,.ok,.ok,.ok,.ok,.ok]) (.cond (.tmp p45) (.seq (.run [.go (.move (.con (.bool false))) p10]) .ret) .skip)) (.seq (.draw 14 [.go (.load1 (.tmp p6)) p46,
 .go (.move (.tmp p0)) p47,
 .go (.bin .add 3 (.tmp p47) (.con (.int .i64 (.ofNat 1)))) p48,
 .go (.move (.tmp p1)) p49,
 .go (.move (.tmp p2)) p50,
 .go (.load1 (.tmp p3)) p51,
 .go (.move (.tmp p0)) p52,
 .go (.nilCheck (.tmp p51)) p53,
 .go (.fieldAddr 5 (.tmp p53)) p54,
 .go (.indexAddr (some 8) 1 (.tmp p54) (.tmp p52)) p55,
 .go (.load1 (.tmp p55)) p56,
 .go (.call (.con (.func (.func 98) ⟨[]⟩ ⟨[]⟩)) [(.tmp p50),(.tmp p56)]) p57,
 .go (.call (.tmp p46) [(.tmp p48),(.tmp p49),(.tmp p57)]) p58,
 .go (.move (.tmp p58)) p10] [.rd none (.load1 (.tmp p6)) (some p46) [12],.ok,.ok,.ok,.ok,.ok,.ok,.ok,.ok,.ok,.ok,.ok,.ok,.ok]) .ret))))
noncomputable def f111 : FFunc := .mk c111 (.n U (.n U (.n U (.n U (.n U (.n U .e .e) (.n U .e .e)) (.n U (.n U .e .e) (.n U .e .e))) (.n U (.n U (.n U .e .e) (.n U .e .e)) (.n U (.n U .e .e) .e))) (.n U (.n U (.n U (.n U .e .e) (.n U .e .e)) (.n U (.n U .e .e) (.n U .e .e))) (.n U (.n U (.n U .e .e) (.n U .e .e)) (.n U (.n U .e .e) .e)))) (.n U (.n U (.n U (.n U (.n U .e .e) (.n U .e .e)) (.n U (.n U .e .e) (.n U .e .e))) (.n U (.n U (.n U .e .e) (.n U .e .e)) (.n U (.n U .e .e) .e))) (.n U (.n U (.n U (.n U .e .e) (.n U .e .e)) (.n U (.n U .e .e) (.n U .e .e))) (.n U (.n U (.n U .e .e) (.n U .e .e)) (.n U (.n U .e .e) .e))))) [p0,p1,p2,p3,p4,p5,p6] [.tmp p10]
theorem e111 : @compF Try.prog (Gl.none Try.prog) Try.f111 7 = f111 := by kernel_rfl
theorem o111 : okF Try.prog Try.f111 = true := by kernel_rfl
theorem g111 : Try.prog.funcs[(111 : Nat)]? = some Try.f111 := by kernel_rfl
noncomputable def c112 : FCode := (.seq (.run [.go (.move (.con (.slice none 0 0))) p2]) (.seq (.run [.go (.move (.con (.int .i64 (.ofNat 0)))) p3]) (.seq (.seq (.run [.go (.move (.tmp p0)) p9,
 .go (.len 0 (.tmp p9)) p10,
 .go (.move (.con (.int .i64 (.ofNat 0)))) p11]) (.block 0 (.loop (.seq (.run [.go (.bin .lss 3 (.tmp p11) (.tmp p10)) p12]) (.seq (.cond (.tmp p12) .skip (.exit 0)) (.seq (.block 1 (.seq (.run [.go (.indexAddr none 1 (.tmp p9) (.tmp p11)) p13,
 .go (.load1 (.tmp p13)) p14,
 .go (.move (.tmp p14)) p5]) (.seq (.run [.go (.move (.tmp p3)) p15,
 .go (.move (.tmp p5)) p16,
 .go (.len 0 (.tmp p16)) p17,
 .go (.bin .add 3 (.tmp p15) (.tmp p17)) p18,
 .go (.move (.tmp p18)) p3]) (.seq (.run [.go (.move (.tmp p3)) p19,
 .go (.bin .lss 3 (.tmp p19) (.con (.int .i64 (.ofNat 0)))) p20]) (.cond (.tmp p20) (.run [.go (.call (.con (.chan none)) []) p21,
 .un (.call (.con (.chan none)) [])]) .skip))))) (.run [.go (.bin .add 3 (.tmp p11) (.con (.int .i64 (.ofNat 1)))) p22,
 .go (.move (.tmp p22)) p11]))))))) (.seq (.run [.go (.move (.tmp p3)) p23,
 .go (.call (.con (.func (.func 116) ⟨[]⟩ ⟨[]⟩)) [(.con (.slice none 0 0)),(.tmp p23)]) p24,
 .go (.move (.tmp p24)) p6]) (.seq (.seq (.run [.go (.move (.tmp p0)) p25,
 .go (.len 0 (.tmp p25)) p26,
 .go (.move (.con (.int .i64 (.ofNat 0)))) p27]) (.block 2 (.loop (.seq (.run [.go (.bin .lss 3 (.tmp p27) (.tmp p26)) p28]) (.seq (.cond (.tmp p28) .skip (.exit 2)) (.seq (.block 3 (.seq (.run [.go (.indexAddr none 1 (.tmp p25) (.tmp p27)) p29,
 .go (.load1 (.tmp p29)) p30,
 .go (.move (.tmp p30)) p8]) (.run [.go (.move (.tmp p6)) p31,
 .go (.move (.tmp p8)) p32,
 .go (.append 3 1 8 (.tmp p31) (.tmp p32)) p33,
 .go (.move (.tmp p33)) p6]))) (.run [.go (.bin .add 3 (.tmp p27) (.con (.int .i64 (.ofNat 1)))) p34,
 .go (.move (.tmp p34)) p27]))))))) (.seq (.run [.go (.move (.tmp p6)) p35,
 .go (.move (.tmp p35)) p2]) .ret))))))
noncomputable def f112 : FFunc := .mk c112 (.n U (.n U (.n U (.n U (.n U (.n U .e .e) .e) (.n U .e .e)) (.n U (.n U (.n U .e .e) .e) (.n U .e .e))) (.n U (.n U (.n U (.n U .e .e) .e) (.n U .e .e)) (.n U (.n U .e .e) (.n U .e .e)))) (.n U (.n U (.n U (.n U (.n U .e .e) .e) (.n U .e .e)) (.n U (.n U .e .e) (.n U .e .e))) (.n U (.n U (.n U (.n U .e .e) .e) (.n U .e .e)) (.n U (.n U .e .e) (.n U .e .e))))) [p0] [.tmp p2]
theorem e112 : @compF Try.prog (Gl.none Try.prog) Try.f112 1 = f112 := by kernel_rfl
theorem o112 : okF Try.prog Try.f112 = true := by kernel_rfl
theorem g112 : Try.prog.funcs[(112 : Nat)]? = some Try.f112 := by kernel_rfl
noncomputable def c113 : FCode := (.seq (.run [.go (.move (.con (.bool true))) p10]) (.seq (.run [.go (.move (.con (.bool true))) p11]) (.block 0 (.loop (.block 1 (.seq (.run [.go (.move (.tmp p2)) p21,
 .go (.move (.tmp p1)) p22,
 .go (.bin .sub 3 (.tmp p21) (.tmp p22)) p23,
 .go (.move (.tmp p23)) p12]) (.seq (.seq (.run [.go (.move (.tmp p12)) p24,
 .go (.bin .leq 3 (.tmp p24) (.con (.int .i64 (.ofNat 12)))) p25]) (.cond (.tmp p25) (.seq (.run [.go (.move (.tmp p0)) p26,
 .go (.move (.tmp p1)) p27,
 .go (.move (.tmp p2)) p28,
 .go (.move (.tmp p4)) p29,
 .go (.call (.con (.func (.func 117) ⟨[]⟩ ⟨[]⟩)) [(.tmp p26),(.tmp p27),(.tmp p28),(.tmp p29)]) p30]) .ret) .skip)) (.seq (.seq (.run [.go (.move (.tmp p3)) p31,
 .go (.bin .eql 3 (.tmp p31) (.con (.int .i64 (.ofNat 0)))) p32]) (.cond (.tmp p32) (.seq (.run [.go (.move (.tmp p0)) p33,
 .go (.move (.tmp p1)) p34,
 .go (.move (.tmp p2)) p35,
 .go (.move (.tmp p4)) p36,
 .go (.call (.con (.func (.func 118) ⟨[]⟩ ⟨[]⟩)) [(.tmp p33),(.tmp p34),(.tmp p35),(.tmp p36)]) p37]) .ret) .skip)) (.seq (.seq (.run [.go (.move (.tmp p10)) p38,
 .go (.un .not (.tmp p38)) p39]) (.cond (.tmp p39) (.seq (.run [.go (.move (.tmp p0)) p40,
 .go (.move (.tmp p1)) p41,
 .go (.move (.tmp p2)) p42,
 .go (.move (.tmp p4)) p43,
 .go (.call (.con (.func (.func 119) ⟨[]⟩ ⟨[]⟩)) [(.tmp p40),(.tmp p41),(.tmp p42),(.tmp p43)]) p44]) (.run [.go (.move (.tmp p3)) p45,
 .go (.bin .sub 3 (.tmp p45) (.con (.int .i64 (.ofNat 1)))) p46,
 .go (.move (.tmp p46)) p3])) .skip)) (.seq (.run [.go (.move (.tmp p0)) p48,
 .go (.move (.tmp p1)) p49,
 .go (.move (.tmp p2)) p50,
 .go (.move (.tmp p4)) p51,
 .go (.call (.con (.func (.func 120) ⟨[]⟩ ⟨[]⟩)) [(.tmp p48),(.tmp p49),(.tmp p50),(.tmp p51)]) p52,
 .go (.move (.tmp p52)) p47,
 .go (.extract (.tmp p47) 0) p53,
 .go (.extract (.tmp p47) 1) p54,
 .go (.move (.tmp p53)) p13,
 .go (.move (.tmp p54)) p14]) (.seq (.seq (.run [.go (.move (.tmp p14)) p55,
 .go (.bin .eql 169 (.tmp p55) (.con (.int .i64 (.ofNat 2)))) p56]) (.cond (.tmp p56) (.seq (.run [.go (.move (.tmp p0)) p57,
 .go (.move (.tmp p1)) p58,
 .go (.move (.tmp p2)) p59,
 .go (.move (.tmp p4)) p60,
 .go (.call (.con (.func (.func 121) ⟨[]⟩ ⟨[]⟩)) [(.tmp p57),(.tmp p58),(.tmp p59),(.tmp p60)]) p61]) (.seq (.run [.go (.move (.tmp p2)) p62,
 .go (.bin .sub 3 (.tmp p62) (.con (.int .i64 (.ofNat 1)))) p63,
 .go (.move (.tmp p13)) p64,
 .go (.move (.tmp p1)) p65,
 .go (.bin .sub 3 (.tmp p64) (.tmp p65)) p66,
 .go (.bin .sub 3 (.tmp p63) (.tmp p66)) p67,
 .go (.move (.tmp p67)) p13]) (.run [.go (.move (.con (.int .i64 (.ofNat 1)))) p14]))) .skip)) (.seq (.seq (.run [.go (.move (.tmp p10)) p68,
 .go (.move (.tmp p68)) p69,
 .gd p69 true (.move (.tmp p11)) p70,
 .go (.pick (.tmp p69) (.tmp p70) (.con (.bool false))) p71,
 .go (.move (.tmp p71)) p72,
 .gd p72 true (.move (.tmp p14)) p73,
 .gd p72 true (.bin .eql 169 (.tmp p73) (.con (.int .i64 (.ofNat 1)))) p74,
 .go (.pick (.tmp p72) (.tmp p74) (.con (.bool false))) p75]) (.cond (.tmp p75) (.seq (.run [.go (.move (.tmp p0)) p76,
 .go (.move (.tmp p1)) p77,
 .go (.move (.tmp p2)) p78,
 .go (.move (.tmp p4)) p79,
 .go (.call (.con (.func (.func 122) ⟨[]⟩ ⟨[]⟩)) [(.tmp p76),(.tmp p77),(.tmp p78),(.tmp p79)]) p80]) (.cond (.tmp p80) .ret .skip)) .skip)) (.seq (.seq (.draw 17 [.go (.move (.tmp p1)) p81,
 .go (.bin .gtr 3 (.tmp p81) (.con (.int .i64 (.ofNat 0)))) p82,
 .go (.move (.tmp p82)) p83,
 .gd p83 true (.move (.tmp p4)) p84,
 .gd p83 true (.move (.tmp p0)) p85,
 .gd p83 true (.move (.tmp p1)) p86,
 .gd p83 true (.bin .sub 3 (.tmp p86) (.con (.int .i64 (.ofNat 1)))) p87,
 .gd p83 true (.indexAddr none 2 (.tmp p85) (.tmp p87)) p88,
 .gd p83 true (.loadN 2 (.tmp p88)) p89,
 .gd p83 true (.move (.tmp p0)) p90,
 .gd p83 true (.move (.tmp p13)) p91,
 .gd p83 true (.indexAddr none 2 (.tmp p90) (.tmp p91)) p92,
 .gd p83 true (.loadN 2 (.tmp p92)) p93,
 .gd p83 true (.call (.tmp p84) [(.tmp p89),(.tmp p93)]) p94,
 .gd p83 true (.bin .lss 3 (.tmp p94) (.con (.int .i64 (.ofNat 0)))) p95,
 .gd p83 true (.un .not (.tmp p95)) p96,
 .go (.pick (.tmp p83) (.tmp p96) (.con (.bool false))) p97] [.ok,.ok,.ok,.ok,.ok,.ok,.ok,.ok,.ok,.ok,.ok,.ok,.ok,.ok,.ok,.ok,.ok]) (.cond (.tmp p97) (.seq (.run [.go (.move (.tmp p0)) p98,
 .go (.move (.tmp p1)) p99,
 .go (.move (.tmp p2)) p100,
 .go (.move (.tmp p13)) p101,
 .go (.move (.tmp p4)) p102,
 .go (.call (.con (.func (.func 123) ⟨[]⟩ ⟨[]⟩)) [(.tmp p98),(.tmp p99),(.tmp p100),(.tmp p101),(.tmp p102)]) p103,
 .go (.move (.tmp p103)) p15]) (.seq (.run [.go (.move (.tmp p15)) p104,
 .go (.move (.tmp p104)) p1]) (.exit 1))) .skip)) (.seq (.run [.go (.move (.tmp p0)) p106,
 .go (.move (.tmp p1)) p107,
 .go (.move (.tmp p2)) p108,
 .go (.move (.tmp p13)) p109,
 .go (.move (.tmp p4)) p110,
 .go (.call (.con (.func (.func 124) ⟨[]⟩ ⟨[]⟩)) [(.tmp p106),(.tmp p107),(.tmp p108),(.tmp p109),(.tmp p110)]) p111,
 .go (.move (.tmp p111)) p105,
 .go (.extract (.tmp p105) 0) p112,
 .go (.extract (.tmp p105) 1) p113,
 .go (.move (.tmp p112)) p16,
 .go (.move (.tmp p113)) p17]) (.seq (.run [.go (.move (.tmp p17)) p114,
 .go (.move (.tmp p114)) p11]) (.seq (.run [.go (.move (.tmp p16)) p115,
 .go (.move (.tmp p1)) p116,
 .go (.bin .sub 3 (.tmp p115) (.tmp p116)) p117,
 .go (.move (.tmp p2)) p118,
 .go (.move (.tmp p16)) p119,
 .go (.bin .sub 3 (.tmp p118) (.tmp p119)) p120,
 .go (.move (.tmp p117)) p18,
 .go (.move (.tmp p120)) p19]) (.seq (.run [.go (.move (.tmp p12)) p121,
 .go (.bin .quo 3 (.tmp p121) (.con (.int .i64 (.ofNat 8)))) p122,
 .go (.move (.tmp p122)) p20]) (.seq (.run [.go (.move (.tmp p18)) p123,
 .go (.move (.tmp p19)) p124,
 .go (.bin .lss 3 (.tmp p123) (.tmp p124)) p125]) (.cond (.tmp p125) (.seq (.run [.go (.move (.tmp p18)) p126,
 .go (.move (.tmp p20)) p127,
 .go (.bin .geq 3 (.tmp p126) (.tmp p127)) p128,
 .go (.move (.tmp p128)) p10]) (.seq (.run [.go (.move (.tmp p0)) p129,
 .go (.move (.tmp p1)) p130,
 .go (.move (.tmp p16)) p131,
 .go (.move (.tmp p3)) p132,
 .go (.move (.tmp p4)) p133,
 .go (.call (.con (.func (.func 113) ⟨[]⟩ ⟨[]⟩)) [(.tmp p129),(.tmp p130),(.tmp p131),(.tmp p132),(.tmp p133)]) p134]) (.run [.go (.move (.tmp p16)) p135,
 .go (.bin .add 3 (.tmp p135) (.con (.int .i64 (.ofNat 1)))) p136,
 .go (.move (.tmp p136)) p1]))) (.seq (.run [.go (.move (.tmp p19)) p137,
 .go (.move (.tmp p20)) p138,
 .go (.bin .geq 3 (.tmp p137) (.tmp p138)) p139,
 .go (.move (.tmp p139)) p10]) (.seq (.run [.go (.move (.tmp p0)) p140,
 .go (.move (.tmp p16)) p141,
 .go (.bin .add 3 (.tmp p141) (.con (.int .i64 (.ofNat 1)))) p142,
 .go (.move (.tmp p2)) p143,
 .go (.move (.tmp p3)) p144,
 .go (.move (.tmp p4)) p145,
 .go (.call (.con (.func (.func 113) ⟨[]⟩ ⟨[]⟩)) [(.tmp p140),(.tmp p142),(.tmp p143),(.tmp p144),(.tmp p145)]) p146]) (.run [.go (.move (.tmp p16)) p147,
 .go (.move (.tmp p147)) p2]))))))))))))))))))))))
noncomputable def f113 : FFunc := .mk c113 (.n U (.n U (.n U (.n U (.n U (.n U (.n U (.n U .e .e) .e) (.n U .e .e)) (.n U (.n U (.n U .e .e) .e) (.n U .e .e))) (.n U (.n U (.n U (.n U .e .e) .e) (.n U .e .e)) (.n U (.n U .e .e) (.n U .e .e)))) (.n U (.n U (.n U (.n U (.n U .e .e) .e) (.n U .e .e)) (.n U (.n U (.n U .e .e) .e) (.n U .e .e))) (.n U (.n U (.n U (.n U .e .e) .e) (.n U .e .e)) (.n U (.n U .e .e) (.n U .e .e))))) (.n U (.n U (.n U (.n U (.n U (.n U .e .e) .e) (.n U .e .e)) (.n U (.n U (.n U .e .e) .e) (.n U .e .e))) (.n U (.n U (.n U (.n U .e .e) .e) (.n U .e .e)) (.n U (.n U .e .e) (.n U .e .e)))) (.n U (.n U (.n U (.n U (.n U .e .e) .e) (.n U .e .e)) (.n U (.n U .e .e) (.n U .e .e))) (.n U (.n U (.n U (.n U .e .e) .e) (.n U .e .e)) (.n U (.n U .e .e) (.n U .e .e)))))) (.n U (.n U (.n U (.n U (.n U (.n U (.n U .e .e) .e) (.n U .e .e)) (.n U (.n U (.n U .e .e) .e) (.n U .e .e))) (.n U (.n U (.n U (.n U .e .e) .e) (.n U .e .e)) (.n U (.n U .e .e) (.n U .e .e)))) (.n U (.n U (.n U (.n U (.n U .e .e) .e) (.n U .e .e)) (.n U (.n U .e .e) (.n U .e .e))) (.n U (.n U (.n U (.n U .e .e) .e) (.n U .e .e)) (.n U (.n U .e .e) (.n U .e .e))))) (.n U (.n U (.n U (.n U (.n U (.n U .e .e) .e) (.n U .e .e)) (.n U (.n U (.n U .e .e) .e) (.n U .e .e))) (.n U (.n U (.n U (.n U .e .e) .e) (.n U .e .e)) (.n U (.n U .e .e) (.n U .e .e)))) (.n U (.n U (.n U (.n U (.n U .e .e) .e) (.n U .e .e)) (.n U (.n U .e .e) (.n U .e .e))) (.n U (.n U (.n U (.n U .e .e) .e) (.n U .e .e)) (.n U (.n U .e .e) (.n U .e .e))))))) [p0,p1,p2,p3,p4] []
theorem e113 : @compF Try.prog (Gl.none Try.prog) Try.f113 5 = f113 := by kernel_rfl
theorem o113 : okF Try.prog Try.f113 = true := by kernel_rfl
theorem g113 : Try.prog.funcs[(113 : Nat)]? = some Try.f113 := by kernel_rfl
noncomputable def c114 : FCode := (.seq (.run [.go (.move (.con (.int .i64 (.ofNat 0)))) p2]) (.seq (.cond (.con (.bool false)) (.seq (.run [.go (.move (.tmp p0)) p3,
 .go (.conv .u32 (.tmp p3)) p4,
 .go (.call (.con (.func (.func 125) ⟨[]⟩ ⟨[]⟩)) [(.tmp p4)]) p5,
 .go (.move (.tmp p5)) p2]) .ret) .skip) (.seq (.run [.go (.move (.tmp p0)) p6,
 .go (.call (.con (.func (.func 126) ⟨[]⟩ ⟨[]⟩)) [(.tmp p6)]) p7,
 .go (.move (.tmp p7)) p2]) .ret)))
noncomputable def f114 : FFunc := .mk c114 (.n U (.n U (.n U (.n U .e .e) .e) (.n U .e .e)) (.n U (.n U .e .e) (.n U .e .e))) [p0] [.tmp p2]
theorem e114 : @compF Try.prog (Gl.none Try.prog) Try.f114 1 = f114 := by kernel_rfl
theorem o114 : okF Try.prog Try.f114 = true := by kernel_rfl
theorem g114 : Try.prog.funcs[(114 : Nat)]? = some Try.f114 := by kernel_rfl
noncomputable def c115 : FCode := (.seq (.run [.go (.move (.con (.bool false))) p2]) (.seq (.run [.go (.move (.tmp p0)) p3,
 .go (.move (.tmp p0)) p4,
 .go (.bin .neq 3 (.tmp p3) (.tmp p4)) p5,
 .go (.move (.tmp p5)) p2]) .ret))
noncomputable def f115 : FFunc := .mk c115 (.n U (.n U (.n U .e .e) (.n U .e .e)) (.n U (.n U .e .e) .e)) [p0] [.tmp p2]
theorem e115 : @compF Try.prog (Gl.none Try.prog) Try.f115 1 = f115 := by kernel_rfl
theorem o115 : okF Try.prog Try.f115 = true := by kernel_rfl
theorem g115 : Try.prog.funcs[(115 : Nat)]? = some Try.f115 := by kernel_rfl
noncomputable def c116 : FCode := (.seq (.run [.go (.move (.con (.slice none 0 0))) p4]) (.seq (.seq (.run [.go (.move (.tmp p1)) p5,
 .go (.bin .lss 3 (.tmp p5) (.con (.int .i64 (.ofNat 0)))) p6]) (.cond (.tmp p6) (.run [.go (.call (.con (.chan none)) []) p7,
 .un (.call (.con (.chan none)) [])]) .skip)) (.seq (.seq (.run [.go (.move (.tmp p1)) p8,
 .go (.move (.tmp p0)) p9,
 .go (.cap (.tmp p9)) p10,
 .go (.move (.tmp p0)) p11,
 .go (.len 0 (.tmp p11)) p12,
 .go (.bin .sub 3 (.tmp p10) (.tmp p12)) p13,
 .go (.bin .sub 3 (.tmp p8) (.tmp p13)) p14,
 .go (.move (.tmp p14)) p1]) (.seq (.run [.go (.move (.tmp p1)) p15,
 .go (.bin .gtr 3 (.tmp p15) (.con (.int .i64 (.ofNat 0)))) p16]) (.cond (.tmp p16) (.run [.go (.move (.tmp p0)) p17,
 .go (.move (.tmp p0)) p18,
 .go (.cap (.tmp p18)) p19,
 .go (.slice 3 1 (.tmp p17) none (some (.tmp p19))) p20,
 .go (.move (.tmp p1)) p21,
 .go (.appendMk 3 1 8 [(.int .i64 (.ofNat 0))] (.tmp p20) (.tmp p21)) p22,
 .go (.move (.tmp p0)) p23,
 .go (.len 0 (.tmp p23)) p24,
 .go (.slice 3 1 (.tmp p22) none (some (.tmp p24))) p25,
 .go (.move (.tmp p25)) p0]) .skip))) (.seq (.run [.go (.move (.tmp p0)) p26,
 .go (.move (.tmp p26)) p4]) .ret))))
noncomputable def f116 : FFunc := .mk c116 (.n U (.n U (.n U (.n U (.n U .e .e) (.n U .e .e)) (.n U (.n U .e .e) .e)) (.n U (.n U (.n U .e .e) (.n U .e .e)) (.n U (.n U .e .e) .e))) (.n U (.n U (.n U (.n U .e .e) (.n U .e .e)) (.n U (.n U .e .e) .e)) (.n U (.n U (.n U .e .e) (.n U .e .e)) (.n U (.n U .e .e) .e)))) [p0,p1] [.tmp p4]
theorem e116 : @compF Try.prog (Gl.none Try.prog) Try.f116 2 = f116 := by kernel_rfl
theorem o116 : okF Try.prog Try.f116 = true := by kernel_rfl
theorem g116 : Try.prog.funcs[(116 : Nat)]? = some Try.f116 := by kernel_rfl
noncomputable def c117 : FCode := (.seq (.run [.go (.move (.tmp p1)) p10,
 .go (.bin .add 3 (.tmp p10) (.con (.int .i64 (.ofNat 1)))) p11,
 .go (.move (.tmp p11)) p8]) (.block 0 (.loop (.seq (.seq (.run [.go (.move (.tmp p8)) p12,
 .go (.move (.tmp p2)) p13,
 .go (.bin .lss 3 (.tmp p12) (.tmp p13)) p14]) (.cond (.tmp p14) .skip (.exit 0))) (.seq (.block 1 (.seq (.run [.go (.move (.tmp p8)) p17,
 .go (.move (.tmp p17)) p9]) (.block 2 (.loop (.seq (.seq (.draw 17 [.go (.move (.tmp p9)) p18,
 .go (.move (.tmp p1)) p19,
 .go (.bin .gtr 3 (.tmp p18) (.tmp p19)) p20,
 .go (.move (.tmp p20)) p21,
 .gd p21 true (.move (.tmp p3)) p22,
 .gd p21 true (.move (.tmp p0)) p23,
 .gd p21 true (.move (.tmp p9)) p24,
 .gd p21 true (.indexAddr none 2 (.tmp p23) (.tmp p24)) p25,
 .gd p21 true (.loadN 2 (.tmp p25)) p26,
 .gd p21 true (.move (.tmp p0)) p27,
 .gd p21 true (.move (.tmp p9)) p28,
 .gd p21 true (.bin .sub 3 (.tmp p28) (.con (.int .i64 (.ofNat 1)))) p29,
 .gd p21 true (.indexAddr none 2 (.tmp p27) (.tmp p29)) p30,
 .gd p21 true (.loadN 2 (.tmp p30)) p31,
 .gd p21 true (.call (.tmp p22) [(.tmp p26),(.tmp p31)]) p32,
 .gd p21 true (.bin .lss 3 (.tmp p32) (.con (.int .i64 (.ofNat 0)))) p33,
 .go (.pick (.tmp p21) (.tmp p33) (.con (.bool false))) p34] [.ok,.ok,.ok,.ok,.ok,.ok,.ok,.ok,.ok,.ok,.ok,.ok,.ok,.ok,.ok,.ok,.ok]) (.cond (.tmp p34) .skip (.exit 2))) (.seq (.block 3 (.draw 18 [.go (.move (.tmp p0)) p37,
 .go (.move (.tmp p9)) p38,
 .go (.move (.tmp p0)) p39,
 .go (.move (.tmp p9)) p40,
 .go (.bin .sub 3 (.tmp p40) (.con (.int .i64 (.ofNat 1)))) p41,
 .go (.move (.tmp p0)) p42,
 .go (.move (.tmp p9)) p43,
 .go (.bin .sub 3 (.tmp p43) (.con (.int .i64 (.ofNat 1)))) p44,
 .go (.indexAddr none 2 (.tmp p42) (.tmp p44)) p45,
 .go (.loadN 2 (.tmp p45)) p46,
 .go (.move (.tmp p0)) p47,
 .go (.move (.tmp p9)) p48,
 .go (.indexAddr none 2 (.tmp p47) (.tmp p48)) p49,
 .go (.loadN 2 (.tmp p49)) p50,
 .go (.indexAddr none 2 (.tmp p37) (.tmp p38)) p51,
 .un (.store 2 (.tmp p51) (.tmp p46)),
 .go (.indexAddr none 2 (.tmp p39) (.tmp p41)) p52,
 .un (.store 2 (.tmp p52) (.tmp p50))] [.ok,.ok,.ok,.ok,.ok,.ok,.ok,.ok,.ok,.ok,.ok,.ok,.ok,.ok,.ok,.ok,.ok,.ok])) (.run [.go (.move (.tmp p9)) p35,
 .go (.bin .sub 3 (.tmp p35) (.con (.int .i64 (.ofNat 1)))) p36,
 .go (.move (.tmp p36)) p9]))))))) (.run [.go (.move (.tmp p8)) p15,
 .go (.bin .add 3 (.tmp p15) (.con (.int .i64 (.ofNat 1)))) p16,
 .go (.move (.tmp p16)) p8]))))))
noncomputable def f117 : FFunc := .mk c117 (.n U (.n U (.n U (.n U (.n U (.n U .e .e) (.n U .e .e)) (.n U (.n U .e .e) .e)) (.n U (.n U (.n U .e .e) (.n U .e .e)) (.n U (.n U .e .e) .e))) (.n U (.n U (.n U (.n U .e .e) (.n U .e .e)) (.n U (.n U .e .e) .e)) (.n U (.n U (.n U .e .e) .e) (.n U (.n U .e .e) .e)))) (.n U (.n U (.n U (.n U (.n U .e .e) (.n U .e .e)) (.n U (.n U .e .e) .e)) (.n U (.n U (.n U .e .e) (.n U .e .e)) (.n U (.n U .e .e) .e))) (.n U (.n U (.n U (.n U .e .e) (.n U .e .e)) (.n U (.n U .e .e) .e)) (.n U (.n U (.n U .e .e) .e) (.n U (.n U .e .e) .e))))) [p0,p1,p2,p3] []
theorem e117 : @compF Try.prog (Gl.none Try.prog) Try.f117 4 = f117 := by kernel_rfl
theorem o117 : okF Try.prog Try.f117 = true := by kernel_rfl
theorem g117 : Try.prog.funcs[(117 : Nat)]? = some Try.f117 := by kernel_rfl
noncomputable def c118 : FCode := (.seq (.run [.go (.move (.tmp p1)) p13,
 .go (.move (.tmp p13)) p8]) (.seq (.run [.go (.move (.con (.int .i64 (.ofNat 0)))) p9]) (.seq (.run [.go (.move (.tmp p2)) p14,
 .go (.move (.tmp p1)) p15,
 .go (.bin .sub 3 (.tmp p14) (.tmp p15)) p16,
 .go (.move (.tmp p16)) p10]) (.seq (.seq (.run [.go (.move (.tmp p10)) p17,
 .go (.bin .sub 3 (.tmp p17) (.con (.int .i64 (.ofNat 1)))) p18,
 .go (.bin .quo 3 (.tmp p18) (.con (.int .i64 (.ofNat 2)))) p19,
 .go (.move (.tmp p19)) p11]) (.block 0 (.loop (.seq (.seq (.run [.go (.move (.tmp p11)) p20,
 .go (.bin .geq 3 (.tmp p20) (.con (.int .i64 (.ofNat 0)))) p21]) (.cond (.tmp p21) .skip (.exit 0))) (.seq (.block 1 (.run [.go (.move (.tmp p0)) p24,
 .go (.move (.tmp p11)) p25,
 .go (.move (.tmp p10)) p26,
 .go (.move (.tmp p8)) p27,
 .go (.move (.tmp p3)) p28,
 .go (.call (.con (.func (.func 127) ⟨[]⟩ ⟨[]⟩)) [(.tmp p24),(.tmp p25),(.tmp p26),(.tmp p27),(.tmp p28)]) p29])) (.run [.go (.move (.tmp p11)) p22,
 .go (.bin .sub 3 (.tmp p22) (.con (.int .i64 (.ofNat 1)))) p23,
 .go (.move (.tmp p23)) p11])))))) (.seq (.run [.go (.move (.tmp p10)) p30,
 .go (.bin .sub 3 (.tmp p30) (.con (.int .i64 (.ofNat 1)))) p31,
 .go (.move (.tmp p31)) p12]) (.block 2 (.loop (.seq (.seq (.run [.go (.move (.tmp p12)) p32,
 .go (.bin .geq 3 (.tmp p32) (.con (.int .i64 (.ofNat 0)))) p33]) (.cond (.tmp p33) .skip (.exit 2))) (.seq (.block 3 (.seq (.draw 20 [.go (.move (.tmp p0)) p36,
 .go (.move (.tmp p8)) p37,
 .go (.move (.tmp p0)) p38,
 .go (.move (.tmp p8)) p39,
 .go (.move (.tmp p12)) p40,
 .go (.bin .add 3 (.tmp p39) (.tmp p40)) p41,
 .go (.move (.tmp p0)) p42,
 .go (.move (.tmp p8)) p43,
 .go (.move (.tmp p12)) p44,
 .go (.bin .add 3 (.tmp p43) (.tmp p44)) p45,
 .go (.indexAddr none 2 (.tmp p42) (.tmp p45)) p46,
 .go (.loadN 2 (.tmp p46)) p47,
 .go (.move (.tmp p0)) p48,
 .go (.move (.tmp p8)) p49,
 .go (.indexAddr none 2 (.tmp p48) (.tmp p49)) p50,
 .go (.loadN 2 (.tmp p50)) p51,
 .go (.indexAddr none 2 (.tmp p36) (.tmp p37)) p52,
 .un (.store 2 (.tmp p52) (.tmp p47)),
 .go (.indexAddr none 2 (.tmp p38) (.tmp p41)) p53,
 .un (.store 2 (.tmp p53) (.tmp p51))] [.ok,.ok,.ok,.ok,.ok,.ok,.ok,.ok,.ok,.ok,.ok,.ok,.ok,.ok,.ok,.ok,.ok,.ok,.ok,.ok]) (.run [.go (.move (.tmp p0)) p54,
 .go (.move (.tmp p9)) p55,
 .go (.move (.tmp p12)) p56,
 .go (.move (.tmp p8)) p57,
 .go (.move (.tmp p3)) p58,
 .go (.call (.con (.func (.func 127) ⟨[]⟩ ⟨[]⟩)) [(.tmp p54),(.tmp p55),(.tmp p56),(.tmp p57),(.tmp p58)]) p59]))) (.run [.go (.move (.tmp p12)) p34,
 .go (.bin .sub 3 (.tmp p34) (.con (.int .i64 (.ofNat 1)))) p35,
 .go (.move (.tmp p35)) p12]))))))))))
noncomputable def f118 : FFunc := .mk c118 (.n U (.n U (.n U (.n U (.n U (.n U .e .e) (.n U .e .e)) (.n U (.n U .e .e) (.n U .e .e))) (.n U (.n U (.n U .e .e) (.n U .e .e)) (.n U (.n U .e .e) (.n U .e .e)))) (.n U (.n U (.n U (.n U .e .e) (.n U .e .e)) (.n U (.n U .e .e) (.n U .e .e))) (.n U (.n U (.n U .e .e) (.n U .e .e)) (.n U (.n U .e .e) .e)))) (.n U (.n U (.n U (.n U (.n U .e .e) (.n U .e .e)) (.n U (.n U .e .e) (.n U .e .e))) (.n U (.n U (.n U .e .e) (.n U .e .e)) (.n U (.n U .e .e) .e))) (.n U (.n U (.n U (.n U .e .e) (.n U .e .e)) (.n U (.n U .e .e) (.n U .e .e))) (.n U (.n U (.n U .e .e) (.n U .e .e)) (.n U (.n U .e .e) .e))))) [p0,p1,p2,p3] []
theorem e118 : @compF Try.prog (Gl.none Try.prog) Try.f118 4 = f118 := by kernel_rfl
theorem o118 : okF Try.prog Try.f118 = true := by kernel_rfl
theorem g118 : Try.prog.funcs[(118 : Nat)]? = some Try.f118 := by kernel_rfl
noncomputable def c119 : FCode := (.seq (.run [.go (.move (.tmp p2)) p13,
 .go (.move (.tmp p1)) p14,
 .go (.bin .sub 3 (.tmp p13) (.tmp p14)) p15,
 .go (.move (.tmp p15)) p8]) (.seq (.run [.go (.move (.tmp p8)) p16,
 .go (.bin .geq 3 (.tmp p16) (.con (.int .i64 (.ofNat 8)))) p17]) (.cond (.tmp p17) (.seq (.run [.go (.move (.tmp p8)) p18,
 .go (.conv .u64 (.tmp p18)) p19,
 .go (.alloc 180 [(.int .u64 (.ofNat 0))]) p9,
 .un (.store 1 (.tmp p9) (.tmp p19))]) (.seq (.run [.go (.move (.tmp p8)) p20,
 .go (.call (.con (.func (.func 128) ⟨[]⟩ ⟨[]⟩)) [(.tmp p20)]) p21,
 .go (.move (.tmp p21)) p10]) (.seq (.run [.go (.move (.tmp p1)) p22,
 .go (.move (.tmp p8)) p23,
 .go (.bin .quo 3 (.tmp p23) (.con (.int .i64 (.ofNat 4)))) p24,
 .go (.bin .mul 3 (.tmp p24) (.con (.int .i64 (.ofNat 2)))) p25,
 .go (.bin .add 3 (.tmp p22) (.tmp p25)) p26,
 .go (.bin .sub 3 (.tmp p26) (.con (.int .i64 (.ofNat 1)))) p27,
 .go (.move (.tmp p27)) p11]) (.block 0 (.loop (.seq (.seq (.run [.go (.move (.tmp p11)) p28,
 .go (.move (.tmp p1)) p29,
 .go (.move (.tmp p8)) p30,
 .go (.bin .quo 3 (.tmp p30) (.con (.int .i64 (.ofNat 4)))) p31,
 .go (.bin .mul 3 (.tmp p31) (.con (.int .i64 (.ofNat 2)))) p32,
 .go (.bin .add 3 (.tmp p29) (.tmp p32)) p33,
 .go (.bin .add 3 (.tmp p33) (.con (.int .i64 (.ofNat 1)))) p34,
 .go (.bin .leq 3 (.tmp p28) (.tmp p34)) p35]) (.cond (.tmp p35) .skip (.exit 0))) (.seq (.block 1 (.seq (.run [.go (.call (.con (.func (.func 129) ⟨[]⟩ ⟨[]⟩)) [(.tmp p9)]) p38,
 .go (.move (.tmp p10)) p39,
 .go (.bin .sub 100 (.tmp p39) (.con (.int .u64 (.ofNat 1)))) p40,
 .go (.bin .and 100 (.tmp p38) (.tmp p40)) p41,
 .go (.conv .i64 (.tmp p41)) p42,
 .go (.move (.tmp p42)) p12]) (.seq (.seq (.run [.go (.move (.tmp p12)) p43,
 .go (.move (.tmp p8)) p44,
 .go (.bin .geq 3 (.tmp p43) (.tmp p44)) p45]) (.cond (.tmp p45) (.run [.go (.move (.tmp p12)) p46,
 .go (.move (.tmp p8)) p47,
 .go (.bin .sub 3 (.tmp p46) (.tmp p47)) p48,
 .go (.move (.tmp p48)) p12]) .skip)) (.draw 20 [.go (.move (.tmp p0)) p49,
 .go (.move (.tmp p11)) p50,
 .go (.move (.tmp p0)) p51,
 .go (.move (.tmp p1)) p52,
 .go (.move (.tmp p12)) p53,
 .go (.bin .add 3 (.tmp p52) (.tmp p53)) p54,
 .go (.move (.tmp p0)) p55,
 .go (.move (.tmp p1)) p56,
 .go (.move (.tmp p12)) p57,
 .go (.bin .add 3 (.tmp p56) (.tmp p57)) p58,
 .go (.indexAddr none 2 (.tmp p55) (.tmp p58)) p59,
 .go (.loadN 2 (.tmp p59)) p60,
 .go (.move (.tmp p0)) p61,
 .go (.move (.tmp p11)) p62,
 .go (.indexAddr none 2 (.tmp p61) (.tmp p62)) p63,
 .go (.loadN 2 (.tmp p63)) p64,
 .go (.indexAddr none 2 (.tmp p49) (.tmp p50)) p65,
 .un (.store 2 (.tmp p65) (.tmp p60)),
 .go (.indexAddr none 2 (.tmp p51) (.tmp p54)) p66,
 .un (.store 2 (.tmp p66) (.tmp p64))] [.ok,.ok,.ok,.ok,.ok,.ok,.ok,.ok,.ok,.ok,.ok,.ok,.ok,.ok,.ok,.ok,.ok,.ok,.ok,.ok])))) (.run [.go (.move (.tmp p11)) p36,
 .go (.bin .add 3 (.tmp p36) (.con (.int .i64 (.ofNat 1)))) p37,
 .go (.move (.tmp p37)) p11])))))))) .skip)))
noncomputable def f119 : FFunc := .mk c119 (.n U (.n U (.n U (.n U (.n U (.n U (.n U .e .e) .e) (.n U .e .e)) (.n U (.n U .e .e) (.n U .e .e))) (.n U (.n U (.n U .e .e) (.n U .e .e)) (.n U (.n U .e .e) (.n U .e .e)))) (.n U (.n U (.n U (.n U (.n U .e .e) .e) (.n U .e .e)) (.n U (.n U .e .e) (.n U .e .e))) (.n U (.n U (.n U .e .e) (.n U .e .e)) (.n U (.n U .e .e) (.n U .e .e))))) (.n U (.n U (.n U (.n U (.n U (.n U .e .e) .e) (.n U .e .e)) (.n U (.n U .e .e) (.n U .e .e))) (.n U (.n U (.n U .e .e) (.n U .e .e)) (.n U (.n U .e .e) (.n U .e .e)))) (.n U (.n U (.n U (.n U (.n U .e .e) .e) (.n U .e .e)) (.n U (.n U .e .e) (.n U .e .e))) (.n U (.n U (.n U .e .e) (.n U .e .e)) (.n U (.n U .e .e) (.n U .e .e)))))) [p0,p1,p2,p3] []
theorem e119 : @compF Try.prog (Gl.none Try.prog) Try.f119 4 = f119 := by kernel_rfl
theorem o119 : okF Try.prog Try.f119 = true := by kernel_rfl
theorem g119 : Try.prog.funcs[(119 : Nat)]? = some Try.f119 := by kernel_rfl
noncomputable def c120 : FCode := (.seq (.run [.go (.move (.con (.int .i64 (.ofNat 0)))) p8,
 .go (.move (.con (.int .i64 (.ofNat 0)))) p9]) (.seq (.run [.go (.move (.tmp p2)) p15,
 .go (.move (.tmp p1)) p16,
 .go (.bin .sub 3 (.tmp p15) (.tmp p16)) p17,
 .go (.move (.tmp p17)) p10]) (.seq (.run [.go (.alloc 3 [(.int .i64 (.ofNat 0))]) p11]) (.seq (.run [.go (.move (.tmp p1)) p18,
 .go (.move (.tmp p10)) p19,
 .go (.bin .quo 3 (.tmp p19) (.con (.int .i64 (.ofNat 4)))) p20,
 .go (.bin .mul 3 (.tmp p20) (.con (.int .i64 (.ofNat 1)))) p21,
 .go (.bin .add 3 (.tmp p18) (.tmp p21)) p22,
 .go (.move (.tmp p22)) p12]) (.seq (.run [.go (.move (.tmp p1)) p23,
 .go (.move (.tmp p10)) p24,
 .go (.bin .quo 3 (.tmp p24) (.con (.int .i64 (.ofNat 4)))) p25,
 .go (.bin .mul 3 (.tmp p25) (.con (.int .i64 (.ofNat 2)))) p26,
 .go (.bin .add 3 (.tmp p23) (.tmp p26)) p27,
 .go (.move (.tmp p27)) p13]) (.seq (.run [.go (.move (.tmp p1)) p28,
 .go (.move (.tmp p10)) p29,
 .go (.bin .quo 3 (.tmp p29) (.con (.int .i64 (.ofNat 4)))) p30,
 .go (.bin .mul 3 (.tmp p30) (.con (.int .i64 (.ofNat 3)))) p31,
 .go (.bin .add 3 (.tmp p28) (.tmp p31)) p32,
 .go (.move (.tmp p32)) p14]) (.seq (.seq (.run [.go (.move (.tmp p10)) p33,
 .go (.bin .geq 3 (.tmp p33) (.con (.int .i64 (.ofNat 8)))) p34]) (.cond (.tmp p34) (.seq (.seq (.run [.go (.move (.tmp p10)) p35,
 .go (.bin .geq 3 (.tmp p35) (.con (.int .i64 (.ofNat 50)))) p36]) (.cond (.tmp p36) (.seq (.run [.go (.move (.tmp p0)) p37,
 .go (.move (.tmp p12)) p38,
 .go (.move (.tmp p3)) p39,
 .go (.call (.con (.func (.func 130) ⟨[]⟩ ⟨[]⟩)) [(.tmp p37),(.tmp p38),(.tmp p11),(.tmp p39)]) p40,
 .go (.move (.tmp p40)) p12]) (.seq (.run [.go (.move (.tmp p0)) p41,
 .go (.move (.tmp p13)) p42,
 .go (.move (.tmp p3)) p43,
 .go (.call (.con (.func (.func 130) ⟨[]⟩ ⟨[]⟩)) [(.tmp p41),(.tmp p42),(.tmp p11),(.tmp p43)]) p44,
 .go (.move (.tmp p44)) p13]) (.run [.go (.move (.tmp p0)) p45,
 .go (.move (.tmp p14)) p46,
 .go (.move (.tmp p3)) p47,
 .go (.call (.con (.func (.func 130) ⟨[]⟩ ⟨[]⟩)) [(.tmp p45),(.tmp p46),(.tmp p11),(.tmp p47)]) p48,
 .go (.move (.tmp p48)) p14]))) .skip)) (.run [.go (.move (.tmp p0)) p49,
 .go (.move (.tmp p12)) p50,
 .go (.move (.tmp p13)) p51,
 .go (.move (.tmp p14)) p52,
 .go (.move (.tmp p3)) p53,
 .go (.call (.con (.func (.func 131) ⟨[]⟩ ⟨[]⟩)) [(.tmp p49),(.tmp p50),(.tmp p51),(.tmp p52),(.tmp p11),(.tmp p53)]) p54,
 .go (.move (.tmp p54)) p13])) .skip)) (.seq (.run [.go (.load1 (.tmp p11)) p55]) (.block 0 (.seq (.run [.go (.bin .eql 3 (.tmp p55) (.con (.int .i64 (.ofNat 0)))) p58,
 .go (.move (.tmp p58)) p57]) (.cond (.tmp p57) (.seq (.run [.go (.move (.tmp p13)) p59,
 .go (.move (.tmp p59)) p8,
 .go (.move (.con (.int .i64 (.ofNat 1)))) p9]) .ret) (.seq (.run [.go (.bin .eql 3 (.tmp p55) (.con (.int .i64 (.ofNat 12)))) p61,
 .go (.move (.tmp p61)) p60]) (.cond (.tmp p60) (.seq (.run [.go (.move (.tmp p13)) p62,
 .go (.move (.tmp p62)) p8,
 .go (.move (.con (.int .i64 (.ofNat 2)))) p9]) .ret) (.seq (.run [.go (.move (.tmp p13)) p56,
 .go (.move (.tmp p56)) p8,
 .go (.move (.con (.int .i64 (.ofNat 0)))) p9]) .ret))))))))))))))
noncomputable def f120 : FFunc := .mk c120 (.n U (.n U (.n U (.n U (.n U (.n U .e .e) (.n U .e .e)) (.n U (.n U .e .e) (.n U .e .e))) (.n U (.n U (.n U .e .e) (.n U .e .e)) (.n U (.n U .e .e) (.n U .e .e)))) (.n U (.n U (.n U (.n U .e .e) (.n U .e .e)) (.n U (.n U .e .e) (.n U .e .e))) (.n U (.n U (.n U .e .e) (.n U .e .e)) (.n U (.n U .e .e) (.n U .e .e))))) (.n U (.n U (.n U (.n U (.n U .e .e) (.n U .e .e)) (.n U (.n U .e .e) (.n U .e .e))) (.n U (.n U (.n U .e .e) (.n U .e .e)) (.n U (.n U .e .e) (.n U .e .e)))) (.n U (.n U (.n U (.n U .e .e) (.n U .e .e)) (.n U (.n U .e .e) (.n U .e .e))) (.n U (.n U (.n U .e .e) (.n U .e .e)) (.n U (.n U .e .e) (.n U .e .e)))))) [p0,p1,p2,p3] [.tmp p8,.tmp p9]
theorem e120 : @compF Try.prog (Gl.none Try.prog) Try.f120 4 = f120 := by kernel_rfl
theorem o120 : okF Try.prog Try.f120 = true := by kernel_rfl
theorem g120 : Try.prog.funcs[(120 : Nat)]? = some Try.f120 := by kernel_rfl
noncomputable def c121 : FCode := (.seq (.run [.go (.move (.tmp p1)) p10,
 .go (.move (.tmp p10)) p8]) (.seq (.run [.go (.move (.tmp p2)) p11,
 .go (.bin .sub 3 (.tmp p11) (.con (.int .i64 (.ofNat 1)))) p12,
 .go (.move (.tmp p12)) p9]) (.block 0 (.loop (.seq (.seq (.run [.go (.move (.tmp p8)) p13,
 .go (.move (.tmp p9)) p14,
 .go (.bin .lss 3 (.tmp p13) (.tmp p14)) p15]) (.cond (.tmp p15) .skip (.exit 0))) (.block 1 (.seq (.draw 16 [.go (.move (.tmp p0)) p16,
 .go (.move (.tmp p8)) p17,
 .go (.move (.tmp p0)) p18,
 .go (.move (.tmp p9)) p19,
 .go (.move (.tmp p0)) p20,
 .go (.move (.tmp p9)) p21,
 .go (.indexAddr none 2 (.tmp p20) (.tmp p21)) p22,
 .go (.loadN 2 (.tmp p22)) p23,
 .go (.move (.tmp p0)) p24,
 .go (.move (.tmp p8)) p25,
 .go (.indexAddr none 2 (.tmp p24) (.tmp p25)) p26,
 .go (.loadN 2 (.tmp p26)) p27,
 .go (.indexAddr none 2 (.tmp p16) (.tmp p17)) p28,
 .un (.store 2 (.tmp p28) (.tmp p23)),
 .go (.indexAddr none 2 (.tmp p18) (.tmp p19)) p29,
 .un (.store 2 (.tmp p29) (.tmp p27))] [.ok,.ok,.ok,.ok,.ok,.ok,.ok,.ok,.ok,.ok,.ok,.ok,.ok,.ok,.ok,.ok]) (.seq (.run [.go (.move (.tmp p8)) p30,
 .go (.bin .add 3 (.tmp p30) (.con (.int .i64 (.ofNat 1)))) p31,
 .go (.move (.tmp p31)) p8]) (.run [.go (.move (.tmp p9)) p32,
 .go (.bin .sub 3 (.tmp p32) (.con (.int .i64 (.ofNat 1)))) p33,
 .go (.move (.tmp p33)) p9])))))))))
noncomputable def f121 : FFunc := .mk c121 (.n U (.n U (.n U (.n U (.n U (.n U .e .e) .e) (.n U .e .e)) (.n U (.n U .e .e) (.n U .e .e))) (.n U (.n U (.n U (.n U .e .e) .e) (.n U .e .e)) (.n U (.n U .e .e) (.n U .e .e)))) (.n U (.n U (.n U (.n U (.n U .e .e) .e) (.n U .e .e)) (.n U (.n U .e .e) (.n U .e .e))) (.n U (.n U (.n U .e .e) (.n U .e .e)) (.n U (.n U .e .e) (.n U .e .e))))) [p0,p1,p2,p3] []
theorem e121 : @compF Try.prog (Gl.none Try.prog) Try.f121 4 = f121 := by kernel_rfl
theorem o121 : okF Try.prog Try.f121 = true := by kernel_rfl
theorem g121 : Try.prog.funcs[(121 : Nat)]? = some Try.f121 := by kernel_rfl
noncomputable def c122 : FCode := (.seq (.run [.go (.move (.con (.bool false))) p8]) (.seq (.run [.go (.move (.tmp p1)) p13,
 .go (.bin .add 3 (.tmp p13) (.con (.int .i64 (.ofNat 1)))) p14,
 .go (.move (.tmp p14)) p9]) (.seq (.seq (.run [.go (.move (.con (.int .i64 (.ofNat 0)))) p10]) (.block 0 (.loop (.seq (.seq (.run [.go (.move (.tmp p10)) p15,
 .go (.bin .lss 3 (.tmp p15) (.con (.int .i64 (.ofNat 5)))) p16]) (.cond (.tmp p16) .skip (.exit 0))) (.seq (.block 1 (.seq (.block 2 (.loop (.seq (.seq (.draw 18 [.go (.move (.tmp p9)) p19,
 .go (.move (.tmp p2)) p20,
 .go (.bin .lss 3 (.tmp p19) (.tmp p20)) p21,
 .go (.move (.tmp p21)) p22,
 .gd p22 true (.move (.tmp p3)) p23,
 .gd p22 true (.move (.tmp p0)) p24,
 .gd p22 true (.move (.tmp p9)) p25,
 .gd p22 true (.indexAddr none 2 (.tmp p24) (.tmp p25)) p26,
 .gd p22 true (.loadN 2 (.tmp p26)) p27,
 .gd p22 true (.move (.tmp p0)) p28,
 .gd p22 true (.move (.tmp p9)) p29,
 .gd p22 true (.bin .sub 3 (.tmp p29) (.con (.int .i64 (.ofNat 1)))) p30,
 .gd p22 true (.indexAddr none 2 (.tmp p28) (.tmp p30)) p31,
 .gd p22 true (.loadN 2 (.tmp p31)) p32,
 .gd p22 true (.call (.tmp p23) [(.tmp p27),(.tmp p32)]) p33,
 .gd p22 true (.bin .lss 3 (.tmp p33) (.con (.int .i64 (.ofNat 0)))) p34,
 .gd p22 true (.un .not (.tmp p34)) p35,
 .go (.pick (.tmp p22) (.tmp p35) (.con (.bool false))) p36] [.ok,.ok,.ok,.ok,.ok,.ok,.ok,.ok,.ok,.ok,.ok,.ok,.ok,.ok,.ok,.ok,.ok,.ok]) (.cond (.tmp p36) .skip (.exit 2))) (.block 3 (.run [.go (.move (.tmp p9)) p37,
 .go (.bin .add 3 (.tmp p37) (.con (.int .i64 (.ofNat 1)))) p38,
 .go (.move (.tmp p38)) p9]))))) (.seq (.seq (.run [.go (.move (.tmp p9)) p39,
 .go (.move (.tmp p2)) p40,
 .go (.bin .eql 3 (.tmp p39) (.tmp p40)) p41]) (.cond (.tmp p41) (.seq (.run [.go (.move (.con (.bool true))) p8]) .ret) .skip)) (.seq (.seq (.run [.go (.move (.tmp p2)) p42,
 .go (.move (.tmp p1)) p43,
 .go (.bin .sub 3 (.tmp p42) (.tmp p43)) p44,
 .go (.bin .lss 3 (.tmp p44) (.con (.int .i64 (.ofNat 50)))) p45]) (.cond (.tmp p45) (.seq (.run [.go (.move (.con (.bool false))) p8]) .ret) .skip)) (.seq (.draw 18 [.go (.move (.tmp p0)) p46,
 .go (.move (.tmp p9)) p47,
 .go (.move (.tmp p0)) p48,
 .go (.move (.tmp p9)) p49,
 .go (.bin .sub 3 (.tmp p49) (.con (.int .i64 (.ofNat 1)))) p50,
 .go (.move (.tmp p0)) p51,
 .go (.move (.tmp p9)) p52,
 .go (.bin .sub 3 (.tmp p52) (.con (.int .i64 (.ofNat 1)))) p53,
 .go (.indexAddr none 2 (.tmp p51) (.tmp p53)) p54,
 .go (.loadN 2 (.tmp p54)) p55,
 .go (.move (.tmp p0)) p56,
 .go (.move (.tmp p9)) p57,
 .go (.indexAddr none 2 (.tmp p56) (.tmp p57)) p58,
 .go (.loadN 2 (.tmp p58)) p59,
 .go (.indexAddr none 2 (.tmp p46) (.tmp p47)) p60,
 .un (.store 2 (.tmp p60) (.tmp p55)),
 .go (.indexAddr none 2 (.tmp p48) (.tmp p50)) p61,
 .un (.store 2 (.tmp p61) (.tmp p59))] [.ok,.ok,.ok,.ok,.ok,.ok,.ok,.ok,.ok,.ok,.ok,.ok,.ok,.ok,.ok,.ok,.ok,.ok]) (.seq (.seq (.run [.go (.move (.tmp p9)) p62,
 .go (.move (.tmp p1)) p63,
 .go (.bin .sub 3 (.tmp p62) (.tmp p63)) p64,
 .go (.bin .geq 3 (.tmp p64) (.con (.int .i64 (.ofNat 2)))) p65]) (.cond (.tmp p65) (.seq (.run [.go (.move (.tmp p9)) p66,
 .go (.bin .sub 3 (.tmp p66) (.con (.int .i64 (.ofNat 1)))) p67,
 .go (.move (.tmp p67)) p11]) (.block 4 (.loop (.seq (.seq (.run [.go (.move (.tmp p11)) p68,
 .go (.bin .geq 3 (.tmp p68) (.con (.int .i64 (.ofNat 1)))) p69]) (.cond (.tmp p69) .skip (.exit 4))) (.seq (.block 5 (.seq (.seq (.draw 13 [.go (.move (.tmp p3)) p72,
 .go (.move (.tmp p0)) p73,
 .go (.move (.tmp p11)) p74,
 .go (.indexAddr none 2 (.tmp p73) (.tmp p74)) p75,
 .go (.loadN 2 (.tmp p75)) p76,
 .go (.move (.tmp p0)) p77,
 .go (.move (.tmp p11)) p78,
 .go (.bin .sub 3 (.tmp p78) (.con (.int .i64 (.ofNat 1)))) p79,
 .go (.indexAddr none 2 (.tmp p77) (.tmp p79)) p80,
 .go (.loadN 2 (.tmp p80)) p81,
 .go (.call (.tmp p72) [(.tmp p76),(.tmp p81)]) p82,
 .go (.bin .lss 3 (.tmp p82) (.con (.int .i64 (.ofNat 0)))) p83,
 .go (.un .not (.tmp p83)) p84] [.ok,.ok,.ok,.ok,.ok,.ok,.ok,.ok,.ok,.ok,.ok,.ok,.ok]) (.cond (.tmp p84) (.exit 4) .skip)) (.draw 18 [.go (.move (.tmp p0)) p85,
 .go (.move (.tmp p11)) p86,
 .go (.move (.tmp p0)) p87,
 .go (.move (.tmp p11)) p88,
 .go (.bin .sub 3 (.tmp p88) (.con (.int .i64 (.ofNat 1)))) p89,
 .go (.move (.tmp p0)) p90,
 .go (.move (.tmp p11)) p91,
 .go (.bin .sub 3 (.tmp p91) (.con (.int .i64 (.ofNat 1)))) p92,
 .go (.indexAddr none 2 (.tmp p90) (.tmp p92)) p93,
 .go (.loadN 2 (.tmp p93)) p94,
 .go (.move (.tmp p0)) p95,
 .go (.move (.tmp p11)) p96,
 .go (.indexAddr none 2 (.tmp p95) (.tmp p96)) p97,
 .go (.loadN 2 (.tmp p97)) p98,
 .go (.indexAddr none 2 (.tmp p85) (.tmp p86)) p99,
 .un (.store 2 (.tmp p99) (.tmp p94)),
 .go (.indexAddr none 2 (.tmp p87) (.tmp p89)) p100,
 .un (.store 2 (.tmp p100) (.tmp p98))] [.ok,.ok,.ok,.ok,.ok,.ok,.ok,.ok,.ok,.ok,.ok,.ok,.ok,.ok,.ok,.ok,.ok,.ok]))) (.run [.go (.move (.tmp p11)) p70,
 .go (.bin .sub 3 (.tmp p70) (.con (.int .i64 (.ofNat 1)))) p71,
 .go (.move (.tmp p71)) p11])))))) .skip)) (.seq (.run [.go (.move (.tmp p2)) p101,
 .go (.move (.tmp p9)) p102,
 .go (.bin .sub 3 (.tmp p101) (.tmp p102)) p103,
 .go (.bin .geq 3 (.tmp p103) (.con (.int .i64 (.ofNat 2)))) p104]) (.cond (.tmp p104) (.seq (.run [.go (.move (.tmp p9)) p105,
 .go (.bin .add 3 (.tmp p105) (.con (.int .i64 (.ofNat 1)))) p106,
 .go (.move (.tmp p106)) p12]) (.block 6 (.loop (.seq (.seq (.run [.go (.move (.tmp p12)) p107,
 .go (.move (.tmp p2)) p108,
 .go (.bin .lss 3 (.tmp p107) (.tmp p108)) p109]) (.cond (.tmp p109) .skip (.exit 6))) (.seq (.block 7 (.seq (.seq (.draw 13 [.go (.move (.tmp p3)) p112,
 .go (.move (.tmp p0)) p113,
 .go (.move (.tmp p12)) p114,
 .go (.indexAddr none 2 (.tmp p113) (.tmp p114)) p115,
 .go (.loadN 2 (.tmp p115)) p116,
 .go (.move (.tmp p0)) p117,
 .go (.move (.tmp p12)) p118,
 .go (.bin .sub 3 (.tmp p118) (.con (.int .i64 (.ofNat 1)))) p119,
 .go (.indexAddr none 2 (.tmp p117) (.tmp p119)) p120,
 .go (.loadN 2 (.tmp p120)) p121,
 .go (.call (.tmp p112) [(.tmp p116),(.tmp p121)]) p122,
 .go (.bin .lss 3 (.tmp p122) (.con (.int .i64 (.ofNat 0)))) p123,
 .go (.un .not (.tmp p123)) p124] [.ok,.ok,.ok,.ok,.ok,.ok,.ok,.ok,.ok,.ok,.ok,.ok,.ok]) (.cond (.tmp p124) (.exit 6) .skip)) (.draw 18 [.go (.move (.tmp p0)) p125,
 .go (.move (.tmp p12)) p126,
 .go (.move (.tmp p0)) p127,
 .go (.move (.tmp p12)) p128,
 .go (.bin .sub 3 (.tmp p128) (.con (.int .i64 (.ofNat 1)))) p129,
 .go (.move (.tmp p0)) p130,
 .go (.move (.tmp p12)) p131,
 .go (.bin .sub 3 (.tmp p131) (.con (.int .i64 (.ofNat 1)))) p132,
 .go (.indexAddr none 2 (.tmp p130) (.tmp p132)) p133,
 .go (.loadN 2 (.tmp p133)) p134,
 .go (.move (.tmp p0)) p135,
 .go (.move (.tmp p12)) p136,
 .go (.indexAddr none 2 (.tmp p135) (.tmp p136)) p137,
 .go (.loadN 2 (.tmp p137)) p138,
 .go (.indexAddr none 2 (.tmp p125) (.tmp p126)) p139,
 .un (.store 2 (.tmp p139) (.tmp p134)),
 .go (.indexAddr none 2 (.tmp p127) (.tmp p129)) p140,
 .un (.store 2 (.tmp p140) (.tmp p138))] [.ok,.ok,.ok,.ok,.ok,.ok,.ok,.ok,.ok,.ok,.ok,.ok,.ok,.ok,.ok,.ok,.ok,.ok]))) (.run [.go (.move (.tmp p12)) p110,
 .go (.bin .add 3 (.tmp p110) (.con (.int .i64 (.ofNat 1)))) p111,
 .go (.move (.tmp p111)) p12])))))) .skip)))))))) (.run [.go (.move (.tmp p10)) p17,
 .go (.bin .add 3 (.tmp p17) (.con (.int .i64 (.ofNat 1)))) p18,
 .go (.move (.tmp p18)) p10])))))) (.seq (.run [.go (.move (.con (.bool false))) p8]) .ret))))
noncomputable def f122 : FFunc := .mk c122 (.n U (.n U (.n U (.n U (.n U (.n U (.n U (.n U .e .e) .e) (.n U .e .e)) (.n U (.n U .e .e) (.n U .e .e))) (.n U (.n U (.n U (.n U .e .e) .e) (.n U .e .e)) (.n U (.n U .e .e) (.n U .e .e)))) (.n U (.n U (.n U (.n U (.n U .e .e) .e) (.n U .e .e)) (.n U (.n U .e .e) (.n U .e .e))) (.n U (.n U (.n U (.n U .e .e) .e) (.n U .e .e)) (.n U (.n U .e .e) (.n U .e .e))))) (.n U (.n U (.n U (.n U (.n U (.n U .e .e) .e) (.n U .e .e)) (.n U (.n U .e .e) (.n U .e .e))) (.n U (.n U (.n U (.n U .e .e) .e) (.n U .e .e)) (.n U (.n U .e .e) (.n U .e .e)))) (.n U (.n U (.n U (.n U (.n U .e .e) .e) (.n U .e .e)) (.n U (.n U .e .e) (.n U .e .e))) (.n U (.n U (.n U .e .e) (.n U .e .e)) (.n U (.n U .e .e) (.n U .e .e)))))) (.n U (.n U (.n U (.n U (.n U (.n U (.n U .e .e) .e) (.n U .e .e)) (.n U (.n U .e .e) (.n U .e .e))) (.n U (.n U (.n U (.n U .e .e) .e) (.n U .e .e)) (.n U (.n U .e .e) (.n U .e .e)))) (.n U (.n U (.n U (.n U (.n U .e .e) .e) (.n U .e .e)) (.n U (.n U .e .e) (.n U .e .e))) (.n U (.n U (.n U (.n U .e .e) .e) (.n U .e .e)) (.n U (.n U .e .e) (.n U .e .e))))) (.n U (.n U (.n U (.n U (.n U (.n U .e .e) .e) (.n U .e .e)) (.n U (.n U .e .e) (.n U .e .e))) (.n U (.n U (.n U (.n U .e .e) .e) (.n U .e .e)) (.n U (.n U .e .e) (.n U .e .e)))) (.n U (.n U (.n U (.n U (.n U .e .e) .e) (.n U .e .e)) (.n U (.n U .e .e) (.n U .e .e))) (.n U (.n U (.n U .e .e) (.n U .e .e)) (.n U (.n U .e .e) (.n U .e .e))))))) [p0,p1,p2,p3] [.tmp p8]
theorem e122 : @compF Try.prog (Gl.none Try.prog) Try.f122 4 = f122 := by kernel_rfl
theorem o122 : okF Try.prog Try.f122 = true := by kernel_rfl
theorem g122 : Try.prog.funcs[(122 : Nat)]? = some Try.f122 := by kernel_rfl
noncomputable def c123 : FCode := (.seq (.run [.go (.move (.con (.int .i64 (.ofNat 0)))) p10]) (.seq (.draw 16 [.go (.move (.tmp p0)) p13,
 .go (.move (.tmp p1)) p14,
 .go (.move (.tmp p0)) p15,
 .go (.move (.tmp p3)) p16,
 .go (.move (.tmp p0)) p17,
 .go (.move (.tmp p3)) p18,
 .go (.indexAddr none 2 (.tmp p17) (.tmp p18)) p19,
 .go (.loadN 2 (.tmp p19)) p20,
 .go (.move (.tmp p0)) p21,
 .go (.move (.tmp p1)) p22,
 .go (.indexAddr none 2 (.tmp p21) (.tmp p22)) p23,
 .go (.loadN 2 (.tmp p23)) p24,
 .go (.indexAddr none 2 (.tmp p13) (.tmp p14)) p25,
 .un (.store 2 (.tmp p25) (.tmp p20)),
 .go (.indexAddr none 2 (.tmp p15) (.tmp p16)) p26,
 .un (.store 2 (.tmp p26) (.tmp p24))] [.ok,.ok,.ok,.ok,.ok,.ok,.ok,.ok,.ok,.ok,.ok,.ok,.ok,.ok,.ok,.ok]) (.seq (.run [.go (.move (.tmp p1)) p27,
 .go (.bin .add 3 (.tmp p27) (.con (.int .i64 (.ofNat 1)))) p28,
 .go (.move (.tmp p2)) p29,
 .go (.bin .sub 3 (.tmp p29) (.con (.int .i64 (.ofNat 1)))) p30,
 .go (.move (.tmp p28)) p11,
 .go (.move (.tmp p30)) p12]) (.seq (.block 0 (.loop (.block 1 (.seq (.block 2 (.loop (.seq (.seq (.draw 17 [.go (.move (.tmp p11)) p31,
 .go (.move (.tmp p12)) p32,
 .go (.bin .leq 3 (.tmp p31) (.tmp p32)) p33,
 .go (.move (.tmp p33)) p34,
 .gd p34 true (.move (.tmp p4)) p35,
 .gd p34 true (.move (.tmp p0)) p36,
 .gd p34 true (.move (.tmp p1)) p37,
 .gd p34 true (.indexAddr none 2 (.tmp p36) (.tmp p37)) p38,
 .gd p34 true (.loadN 2 (.tmp p38)) p39,
 .gd p34 true (.move (.tmp p0)) p40,
 .gd p34 true (.move (.tmp p11)) p41,
 .gd p34 true (.indexAddr none 2 (.tmp p40) (.tmp p41)) p42,
 .gd p34 true (.loadN 2 (.tmp p42)) p43,
 .gd p34 true (.call (.tmp p35) [(.tmp p39),(.tmp p43)]) p44,
 .gd p34 true (.bin .lss 3 (.tmp p44) (.con (.int .i64 (.ofNat 0)))) p45,
 .gd p34 true (.un .not (.tmp p45)) p46,
 .go (.pick (.tmp p34) (.tmp p46) (.con (.bool false))) p47] [.ok,.ok,.ok,.ok,.ok,.ok,.ok,.ok,.ok,.ok,.ok,.ok,.ok,.ok,.ok,.ok,.ok]) (.cond (.tmp p47) .skip (.exit 2))) (.block 3 (.run [.go (.move (.tmp p11)) p48,
 .go (.bin .add 3 (.tmp p48) (.con (.int .i64 (.ofNat 1)))) p49,
 .go (.move (.tmp p49)) p11]))))) (.seq (.block 4 (.loop (.seq (.seq (.draw 16 [.go (.move (.tmp p11)) p50,
 .go (.move (.tmp p12)) p51,
 .go (.bin .leq 3 (.tmp p50) (.tmp p51)) p52,
 .go (.move (.tmp p52)) p53,
 .gd p53 true (.move (.tmp p4)) p54,
 .gd p53 true (.move (.tmp p0)) p55,
 .gd p53 true (.move (.tmp p1)) p56,
 .gd p53 true (.indexAddr none 2 (.tmp p55) (.tmp p56)) p57,
 .gd p53 true (.loadN 2 (.tmp p57)) p58,
 .gd p53 true (.move (.tmp p0)) p59,
 .gd p53 true (.move (.tmp p12)) p60,
 .gd p53 true (.indexAddr none 2 (.tmp p59) (.tmp p60)) p61,
 .gd p53 true (.loadN 2 (.tmp p61)) p62,
 .gd p53 true (.call (.tmp p54) [(.tmp p58),(.tmp p62)]) p63,
 .gd p53 true (.bin .lss 3 (.tmp p63) (.con (.int .i64 (.ofNat 0)))) p64,
 .go (.pick (.tmp p53) (.tmp p64) (.con (.bool false))) p65] [.ok,.ok,.ok,.ok,.ok,.ok,.ok,.ok,.ok,.ok,.ok,.ok,.ok,.ok,.ok,.ok]) (.cond (.tmp p65) .skip (.exit 4))) (.block 5 (.run [.go (.move (.tmp p12)) p66,
 .go (.bin .sub 3 (.tmp p66) (.con (.int .i64 (.ofNat 1)))) p67,
 .go (.move (.tmp p67)) p12]))))) (.seq (.seq (.run [.go (.move (.tmp p11)) p68,
 .go (.move (.tmp p12)) p69,
 .go (.bin .gtr 3 (.tmp p68) (.tmp p69)) p70]) (.cond (.tmp p70) (.exit 0) .skip)) (.seq (.draw 16 [.go (.move (.tmp p0)) p71,
 .go (.move (.tmp p11)) p72,
 .go (.move (.tmp p0)) p73,
 .go (.move (.tmp p12)) p74,
 .go (.move (.tmp p0)) p75,
 .go (.move (.tmp p12)) p76,
 .go (.indexAddr none 2 (.tmp p75) (.tmp p76)) p77,
 .go (.loadN 2 (.tmp p77)) p78,
 .go (.move (.tmp p0)) p79,
 .go (.move (.tmp p11)) p80,
 .go (.indexAddr none 2 (.tmp p79) (.tmp p80)) p81,
 .go (.loadN 2 (.tmp p81)) p82,
 .go (.indexAddr none 2 (.tmp p71) (.tmp p72)) p83,
 .un (.store 2 (.tmp p83) (.tmp p78)),
 .go (.indexAddr none 2 (.tmp p73) (.tmp p74)) p84,
 .un (.store 2 (.tmp p84) (.tmp p82))] [.ok,.ok,.ok,.ok,.ok,.ok,.ok,.ok,.ok,.ok,.ok,.ok,.ok,.ok,.ok,.ok]) (.seq (.run [.go (.move (.tmp p11)) p85,
 .go (.bin .add 3 (.tmp p85) (.con (.int .i64 (.ofNat 1)))) p86,
 .go (.move (.tmp p86)) p11]) (.run [.go (.move (.tmp p12)) p87,
 .go (.bin .sub 3 (.tmp p87) (.con (.int .i64 (.ofNat 1)))) p88,
 .go (.move (.tmp p88)) p12]))))))))) (.seq (.run [.go (.move (.tmp p11)) p89,
 .go (.move (.tmp p89)) p10]) .ret)))))
noncomputable def f123 : FFunc := .mk c123 (.n U (.n U (.n U (.n U (.n U (.n U (.n U .e .e) .e) (.n U (.n U .e .e) .e)) (.n U (.n U (.n U .e .e) .e) (.n U (.n U .e .e) .e))) (.n U (.n U (.n U (.n U .e .e) .e) (.n U (.n U .e .e) .e)) (.n U (.n U (.n U .e .e) .e) (.n U .e .e)))) (.n U (.n U (.n U (.n U (.n U .e .e) .e) (.n U (.n U .e .e) .e)) (.n U (.n U (.n U .e .e) .e) (.n U (.n U .e .e) .e))) (.n U (.n U (.n U (.n U .e .e) .e) (.n U (.n U .e .e) .e)) (.n U (.n U (.n U .e .e) .e) (.n U .e .e))))) (.n U (.n U (.n U (.n U (.n U (.n U .e .e) .e) (.n U (.n U .e .e) .e)) (.n U (.n U (.n U .e .e) .e) (.n U (.n U .e .e) .e))) (.n U (.n U (.n U (.n U .e .e) .e) (.n U (.n U .e .e) .e)) (.n U (.n U (.n U .e .e) .e) (.n U .e .e)))) (.n U (.n U (.n U (.n U (.n U .e .e) .e) (.n U (.n U .e .e) .e)) (.n U (.n U (.n U .e .e) .e) (.n U .e .e))) (.n U (.n U (.n U (.n U .e .e) .e) (.n U (.n U .e .e) .e)) (.n U (.n U (.n U .e .e) .e) (.n U .e .e)))))) [p0,p1,p2,p3,p4] [.tmp p10]
theorem e123 : @compF Try.prog (Gl.none Try.prog) Try.f123 5 = f123 := by kernel_rfl
theorem o123 : okF Try.prog Try.f123 = true := by kernel_rfl
theorem g123 : Try.prog.funcs[(123 : Nat)]? = some Try.f123 := by kernel_rfl
noncomputable def c124 : FCode := (.seq (.run [.go (.move (.con (.int .i64 (.ofNat 0)))) p10,
 .go (.move (.con (.bool false))) p11]) (.seq (.draw 16 [.go (.move (.tmp p0)) p14,
 .go (.move (.tmp p1)) p15,
 .go (.move (.tmp p0)) p16,
 .go (.move (.tmp p3)) p17,
 .go (.move (.tmp p0)) p18,
 .go (.move (.tmp p3)) p19,
 .go (.indexAddr none 2 (.tmp p18) (.tmp p19)) p20,
 .go (.loadN 2 (.tmp p20)) p21,
 .go (.move (.tmp p0)) p22,
 .go (.move (.tmp p1)) p23,
 .go (.indexAddr none 2 (.tmp p22) (.tmp p23)) p24,
 .go (.loadN 2 (.tmp p24)) p25,
 .go (.indexAddr none 2 (.tmp p14) (.tmp p15)) p26,
 .un (.store 2 (.tmp p26) (.tmp p21)),
 .go (.indexAddr none 2 (.tmp p16) (.tmp p17)) p27,
 .un (.store 2 (.tmp p27) (.tmp p25))] [.ok,.ok,.ok,.ok,.ok,.ok,.ok,.ok,.ok,.ok,.ok,.ok,.ok,.ok,.ok,.ok]) (.seq (.run [.go (.move (.tmp p1)) p28,
 .go (.bin .add 3 (.tmp p28) (.con (.int .i64 (.ofNat 1)))) p29,
 .go (.move (.tmp p2)) p30,
 .go (.bin .sub 3 (.tmp p30) (.con (.int .i64 (.ofNat 1)))) p31,
 .go (.move (.tmp p29)) p12,
 .go (.move (.tmp p31)) p13]) (.seq (.block 0 (.loop (.seq (.seq (.draw 16 [.go (.move (.tmp p12)) p32,
 .go (.move (.tmp p13)) p33,
 .go (.bin .leq 3 (.tmp p32) (.tmp p33)) p34,
 .go (.move (.tmp p34)) p35,
 .gd p35 true (.move (.tmp p4)) p36,
 .gd p35 true (.move (.tmp p0)) p37,
 .gd p35 true (.move (.tmp p12)) p38,
 .gd p35 true (.indexAddr none 2 (.tmp p37) (.tmp p38)) p39,
 .gd p35 true (.loadN 2 (.tmp p39)) p40,
 .gd p35 true (.move (.tmp p0)) p41,
 .gd p35 true (.move (.tmp p1)) p42,
 .gd p35 true (.indexAddr none 2 (.tmp p41) (.tmp p42)) p43,
 .gd p35 true (.loadN 2 (.tmp p43)) p44,
 .gd p35 true (.call (.tmp p36) [(.tmp p40),(.tmp p44)]) p45,
 .gd p35 true (.bin .lss 3 (.tmp p45) (.con (.int .i64 (.ofNat 0)))) p46,
 .go (.pick (.tmp p35) (.tmp p46) (.con (.bool false))) p47] [.ok,.ok,.ok,.ok,.ok,.ok,.ok,.ok,.ok,.ok,.ok,.ok,.ok,.ok,.ok,.ok]) (.cond (.tmp p47) .skip (.exit 0))) (.block 1 (.run [.go (.move (.tmp p12)) p48,
 .go (.bin .add 3 (.tmp p48) (.con (.int .i64 (.ofNat 1)))) p49,
 .go (.move (.tmp p49)) p12]))))) (.seq (.block 2 (.loop (.seq (.seq (.draw 17 [.go (.move (.tmp p12)) p50,
 .go (.move (.tmp p13)) p51,
 .go (.bin .leq 3 (.tmp p50) (.tmp p51)) p52,
 .go (.move (.tmp p52)) p53,
 .gd p53 true (.move (.tmp p4)) p54,
 .gd p53 true (.move (.tmp p0)) p55,
 .gd p53 true (.move (.tmp p13)) p56,
 .gd p53 true (.indexAddr none 2 (.tmp p55) (.tmp p56)) p57,
 .gd p53 true (.loadN 2 (.tmp p57)) p58,
 .gd p53 true (.move (.tmp p0)) p59,
 .gd p53 true (.move (.tmp p1)) p60,
 .gd p53 true (.indexAddr none 2 (.tmp p59) (.tmp p60)) p61,
 .gd p53 true (.loadN 2 (.tmp p61)) p62,
 .gd p53 true (.call (.tmp p54) [(.tmp p58),(.tmp p62)]) p63,
 .gd p53 true (.bin .lss 3 (.tmp p63) (.con (.int .i64 (.ofNat 0)))) p64,
 .gd p53 true (.un .not (.tmp p64)) p65,
 .go (.pick (.tmp p53) (.tmp p65) (.con (.bool false))) p66] [.ok,.ok,.ok,.ok,.ok,.ok,.ok,.ok,.ok,.ok,.ok,.ok,.ok,.ok,.ok,.ok,.ok]) (.cond (.tmp p66) .skip (.exit 2))) (.block 3 (.run [.go (.move (.tmp p13)) p67,
 .go (.bin .sub 3 (.tmp p67) (.con (.int .i64 (.ofNat 1)))) p68,
 .go (.move (.tmp p68)) p13]))))) (.seq (.seq (.run [.go (.move (.tmp p12)) p69,
 .go (.move (.tmp p13)) p70,
 .go (.bin .gtr 3 (.tmp p69) (.tmp p70)) p71]) (.cond (.tmp p71) (.seq (.draw 16 [.go (.move (.tmp p0)) p72,
 .go (.move (.tmp p13)) p73,
 .go (.move (.tmp p0)) p74,
 .go (.move (.tmp p1)) p75,
 .go (.move (.tmp p0)) p76,
 .go (.move (.tmp p1)) p77,
 .go (.indexAddr none 2 (.tmp p76) (.tmp p77)) p78,
 .go (.loadN 2 (.tmp p78)) p79,
 .go (.move (.tmp p0)) p80,
 .go (.move (.tmp p13)) p81,
 .go (.indexAddr none 2 (.tmp p80) (.tmp p81)) p82,
 .go (.loadN 2 (.tmp p82)) p83,
 .go (.indexAddr none 2 (.tmp p72) (.tmp p73)) p84,
 .un (.store 2 (.tmp p84) (.tmp p79)),
 .go (.indexAddr none 2 (.tmp p74) (.tmp p75)) p85,
 .un (.store 2 (.tmp p85) (.tmp p83))] [.ok,.ok,.ok,.ok,.ok,.ok,.ok,.ok,.ok,.ok,.ok,.ok,.ok,.ok,.ok,.ok]) (.seq (.run [.go (.move (.tmp p13)) p86,
 .go (.move (.tmp p86)) p10,
 .go (.move (.con (.bool true))) p11]) .ret)) .skip)) (.seq (.draw 16 [.go (.move (.tmp p0)) p87,
 .go (.move (.tmp p12)) p88,
 .go (.move (.tmp p0)) p89,
 .go (.move (.tmp p13)) p90,
 .go (.move (.tmp p0)) p91,
 .go (.move (.tmp p13)) p92,
 .go (.indexAddr none 2 (.tmp p91) (.tmp p92)) p93,
 .go (.loadN 2 (.tmp p93)) p94,
 .go (.move (.tmp p0)) p95,
 .go (.move (.tmp p12)) p96,
 .go (.indexAddr none 2 (.tmp p95) (.tmp p96)) p97,
 .go (.loadN 2 (.tmp p97)) p98,
 .go (.indexAddr none 2 (.tmp p87) (.tmp p88)) p99,
 .un (.store 2 (.tmp p99) (.tmp p94)),
 .go (.indexAddr none 2 (.tmp p89) (.tmp p90)) p100,
 .un (.store 2 (.tmp p100) (.tmp p98))] [.ok,.ok,.ok,.ok,.ok,.ok,.ok,.ok,.ok,.ok,.ok,.ok,.ok,.ok,.ok,.ok]) (.seq (.run [.go (.move (.tmp p12)) p101,
 .go (.bin .add 3 (.tmp p101) (.con (.int .i64 (.ofNat 1)))) p102,
 .go (.move (.tmp p102)) p12]) (.seq (.run [.go (.move (.tmp p13)) p103,
 .go (.bin .sub 3 (.tmp p103) (.con (.int .i64 (.ofNat 1)))) p104,
 .go (.move (.tmp p104)) p13]) (.seq (.block 4 (.loop (.block 5 (.seq (.block 6 (.loop (.seq (.seq (.draw 16 [.go (.move (.tmp p12)) p105,
 .go (.move (.tmp p13)) p106,
 .go (.bin .leq 3 (.tmp p105) (.tmp p106)) p107,
 .go (.move (.tmp p107)) p108,
 .gd p108 true (.move (.tmp p4)) p109,
 .gd p108 true (.move (.tmp p0)) p110,
 .gd p108 true (.move (.tmp p12)) p111,
 .gd p108 true (.indexAddr none 2 (.tmp p110) (.tmp p111)) p112,
 .gd p108 true (.loadN 2 (.tmp p112)) p113,
 .gd p108 true (.move (.tmp p0)) p114,
 .gd p108 true (.move (.tmp p1)) p115,
 .gd p108 true (.indexAddr none 2 (.tmp p114) (.tmp p115)) p116,
 .gd p108 true (.loadN 2 (.tmp p116)) p117,
 .gd p108 true (.call (.tmp p109) [(.tmp p113),(.tmp p117)]) p118,
 .gd p108 true (.bin .lss 3 (.tmp p118) (.con (.int .i64 (.ofNat 0)))) p119,
 .go (.pick (.tmp p108) (.tmp p119) (.con (.bool false))) p120] [.ok,.ok,.ok,.ok,.ok,.ok,.ok,.ok,.ok,.ok,.ok,.ok,.ok,.ok,.ok,.ok]) (.cond (.tmp p120) .skip (.exit 6))) (.block 7 (.run [.go (.move (.tmp p12)) p121,
 .go (.bin .add 3 (.tmp p121) (.con (.int .i64 (.ofNat 1)))) p122,
 .go (.move (.tmp p122)) p12]))))) (.seq (.block 8 (.loop (.seq (.seq (.draw 17 [.go (.move (.tmp p12)) p123,
 .go (.move (.tmp p13)) p124,
 .go (.bin .leq 3 (.tmp p123) (.tmp p124)) p125,
 .go (.move (.tmp p125)) p126,
 .gd p126 true (.move (.tmp p4)) p127,
 .gd p126 true (.move (.tmp p0)) p128,
 .gd p126 true (.move (.tmp p13)) p129,
 .gd p126 true (.indexAddr none 2 (.tmp p128) (.tmp p129)) p130,
 .gd p126 true (.loadN 2 (.tmp p130)) p131,
 .gd p126 true (.move (.tmp p0)) p132,
 .gd p126 true (.move (.tmp p1)) p133,
 .gd p126 true (.indexAddr none 2 (.tmp p132) (.tmp p133)) p134,
 .gd p126 true (.loadN 2 (.tmp p134)) p135,
 .gd p126 true (.call (.tmp p127) [(.tmp p131),(.tmp p135)]) p136,
 .gd p126 true (.bin .lss 3 (.tmp p136) (.con (.int .i64 (.ofNat 0)))) p137,
 .gd p126 true (.un .not (.tmp p137)) p138,
 .go (.pick (.tmp p126) (.tmp p138) (.con (.bool false))) p139] [.ok,.ok,.ok,.ok,.ok,.ok,.ok,.ok,.ok,.ok,.ok,.ok,.ok,.ok,.ok,.ok,.ok]) (.cond (.tmp p139) .skip (.exit 8))) (.block 9 (.run [.go (.move (.tmp p13)) p140,
 .go (.bin .sub 3 (.tmp p140) (.con (.int .i64 (.ofNat 1)))) p141,
 .go (.move (.tmp p141)) p13]))))) (.seq (.seq (.run [.go (.move (.tmp p12)) p142,
 .go (.move (.tmp p13)) p143,
 .go (.bin .gtr 3 (.tmp p142) (.tmp p143)) p144]) (.cond (.tmp p144) (.exit 4) .skip)) (.seq (.draw 16 [.go (.move (.tmp p0)) p145,
 .go (.move (.tmp p12)) p146,
 .go (.move (.tmp p0)) p147,
 .go (.move (.tmp p13)) p148,
 .go (.move (.tmp p0)) p149,
 .go (.move (.tmp p13)) p150,
 .go (.indexAddr none 2 (.tmp p149) (.tmp p150)) p151,
 .go (.loadN 2 (.tmp p151)) p152,
 .go (.move (.tmp p0)) p153,
 .go (.move (.tmp p12)) p154,
 .go (.indexAddr none 2 (.tmp p153) (.tmp p154)) p155,
 .go (.loadN 2 (.tmp p155)) p156,
 .go (.indexAddr none 2 (.tmp p145) (.tmp p146)) p157,
 .un (.store 2 (.tmp p157) (.tmp p152)),
 .go (.indexAddr none 2 (.tmp p147) (.tmp p148)) p158,
 .un (.store 2 (.tmp p158) (.tmp p156))] [.ok,.ok,.ok,.ok,.ok,.ok,.ok,.ok,.ok,.ok,.ok,.ok,.ok,.ok,.ok,.ok]) (.seq (.run [.go (.move (.tmp p12)) p159,
 .go (.bin .add 3 (.tmp p159) (.con (.int .i64 (.ofNat 1)))) p160,
 .go (.move (.tmp p160)) p12]) (.run [.go (.move (.tmp p13)) p161,
 .go (.bin .sub 3 (.tmp p161) (.con (.int .i64 (.ofNat 1)))) p162,
 .go (.move (.tmp p162)) p13]))))))))) (.seq (.draw 16 [.go (.move (.tmp p0)) p163,
 .go (.move (.tmp p13)) p164,
 .go (.move (.tmp p0)) p165,
 .go (.move (.tmp p1)) p166,
 .go (.move (.tmp p0)) p167,
 .go (.move (.tmp p1)) p168,
 .go (.indexAddr none 2 (.tmp p167) (.tmp p168)) p169,
 .go (.loadN 2 (.tmp p169)) p170,
 .go (.move (.tmp p0)) p171,
 .go (.move (.tmp p13)) p172,
 .go (.indexAddr none 2 (.tmp p171) (.tmp p172)) p173,
 .go (.loadN 2 (.tmp p173)) p174,
 .go (.indexAddr none 2 (.tmp p163) (.tmp p164)) p175,
 .un (.store 2 (.tmp p175) (.tmp p170)),
 .go (.indexAddr none 2 (.tmp p165) (.tmp p166)) p176,
 .un (.store 2 (.tmp p176) (.tmp p174))] [.ok,.ok,.ok,.ok,.ok,.ok,.ok,.ok,.ok,.ok,.ok,.ok,.ok,.ok,.ok,.ok]) (.seq (.run [.go (.move (.tmp p13)) p177,
 .go (.move (.tmp p177)) p10,
 .go (.move (.con (.bool false))) p11]) .ret))))))))))))
noncomputable def f124 : FFunc := .mk c124 (.n U (.n U (.n U (.n U (.n U (.n U (.n U (.n U .e .e) .e) (.n U (.n U .e .e) .e)) (.n U (.n U (.n U .e .e) .e) (.n U (.n U .e .e) .e))) (.n U (.n U (.n U (.n U .e .e) .e) (.n U (.n U .e .e) .e)) (.n U (.n U (.n U .e .e) .e) (.n U .e .e)))) (.n U (.n U (.n U (.n U (.n U .e .e) .e) (.n U (.n U .e .e) .e)) (.n U (.n U (.n U .e .e) .e) (.n U .e .e))) (.n U (.n U (.n U (.n U .e .e) .e) (.n U (.n U .e .e) .e)) (.n U (.n U (.n U .e .e) .e) (.n U .e .e))))) (.n U (.n U (.n U (.n U (.n U (.n U .e .e) .e) (.n U (.n U .e .e) .e)) (.n U (.n U (.n U .e .e) .e) (.n U (.n U .e .e) .e))) (.n U (.n U (.n U (.n U .e .e) .e) (.n U (.n U .e .e) .e)) (.n U (.n U (.n U .e .e) .e) (.n U .e .e)))) (.n U (.n U (.n U (.n U (.n U .e .e) .e) (.n U (.n U .e .e) .e)) (.n U (.n U (.n U .e .e) .e) (.n U .e .e))) (.n U (.n U (.n U (.n U .e .e) .e) (.n U (.n U .e .e) .e)) (.n U (.n U (.n U .e .e) .e) (.n U .e .e)))))) (.n U (.n U (.n U (.n U (.n U (.n U (.n U .e .e) .e) (.n U (.n U .e .e) .e)) (.n U (.n U (.n U .e .e) .e) (.n U (.n U .e .e) .e))) (.n U (.n U (.n U (.n U .e .e) .e) (.n U (.n U .e .e) .e)) (.n U (.n U (.n U .e .e) .e) (.n U .e .e)))) (.n U (.n U (.n U (.n U (.n U .e .e) .e) (.n U (.n U .e .e) .e)) (.n U (.n U (.n U .e .e) .e) (.n U .e .e))) (.n U (.n U (.n U (.n U .e .e) .e) (.n U (.n U .e .e) .e)) (.n U (.n U (.n U .e .e) .e) (.n U .e .e))))) (.n U (.n U (.n U (.n U (.n U (.n U .e .e) .e) (.n U (.n U .e .e) .e)) (.n U (.n U (.n U .e .e) .e) (.n U .e .e))) (.n U (.n U (.n U (.n U .e .e) .e) (.n U (.n U .e .e) .e)) (.n U (.n U (.n U .e .e) .e) (.n U .e .e)))) (.n U (.n U (.n U (.n U (.n U .e .e) .e) (.n U (.n U .e .e) .e)) (.n U (.n U (.n U .e .e) .e) (.n U .e .e))) (.n U (.n U (.n U (.n U .e .e) .e) (.n U (.n U .e .e) .e)) (.n U (.n U (.n U .e .e) .e) (.n U .e .e))))))) [p0,p1,p2,p3,p4] [.tmp p10,.tmp p11]
theorem e124 : @compF Try.prog (Gl.none Try.prog) Try.f124 5 = f124 := by kernel_rfl
theorem o124 : okF Try.prog Try.f124 = true := by kernel_rfl
theorem g124 : Try.prog.funcs[(124 : Nat)]? = some Try.f124 := by kernel_rfl
noncomputable def c125 : FCode := (.seq (.run [.go (.move (.con (.int .i64 (.ofNat 0)))) p2]) (.seq (.seq (.run [.go (.move (.tmp p0)) p3,
 .go (.bin .geq 177 (.tmp p3) (.con (.int .u32 (.ofNat 65536)))) p4]) (.cond (.tmp p4) (.seq (.run [.go (.move (.tmp p0)) p5,
 .go (.bin .shr 177 (.tmp p5) (.con (.int .u64 (.ofNat 16)))) p6,
 .go (.move (.tmp p6)) p0]) (.run [.go (.move (.con (.int .i64 (.ofNat 16)))) p2])) .skip)) (.seq (.seq (.run [.go (.move (.tmp p0)) p7,
 .go (.bin .geq 177 (.tmp p7) (.con (.int .u32 (.ofNat 256)))) p8]) (.cond (.tmp p8) (.seq (.run [.go (.move (.tmp p0)) p9,
 .go (.bin .shr 177 (.tmp p9) (.con (.int .u64 (.ofNat 8)))) p10,
 .go (.move (.tmp p10)) p0]) (.run [.go (.move (.tmp p2)) p11,
 .go (.bin .add 3 (.tmp p11) (.con (.int .i64 (.ofNat 8)))) p12,
 .go (.move (.tmp p12)) p2])) .skip)) (.seq (.run [.go (.move (.tmp p2)) p13,
 .go (.move (.tmp p0)) p14,
 .go (.conv .u8 (.tmp p14)) p15,
 .go (.idxSlow 9 (.con (.string ⟨#[0, 1, 2, 2, 3, 3, 3, 3, 4, 4, 4, 4, 4, 4, 4, 4, 5, 5, 5, 5, 5, 5, 5, 5, 5, 5, 5, 5, 5, 5, 5, 5, 6, 6, 6, 6, 6, 6, 6, 6, 6, 6, 6, 6, 6, 6, 6, 6, 6, 6, 6, 6, 6, 6, 6, 6, 6, 6, 6, 6, 6, 6, 6, 6, 7, 7, 7, 7, 7, 7, 7, 7, 7, 7, 7, 7, 7, 7, 7, 7, 7, 7, 7, 7, 7, 7, 7, 7, 7, 7, 7, 7, 7, 7, 7, 7, 7, 7, 7, 7, 7, 7, 7, 7, 7, 7, 7, 7, 7, 7, 7, 7, 7, 7, 7, 7, 7, 7, 7, 7, 7, 7, 7, 7, 7, 7, 7, 7, 8, 8, 8, 8, 8, 8, 8, 8, 8, 8, 8, 8, 8, 8, 8, 8, 8, 8, 8, 8, 8, 8, 8, 8, 8, 8, 8, 8, 8, 8, 8, 8, 8, 8, 8, 8, 8, 8, 8, 8, 8, 8, 8, 8, 8, 8, 8, 8, 8, 8, 8, 8, 8, 8, 8, 8, 8, 8, 8, 8, 8, 8, 8, 8, 8, 8, 8, 8, 8, 8, 8, 8, 8, 8, 8, 8, 8, 8, 8, 8, 8, 8, 8, 8, 8, 8, 8, 8, 8, 8, 8, 8, 8, 8, 8, 8, 8, 8, 8, 8, 8, 8, 8, 8, 8, 8, 8, 8, 8, 8, 8, 8, 8, 8, 8, 8, 8, 8, 8, 8, 8, 8, 8, 8, 8, 8, 8, 8]⟩)) (.tmp p15)) p16,
 .go (.conv .i64 (.tmp p16)) p17,
 .go (.bin .add 3 (.tmp p13) (.tmp p17)) p18,
 .go (.move (.tmp p18)) p2]) .ret))))
noncomputable def f125 : FFunc := .mk c125 (.n U (.n U (.n U (.n U (.n U .e .e) .e) (.n U .e .e)) (.n U (.n U (.n U .e .e) .e) (.n U .e .e))) (.n U (.n U (.n U (.n U .e .e) .e) (.n U .e .e)) (.n U (.n U (.n U .e .e) .e) (.n U .e .e)))) [p0] [.tmp p2]
theorem e125 : @compF Try.prog (Gl.none Try.prog) Try.f125 1 = f125 := by kernel_rfl
theorem o125 : okF Try.prog Try.f125 = true := by kernel_rfl
theorem g125 : Try.prog.funcs[(125 : Nat)]? = some Try.f125 := by kernel_rfl
noncomputable def c126 : FCode := (.seq (.run [.go (.move (.con (.int .i64 (.ofNat 0)))) p2]) (.seq (.seq (.run [.go (.move (.tmp p0)) p3,
 .go (.bin .geq 179 (.tmp p3) (.con (.int .u64 (.ofNat 4294967296)))) p4]) (.cond (.tmp p4) (.seq (.run [.go (.move (.tmp p0)) p5,
 .go (.bin .shr 179 (.tmp p5) (.con (.int .u64 (.ofNat 32)))) p6,
 .go (.move (.tmp p6)) p0]) (.run [.go (.move (.con (.int .i64 (.ofNat 32)))) p2])) .skip)) (.seq (.seq (.run [.go (.move (.tmp p0)) p7,
 .go (.bin .geq 179 (.tmp p7) (.con (.int .u64 (.ofNat 65536)))) p8]) (.cond (.tmp p8) (.seq (.run [.go (.move (.tmp p0)) p9,
 .go (.bin .shr 179 (.tmp p9) (.con (.int .u64 (.ofNat 16)))) p10,
 .go (.move (.tmp p10)) p0]) (.run [.go (.move (.tmp p2)) p11,
 .go (.bin .add 3 (.tmp p11) (.con (.int .i64 (.ofNat 16)))) p12,
 .go (.move (.tmp p12)) p2])) .skip)) (.seq (.seq (.run [.go (.move (.tmp p0)) p13,
 .go (.bin .geq 179 (.tmp p13) (.con (.int .u64 (.ofNat 256)))) p14]) (.cond (.tmp p14) (.seq (.run [.go (.move (.tmp p0)) p15,
 .go (.bin .shr 179 (.tmp p15) (.con (.int .u64 (.ofNat 8)))) p16,
 .go (.move (.tmp p16)) p0]) (.run [.go (.move (.tmp p2)) p17,
 .go (.bin .add 3 (.tmp p17) (.con (.int .i64 (.ofNat 8)))) p18,
 .go (.move (.tmp p18)) p2])) .skip)) (.seq (.run [.go (.move (.tmp p2)) p19,
 .go (.move (.tmp p0)) p20,
 .go (.conv .u8 (.tmp p20)) p21,
 .go (.idxSlow 9 (.con (.string ⟨#[0, 1, 2, 2, 3, 3, 3, 3, 4, 4, 4, 4, 4, 4, 4, 4, 5, 5, 5, 5, 5, 5, 5, 5, 5, 5, 5, 5, 5, 5, 5, 5, 6, 6, 6, 6, 6, 6, 6, 6, 6, 6, 6, 6, 6, 6, 6, 6, 6, 6, 6, 6, 6, 6, 6, 6, 6, 6, 6, 6, 6, 6, 6, 6, 7, 7, 7, 7, 7, 7, 7, 7, 7, 7, 7, 7, 7, 7, 7, 7, 7, 7, 7, 7, 7, 7, 7, 7, 7, 7, 7, 7, 7, 7, 7, 7, 7, 7, 7, 7, 7, 7, 7, 7, 7, 7, 7, 7, 7, 7, 7, 7, 7, 7, 7, 7, 7, 7, 7, 7, 7, 7, 7, 7, 7, 7, 7, 7, 8, 8, 8, 8, 8, 8, 8, 8, 8, 8, 8, 8, 8, 8, 8, 8, 8, 8, 8, 8, 8, 8, 8, 8, 8, 8, 8, 8, 8, 8, 8, 8, 8, 8, 8, 8, 8, 8, 8, 8, 8, 8, 8, 8, 8, 8, 8, 8, 8, 8, 8, 8, 8, 8, 8, 8, 8, 8, 8, 8, 8, 8, 8, 8, 8, 8, 8, 8, 8, 8, 8, 8, 8, 8, 8, 8, 8, 8, 8, 8, 8, 8, 8, 8, 8, 8, 8, 8, 8, 8, 8, 8, 8, 8, 8, 8, 8, 8, 8, 8, 8, 8, 8, 8, 8, 8, 8, 8, 8, 8, 8, 8, 8, 8, 8, 8, 8, 8, 8, 8, 8, 8, 8, 8, 8, 8, 8, 8]⟩)) (.tmp p21)) p22,
 .go (.conv .i64 (.tmp p22)) p23,
 .go (.bin .add 3 (.tmp p19) (.tmp p23)) p24,
 .go (.move (.tmp p24)) p2]) .ret)))))
noncomputable def f126 : FFunc := .mk c126 (.n U (.n U (.n U (.n U (.n U .e .e) (.n U .e .e)) (.n U (.n U .e .e) .e)) (.n U (.n U (.n U .e .e) .e) (.n U (.n U .e .e) .e))) (.n U (.n U (.n U (.n U .e .e) (.n U .e .e)) (.n U (.n U .e .e) .e)) (.n U (.n U (.n U .e .e) .e) (.n U (.n U .e .e) .e)))) [p0] [.tmp p2]
theorem e126 : @compF Try.prog (Gl.none Try.prog) Try.f126 1 = f126 := by kernel_rfl
theorem o126 : okF Try.prog Try.f126 = true := by kernel_rfl
theorem g126 : Try.prog.funcs[(126 : Nat)]? = some Try.f126 := by kernel_rfl
noncomputable def c127 : FCode := (.seq (.run [.go (.move (.tmp p1)) p12,
 .go (.move (.tmp p12)) p10]) (.block 0 (.loop (.block 1 (.seq (.run [.go (.move (.tmp p10)) p13,
 .go (.bin .mul 3 (.con (.int .i64 (.ofNat 2))) (.tmp p13)) p14,
 .go (.bin .add 3 (.tmp p14) (.con (.int .i64 (.ofNat 1)))) p15,
 .go (.move (.tmp p15)) p11]) (.seq (.seq (.run [.go (.move (.tmp p11)) p16,
 .go (.move (.tmp p2)) p17,
 .go (.bin .geq 3 (.tmp p16) (.tmp p17)) p18]) (.cond (.tmp p18) (.exit 0) .skip)) (.seq (.seq (.draw 22 [.go (.move (.tmp p11)) p19,
 .go (.bin .add 3 (.tmp p19) (.con (.int .i64 (.ofNat 1)))) p20,
 .go (.move (.tmp p2)) p21,
 .go (.bin .lss 3 (.tmp p20) (.tmp p21)) p22,
 .go (.move (.tmp p22)) p23,
 .gd p23 true (.move (.tmp p4)) p24,
 .gd p23 true (.move (.tmp p0)) p25,
 .gd p23 true (.move (.tmp p3)) p26,
 .gd p23 true (.move (.tmp p11)) p27,
 .gd p23 true (.bin .add 3 (.tmp p26) (.tmp p27)) p28,
 .gd p23 true (.indexAddr none 2 (.tmp p25) (.tmp p28)) p29,
 .gd p23 true (.loadN 2 (.tmp p29)) p30,
 .gd p23 true (.move (.tmp p0)) p31,
 .gd p23 true (.move (.tmp p3)) p32,
 .gd p23 true (.move (.tmp p11)) p33,
 .gd p23 true (.bin .add 3 (.tmp p32) (.tmp p33)) p34,
 .gd p23 true (.bin .add 3 (.tmp p34) (.con (.int .i64 (.ofNat 1)))) p35,
 .gd p23 true (.indexAddr none 2 (.tmp p31) (.tmp p35)) p36,
 .gd p23 true (.loadN 2 (.tmp p36)) p37,
 .gd p23 true (.call (.tmp p24) [(.tmp p30),(.tmp p37)]) p38,
 .gd p23 true (.bin .lss 3 (.tmp p38) (.con (.int .i64 (.ofNat 0)))) p39,
 .go (.pick (.tmp p23) (.tmp p39) (.con (.bool false))) p40] [.ok,.ok,.ok,.ok,.ok,.ok,.ok,.ok,.ok,.ok,.ok,.ok,.ok,.ok,.ok,.ok,.ok,.ok,.ok,.ok,.ok,.ok]) (.cond (.tmp p40) (.run [.go (.move (.tmp p11)) p41,
 .go (.bin .add 3 (.tmp p41) (.con (.int .i64 (.ofNat 1)))) p42,
 .go (.move (.tmp p42)) p11]) .skip)) (.seq (.seq (.draw 16 [.go (.move (.tmp p4)) p43,
 .go (.move (.tmp p0)) p44,
 .go (.move (.tmp p3)) p45,
 .go (.move (.tmp p10)) p46,
 .go (.bin .add 3 (.tmp p45) (.tmp p46)) p47,
 .go (.indexAddr none 2 (.tmp p44) (.tmp p47)) p48,
 .go (.loadN 2 (.tmp p48)) p49,
 .go (.move (.tmp p0)) p50,
 .go (.move (.tmp p3)) p51,
 .go (.move (.tmp p11)) p52,
 .go (.bin .add 3 (.tmp p51) (.tmp p52)) p53,
 .go (.indexAddr none 2 (.tmp p50) (.tmp p53)) p54,
 .go (.loadN 2 (.tmp p54)) p55,
 .go (.call (.tmp p43) [(.tmp p49),(.tmp p55)]) p56,
 .go (.bin .lss 3 (.tmp p56) (.con (.int .i64 (.ofNat 0)))) p57,
 .go (.un .not (.tmp p57)) p58] [.ok,.ok,.ok,.ok,.ok,.ok,.ok,.ok,.ok,.ok,.ok,.ok,.ok,.ok,.ok,.ok]) (.cond (.tmp p58) .ret .skip)) (.seq (.draw 24 [.go (.move (.tmp p0)) p59,
 .go (.move (.tmp p3)) p60,
 .go (.move (.tmp p10)) p61,
 .go (.bin .add 3 (.tmp p60) (.tmp p61)) p62,
 .go (.move (.tmp p0)) p63,
 .go (.move (.tmp p3)) p64,
 .go (.move (.tmp p11)) p65,
 .go (.bin .add 3 (.tmp p64) (.tmp p65)) p66,
 .go (.move (.tmp p0)) p67,
 .go (.move (.tmp p3)) p68,
 .go (.move (.tmp p11)) p69,
 .go (.bin .add 3 (.tmp p68) (.tmp p69)) p70,
 .go (.indexAddr none 2 (.tmp p67) (.tmp p70)) p71,
 .go (.loadN 2 (.tmp p71)) p72,
 .go (.move (.tmp p0)) p73,
 .go (.move (.tmp p3)) p74,
 .go (.move (.tmp p10)) p75,
 .go (.bin .add 3 (.tmp p74) (.tmp p75)) p76,
 .go (.indexAddr none 2 (.tmp p73) (.tmp p76)) p77,
 .go (.loadN 2 (.tmp p77)) p78,
 .go (.indexAddr none 2 (.tmp p59) (.tmp p62)) p79,
 .un (.store 2 (.tmp p79) (.tmp p72)),
 .go (.indexAddr none 2 (.tmp p63) (.tmp p66)) p80,
 .un (.store 2 (.tmp p80) (.tmp p78))] [.ok,.ok,.ok,.ok,.ok,.ok,.ok,.ok,.ok,.ok,.ok,.ok,.ok,.ok,.ok,.ok,.ok,.ok,.ok,.ok,.ok,.ok,.ok,.ok]) (.run [.go (.move (.tmp p11)) p81,
 .go (.move (.tmp p81)) p10]))))))))))
noncomputable def f127 : FFunc := .mk c127 (.n U (.n U (.n U (.n U (.n U (.n U (.n U .e .e) .e) (.n U (.n U .e .e) .e)) (.n U (.n U (.n U .e .e) .e) (.n U .e .e))) (.n U (.n U (.n U (.n U .e .e) .e) (.n U .e .e)) (.n U (.n U (.n U .e .e) .e) (.n U .e .e)))) (.n U (.n U (.n U (.n U (.n U .e .e) .e) (.n U (.n U .e .e) .e)) (.n U (.n U (.n U .e .e) .e) (.n U .e .e))) (.n U (.n U (.n U (.n U .e .e) .e) (.n U .e .e)) (.n U (.n U (.n U .e .e) .e) (.n U .e .e))))) (.n U (.n U (.n U (.n U (.n U (.n U .e .e) .e) (.n U (.n U .e .e) .e)) (.n U (.n U (.n U .e .e) .e) (.n U .e .e))) (.n U (.n U (.n U (.n U .e .e) .e) (.n U .e .e)) (.n U (.n U (.n U .e .e) .e) (.n U .e .e)))) (.n U (.n U (.n U (.n U (.n U .e .e) .e) (.n U .e .e)) (.n U (.n U (.n U .e .e) .e) (.n U .e .e))) (.n U (.n U (.n U (.n U .e .e) .e) (.n U .e .e)) (.n U (.n U (.n U .e .e) .e) (.n U .e .e)))))) [p0,p1,p2,p3,p4] []
theorem e127 : @compF Try.prog (Gl.none Try.prog) Try.f127 5 = f127 := by kernel_rfl
theorem o127 : okF Try.prog Try.f127 = true := by kernel_rfl
theorem g127 : Try.prog.funcs[(127 : Nat)]? = some Try.f127 := by kernel_rfl
noncomputable def c128 : FCode := (.seq (.run [.go (.move (.con (.int .u64 (.ofNat 0)))) p2]) (.seq (.run [.go (.move (.tmp p0)) p3,
 .go (.conv .u64 (.tmp p3)) p4,
 .go (.call (.con (.func (.func 114) ⟨[]⟩ ⟨[]⟩)) [(.tmp p4)]) p5,
 .go (.bin .shl 100 (.con (.int .u64 (.ofNat 1))) (.tmp p5)) p6,
 .go (.move (.tmp p6)) p2]) .ret))
noncomputable def f128 : FFunc := .mk c128 (.n U (.n U (.n U .e .e) (.n U .e .e)) (.n U (.n U .e .e) (.n U .e .e))) [p0] [.tmp p2]
theorem e128 : @compF Try.prog (Gl.none Try.prog) Try.f128 1 = f128 := by kernel_rfl
theorem o128 : okF Try.prog Try.f128 = true := by kernel_rfl
theorem g128 : Try.prog.funcs[(128 : Nat)]? = some Try.f128 := by kernel_rfl
noncomputable def c129 : FCode := (.seq (.run [.go (.move (.con (.int .u64 (.ofNat 0)))) p2]) (.seq (.draw 10 [.go (.move (.tmp p0)) p3,
 .go (.nilCheck (.tmp p3)) p4,
 .go (.load1 (.tmp p4)) p5,
 .go (.move (.tmp p0)) p6,
 .go (.nilCheck (.tmp p6)) p7,
 .go (.load1 (.tmp p7)) p8,
 .go (.bin .shl 180 (.tmp p8) (.con (.int .u64 (.ofNat 13)))) p9,
 .go (.bin .xor 180 (.tmp p5) (.tmp p9)) p10,
 .go (.nilCheck (.tmp p3)) p11,
 .un (.store 1 (.tmp p11) (.tmp p10))] [.ok,.ok,.ok,.ok,.ok,.ok,.ok,.ok,.ok,.ok]) (.seq (.draw 10 [.go (.move (.tmp p0)) p12,
 .go (.nilCheck (.tmp p12)) p13,
 .go (.load1 (.tmp p13)) p14,
 .go (.move (.tmp p0)) p15,
 .go (.nilCheck (.tmp p15)) p16,
 .go (.load1 (.tmp p16)) p17,
 .go (.bin .shr 180 (.tmp p17) (.con (.int .u64 (.ofNat 7)))) p18,
 .go (.bin .xor 180 (.tmp p14) (.tmp p18)) p19,
 .go (.nilCheck (.tmp p12)) p20,
 .un (.store 1 (.tmp p20) (.tmp p19))] [.ok,.ok,.ok,.ok,.ok,.ok,.ok,.ok,.ok,.ok]) (.seq (.draw 10 [.go (.move (.tmp p0)) p21,
 .go (.nilCheck (.tmp p21)) p22,
 .go (.load1 (.tmp p22)) p23,
 .go (.move (.tmp p0)) p24,
 .go (.nilCheck (.tmp p24)) p25,
 .go (.load1 (.tmp p25)) p26,
 .go (.bin .shl 180 (.tmp p26) (.con (.int .u64 (.ofNat 17)))) p27,
 .go (.bin .xor 180 (.tmp p23) (.tmp p27)) p28,
 .go (.nilCheck (.tmp p21)) p29,
 .un (.store 1 (.tmp p29) (.tmp p28))] [.ok,.ok,.ok,.ok,.ok,.ok,.ok,.ok,.ok,.ok]) (.seq (.run [.go (.move (.tmp p0)) p30,
 .go (.nilCheck (.tmp p30)) p31,
 .go (.load1 (.tmp p31)) p32,
 .go (.move (.tmp p32)) p2]) .ret)))))
noncomputable def f129 : FFunc := .mk c129 (.n U (.n U (.n U (.n U (.n U (.n U .e .e) .e) (.n U .e .e)) (.n U (.n U .e .e) (.n U .e .e))) (.n U (.n U (.n U .e .e) (.n U .e .e)) (.n U (.n U .e .e) (.n U .e .e)))) (.n U (.n U (.n U (.n U (.n U .e .e) .e) (.n U .e .e)) (.n U (.n U .e .e) (.n U .e .e))) (.n U (.n U (.n U .e .e) (.n U .e .e)) (.n U (.n U .e .e) (.n U .e .e))))) [p0] [.tmp p2]
theorem e129 : @compF Try.prog (Gl.none Try.prog) Try.f129 1 = f129 := by kernel_rfl
theorem o129 : okF Try.prog Try.f129 = true := by kernel_rfl
theorem g129 : Try.prog.funcs[(129 : Nat)]? = some Try.f129 := by kernel_rfl
noncomputable def c130 : FCode := (.seq (.run [.go (.move (.con (.int .i64 (.ofNat 0)))) p8]) (.seq (.run [.go (.move (.tmp p0)) p9,
 .go (.move (.tmp p1)) p10,
 .go (.bin .sub 3 (.tmp p10) (.con (.int .i64 (.ofNat 1)))) p11,
 .go (.move (.tmp p1)) p12,
 .go (.move (.tmp p1)) p13,
 .go (.bin .add 3 (.tmp p13) (.con (.int .i64 (.ofNat 1)))) p14,
 .go (.move (.tmp p2)) p15,
 .go (.move (.tmp p3)) p16,
 .go (.call (.con (.func (.func 131) ⟨[]⟩ ⟨[]⟩)) [(.tmp p9),(.tmp p11),(.tmp p12),(.tmp p14),(.tmp p15),(.tmp p16)]) p17,
 .go (.move (.tmp p17)) p8]) .ret))
noncomputable def f130 : FFunc := .mk c130 (.n U (.n U (.n U (.n U (.n U .e .e) .e) (.n U .e .e)) (.n U (.n U (.n U .e .e) .e) (.n U .e .e))) (.n U (.n U (.n U (.n U .e .e) .e) (.n U .e .e)) (.n U (.n U .e .e) (.n U .e .e)))) [p0,p1,p2,p3] [.tmp p8]
theorem e130 : @compF Try.prog (Gl.none Try.prog) Try.f130 4 = f130 := by kernel_rfl
theorem o130 : okF Try.prog Try.f130 = true := by kernel_rfl
theorem g130 : Try.prog.funcs[(130 : Nat)]? = some Try.f130 := by kernel_rfl
noncomputable def c131 : FCode := (.seq (.run [.go (.move (.con (.int .i64 (.ofNat 0)))) p12]) (.seq (.run [.go (.move (.tmp p0)) p14,
 .go (.move (.tmp p1)) p15,
 .go (.move (.tmp p2)) p16,
 .go (.move (.tmp p4)) p17,
 .go (.move (.tmp p5)) p18,
 .go (.call (.con (.func (.func 132) ⟨[]⟩ ⟨[]⟩)) [(.tmp p14),(.tmp p15),(.tmp p16),(.tmp p17),(.tmp p18)]) p19,
 .go (.move (.tmp p19)) p13,
 .go (.extract (.tmp p13) 0) p20,
 .go (.extract (.tmp p13) 1) p21,
 .go (.move (.tmp p20)) p1,
 .go (.move (.tmp p21)) p2]) (.seq (.run [.go (.move (.tmp p0)) p23,
 .go (.move (.tmp p2)) p24,
 .go (.move (.tmp p3)) p25,
 .go (.move (.tmp p4)) p26,
 .go (.move (.tmp p5)) p27,
 .go (.call (.con (.func (.func 132) ⟨[]⟩ ⟨[]⟩)) [(.tmp p23),(.tmp p24),(.tmp p25),(.tmp p26),(.tmp p27)]) p28,
 .go (.move (.tmp p28)) p22,
 .go (.extract (.tmp p22) 0) p29,
 .go (.extract (.tmp p22) 1) p30,
 .go (.move (.tmp p29)) p2,
 .go (.move (.tmp p30)) p3]) (.seq (.run [.go (.move (.tmp p0)) p32,
 .go (.move (.tmp p1)) p33,
 .go (.move (.tmp p2)) p34,
 .go (.move (.tmp p4)) p35,
 .go (.move (.tmp p5)) p36,
 .go (.call (.con (.func (.func 132) ⟨[]⟩ ⟨[]⟩)) [(.tmp p32),(.tmp p33),(.tmp p34),(.tmp p35),(.tmp p36)]) p37,
 .go (.move (.tmp p37)) p31,
 .go (.extract (.tmp p31) 0) p38,
 .go (.extract (.tmp p31) 1) p39,
 .go (.move (.tmp p38)) p1,
 .go (.move (.tmp p39)) p2]) (.seq (.run [.go (.move (.tmp p2)) p40,
 .go (.move (.tmp p40)) p12]) .ret)))))
noncomputable def f131 : FFunc := .mk c131 (.n U (.n U (.n U (.n U (.n U (.n U .e .e) .e) (.n U (.n U .e .e) .e)) (.n U (.n U (.n U .e .e) .e) (.n U .e .e))) (.n U (.n U (.n U (.n U .e .e) .e) (.n U .e .e)) (.n U (.n U (.n U .e .e) .e) (.n U .e .e)))) (.n U (.n U (.n U (.n U (.n U .e .e) .e) (.n U (.n U .e .e) .e)) (.n U (.n U (.n U .e .e) .e) (.n U .e .e))) (.n U (.n U (.n U (.n U .e .e) .e) (.n U .e .e)) (.n U (.n U (.n U .e .e) .e) (.n U .e .e))))) [p0,p1,p2,p3,p4,p5] [.tmp p12]
theorem e131 : @compF Try.prog (Gl.none Try.prog) Try.f131 6 = f131 := by kernel_rfl
theorem o131 : okF Try.prog Try.f131 = true := by kernel_rfl
theorem g131 : Try.prog.funcs[(131 : Nat)]? = some Try.f131 := by kernel_rfl
noncomputable def c132 : FCode := (.seq (.run [.go (.move (.con (.int .i64 (.ofNat 0)))) p10,
 .go (.move (.con (.int .i64 (.ofNat 0)))) p11]) (.seq (.seq (.draw 11 [.go (.move (.tmp p4)) p12,
 .go (.move (.tmp p0)) p13,
 .go (.move (.tmp p2)) p14,
 .go (.indexAddr none 2 (.tmp p13) (.tmp p14)) p15,
 .go (.loadN 2 (.tmp p15)) p16,
 .go (.move (.tmp p0)) p17,
 .go (.move (.tmp p1)) p18,
 .go (.indexAddr none 2 (.tmp p17) (.tmp p18)) p19,
 .go (.loadN 2 (.tmp p19)) p20,
 .go (.call (.tmp p12) [(.tmp p16),(.tmp p20)]) p21,
 .go (.bin .lss 3 (.tmp p21) (.con (.int .i64 (.ofNat 0)))) p22] [.ok,.ok,.ok,.ok,.ok,.ok,.ok,.ok,.ok,.ok,.ok]) (.cond (.tmp p22) (.seq (.run [.go (.move (.tmp p3)) p23,
 .go (.nilCheck (.tmp p23)) p24,
 .go (.load1 (.tmp p24)) p25,
 .go (.bin .add 3 (.tmp p25) (.con (.int .i64 (.ofNat 1)))) p26,
 .go (.nilCheck (.tmp p23)) p27,
 .un (.store 1 (.tmp p27) (.tmp p26))]) (.seq (.run [.go (.move (.tmp p2)) p28,
 .go (.move (.tmp p1)) p29,
 .go (.move (.tmp p28)) p10,
 .go (.move (.tmp p29)) p11]) .ret)) .skip)) (.seq (.run [.go (.move (.tmp p1)) p30,
 .go (.move (.tmp p2)) p31,
 .go (.move (.tmp p30)) p10,
 .go (.move (.tmp p31)) p11]) .ret)))
noncomputable def f132 : FFunc := .mk c132 (.n U (.n U (.n U (.n U (.n U (.n U .e .e) .e) (.n U .e .e)) (.n U (.n U .e .e) (.n U .e .e))) (.n U (.n U (.n U .e .e) (.n U .e .e)) (.n U (.n U .e .e) (.n U .e .e)))) (.n U (.n U (.n U (.n U .e .e) (.n U .e .e)) (.n U (.n U .e .e) (.n U .e .e))) (.n U (.n U (.n U .e .e) (.n U .e .e)) (.n U (.n U .e .e) (.n U .e .e))))) [p0,p1,p2,p3,p4] [.tmp p10,.tmp p11]
theorem e132 : @compF Try.prog (Gl.none Try.prog) Try.f132 5 = f132 := by kernel_rfl
theorem o132 : okF Try.prog Try.f132 = true := by kernel_rfl
theorem g132 : Try.prog.funcs[(132 : Nat)]? = some Try.f132 := by kernel_rfl
noncomputable def tbl0 : FT := (.n .bad (.n .bad (.n .bad (.n .bad (.n .bad (.n .bad (.n f63 (.n f127 .e .e) .e) (.n f95 .e .e)) (.n .bad (.n f79 (.n .bad .e .e) .e) (.n f111 .e .e))) (.n f23 (.n .bad (.n .bad (.n .bad .e .e) .e) (.n f103 .e .e)) (.n f55 (.n .bad .e .e) (.n f119 .e .e)))) (.n .bad (.n .bad (.n .bad (.n f67 (.n f131 .e .e) .e) (.n f99 .e .e)) (.n .bad (.n .bad (.n .bad .e .e) .e) (.n f115 .e .e))) (.n .bad (.n .bad (.n .bad (.n .bad .e .e) .e) (.n f107 .e .e)) (.n .bad (.n f91 .e .e) (.n f123 .e .e))))) (.n .bad (.n .bad (.n .bad (.n .bad (.n f65 (.n f129 .e .e) .e) (.n f97 .e .e)) (.n f49 (.n .bad (.n .bad .e .e) .e) (.n f113 .e .e))) (.n .bad (.n .bad (.n f73 (.n .bad .e .e) .e) (.n f105 .e .e)) (.n .bad (.n f89 .e .e) (.n f121 .e .e)))) (.n .bad (.n .bad (.n .bad (.n f69 (.n .bad .e .e) .e) (.n f101 .e .e)) (.n .bad (.n f85 (.n .bad .e .e) .e) (.n f117 .e .e))) (.n .bad (.n .bad (.n f77 (.n .bad .e .e) .e) (.n f109 .e .e)) (.n .bad (.n f93 .e .e) (.n f125 .e .e)))))) (.n .bad (.n .bad (.n .bad (.n .bad (.n .bad (.n f64 (.n f128 .e .e) .e) (.n f96 .e .e)) (.n f48 (.n f80 (.n .bad .e .e) .e) (.n f112 .e .e))) (.n .bad (.n f40 (.n f72 (.n .bad .e .e) .e) (.n f104 .e .e)) (.n .bad (.n .bad .e .e) (.n f120 .e .e)))) (.n .bad (.n .bad (.n f36 (.n f68 (.n f132 .e .e) .e) (.n .bad .e .e)) (.n .bad (.n .bad (.n .bad .e .e) .e) (.n f116 .e .e))) (.n .bad (.n .bad (.n f76 (.n .bad .e .e) .e) (.n f108 .e .e)) (.n .bad (.n f92 .e .e) (.n f124 .e .e))))) (.n .bad (.n .bad (.n .bad (.n f34 (.n f66 (.n f130 .e .e) .e) (.n f98 .e .e)) (.n .bad (.n .bad (.n .bad .e .e) .e) (.n f114 .e .e))) (.n f26 (.n .bad (.n f74 (.n .bad .e .e) .e) (.n f106 .e .e)) (.n .bad (.n f90 .e .e) (.n f122 .e .e)))) (.n .bad (.n .bad (.n f38 (.n .bad (.n .bad .e .e) .e) (.n f102 .e .e)) (.n f54 (.n f86 .e .e) (.n f118 .e .e))) (.n .bad (.n f46 (.n f78 (.n .bad .e .e) .e) (.n f110 .e .e)) (.n f62 (.n f94 .e .e) (.n f126 .e .e)))))))
noncomputable def F0 (n : Nat) : FFunc := look tbl0 n
def orcs0 (_n : Nat) : Option Bool := none
theorem ok0 (O : Orc Try.prog) (h : O.O = orcs0) : @FnOk Try.prog (Gl.none Try.prog) O F0 := @fnOk_of Try.prog (Gl.none Try.prog) O _ (by rw [h]; exact ⟨.inl rfl, ⟨.inl rfl, ⟨.inl rfl, ⟨.inl rfl, ⟨.inl rfl, ⟨.inl rfl, ⟨.inr (.inr ⟨rfl, _, _, g63, o63, e63⟩), ⟨.inr (.inr ⟨rfl, _, _, g127, o127, e127⟩), trivial, trivial⟩, trivial⟩, ⟨.inr (.inr ⟨rfl, _, _, g95, o95, e95⟩), trivial, trivial⟩⟩, ⟨.inl rfl, ⟨.inr (.inr ⟨rfl, _, _, g79, o79, e79⟩), ⟨.inl rfl, trivial, trivial⟩, trivial⟩, ⟨.inr (.inr ⟨rfl, _, _, g111, o111, e111⟩), trivial, trivial⟩⟩⟩, ⟨.inr (.inr ⟨rfl, _, _, g23, o23, e23⟩), ⟨.inl rfl, ⟨.inl rfl, ⟨.inl rfl, trivial, trivial⟩, trivial⟩, ⟨.inr (.inr ⟨rfl, _, _, g103, o103, e103⟩), trivial, trivial⟩⟩, ⟨.inr (.inr ⟨rfl, _, _, g55, o55, e55⟩), ⟨.inl rfl, trivial, trivial⟩, ⟨.inr (.inr ⟨rfl, _, _, g119, o119, e119⟩), trivial, trivial⟩⟩⟩⟩, ⟨.inl rfl, ⟨.inl rfl, ⟨.inl rfl, ⟨.inr (.inr ⟨rfl, _, _, g67, o67, e67⟩), ⟨.inr (.inr ⟨rfl, _, _, g131, o131, e131⟩), trivial, trivial⟩, trivial⟩, ⟨.inr (.inr ⟨rfl, _, _, g99, o99, e99⟩), trivial, trivial⟩⟩, ⟨.inl rfl, ⟨.inl rfl, ⟨.inl rfl, trivial, trivial⟩, trivial⟩, ⟨.inr (.inr ⟨rfl, _, _, g115, o115, e115⟩), trivial, trivial⟩⟩⟩, ⟨.inl rfl, ⟨.inl rfl, ⟨.inl rfl, ⟨.inl rfl, trivial, trivial⟩, trivial⟩, ⟨.inr (.inr ⟨rfl, _, _, g107, o107, e107⟩), trivial, trivial⟩⟩, ⟨.inl rfl, ⟨.inr (.inr ⟨rfl, _, _, g91, o91, e91⟩), trivial, trivial⟩, ⟨.inr (.inr ⟨rfl, _, _, g123, o123, e123⟩), trivial, trivial⟩⟩⟩⟩⟩, ⟨.inl rfl, ⟨.inl rfl, ⟨.inl rfl, ⟨.inl rfl, ⟨.inr (.inr ⟨rfl, _, _, g65, o65, e65⟩), ⟨.inr (.inr ⟨rfl, _, _, g129, o129, e129⟩), trivial, trivial⟩, trivial⟩, ⟨.inr (.inr ⟨rfl, _, _, g97, o97, e97⟩), trivial, trivial⟩⟩, ⟨.inr (.inr ⟨rfl, _, _, g49, o49, e49⟩), ⟨.inl rfl, ⟨.inl rfl, trivial, trivial⟩, trivial⟩, ⟨.inr (.inr ⟨rfl, _, _, g113, o113, e113⟩), trivial, trivial⟩⟩⟩, ⟨.inl rfl, ⟨.inl rfl, ⟨.inr (.inr ⟨rfl, _, _, g73, o73, e73⟩), ⟨.inl rfl, trivial, trivial⟩, trivial⟩, ⟨.inr (.inr ⟨rfl, _, _, g105, o105, e105⟩), trivial, trivial⟩⟩, ⟨.inl rfl, ⟨.inr (.inr ⟨rfl, _, _, g89, o89, e89⟩), trivial, trivial⟩, ⟨.inr (.inr ⟨rfl, _, _, g121, o121, e121⟩), trivial, trivial⟩⟩⟩⟩, ⟨.inl rfl, ⟨.inl rfl, ⟨.inl rfl, ⟨.inr (.inr ⟨rfl, _, _, g69, o69, e69⟩), ⟨.inl rfl, trivial, trivial⟩, trivial⟩, ⟨.inr (.inr ⟨rfl, _, _, g101, o101, e101⟩), trivial, trivial⟩⟩, ⟨.inl rfl, ⟨.inr (.inr ⟨rfl, _, _, g85, o85, e85⟩), ⟨.inl rfl, trivial, trivial⟩, trivial⟩, ⟨.inr (.inr ⟨rfl, _, _, g117, o117, e117⟩), trivial, trivial⟩⟩⟩, ⟨.inl rfl, ⟨.inl rfl, ⟨.inr (.inr ⟨rfl, _, _, g77, o77, e77⟩), ⟨.inl rfl, trivial, trivial⟩, trivial⟩, ⟨.inr (.inr ⟨rfl, _, _, g109, o109, e109⟩), trivial, trivial⟩⟩, ⟨.inl rfl, ⟨.inr (.inr ⟨rfl, _, _, g93, o93, e93⟩), trivial, trivial⟩, ⟨.inr (.inr ⟨rfl, _, _, g125, o125, e125⟩), trivial, trivial⟩⟩⟩⟩⟩⟩, ⟨.inl rfl, ⟨.inl rfl, ⟨.inl rfl, ⟨.inl rfl, ⟨.inl rfl, ⟨.inr (.inr ⟨rfl, _, _, g64, o64, e64⟩), ⟨.inr (.inr ⟨rfl, _, _, g128, o128, e128⟩), trivial, trivial⟩, trivial⟩, ⟨.inr (.inr ⟨rfl, _, _, g96, o96, e96⟩), trivial, trivial⟩⟩, ⟨.inr (.inr ⟨rfl, _, _, g48, o48, e48⟩), ⟨.inr (.inr ⟨rfl, _, _, g80, o80, e80⟩), ⟨.inl rfl, trivial, trivial⟩, trivial⟩, ⟨.inr (.inr ⟨rfl, _, _, g112, o112, e112⟩), trivial, trivial⟩⟩⟩, ⟨.inl rfl, ⟨.inr (.inr ⟨rfl, _, _, g40, o40, e40⟩), ⟨.inr (.inr ⟨rfl, _, _, g72, o72, e72⟩), ⟨.inl rfl, trivial, trivial⟩, trivial⟩, ⟨.inr (.inr ⟨rfl, _, _, g104, o104, e104⟩), trivial, trivial⟩⟩, ⟨.inl rfl, ⟨.inl rfl, trivial, trivial⟩, ⟨.inr (.inr ⟨rfl, _, _, g120, o120, e120⟩), trivial, trivial⟩⟩⟩⟩, ⟨.inl rfl, ⟨.inl rfl, ⟨.inr (.inr ⟨rfl, _, _, g36, o36, e36⟩), ⟨.inr (.inr ⟨rfl, _, _, g68, o68, e68⟩), ⟨.inr (.inr ⟨rfl, _, _, g132, o132, e132⟩), trivial, trivial⟩, trivial⟩, ⟨.inl rfl, trivial, trivial⟩⟩, ⟨.inl rfl, ⟨.inl rfl, ⟨.inl rfl, trivial, trivial⟩, trivial⟩, ⟨.inr (.inr ⟨rfl, _, _, g116, o116, e116⟩), trivial, trivial⟩⟩⟩, ⟨.inl rfl, ⟨.inl rfl, ⟨.inr (.inr ⟨rfl, _, _, g76, o76, e76⟩), ⟨.inl rfl, trivial, trivial⟩, trivial⟩, ⟨.inr (.inr ⟨rfl, _, _, g108, o108, e108⟩), trivial, trivial⟩⟩, ⟨.inl rfl, ⟨.inr (.inr ⟨rfl, _, _, g92, o92, e92⟩), trivial, trivial⟩, ⟨.inr (.inr ⟨rfl, _, _, g124, o124, e124⟩), trivial, trivial⟩⟩⟩⟩⟩, ⟨.inl rfl, ⟨.inl rfl, ⟨.inl rfl, ⟨.inr (.inr ⟨rfl, _, _, g34, o34, e34⟩), ⟨.inr (.inr ⟨rfl, _, _, g66, o66, e66⟩), ⟨.inr (.inr ⟨rfl, _, _, g130, o130, e130⟩), trivial, trivial⟩, trivial⟩, ⟨.inr (.inr ⟨rfl, _, _, g98, o98, e98⟩), trivial, trivial⟩⟩, ⟨.inl rfl, ⟨.inl rfl, ⟨.inl rfl, trivial, trivial⟩, trivial⟩, ⟨.inr (.inr ⟨rfl, _, _, g114, o114, e114⟩), trivial, trivial⟩⟩⟩, ⟨.inr (.inr ⟨rfl, _, _, g26, o26, e26⟩), ⟨.inl rfl, ⟨.inr (.inr ⟨rfl, _, _, g74, o74, e74⟩), ⟨.inl rfl, trivial, trivial⟩, trivial⟩, ⟨.inr (.inr ⟨rfl, _, _, g106, o106, e106⟩), trivial, trivial⟩⟩, ⟨.inl rfl, ⟨.inr (.inr ⟨rfl, _, _, g90, o90, e90⟩), trivial, trivial⟩, ⟨.inr (.inr ⟨rfl, _, _, g122, o122, e122⟩), trivial, trivial⟩⟩⟩⟩, ⟨.inl rfl, ⟨.inl rfl, ⟨.inr (.inr ⟨rfl, _, _, g38, o38, e38⟩), ⟨.inl rfl, ⟨.inl rfl, trivial, trivial⟩, trivial⟩, ⟨.inr (.inr ⟨rfl, _, _, g102, o102, e102⟩), trivial, trivial⟩⟩, ⟨.inr (.inr ⟨rfl, _, _, g54, o54, e54⟩), ⟨.inr (.inr ⟨rfl, _, _, g86, o86, e86⟩), trivial, trivial⟩, ⟨.inr (.inr ⟨rfl, _, _, g118, o118, e118⟩), trivial, trivial⟩⟩⟩, ⟨.inl rfl, ⟨.inr (.inr ⟨rfl, _, _, g46, o46, e46⟩), ⟨.inr (.inr ⟨rfl, _, _, g78, o78, e78⟩), ⟨.inl rfl, trivial, trivial⟩, trivial⟩, ⟨.inr (.inr ⟨rfl, _, _, g110, o110, e110⟩), trivial, trivial⟩⟩, ⟨.inr (.inr ⟨rfl, _, _, g62, o62, e62⟩), ⟨.inr (.inr ⟨rfl, _, _, g94, o94, e94⟩), trivial, trivial⟩, ⟨.inr (.inr ⟨rfl, _, _, g126, o126, e126⟩), trivial, trivial⟩⟩⟩⟩⟩⟩⟩)
noncomputable def tbl1 : FT := (.n .bad (.n .bad (.n .bad (.n .bad (.n .bad (.n .bad (.n f63 (.n f127 .e .e) .e) (.n f95 .e .e)) (.n .bad (.n f79 (.n .bad .e .e) .e) (.n f111 .e .e))) (.n f23 (.n .bad (.n .bad (.n .bad .e .e) .e) (.n f103 .e .e)) (.n f55 (.n .bad .e .e) (.n f119 .e .e)))) (.n .bad (.n .bad (.n .bad (.n f67 (.n f131 .e .e) .e) (.n f99 .e .e)) (.n .bad (.n .bad (.n .bad .e .e) .e) (.n f115 .e .e))) (.n .bad (.n .bad (.n .bad (.n .bad .e .e) .e) (.n f107 .e .e)) (.n .bad (.n f91 .e .e) (.n f123 .e .e))))) (.n .bad (.n .bad (.n .bad (.n .bad (.n f65 (.n f129 .e .e) .e) (.n f97 .e .e)) (.n f49 (.n .bad (.n .bad .e .e) .e) (.n f113 .e .e))) (.n .bad (.n .bad (.n f73 (.n .bad .e .e) .e) (.n f105 .e .e)) (.n .bad (.n f89 .e .e) (.n f121 .e .e)))) (.n .bad (.n .bad (.n .bad (.n f69 (.n .bad .e .e) .e) (.n f101 .e .e)) (.n .bad (.n f85 (.n .bad .e .e) .e) (.n f117 .e .e))) (.n .bad (.n .bad (.n f77 (.n .bad .e .e) .e) (.n f109 .e .e)) (.n .bad (.n f93 .e .e) (.n f125 .e .e)))))) (.n .bad (.n .bad (.n .bad (.n .bad (.n .bad (.n f64 (.n f128 .e .e) .e) (.n f96 .e .e)) (.n f48 (.n f80 (.n .bad .e .e) .e) (.n f112 .e .e))) (.n .bad (.n f40 (.n f72 (.n .bad .e .e) .e) (.n f104 .e .e)) (.n .bad (.n .bad .e .e) (.n f120 .e .e)))) (.n .bad (.n .bad (.n f36 (.n f68 (.n f132 .e .e) .e) (.n .bad .e .e)) (.n .bad (.n .bad (.n .bad .e .e) .e) (.n f116 .e .e))) (.n .bad (.n .bad (.n f76 (.n .bad .e .e) .e) (.n f108 .e .e)) (.n .bad (.n f92 .e .e) (.n f124 .e .e))))) (.n .bad (.n .bad (.n .bad (.n f34 (.n f66 (.n f130 .e .e) .e) (.n f98 .e .e)) (.n .bad (.n .bad (.n .bad .e .e) .e) (.n f114 .e .e))) (.n (.orc true) (.n .bad (.n f74 (.n .bad .e .e) .e) (.n f106 .e .e)) (.n .bad (.n f90 .e .e) (.n f122 .e .e)))) (.n .bad (.n .bad (.n f38 (.n .bad (.n .bad .e .e) .e) (.n f102 .e .e)) (.n f54 (.n f86 .e .e) (.n f118 .e .e))) (.n .bad (.n f46 (.n f78 (.n .bad .e .e) .e) (.n f110 .e .e)) (.n f62 (.n f94 .e .e) (.n f126 .e .e)))))))
noncomputable def F1 (n : Nat) : FFunc := look tbl1 n
def orcs1 (_n : Nat) : Option Bool := if _n = 26 then some true else none
theorem ok1 (O : Orc Try.prog) (h : O.O = orcs1) : @FnOk Try.prog (Gl.none Try.prog) O F1 := @fnOk_of Try.prog (Gl.none Try.prog) O _ (by rw [h]; exact ⟨.inl rfl, ⟨.inl rfl, ⟨.inl rfl, ⟨.inl rfl, ⟨.inl rfl, ⟨.inl rfl, ⟨.inr (.inr ⟨rfl, _, _, g63, o63, e63⟩), ⟨.inr (.inr ⟨rfl, _, _, g127, o127, e127⟩), trivial, trivial⟩, trivial⟩, ⟨.inr (.inr ⟨rfl, _, _, g95, o95, e95⟩), trivial, trivial⟩⟩, ⟨.inl rfl, ⟨.inr (.inr ⟨rfl, _, _, g79, o79, e79⟩), ⟨.inl rfl, trivial, trivial⟩, trivial⟩, ⟨.inr (.inr ⟨rfl, _, _, g111, o111, e111⟩), trivial, trivial⟩⟩⟩, ⟨.inr (.inr ⟨rfl, _, _, g23, o23, e23⟩), ⟨.inl rfl, ⟨.inl rfl, ⟨.inl rfl, trivial, trivial⟩, trivial⟩, ⟨.inr (.inr ⟨rfl, _, _, g103, o103, e103⟩), trivial, trivial⟩⟩, ⟨.inr (.inr ⟨rfl, _, _, g55, o55, e55⟩), ⟨.inl rfl, trivial, trivial⟩, ⟨.inr (.inr ⟨rfl, _, _, g119, o119, e119⟩), trivial, trivial⟩⟩⟩⟩, ⟨.inl rfl, ⟨.inl rfl, ⟨.inl rfl, ⟨.inr (.inr ⟨rfl, _, _, g67, o67, e67⟩), ⟨.inr (.inr ⟨rfl, _, _, g131, o131, e131⟩), trivial, trivial⟩, trivial⟩, ⟨.inr (.inr ⟨rfl, _, _, g99, o99, e99⟩), trivial, trivial⟩⟩, ⟨.inl rfl, ⟨.inl rfl, ⟨.inl rfl, trivial, trivial⟩, trivial⟩, ⟨.inr (.inr ⟨rfl, _, _, g115, o115, e115⟩), trivial, trivial⟩⟩⟩, ⟨.inl rfl, ⟨.inl rfl, ⟨.inl rfl, ⟨.inl rfl, trivial, trivial⟩, trivial⟩, ⟨.inr (.inr ⟨rfl, _, _, g107, o107, e107⟩), trivial, trivial⟩⟩, ⟨.inl rfl, ⟨.inr (.inr ⟨rfl, _, _, g91, o91, e91⟩), trivial, trivial⟩, ⟨.inr (.inr ⟨rfl, _, _, g123, o123, e123⟩), trivial, trivial⟩⟩⟩⟩⟩, ⟨.inl rfl, ⟨.inl rfl, ⟨.inl rfl, ⟨.inl rfl, ⟨.inr (.inr ⟨rfl, _, _, g65, o65, e65⟩), ⟨.inr (.inr ⟨rfl, _, _, g129, o129, e129⟩), trivial, trivial⟩, trivial⟩, ⟨.inr (.inr ⟨rfl, _, _, g97, o97, e97⟩), trivial, trivial⟩⟩, ⟨.inr (.inr ⟨rfl, _, _, g49, o49, e49⟩), ⟨.inl rfl, ⟨.inl rfl, trivial, trivial⟩, trivial⟩, ⟨.inr (.inr ⟨rfl, _, _, g113, o113, e113⟩), trivial, trivial⟩⟩⟩, ⟨.inl rfl, ⟨.inl rfl, ⟨.inr (.inr ⟨rfl, _, _, g73, o73, e73⟩), ⟨.inl rfl, trivial, trivial⟩, trivial⟩, ⟨.inr (.inr ⟨rfl, _, _, g105, o105, e105⟩), trivial, trivial⟩⟩, ⟨.inl rfl, ⟨.inr (.inr ⟨rfl, _, _, g89, o89, e89⟩), trivial, trivial⟩, ⟨.inr (.inr ⟨rfl, _, _, g121, o121, e121⟩), trivial, trivial⟩⟩⟩⟩, ⟨.inl rfl, ⟨.inl rfl, ⟨.inl rfl, ⟨.inr (.inr ⟨rfl, _, _, g69, o69, e69⟩), ⟨.inl rfl, trivial, trivial⟩, trivial⟩, ⟨.inr (.inr ⟨rfl, _, _, g101, o101, e101⟩), trivial, trivial⟩⟩, ⟨.inl rfl, ⟨.inr (.inr ⟨rfl, _, _, g85, o85, e85⟩), ⟨.inl rfl, trivial, trivial⟩, trivial⟩, ⟨.inr (.inr ⟨rfl, _, _, g117, o117, e117⟩), trivial, trivial⟩⟩⟩, ⟨.inl rfl, ⟨.inl rfl, ⟨.inr (.inr ⟨rfl, _, _, g77, o77, e77⟩), ⟨.inl rfl, trivial, trivial⟩, trivial⟩, ⟨.inr (.inr ⟨rfl, _, _, g109, o109, e109⟩), trivial, trivial⟩⟩, ⟨.inl rfl, ⟨.inr (.inr ⟨rfl, _, _, g93, o93, e93⟩), trivial, trivial⟩, ⟨.inr (.inr ⟨rfl, _, _, g125, o125, e125⟩), trivial, trivial⟩⟩⟩⟩⟩⟩, ⟨.inl rfl, ⟨.inl rfl, ⟨.inl rfl, ⟨.inl rfl, ⟨.inl rfl, ⟨.inr (.inr ⟨rfl, _, _, g64, o64, e64⟩), ⟨.inr (.inr ⟨rfl, _, _, g128, o128, e128⟩), trivial, trivial⟩, trivial⟩, ⟨.inr (.inr ⟨rfl, _, _, g96, o96, e96⟩), trivial, trivial⟩⟩, ⟨.inr (.inr ⟨rfl, _, _, g48, o48, e48⟩), ⟨.inr (.inr ⟨rfl, _, _, g80, o80, e80⟩), ⟨.inl rfl, trivial, trivial⟩, trivial⟩, ⟨.inr (.inr ⟨rfl, _, _, g112, o112, e112⟩), trivial, trivial⟩⟩⟩, ⟨.inl rfl, ⟨.inr (.inr ⟨rfl, _, _, g40, o40, e40⟩), ⟨.inr (.inr ⟨rfl, _, _, g72, o72, e72⟩), ⟨.inl rfl, trivial, trivial⟩, trivial⟩, ⟨.inr (.inr ⟨rfl, _, _, g104, o104, e104⟩), trivial, trivial⟩⟩, ⟨.inl rfl, ⟨.inl rfl, trivial, trivial⟩, ⟨.inr (.inr ⟨rfl, _, _, g120, o120, e120⟩), trivial, trivial⟩⟩⟩⟩, ⟨.inl rfl, ⟨.inl rfl, ⟨.inr (.inr ⟨rfl, _, _, g36, o36, e36⟩), ⟨.inr (.inr ⟨rfl, _, _, g68, o68, e68⟩), ⟨.inr (.inr ⟨rfl, _, _, g132, o132, e132⟩), trivial, trivial⟩, trivial⟩, ⟨.inl rfl, trivial, trivial⟩⟩, ⟨.inl rfl, ⟨.inl rfl, ⟨.inl rfl, trivial, trivial⟩, trivial⟩, ⟨.inr (.inr ⟨rfl, _, _, g116, o116, e116⟩), trivial, trivial⟩⟩⟩, ⟨.inl rfl, ⟨.inl rfl, ⟨.inr (.inr ⟨rfl, _, _, g76, o76, e76⟩), ⟨.inl rfl, trivial, trivial⟩, trivial⟩, ⟨.inr (.inr ⟨rfl, _, _, g108, o108, e108⟩), trivial, trivial⟩⟩, ⟨.inl rfl, ⟨.inr (.inr ⟨rfl, _, _, g92, o92, e92⟩), trivial, trivial⟩, ⟨.inr (.inr ⟨rfl, _, _, g124, o124, e124⟩), trivial, trivial⟩⟩⟩⟩⟩, ⟨.inl rfl, ⟨.inl rfl, ⟨.inl rfl, ⟨.inr (.inr ⟨rfl, _, _, g34, o34, e34⟩), ⟨.inr (.inr ⟨rfl, _, _, g66, o66, e66⟩), ⟨.inr (.inr ⟨rfl, _, _, g130, o130, e130⟩), trivial, trivial⟩, trivial⟩, ⟨.inr (.inr ⟨rfl, _, _, g98, o98, e98⟩), trivial, trivial⟩⟩, ⟨.inl rfl, ⟨.inl rfl, ⟨.inl rfl, trivial, trivial⟩, trivial⟩, ⟨.inr (.inr ⟨rfl, _, _, g114, o114, e114⟩), trivial, trivial⟩⟩⟩, ⟨.inr (.inl ⟨_, rfl, rfl⟩), ⟨.inl rfl, ⟨.inr (.inr ⟨rfl, _, _, g74, o74, e74⟩), ⟨.inl rfl, trivial, trivial⟩, trivial⟩, ⟨.inr (.inr ⟨rfl, _, _, g106, o106, e106⟩), trivial, trivial⟩⟩, ⟨.inl rfl, ⟨.inr (.inr ⟨rfl, _, _, g90, o90, e90⟩), trivial, trivial⟩, ⟨.inr (.inr ⟨rfl, _, _, g122, o122, e122⟩), trivial, trivial⟩⟩⟩⟩, ⟨.inl rfl, ⟨.inl rfl, ⟨.inr (.inr ⟨rfl, _, _, g38, o38, e38⟩), ⟨.inl rfl, ⟨.inl rfl, trivial, trivial⟩, trivial⟩, ⟨.inr (.inr ⟨rfl, _, _, g102, o102, e102⟩), trivial, trivial⟩⟩, ⟨.inr (.inr ⟨rfl, _, _, g54, o54, e54⟩), ⟨.inr (.inr ⟨rfl, _, _, g86, o86, e86⟩), trivial, trivial⟩, ⟨.inr (.inr ⟨rfl, _, _, g118, o118, e118⟩), trivial, trivial⟩⟩⟩, ⟨.inl rfl, ⟨.inr (.inr ⟨rfl, _, _, g46, o46, e46⟩), ⟨.inr (.inr ⟨rfl, _, _, g78, o78, e78⟩), ⟨.inl rfl, trivial, trivial⟩, trivial⟩, ⟨.inr (.inr ⟨rfl, _, _, g110, o110, e110⟩), trivial, trivial⟩⟩, ⟨.inr (.inr ⟨rfl, _, _, g62, o62, e62⟩), ⟨.inr (.inr ⟨rfl, _, _, g94, o94, e94⟩), trivial, trivial⟩, ⟨.inr (.inr ⟨rfl, _, _, g126, o126, e126⟩), trivial, trivial⟩⟩⟩⟩⟩⟩⟩)
end Go.Xe.TA
