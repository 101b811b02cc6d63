/- The code of the program's functions, their types resolved, as the machine for the kernel runs it: definitions, and for each that it is the program's own. Conditions: none. -/
import Derived.Test.YtglkpemncjoefaaYk
import Derived.Test.YtglkpemncjoefaaProg
import Derived.KernelRfl
namespace Go.Xe.TM
open Go Go.Xe Go.Proofs
set_option maxRecDepth 1000000
abbrev U : Value := .tuple ⟨[]⟩
def p0 : Pth := .o
def p1 : Pth := .l p0
def p2 : Pth := .r p0
def p3 : Pth := .l p1
def p4 : Pth := .r p1
def p5 : Pth := .l p2
def p6 : Pth := .r p2
def p7 : Pth := .l p3
def p8 : Pth := .r p3
def p9 : Pth := .l p4
def p10 : Pth := .r p4
def p11 : Pth := .l p5
def p12 : Pth := .r p5
def p13 : Pth := .l p6
def p14 : Pth := .r p6
def p15 : Pth := .l p7
def p16 : Pth := .r p7
def p17 : Pth := .l p8
def p18 : Pth := .r p8
def p19 : Pth := .l p9
def p20 : Pth := .r p9
def p21 : Pth := .l p10
def p22 : Pth := .r p10
def p23 : Pth := .l p11
def p24 : Pth := .r p11
def p25 : Pth := .l p12
def p26 : Pth := .r p12
def p27 : Pth := .l p13
def p28 : Pth := .r p13
def p29 : Pth := .l p14
def p30 : Pth := .r p14
def p31 : Pth := .l p15
def p32 : Pth := .r p15
def p33 : Pth := .l p16
def p34 : Pth := .r p16
def p35 : Pth := .l p17
def p36 : Pth := .r p17
def p37 : Pth := .l p18
def p38 : Pth := .r p18
def p39 : Pth := .l p19
def p40 : Pth := .r p19
def p41 : Pth := .l p20
def p42 : Pth := .r p20
def p43 : Pth := .l p21
def p44 : Pth := .r p21
def p45 : Pth := .l p22
def p46 : Pth := .r p22
def p47 : Pth := .l p23
def p48 : Pth := .r p23
def p49 : Pth := .l p24
def p50 : Pth := .r p24
def p51 : Pth := .l p25
def p52 : Pth := .r p25
def p53 : Pth := .l p26
def p54 : Pth := .r p26
def p55 : Pth := .l p27
def p56 : Pth := .r p27
def p57 : Pth := .l p28
def p58 : Pth := .r p28
def p59 : Pth := .l p29
def p60 : Pth := .r p29
def p61 : Pth := .l p30
def p62 : Pth := .r p30
def p63 : Pth := .l p31
def p64 : Pth := .r p31
def p65 : Pth := .l p32
def p66 : Pth := .r p32
def p67 : Pth := .l p33
def p68 : Pth := .r p33
def p69 : Pth := .l p34
def p70 : Pth := .r p34
def p71 : Pth := .l p35
def p72 : Pth := .r p35
def p73 : Pth := .l p36
def p74 : Pth := .r p36
def p75 : Pth := .l p37
def p76 : Pth := .r p37
def p77 : Pth := .l p38
def p78 : Pth := .r p38
def p79 : Pth := .l p39
def p80 : Pth := .r p39
def p81 : Pth := .l p40
def p82 : Pth := .r p40
def p83 : Pth := .l p41
def p84 : Pth := .r p41
def p85 : Pth := .l p42
def p86 : Pth := .r p42
def p87 : Pth := .l p43
def p88 : Pth := .r p43
def p89 : Pth := .l p44
def p90 : Pth := .r p44
def p91 : Pth := .l p45
def p92 : Pth := .r p45
def p93 : Pth := .l p46
def p94 : Pth := .r p46
def p95 : Pth := .l p47
def p96 : Pth := .r p47
def p97 : Pth := .l p48
def p98 : Pth := .r p48
def p99 : Pth := .l p49
def p100 : Pth := .r p49
def p101 : Pth := .l p50
def p102 : Pth := .r p50
def p103 : Pth := .l p51
def p104 : Pth := .r p51
def p105 : Pth := .l p52
def p106 : Pth := .r p52
def p107 : Pth := .l p53
def p108 : Pth := .r p53
def p109 : Pth := .l p54
def p110 : Pth := .r p54
def p111 : Pth := .l p55
def p112 : Pth := .r p55
def p113 : Pth := .l p56
def p114 : Pth := .r p56
def p115 : Pth := .l p57
def p116 : Pth := .r p57
def p117 : Pth := .l p58
def p118 : Pth := .r p58
def p119 : Pth := .l p59
def p120 : Pth := .r p59
def p121 : Pth := .l p60
def p122 : Pth := .r p60
def p123 : Pth := .l p61
def p124 : Pth := .r p61
def p125 : Pth := .l p62
def p126 : Pth := .r p62
def p127 : Pth := .l p63
def p128 : Pth := .r p63
def p129 : Pth := .l p64
def p130 : Pth := .r p64
def p131 : Pth := .l p65
def p132 : Pth := .r p65
def p133 : Pth := .l p66
def p134 : Pth := .r p66
def p135 : Pth := .l p67
def p136 : Pth := .r p67
def p137 : Pth := .l p68
def p138 : Pth := .r p68
def p139 : Pth := .l p69
def p140 : Pth := .r p69
def p141 : Pth := .l p70
def p142 : Pth := .r p70
def p143 : Pth := .l p71
def p144 : Pth := .r p71
def p145 : Pth := .l p72
def p146 : Pth := .r p72
def p147 : Pth := .l p73
def p148 : Pth := .r p73
def p149 : Pth := .l p74
def p150 : Pth := .r p74
def p151 : Pth := .l p75
def p152 : Pth := .r p75
def p153 : Pth := .l p76
def p154 : Pth := .r p76
def p155 : Pth := .l p77
def p156 : Pth := .r p77
def p157 : Pth := .l p78
def p158 : Pth := .r p78
def p159 : Pth := .l p79
def p160 : Pth := .r p79
def p161 : Pth := .l p80
def p162 : Pth := .r p80
def p163 : Pth := .l p81
def p164 : Pth := .r p81
def p165 : Pth := .l p82
def p166 : Pth := .r p82
def p167 : Pth := .l p83
def u0 : TT := .n U .e .e
def u1 : TT := .n U u0 u0
def u2 : TT := .n U u0 .e
def u3 : TT := .n U u1 u2
def u4 : TT := .n U u2 u2
def u5 : TT := .n U u4 u4
def u6 : TT := .n U u5 u5
def u7 : TT := .n U u6 u6
def u8 : TT := .n U u7 u7
def u9 : TT := .n U u2 u0
def u10 : TT := .n U u4 u9
def u11 : TT := .n U u10 u10
def u12 : TT := .n U u1 u1
def u13 : TT := .n U u12 u3
def u14 : TT := .n U u13 u13
def u15 : TT := .n U u9 u9
def u16 : TT := .n U u15 u15
def u17 : TT := .n U u3 u3
def u18 : TT := .n U u3 u4
def u19 : TT := .n U u17 u18
def u20 : TT := .n U u13 u17
def u21 : TT := .n U u20 u20
def u22 : TT := .n U u9 u1
def u23 : TT := .n U u15 u22
def u24 : TT := .n U u23 u23
def u25 : TT := .n U u12 u12
def u26 : TT := .n U u18 u5
def u27 : TT := .n U u5 u10
def u28 : TT := .n U u19 u19
def u29 : TT := .n U u22 u22
def u30 : TT := .n U u22 u12
def u31 : TT := .n U u29 u30
def u32 : TT := .n U u18 u18
def u33 : TT := .n U u10 u15
def u34 : TT := .n U u33 u16
def u35 : TT := .n U u30 u30
def u36 : TT := .n U u11 u33
def u37 : TT := .n U u25 u13
def u38 : TT := .n U u35 u35
def u39 : TT := .n U u30 u25
def u40 : TT := .n U u35 u39
def u41 : TT := .n U u38 u40
def u42 : TT := .n U u32 u32
def u43 : TT := .n U u26 u26
def u44 : TT := .n U u17 u17
def u45 : TT := .n U u20 u44
def u46 : TT := .n U u39 u39
def u47 : TT := .n U u40 u40
def u48 : TT := .n U u33 u33
def u49 : TT := .n U u36 u48
def u50 : TT := .n U u48 u48
def u51 : TT := .n U u49 u50
def u52 : TT := .n U u16 u23
def u53 : TT := .n U u52 u24
def u54 : TT := .n U u23 u29
def z0 : Value := .int .i64 (.ofNat 0)
def a0 : FA := .tmp p0
def a1 : FA := .tmp p1
def a2 : FA := .tmp p2
def a3 : FA := .tmp p3
def a4 : FA := .tmp p4
def a5 : FA := .tmp p5
def a6 : FA := .tmp p6
def a7 : FA := .tmp p7
def a8 : FA := .tmp p8
def a9 : FA := .tmp p9
def a10 : FA := .tmp p10
def a11 : FA := .tmp p11
def a12 : FA := .tmp p12
def a13 : FA := .tmp p13
def a14 : FA := .tmp p14
def a15 : FA := .tmp p15
def a16 : FA := .tmp p16
def a17 : FA := .tmp p17
def a18 : FA := .tmp p18
def a19 : FA := .tmp p19
def a20 : FA := .tmp p20
def a21 : FA := .tmp p21
def a22 : FA := .tmp p22
def a23 : FA := .tmp p23
def a24 : FA := .tmp p24
def a25 : FA := .tmp p25
def a26 : FA := .tmp p26
def a27 : FA := .tmp p27
def a28 : FA := .tmp p28
def a29 : FA := .tmp p29
def a30 : FA := .tmp p30
def a31 : FA := .tmp p31
def a32 : FA := .tmp p32
def a33 : FA := .tmp p33
def a34 : FA := .tmp p34
def a35 : FA := .tmp p35
def a36 : FA := .tmp p36
def a37 : FA := .tmp p37
def a38 : FA := .tmp p38
def a39 : FA := .tmp p39
def a40 : FA := .tmp p40
def a41 : FA := .tmp p41
def a42 : FA := .tmp p42
def a43 : FA := .tmp p43
def a44 : FA := .tmp p44
def a45 : FA := .tmp p45
def a46 : FA := .tmp p46
def a47 : FA := .tmp p47
def a48 : FA := .tmp p48
def a49 : FA := .tmp p49
def a50 : FA := .tmp p50
def a51 : FA := .tmp p51
def a52 : FA := .tmp p52
def a53 : FA := .tmp p53
def a54 : FA := .tmp p54
def a55 : FA := .tmp p55
def a56 : FA := .tmp p56
def a57 : FA := .tmp p57
def a58 : FA := .tmp p58
def a59 : FA := .tmp p59
def a60 : FA := .tmp p60
def a61 : FA := .tmp p61
def a62 : FA := .tmp p62
def a63 : FA := .tmp p63
def a64 : FA := .tmp p64
def a65 : FA := .tmp p65
def a66 : FA := .tmp p66
def a67 : FA := .tmp p67
def a68 : FA := .tmp p68
def a69 : FA := .tmp p69
def a70 : FA := .tmp p70
def a71 : FA := .tmp p71
def a72 : FA := .tmp p72
def a73 : FA := .tmp p73
def a74 : FA := .tmp p74
def a75 : FA := .tmp p75
def a76 : FA := .tmp p76
def a77 : FA := .tmp p77
def a78 : FA := .tmp p78
def a79 : FA := .tmp p79
def a80 : FA := .tmp p80
def a81 : FA := .tmp p81
def a82 : FA := .tmp p82
def a83 : FA := .tmp p83
def a84 : FA := .tmp p84
def a85 : FA := .tmp p85
def a86 : FA := .tmp p86
def a87 : FA := .tmp p87
def a88 : FA := .tmp p88
def a89 : FA := .tmp p89
def a90 : FA := .tmp p90
def a91 : FA := .tmp p91
def a92 : FA := .tmp p92
def a93 : FA := .tmp p93
def a94 : FA := .tmp p94
def a95 : FA := .tmp p95
def a96 : FA := .tmp p96
def a97 : FA := .tmp p97
def a98 : FA := .tmp p98
def a99 : FA := .tmp p99
def a100 : FA := .tmp p100
def a101 : FA := .tmp p101
def a102 : FA := .tmp p102
def a103 : FA := .tmp p103
def a104 : FA := .tmp p104
def a105 : FA := .tmp p105
def a106 : FA := .tmp p106
def a107 : FA := .tmp p107
def a108 : FA := .tmp p108
def a109 : FA := .tmp p109
def a110 : FA := .tmp p110
def a111 : FA := .tmp p111
def a112 : FA := .tmp p112
def a113 : FA := .tmp p113
def a114 : FA := .tmp p114
def a115 : FA := .tmp p115
def a116 : FA := .tmp p116
def a117 : FA := .tmp p117
def a118 : FA := .tmp p118
def a119 : FA := .tmp p119
def a120 : FA := .tmp p120
def a121 : FA := .tmp p121
def a122 : FA := .tmp p122
def a123 : FA := .tmp p123
def a124 : FA := .tmp p124
def a125 : FA := .tmp p125
def a126 : FA := .tmp p126
def a127 : FA := .tmp p127
def a128 : FA := .tmp p128
def a129 : FA := .tmp p129
def a130 : FA := .tmp p130
def a131 : FA := .tmp p131
def a132 : FA := .tmp p132
def a133 : FA := .tmp p133
def a134 : FA := .tmp p134
def a135 : FA := .tmp p135
def a136 : FA := .tmp p136
def a137 : FA := .tmp p137
def a138 : FA := .tmp p138
def a139 : FA := .tmp p139
def a140 : FA := .tmp p140
def a141 : FA := .tmp p141
def a142 : FA := .tmp p142
def a143 : FA := .tmp p143
def a144 : FA := .tmp p144
def a145 : FA := .tmp p145
def a146 : FA := .tmp p146
def a147 : FA := .tmp p147
def a148 : FA := .tmp p148
def a149 : FA := .tmp p149
def a150 : FA := .tmp p150
def a151 : FA := .tmp p151
def a152 : FA := .tmp p152
def a153 : FA := .tmp p153
def a154 : FA := .tmp p154
def a155 : FA := .tmp p155
def a156 : FA := .tmp p156
def a157 : FA := .tmp p157
def a158 : FA := .tmp p158
def a159 : FA := .tmp p159
def a160 : FA := .tmp p160
def a161 : FA := .tmp p161
def a162 : FA := .tmp p162
def a163 : FA := .tmp p163
def a164 : FA := .tmp p164
def a165 : FA := .tmp p165
def a166 : FA := .tmp p166
def a167 : FA := .tmp p167
def ki (n : Nat) : FA := .con (.int .i64 (.ofNat n))
def kf (n : Nat) : FA := .con (.func (.func n) ⟨[]⟩ ⟨[]⟩)
def kz : FA := .con z0
def mv (x : FA) (d : Pth) : FI := .go (.move x) d
noncomputable def c20 : FCode := (.seq (.run [.go (.box 28 a0) p1,
mv kz p2]) (.seq (.seq (.run [.go (.loadN 4 a1) p3,
.go (.call (kf 54) [a3]) p4,
.go (.un .not a4) p5]) (.cond a5 (.seq (.run [mv (ki 1) p2]) .ret) .skip)) (.seq (.run [mv kz p2]) .ret)))
noncomputable def f20 : FFunc := .mk c20 u3 [p0] [.tmp p2]
theorem e20 : @compF Try.prog (Gl.none Try.prog) Try.f20 1 = f20 := by kernel_rfl
theorem o20 : okF Try.prog Try.f20 = true := by kernel_rfl
theorem g20 : Try.prog.funcs[(20 : Nat)]? = some Try.f20 := by kernel_rfl
noncomputable def c24 : FCode := (.seq (.run [mv (.con (.bool false)) p0]) (.seq (.run [.go (.call (kf 45) []) p14,
.go (.call (kf 26) [a14,(ki 3)]) p15,
mv a15 p13,
.go (.extract a13 0) p16,
.go (.extract a13 1) p17,
.go (.alloc 36 [z0,z0]) p1,
.un (.store 2 a1 a16),
mv a17 p2]) (.seq (.run [.go (.call (kf 45) []) p19,
.go (.call (kf 27) [a19,(ki 2),(.con (.bool true))]) p20,
mv a20 p18,
.go (.extract a18 0) p21,
.go (.extract a18 1) p22,
.go (.alloc 36 [z0,z0]) p3,
.un (.store 2 a3 a21),
mv a22 p4]) (.seq (.run [.go (.call (kf 45) []) p24,
.go (.call (kf 31) [a24]) p25,
mv a25 p23,
.go (.extract a23 0) p26,
.go (.extract a23 1) p27,
mv a26 p5,
mv a27 p6]) (.seq (.run [.go (.call (kf 45) []) p29,
.go (.call (kf 46) [(ki 2),(ki 5)]) p30,
.go (.call (kf 39) [a29,a30]) p31,
mv a31 p28,
.go (.extract a28 0) p32,
.go (.extract a28 1) p33,
.go (.alloc 53 [z0,z0]) p7,
.un (.store 2 a7 a32),
mv a33 p8]) (.seq (.run [.go (.call (kf 46) [(ki 1),(ki 2)]) p35,
.go (.call (kf 40) [(ki 10),(ki 5),(ki 2),a35]) p36,
mv a36 p34,
.go (.extract a34 0) p37,
.go (.extract a34 1) p38,
mv a37 p9,
mv a38 p10]) (.seq (.run [.go (.buildSlice 3 3 [z0,z0,z0] [(0,1,(ki 7)),(1,1,kz),(2,1,(ki 2))]) p40,
.go (.call (kf 43) [(ki 5),a40]) p41,
mv a41 p39,
.go (.extract a39 0) p42,
.go (.extract a39 1) p43,
mv a42 p11,
mv a43 p12]) (.seq (.draw 52 [mv a2 p44,
.go (.bin .eql 24 a44 kz) p45,
mv a45 p46,
.gd p46 true (.loadN 2 a1) p47,
.gd p46 true (.call (kf 46) [(ki 72),(ki 143)]) p48,
.gd p46 true (.bin .eql 36 a47 a48) p49,
.go (.pick a46 a49 (.con (.bool false))) p50,
mv a50 p51,
.gd p51 true (.move a4) p52,
.gd p51 true (.bin .eql 24 a52 kz) p53,
.go (.pick a51 a53 (.con (.bool false))) p54,
mv a54 p55,
.gd p55 true (.loadN 2 a3) p56,
.gd p55 true (.call (kf 46) [(ki 19),(ki 33)]) p57,
.gd p55 true (.bin .eql 36 a56 a57) p58,
.go (.pick a55 a58 (.con (.bool false))) p59,
mv a59 p60,
.gd p60 true (.move a6) p61,
.gd p60 true (.bin .eql 24 a61 kz) p62,
.go (.pick a60 a62 (.con (.bool false))) p63,
mv a63 p64,
.gd p64 true (.move a5) p65,
.gd p64 true (.buildSlice 3 1 [z0] [(0,1,(ki 3))]) p66,
.gd p64 true (.call (kf 33) [a65,a66]) p67,
.go (.pick a64 a67 (.con (.bool false))) p68,
mv a68 p69,
.gd p69 true (.move a8) p70,
.gd p69 true (.bin .eql 24 a70 kz) p71,
.go (.pick a69 a71 (.con (.bool false))) p72,
mv a72 p73,
.gd p73 true (.loadN 2 a7) p74,
.gd p73 true (.call (kf 47) [(ki 2),(ki 5)]) p75,
.gd p73 true (.bin .eql 53 a74 a75) p76,
.go (.pick a73 a76 (.con (.bool false))) p77,
mv a77 p78,
.gd p78 true (.move a10) p79,
.gd p78 true (.bin .eql 24 a79 kz) p80,
.go (.pick a78 a80 (.con (.bool false))) p81,
mv a81 p82,
.gd p82 true (.move a9) p83,
.gd p82 true (.bin .eql 3 a83 (ki 4)) p84,
.go (.pick a82 a84 (.con (.bool false))) p85,
mv a85 p86,
.gd p86 true (.move a12) p87,
.gd p86 true (.bin .eql 24 a87 kz) p88,
.go (.pick a86 a88 (.con (.bool false))) p89,
mv a89 p90,
.gd p90 true (.move a11) p91,
.gd p90 true (.buildSlice 3 3 [z0,z0,z0] [(0,1,kz),(1,1,(ki 2)),(2,1,(ki 4))]) p92,
.gd p90 true (.call (kf 33) [a91,a92]) p93,
.go (.pick a90 a93 (.con (.bool false))) p94,
mv a94 p0] [.ok,.ok,.ok,.rd (some (p46,true)) (.loadN 2 a1) (some p47) [5],.ok,.ok,.ok,.ok,.ok,.ok,.ok,.ok,.rd (some (p55,true)) (.loadN 2 a3) (some p56) [14],.ok,.ok,.ok,.ok,.ok,.ok,.ok,.ok,.ok,.ok,.ok,.ok,.ok,.ok,.ok,.ok,.ok,.rd (some (p73,true)) (.loadN 2 a7) (some p74) [32],.ok,.ok,.ok,.ok,.ok,.ok,.ok,.ok,.ok,.ok,.ok,.ok,.ok,.ok,.ok,.ok,.ok,.ok,.ok,.ok,.ok]) .ret))))))))
noncomputable def f24 : FFunc := .mk c24 u8 [] [.tmp p0]
theorem e24 : @compF Try.prog (Gl.none Try.prog) Try.f24 0 = f24 := by kernel_rfl
theorem o24 : okF Try.prog Try.f24 = true := by kernel_rfl
theorem g24 : Try.prog.funcs[(24 : Nat)]? = some Try.f24 := by kernel_rfl
noncomputable def c26 : FCode := (.seq (.run [.go (.box 28 a0) p2,
.go (.alloc 36 [z0,z0]) p4,
mv kz p5]) (.seq (.run [.go (.loadN 4 a2) p9,
mv a1 p10,
.go (.call (kf 56) [a9,a10]) p11,
mv a11 p8,
.go (.extract a8 0) p12,
.go (.extract a8 1) p13,
.go (.alloc 92 [z0,z0,z0,z0,.nilFunc]) p6,
.un (.store 5 a6 a12),
mv a13 p7]) (.seq (.seq (.run [mv a7 p14,
.go (.bin .neq 24 a14 kz) p15]) (.cond a15 (.seq (.run [.go (.build [z0,z0] []) p16,
mv a7 p17,
.un (.store 2 a4 a16),
mv a17 p5]) .ret) .skip)) (.seq (.run [.go (.loadN 5 a6) p18,
mv a1 p19,
.go (.call (kf 57) [a18,a19]) p20,
.un (.store 2 a4 a20),
mv kz p5]) .ret))))
noncomputable def f26 : FFunc := .mk c26 u11 [p0,p1] [.many p4 2,.tmp p5]
theorem e26 : @compF Try.prog (Gl.none Try.prog) Try.f26 2 = f26 := by kernel_rfl
theorem o26 : okF Try.prog Try.f26 = true := by kernel_rfl
theorem g26 : Try.prog.funcs[(26 : Nat)]? = some Try.f26 := by kernel_rfl
noncomputable def c27 : FCode := (.seq (.run [.go (.box 28 a0) p3,
.go (.alloc 36 [z0,z0]) p6,
mv kz p7]) (.seq (.run [.go (.loadN 4 a3) p12,
mv a1 p13,
.go (.call (kf 56) [a12,a13]) p14,
mv a14 p11,
.go (.extract a11 0) p15,
.go (.extract a11 1) p16,
.go (.alloc 92 [z0,z0,z0,z0,.nilFunc]) p8,
.un (.store 5 a8 a15),
mv a16 p9]) (.seq (.seq (.run [mv a9 p17,
.go (.bin .neq 24 a17 kz) p18]) (.cond a18 (.seq (.run [.go (.build [z0,z0] []) p19,
mv a9 p20,
.un (.store 2 a6 a19),
mv a20 p7]) .ret) .skip)) (.seq (.run [.go (.call (kf 58) []) p21,
.go (.alloc 98 [.nilFunc]) p10,
.un (.store 1 a10 a21)]) (.seq (.seq (.run [mv a2 p22]) (.cond a22 (.run [.go (.call (kf 59) []) p23,
.un (.store 1 a10 a23)]) .skip)) (.seq (.draw 7 [.go (.loadN 1 a10) p24,
.go (.loadN 5 a8) p25,
mv a1 p26,
.go (.call (kf 61) [a25,a26]) p27,
.go (.call (kf 60) [a24,a27]) p28,
.un (.store 2 a6 a28),
mv kz p7] [.rd none (.loadN 1 a10) (some p24) [4],.ok,.ok,.ok,.ok,.ok,.ok]) .ret))))))
noncomputable def f27 : FFunc := .mk c27 u14 [p0,p1,p2] [.many p6 2,.tmp p7]
theorem e27 : @compF Try.prog (Gl.none Try.prog) Try.f27 3 = f27 := by kernel_rfl
theorem o27 : okF Try.prog Try.f27 = true := by kernel_rfl
theorem g27 : Try.prog.funcs[(27 : Nat)]? = some Try.f27 := by kernel_rfl
noncomputable def c31 : FCode := (.seq (.run [.go (.box 28 a0) p1,
mv (.con (.slice none 0 0)) p2,
mv kz p3]) (.seq (.seq (.run [.go (.loadN 4 a1) p6,
.go (.call (kf 20) [a6]) p7,
mv a7 p4]) (.seq (.run [mv a4 p8,
.go (.bin .neq 24 a8 kz) p9]) (.cond a9 (.seq (.run [mv a4 p10,
mv (.con (.slice none 0 0)) p2,
mv a10 p3]) .ret) .skip))) (.seq (.draw 5 [.go (.loadN 4 a1) p11,
.go (.call (kf 53) []) p12,
.go (.build [z0,z0,z0,z0,.nilFunc] [(0,4,a11),(4,1,a12)]) p13,
.go (.call (kf 63) [a13]) p14,
mv a14 p5] [.rd none (.loadN 4 a1) (some p11) [2],.ok,.ok,.ok,.ok]) (.seq (.seq (.run [mv a5 p15,
.go (.len 0 a15) p16,
.go (.bin .eql 3 a16 kz) p17]) (.cond a17 (.seq (.run [mv (.con (.slice none 0 0)) p2,
mv (ki 9) p3]) .ret) .skip)) (.seq (.run [mv a5 p18,
mv a18 p2,
mv kz p3]) .ret)))))
noncomputable def f31 : FFunc := .mk c31 u16 [p0] [.tmp p2,.tmp p3]
theorem e31 : @compF Try.prog (Gl.none Try.prog) Try.f31 1 = f31 := by kernel_rfl
theorem o31 : okF Try.prog Try.f31 = true := by kernel_rfl
theorem g31 : Try.prog.funcs[(31 : Nat)]? = some Try.f31 := by kernel_rfl
noncomputable def c33 : FCode := (.seq (.run [mv (.con (.bool false)) p4]) (.seq (.seq (.run [mv a0 p6,
.go (.len 0 a6) p7,
mv a1 p8,
.go (.len 0 a8) p9,
.go (.bin .neq 3 a7 a9) p10]) (.cond a10 (.seq (.run [mv (.con (.bool false)) p4]) .ret) .skip)) (.seq (.seq (.run [mv kz p5]) (.block 0 (.loop (.seq (.seq (.run [mv a5 p11,
mv a0 p12,
.go (.len 0 a12) p13,
.go (.bin .lss 3 a11 a13) p14]) (.cond a14 .skip (.exit 0))) (.seq (.block 1 (.seq (.draw 9 [mv a0 p17,
mv a5 p18,
.go (.indexAddr none 1 a17 a18) p19,
.go (.load1 a19) p20,
mv a1 p21,
mv a5 p22,
.go (.indexAddr none 1 a21 a22) p23,
.go (.load1 a23) p24,
.go (.bin .neq 3 a20 a24) p25] [.ok,.ok,.ok,.ok,.ok,.ok,.ok,.ok,.ok]) (.cond a25 (.seq (.run [mv (.con (.bool false)) p4]) .ret) .skip))) (.run [mv a5 p15,
.go (.bin .add 3 a15 (ki 1)) p16,
mv a16 p5])))))) (.seq (.run [mv (.con (.bool true)) p4]) .ret))))
noncomputable def f33 : FFunc := .mk c33 u19 [p0,p1] [.tmp p4]
theorem e33 : @compF Try.prog (Gl.none Try.prog) Try.f33 2 = f33 := by kernel_rfl
theorem o33 : okF Try.prog Try.f33 = true := by kernel_rfl
theorem g33 : Try.prog.funcs[(33 : Nat)]? = some Try.f33 := by kernel_rfl
noncomputable def c34 : FCode := (.seq (.run [.go (.box 36 a1) p3,
.go (.alloc 53 [z0,z0]) p4,
mv kz p5]) (.seq (.block 0 (.seq (.run [mv a0 p12,
.go (.len 0 a12) p13,
.go (.bin .gtr 3 a13 (ki 6)) p14,
mv a14 p11]) (.cond a11 (.seq (.run [.go (.build [z0,z0] []) p15,
.un (.store 2 a4 a15),
mv (ki 3) p5]) .ret) (.seq (.run [mv a0 p17,
.go (.call (kf 64) [a17,(kf 54)]) p18,
.go (.un .not a18) p19,
mv a19 p16]) (.cond a16 (.seq (.run [.go (.build [z0,z0] []) p20,
.un (.store 2 a4 a20),
mv (ki 1) p5]) .ret) (.seq (.run [.go (.loadN 2 a3) p22,
.go (.call (kf 65) [a22]) p23,
.go (.un .not a23) p24,
mv a24 p21]) (.cond a21 (.seq (.run [.go (.build [z0,z0] []) p25,
.un (.store 2 a4 a25),
mv (ki 2) p5]) .ret) .skip))))))) (.seq (.run [.go (.call (kf 53) []) p26,
mv a26 p6]) (.seq (.run [.go (.alloc 53 [z0,z0]) p7]) (.seq (.seq (.run [mv a0 p27,
.go (.len 0 a27) p28,
mv kz p29]) (.block 1 (.loop (.seq (.run [.go (.bin .lss 3 a29 a28) p30]) (.seq (.cond a30 .skip (.exit 1)) (.seq (.block 2 (.seq (.run [.go (.indexAddr none 4 a27 a29) p31,
.go (.loadN 4 a31) p32,
.go (.alloc 28 [z0,z0,z0,z0]) p9,
.un (.store 4 a9 a32)]) (.seq (.run [.go (.loadN 4 a9) p33,
mv a6 p34,
.go (.build [z0,z0,z0,z0,.nilFunc] [(0,4,a33),(4,1,a34)]) p35,
.go (.loadN 2 a3) p36,
.go (.build [z0,z0,z0,z0,.nilFunc,z0,z0] [(0,5,a35),(5,2,a36)]) p37,
.go (.call (kf 66) [a37]) p38,
mv a38 p10]) (.seq (.seq (.run [mv a10 p39,
.go (.len 0 a39) p40,
.go (.bin .eql 3 a40 kz) p41]) (.cond a41 (.seq (.run [.go (.build [z0,z0] []) p42,
.un (.store 2 a4 a42),
mv (ki 9) p5]) .ret) .skip)) (.seq (.draw 7 [.go (.fieldAddr 0 a7) p43,
.go (.load1 a43) p44,
mv a10 p45,
.go (.call (kf 67) [a45]) p46,
.go (.bin .add 3 a44 a46) p47,
.go (.fieldAddr 0 a7) p48,
.un (.store 1 a48 a47)] [.ok,.rd none (.load1 a43) (some p44) [4],.ok,.ok,.ok,.ok,.ok]) (.draw 7 [.go (.fieldAddr 1 a7) p49,
.go (.load1 a49) p50,
mv a10 p51,
.go (.call (kf 68) [a51]) p52,
.go (.bin .add 3 a50 a52) p53,
.go (.fieldAddr 1 a7) p54,
.un (.store 1 a54 a53)] [.ok,.rd none (.load1 a49) (some p50) [4],.ok,.ok,.ok,.ok,.ok])))))) (.run [.go (.bin .add 3 a29 (ki 1)) p55,
mv a55 p29]))))))) (.seq (.run [.go (.loadN 2 a7) p56,
.un (.store 2 a4 a56),
mv kz p5]) .ret))))))
noncomputable def f34 : FFunc := .mk c34 u21 [p0,p1] [.many p4 2,.tmp p5]
theorem e34 : @compF Try.prog (Gl.none Try.prog) Try.f34 2 = f34 := by kernel_rfl
theorem o34 : okF Try.prog Try.f34 = true := by kernel_rfl
theorem g34 : Try.prog.funcs[(34 : Nat)]? = some Try.f34 := by kernel_rfl
noncomputable def c39 : FCode := (.seq (.run [.go (.box 28 a0) p2,
.go (.box 36 a1) p3,
.go (.alloc 53 [z0,z0]) p4,
mv kz p5]) (.seq (.run [.go (.loadN 4 a2) p6,
.go (.buildSlice 28 1 [z0,z0,z0,z0] [(0,4,a6)]) p7,
.go (.loadN 2 a3) p8,
.go (.call (kf 34) [a7,a8]) p9,
.go (.extract a9 0) p10,
.go (.extract a9 1) p11,
.un (.store 2 a4 a10),
mv a11 p5]) .ret))
noncomputable def f39 : FFunc := .mk c39 u18 [p0,p1] [.many p4 2,.tmp p5]
theorem e39 : @compF Try.prog (Gl.none Try.prog) Try.f39 2 = f39 := by kernel_rfl
theorem o39 : okF Try.prog Try.f39 = true := by kernel_rfl
theorem g39 : Try.prog.funcs[(39 : Nat)]? = some Try.f39 := by kernel_rfl
noncomputable def c40 : FCode := (.seq (.run [.go (.box 36 a3) p7,
mv kz p8,
mv kz p9]) (.seq (.run [mv a1 p11,
.go (.build [z0,z0] [(0,1,kz),(1,1,a11)]) p12,
.go (.alloc 53 [z0,z0]) p10,
.un (.store 2 a10 a12)]) (.seq (.seq (.run [mv a0 p13,
mv a1 p14,
.go (.buildSlice 3 2 [z0,z0] [(0,1,a13),(1,1,a14)]) p15,
.go (.call (kf 70) [a15]) p16,
.go (.un .not a16) p17,
mv a17 p18,
.gd p18 false (.loadN 2 a10) p19,
.gd p18 false (.move a2) p20,
.gd p18 false (.call (kf 52) [a19,a20]) p21,
.gd p18 false (.un .not a21) p22,
.go (.pick a18 (.con (.bool true)) a22) p23,
mv a23 p24,
.gd p24 false (.loadN 2 a7) p25,
.gd p24 false (.call (kf 65) [a25]) p26,
.gd p24 false (.un .not a26) p27,
.go (.pick a24 (.con (.bool true)) a27) p28]) (.cond a28 (.seq (.run [mv kz p8,
mv (ki 2) p9]) .ret) .skip)) (.seq (.run [mv a0 p29,
mv a2 p30,
mv a1 p31,
.go (.build [z0,z0] [(0,1,a30),(1,1,a31)]) p32,
.go (.loadN 2 a7) p33,
.go (.call (kf 71) [a29,a32,a33]) p34,
.go (.extract a34 0) p35,
.go (.extract a34 1) p36,
mv a35 p8,
mv a36 p9]) .ret))))
noncomputable def f40 : FFunc := .mk c40 u24 [p0,p1,p2,p3] [.tmp p8,.tmp p9]
theorem e40 : @compF Try.prog (Gl.none Try.prog) Try.f40 4 = f40 := by kernel_rfl
theorem o40 : okF Try.prog Try.f40 = true := by kernel_rfl
theorem g40 : Try.prog.funcs[(40 : Nat)]? = some Try.f40 := by kernel_rfl
noncomputable def c43 : FCode := (.seq (.run [mv (.con (.slice none 0 0)) p4,
mv kz p5]) (.seq (.seq (.run [mv a0 p11,
.go (.buildSlice 3 1 [z0] [(0,1,a11)]) p12,
.go (.call (kf 70) [a12]) p13,
.go (.un .not a13) p14,
mv a14 p15,
.gd p15 false (.move a1) p16,
.gd p15 false (.len 0 a16) p17,
.gd p15 false (.move a0) p18,
.gd p15 false (.bin .gtr 3 a17 a18) p19,
.go (.pick a15 (.con (.bool true)) a19) p20,
mv a20 p21,
.gd p21 false (.move a1) p22,
.gd p21 false (.call (kf 72) [a22,(kf 73)]) p23,
.gd p21 false (.un .not a23) p24,
.go (.pick a21 (.con (.bool true)) a24) p25]) (.cond a25 (.seq (.run [mv (.con (.slice none 0 0)) p4,
mv (ki 2) p5]) .ret) .skip)) (.seq (.run [mv a0 p26,
.go (.bin .sub 3 a26 (ki 1)) p27,
.go (.build [z0,z0] [(0,1,kz),(1,1,a27)]) p28,
.go (.call (kf 75) [a28]) p29,
.go (.call (kf 74) [a29]) p30,
mv a30 p6]) (.seq (.run [mv (.con (.slice none 0 0)) p7]) (.seq (.seq (.run [mv a1 p31,
.go (.len 0 a31) p32,
mv kz p33]) (.block 0 (.loop (.seq (.run [.go (.bin .lss 3 a33 a32) p34]) (.seq (.cond a34 .skip (.exit 0)) (.seq (.block 1 (.seq (.run [.go (.indexAddr none 1 a31 a33) p35,
.go (.load1 a35) p36,
mv a36 p9]) (.seq (.run [mv a9 p37,
mv a6 p38,
.go (.len 0 a38) p39,
.go (.bin .rem 3 a37 a39) p40,
mv a40 p10]) (.seq (.run [mv a7 p41,
mv a6 p42,
mv a10 p43,
.go (.indexAddr none 1 a42 a43) p44,
.go (.load1 a44) p45,
.go (.buildSlice 3 1 [z0] [(0,1,a45)]) p46,
.go (.append 3 1 8 a41 a46) p47,
mv a47 p7]) (.run [mv a6 p48,
mv a10 p49,
mv a10 p50,
.go (.bin .add 3 a50 (ki 1)) p51,
.go (.call (kf 76) [a48,a49,a51]) p52,
mv a52 p6]))))) (.run [.go (.bin .add 3 a33 (ki 1)) p53,
mv a53 p33]))))))) (.seq (.run [mv a7 p54,
.go (.call (kf 77) [a54]) p55]) (.seq (.run [mv a7 p56,
mv a56 p4,
mv kz p5]) .ret)))))))
noncomputable def f43 : FFunc := .mk c43 u21 [p0,p1] [.tmp p4,.tmp p5]
theorem e43 : @compF Try.prog (Gl.none Try.prog) Try.f43 2 = f43 := by kernel_rfl
theorem o43 : okF Try.prog Try.f43 = true := by kernel_rfl
theorem g43 : Try.prog.funcs[(43 : Nat)]? = some Try.f43 := by kernel_rfl
noncomputable def c45 : FCode := (.seq (.run [.go (.alloc 28 [z0,z0,z0,z0]) p0]) (.seq (.run [.go (.build [z0,z0,z0,z0] [(0,1,(ki 10)),(1,1,(ki 5)),(2,1,(ki 4)),(3,1,(ki 3))]) p1,
.un (.store 4 a0 a1)]) .ret))
noncomputable def f45 : FFunc := .mk c45 u2 [] [.many p0 4]
theorem e45 : @compF Try.prog (Gl.none Try.prog) Try.f45 0 = f45 := by kernel_rfl
theorem o45 : okF Try.prog Try.f45 = true := by kernel_rfl
theorem g45 : Try.prog.funcs[(45 : Nat)]? = some Try.f45 := by kernel_rfl
noncomputable def c46 : FCode := (.seq (.run [.go (.alloc 36 [z0,z0]) p4]) (.seq (.run [mv a0 p5,
mv a1 p6,
.go (.build [z0,z0] [(0,1,a5),(1,1,a6)]) p7,
.un (.store 2 a4 a7)]) .ret))
noncomputable def f46 : FFunc := .mk c46 u22 [p0,p1] [.many p4 2]
theorem e46 : @compF Try.prog (Gl.none Try.prog) Try.f46 2 = f46 := by kernel_rfl
theorem o46 : okF Try.prog Try.f46 = true := by kernel_rfl
theorem g46 : Try.prog.funcs[(46 : Nat)]? = some Try.f46 := by kernel_rfl
noncomputable def c47 : FCode := (.seq (.run [.go (.alloc 53 [z0,z0]) p4]) (.seq (.run [mv a0 p5,
mv a1 p6,
.go (.build [z0,z0] [(0,1,a5),(1,1,a6)]) p7,
.un (.store 2 a4 a7)]) .ret))
noncomputable def f47 : FFunc := .mk c47 u22 [p0,p1] [.many p4 2]
theorem e47 : @compF Try.prog (Gl.none Try.prog) Try.f47 2 = f47 := by kernel_rfl
theorem o47 : okF Try.prog Try.f47 = true := by kernel_rfl
theorem g47 : Try.prog.funcs[(47 : Nat)]? = some Try.f47 := by kernel_rfl
noncomputable def c52 : FCode := (.seq (.run [.go (.box 53 a0) p2,
mv (.con (.bool false)) p4]) (.seq (.run [.go (.fieldAddr 0 a2) p5,
.go (.load1 a5) p6,
mv a1 p7,
.go (.bin .leq 3 a6 a7) p8,
mv a8 p9,
.gd p9 true (.move a1) p10,
.gd p9 true (.fieldAddr 1 a2) p11,
.gd p9 true (.load1 a11) p12,
.gd p9 true (.bin .leq 3 a10 a12) p13,
.go (.pick a9 a13 (.con (.bool false))) p14,
mv a14 p4]) .ret))
noncomputable def f52 : FFunc := .mk c52 u25 [p0,p1] [.tmp p4]
theorem e52 : @compF Try.prog (Gl.none Try.prog) Try.f52 2 = f52 := by kernel_rfl
theorem o52 : okF Try.prog Try.f52 = true := by kernel_rfl
theorem g52 : Try.prog.funcs[(52 : Nat)]? = some Try.f52 := by kernel_rfl
noncomputable def c53 : FCode := (.seq (.run [mv (.con .nilFunc) p0]) (.seq (.run [.go (.makeMap 123) p3,
.go (.alloc 121 [(.map none)]) p1,
.un (.store 1 a1 a3)]) (.seq (.run [.go (.alloc 33 [.nilFunc]) p2]) (.seq (.run [.go (.makeFunc 78 [] [a1,a2]) p4,
.un (.store 1 a2 a4)]) (.seq (.run [.go (.load1 a2) p5,
mv a5 p0]) .ret)))))
noncomputable def f53 : FFunc := .mk c53 u3 [] [.tmp p0]
theorem e53 : @compF Try.prog (Gl.none Try.prog) Try.f53 0 = f53 := by kernel_rfl
theorem o53 : okF Try.prog Try.f53 = true := by kernel_rfl
theorem g53 : Try.prog.funcs[(53 : Nat)]? = some Try.f53 := by kernel_rfl
noncomputable def c54 : FCode := (.seq (.run [.go (.box 28 a0) p1,
mv (.con (.bool false)) p2]) (.seq (.draw 10 [.go (.fieldAddr 0 a1) p5,
.go (.load1 a5) p6,
.go (.build [z0,z0] [(0,1,kz),(1,1,a6)]) p7,
.go (.fieldAddr 2 a1) p8,
.go (.load1 a8) p9,
.go (.build [z0,z0] [(0,1,kz),(1,1,a9)]) p10,
.go (.alloc 53 [z0,z0]) p3,
.go (.alloc 53 [z0,z0]) p4,
.un (.store 2 a3 a7),
.un (.store 2 a4 a10)] [.ok,.ok,.ok,.ok,.rd none (.load1 a8) (some p9) [9],.ok,.nw none (some p3) 6 true,.nw none (some p4) 7 true,.ok,.ok]) (.seq (.run [.go (.fieldAddr 0 a1) p11,
.go (.load1 a11) p12,
.go (.fieldAddr 1 a1) p13,
.go (.load1 a13) p14,
.go (.buildSlice 3 2 [z0,z0] [(0,1,a12),(1,1,a14)]) p15,
.go (.call (kf 70) [a15]) p16,
mv a16 p17,
.gd p17 true (.loadN 2 a3) p18,
.gd p17 true (.fieldAddr 2 a1) p19,
.gd p17 true (.load1 a19) p20,
.gd p17 true (.call (kf 52) [a18,a20]) p21,
.go (.pick a17 a21 (.con (.bool false))) p22,
mv a22 p23,
.gd p23 true (.loadN 2 a4) p24,
.gd p23 true (.fieldAddr 3 a1) p25,
.gd p23 true (.load1 a25) p26,
.gd p23 true (.call (kf 52) [a24,a26]) p27,
.go (.pick a23 a27 (.con (.bool false))) p28,
mv a28 p2]) .ret)))
noncomputable def f54 : FFunc := .mk c54 u14 [p0] [.tmp p2]
theorem e54 : @compF Try.prog (Gl.none Try.prog) Try.f54 1 = f54 := by kernel_rfl
theorem o54 : okF Try.prog Try.f54 = true := by kernel_rfl
theorem g54 : Try.prog.funcs[(54 : Nat)]? = some Try.f54 := by kernel_rfl
noncomputable def c56 : FCode := (.seq (.run [.go (.box 28 a0) p2,
.go (.alloc 92 [z0,z0,z0,z0,.nilFunc]) p4,
mv kz p5]) (.seq (.seq (.run [.go (.loadN 4 a2) p8,
.go (.call (kf 20) [a8]) p9,
mv a9 p6]) (.seq (.run [mv a6 p10,
.go (.bin .neq 24 a10 kz) p11]) (.cond a11 (.seq (.run [.go (.build [z0,z0,z0,z0,.nilFunc] []) p12,
mv a6 p13,
.un (.store 5 a4 a12),
mv a13 p5]) .ret) .skip))) (.seq (.draw 5 [.go (.loadN 4 a2) p14,
.go (.call (kf 53) []) p15,
.go (.build [z0,z0,z0,z0,.nilFunc] [(0,4,a14),(4,1,a15)]) p16,
.go (.alloc 92 [z0,z0,z0,z0,.nilFunc]) p7,
.un (.store 5 a7 a16)] [.rd none (.loadN 4 a2) (some p14) [2],.ok,.ok,.nw none (some p7) 3 true,.ok]) (.seq (.seq (.run [.go (.loadN 5 a7) p17,
.go (.call (kf 79) [a17]) p18,
mv a1 p19,
.go (.call (kf 52) [a18,a19]) p20,
.go (.un .not a20) p21]) (.cond a21 (.seq (.run [.go (.build [z0,z0,z0,z0,.nilFunc] []) p22,
.un (.store 5 a4 a22),
mv (ki 2) p5]) .ret) .skip)) (.seq (.run [.go (.loadN 5 a7) p23,
.un (.store 5 a4 a23),
mv kz p5]) .ret)))))
noncomputable def f56 : FFunc := .mk c56 u26 [p0,p1] [.many p4 5,.tmp p5]
theorem e56 : @compF Try.prog (Gl.none Try.prog) Try.f56 2 = f56 := by kernel_rfl
theorem o56 : okF Try.prog Try.f56 = true := by kernel_rfl
theorem g56 : Try.prog.funcs[(56 : Nat)]? = some Try.f56 := by kernel_rfl
noncomputable def c57 : FCode := (.seq (.run [.go (.box 92 a0) p2,
.go (.alloc 36 [z0,z0]) p4]) (.seq (.run [.go (.loadN 5 a2) p6,
mv a1 p7,
.go (.call (kf 61) [a6,a7]) p8,
mv a8 p5]) (.seq (.draw 14 [mv a5 p9,
.go (.fieldAddr 0 a2) p10,
.go (.fieldAddr 3 a10) p11,
.go (.load1 a11) p12,
.go (.nilCheck a9) p13,
.go (.fieldAddr 4 a13) p14,
.go (.indexAddr (some 51) 1 a14 a12) p15,
.go (.load1 a15) p16,
mv a5 p17,
.go (.nilCheck a17) p18,
.go (.fieldAddr 55 a18) p19,
.go (.load1 a19) p20,
.go (.call (kf 80) [a16,a20]) p21,
.un (.store 2 a4 a21)] [.ok,.ok,.ok,.ok,.ok,.ok,.ok,.ok,.ok,.ok,.ok,.ok,.ok,.ok]) .ret)))
noncomputable def f57 : FFunc := .mk c57 u27 [p0,p1] [.many p4 2]
theorem e57 : @compF Try.prog (Gl.none Try.prog) Try.f57 2 = f57 := by kernel_rfl
theorem o57 : okF Try.prog Try.f57 = true := by kernel_rfl
theorem g57 : Try.prog.funcs[(57 : Nat)]? = some Try.f57 := by kernel_rfl
noncomputable def c58 : FCode := (.seq (.run [.go (.alloc 98 [.nilFunc]) p0]) (.seq (.run [.go (.build [.nilFunc] [(0,1,(kf 81))]) p1,
.un (.store 1 a0 a1)]) .ret))
noncomputable def f58 : FFunc := .mk c58 u2 [] [.many p0 1]
theorem e58 : @compF Try.prog (Gl.none Try.prog) Try.f58 0 = f58 := by kernel_rfl
theorem o58 : okF Try.prog Try.f58 = true := by kernel_rfl
theorem g58 : Try.prog.funcs[(58 : Nat)]? = some Try.f58 := by kernel_rfl
noncomputable def c59 : FCode := (.seq (.run [.go (.alloc 98 [.nilFunc]) p0]) (.seq (.run [.go (.build [.nilFunc] [(0,1,(kf 82))]) p1,
.un (.store 1 a0 a1)]) .ret))
noncomputable def f59 : FFunc := .mk c59 u2 [] [.many p0 1]
theorem e59 : @compF Try.prog (Gl.none Try.prog) Try.f59 0 = f59 := by kernel_rfl
theorem o59 : okF Try.prog Try.f59 = true := by kernel_rfl
theorem g59 : Try.prog.funcs[(59 : Nat)]? = some Try.f59 := by kernel_rfl
noncomputable def c60 : FCode := (.seq (.run [.go (.box 98 a0) p2,
.go (.alloc 36 [z0,z0]) p4]) (.seq (.draw 10 [.go (.fieldAddr 0 a2) p5,
.go (.load1 a5) p6,
mv a1 p7,
.go (.call a6 [a7]) p8,
mv a1 p9,
.go (.nilCheck a9) p10,
.go (.fieldAddr 55 a10) p11,
.go (.load1 a11) p12,
.go (.call (kf 80) [a8,a12]) p13,
.un (.store 2 a4 a13)] [.ok,.ok,.ok,.ok,.ok,.ok,.ok,.rd none (.load1 a11) (some p12) [0],.ok,.ok]) .ret))
noncomputable def f60 : FFunc := .mk c60 u13 [p0,p1] [.many p4 2]
theorem e60 : @compF Try.prog (Gl.none Try.prog) Try.f60 2 = f60 := by kernel_rfl
theorem o60 : okF Try.prog Try.f60 = true := by kernel_rfl
theorem g60 : Try.prog.funcs[(60 : Nat)]? = some Try.f60 := by kernel_rfl
noncomputable def c61 : FCode := (.seq (.run [.go (.box 92 a0) p2,
.go (.box 3 a1) p3,
mv (.con (.pointer none)) p4]) (.seq (.draw 17 [.go (.fieldAddr 0 a2) p8,
.go (.loadN 4 a8) p9,
.go (.fieldAddr 4 a2) p10,
.go (.load1 a10) p11,
.go (.fieldAddr 0 a2) p12,
.go (.fieldAddr 0 a12) p13,
.go (.load1 a13) p14,
.go (.load1 a3) p15,
.go (.bin .add 3 a14 a15) p16,
.go (.fieldAddr 0 a2) p17,
.go (.fieldAddr 2 a17) p18,
.go (.load1 a18) p19,
.go (.call a11 [a16,a19]) p20,
.go (.build [z0,z0,z0,z0,z0,z0,z0,z0,z0,z0,z0,z0,z0,z0,z0,z0,z0,z0,z0,z0,z0,z0,z0,z0,z0,z0,z0,z0,z0,z0,z0,z0,z0,z0,z0,z0,z0,z0,z0,z0,z0,z0,z0,z0,z0,z0,z0,z0,z0,z0,z0,z0,z0,z0,z0,z0] [(0,4,a9),(55,1,a20)]) p21,
.go (.box 127 a21) p22,
.go (.alloc 101 [(.pointer none)]) p5,
.un (.store 1 a5 a22)] [.ok,.rd none (.loadN 4 a8) (some p9) [13],.ok,.ok,.ok,.ok,.ok,.ok,.ok,.ok,.ok,.ok,.ok,.ok,.nw none (some p22) 14 true,.nw none (some p5) 15 true,.ok]) (.seq (.run [.go (.fieldAddr 0 a2) p23,
.go (.fieldAddr 2 a23) p24,
.go (.load1 a24) p25,
.go (.build [z0,z0] [(0,1,kz),(1,1,a25)]) p26,
.go (.alloc 53 [z0,z0]) p6,
.un (.store 2 a6 a26)]) (.seq (.seq (.run [.go (.loadN 2 a6) p27,
.go (.call (kf 75) [a27]) p28]) (.block 0 (.rangeFunc a28 [p29] (rfA Try.f61 0) (rfB Try.f61 0) (.run [mv a29 p7]) (.block 1 (.draw 23 [.go (.load1 a5) p30,
mv a7 p31,
.go (.fieldAddr 4 a2) p32,
.go (.load1 a32) p33,
.go (.fieldAddr 0 a2) p34,
.go (.fieldAddr 0 a34) p35,
.go (.load1 a35) p36,
mv a7 p37,
.go (.call a33 [a36,a37]) p38,
.go (.fieldAddr 4 a2) p39,
.go (.load1 a39) p40,
.go (.load1 a3) p41,
.go (.fieldAddr 0 a2) p42,
.go (.fieldAddr 2 a42) p43,
.go (.load1 a43) p44,
mv a7 p45,
.go (.bin .sub 3 a44 a45) p46,
.go (.call a40 [a41,a46]) p47,
.go (.bin .mul 3 a38 a47) p48,
.go (.nilCheck a30) p49,
.go (.fieldAddr 4 a49) p50,
.go (.indexAddr (some 51) 1 a50 a31) p51,
.un (.store 1 a51 a48)] [.rd none (.load1 a5) (some p30) [9,18],.ok,.ok,.ok,.ok,.ok,.ok,.ok,.ok,.ok,.rd none (.load1 a39) (some p40) [0],.rd none (.load1 a3) (some p41) [0],.ok,.ok,.rd none (.load1 a43) (some p44) [0],.ok,.ok,.ok,.ok,.ok,.ok,.ok,.ok]))))) (.seq (.run [.go (.load1 a5) p52,
mv a52 p4]) .ret)))))
noncomputable def f61 : FFunc := .mk c61 u28 [p0,p1] [.tmp p4]
theorem e61 : @compF Try.prog (Gl.none Try.prog) Try.f61 2 = f61 := by kernel_rfl
theorem o61 : okF Try.prog Try.f61 = true := by kernel_rfl
theorem g61 : Try.prog.funcs[(61 : Nat)]? = some Try.f61 := by kernel_rfl
noncomputable def c63 : FCode := (.seq (.run [.go (.box 92 a0) p1,
mv (.con (.slice none 0 0)) p2]) (.seq (.run [.go (.alloc 45 [(.slice none 0 0)]) p3]) (.seq (.run [.go (.build [z0,z0] [(0,1,kz),(1,1,(ki 1))]) p8,
.go (.alloc 36 [z0,z0]) p4,
.un (.store 2 a4 a8)]) (.seq (.seq (.run [.go (.loadN 5 a1) p9,
.go (.call (kf 79) [a9]) p10,
.go (.call (kf 75) [a10]) p11]) (.block 0 (.rangeFunc a11 [p12] (rfA Try.f63 0) (rfB Try.f63 0) (.run [mv a12 p5]) (.block 1 (.seq (.run [.go (.loadN 5 a1) p13,
mv a5 p14,
.go (.call (kf 57) [a13,a14]) p15,
.go (.alloc 36 [z0,z0]) p6,
.un (.store 2 a6 a15)]) (.seq (.run [.go (.loadN 2 a6) p16,
.go (.loadN 2 a4) p17,
.go (.call (kf 83) [a16,a17]) p18,
mv a18 p7]) (.seq (.seq (.run [mv a7 p19,
.go (.bin .gtr 3 a19 kz) p20]) (.cond a20 (.run [.go (.loadN 2 a6) p21,
.un (.store 2 a4 a21),
.un (.store 1 a3 (.con (.slice none 0 0)))]) .skip)) (.seq (.run [mv a7 p22,
.go (.bin .geq 3 a22 kz) p23,
mv a23 p24,
.gd p24 true (.fieldAddr 0 a6) p25,
.gd p24 true (.load1 a25) p26,
.gd p24 true (.bin .gtr 3 a26 kz) p27,
.go (.pick a24 a27 (.con (.bool false))) p28]) (.cond a28 (.run [.go (.load1 a3) p29,
mv a5 p30,
.go (.buildSlice 3 1 [z0] [(0,1,a30)]) p31,
.go (.append 3 1 8 a29 a31) p32,
.un (.store 1 a3 a32)]) .skip))))))))) (.seq (.run [.go (.load1 a3) p33,
mv a33 p2]) .ret)))))
noncomputable def f63 : FFunc := .mk c63 u31 [p0] [.tmp p2]
theorem e63 : @compF Try.prog (Gl.none Try.prog) Try.f63 1 = f63 := by kernel_rfl
theorem o63 : okF Try.prog Try.f63 = true := by kernel_rfl
theorem g63 : Try.prog.funcs[(63 : Nat)]? = some Try.f63 := by kernel_rfl
noncomputable def c64 : FCode := (.seq (.run [mv (.con (.bool false)) p4]) (.seq (.seq (.run [mv a0 p7,
.go (.len 0 a7) p8,
mv kz p9]) (.block 0 (.loop (.seq (.run [.go (.bin .lss 3 a9 a8) p10]) (.seq (.cond a10 .skip (.exit 0)) (.seq (.block 1 (.seq (.run [.go (.indexAddr none 4 a7 a9) p11,
.go (.loadN 4 a11) p12,
.go (.alloc 28 [z0,z0,z0,z0]) p6,
.un (.store 4 a6 a12)]) (.seq (.run [mv a1 p13,
.go (.loadN 4 a6) p14,
.go (.call a13 [a14]) p15,
.go (.un .not a15) p16]) (.cond a16 (.seq (.run [mv (.con (.bool false)) p4]) .ret) .skip)))) (.run [.go (.bin .add 3 a9 (ki 1)) p17,
mv a17 p9]))))))) (.seq (.run [mv (.con (.bool true)) p4]) .ret)))
noncomputable def f64 : FFunc := .mk c64 u23 [p0,p1] [.tmp p4]
theorem e64 : @compF Try.prog (Gl.none Try.prog) Try.f64 2 = f64 := by kernel_rfl
theorem o64 : okF Try.prog Try.f64 = true := by kernel_rfl
theorem g64 : Try.prog.funcs[(64 : Nat)]? = some Try.f64 := by kernel_rfl
noncomputable def c65 : FCode := (.seq (.run [.go (.box 36 a0) p1,
mv (.con (.bool false)) p2]) (.seq (.draw 8 [.go (.build [z0,z0] [(0,1,(ki 1)),(1,1,(ki 1000))]) p5,
.go (.fieldAddr 1 a1) p6,
.go (.load1 a6) p7,
.go (.build [z0,z0] [(0,1,kz),(1,1,a7)]) p8,
.go (.alloc 53 [z0,z0]) p3,
.go (.alloc 53 [z0,z0]) p4,
.un (.store 2 a3 a5),
.un (.store 2 a4 a8)] [.ok,.ok,.rd none (.load1 a6) (some p7) [7],.ok,.nw none (some p3) 4 true,.nw none (some p4) 5 true,.ok,.ok]) (.seq (.run [.go (.loadN 2 a3) p9,
.go (.fieldAddr 1 a1) p10,
.go (.load1 a10) p11,
.go (.call (kf 52) [a9,a11]) p12,
mv a12 p13,
.gd p13 true (.loadN 2 a4) p14,
.gd p13 true (.fieldAddr 0 a1) p15,
.gd p13 true (.load1 a15) p16,
.gd p13 true (.call (kf 52) [a14,a16]) p17,
.go (.pick a13 a17 (.con (.bool false))) p18,
mv a18 p2]) .ret)))
noncomputable def f65 : FFunc := .mk c65 u16 [p0] [.tmp p2]
theorem e65 : @compF Try.prog (Gl.none Try.prog) Try.f65 1 = f65 := by kernel_rfl
theorem o65 : okF Try.prog Try.f65 = true := by kernel_rfl
theorem g65 : Try.prog.funcs[(65 : Nat)]? = some Try.f65 := by kernel_rfl
noncomputable def c66 : FCode := (.seq (.run [.go (.box 108 a0) p1,
mv (.con (.slice none 0 0)) p2]) (.seq (.draw 9 [.go (.fieldAddr 0 a1) p3,
.go (.loadN 5 a3) p4,
.go (.call (kf 79) [a4]) p5,
.go (.call (kf 75) [a5]) p6,
.go (.call (kf 74) [a6]) p7,
.go (.loadN 7 a1) p8,
.go (.makeFunc 85 [a8] []) p9,
.go (.call (kf 84) [a7,a9]) p10,
mv a10 p2] [.ok,.ok,.ok,.ok,.ok,.rd none (.loadN 7 a1) (some p8) [0,3,4],.ok,.ok,.ok]) .ret))
noncomputable def f66 : FFunc := .mk c66 u5 [p0] [.tmp p2]
theorem e66 : @compF Try.prog (Gl.none Try.prog) Try.f66 1 = f66 := by kernel_rfl
theorem o66 : okF Try.prog Try.f66 = true := by kernel_rfl
theorem g66 : Try.prog.funcs[(66 : Nat)]? = some Try.f66 := by kernel_rfl
noncomputable def c67 : FCode := (.seq (.run [mv kz p2]) (.seq (.seq (.run [mv a0 p5,
.go (.len 0 a5) p6,
.go (.bin .lss 3 a6 (ki 1)) p7]) (.cond a7 (.run [.go (.call (.con (.chan none)) []) p8,
.un (.call (.con (.chan none)) [])]) .skip)) (.seq (.run [mv a0 p9,
.go (.indexAddr none 1 a9 kz) p10,
.go (.load1 a10) p11,
mv a11 p3]) (.seq (.seq (.run [mv (ki 1) p4]) (.block 0 (.loop (.seq (.seq (.run [mv a4 p12,
mv a0 p13,
.go (.len 0 a13) p14,
.go (.bin .lss 3 a12 a14) p15]) (.cond a15 .skip (.exit 0))) (.seq (.block 1 (.run [mv a3 p18,
mv a0 p19,
mv a4 p20,
.go (.indexAddr none 1 a19 a20) p21,
.go (.load1 a21) p22,
.go (.mm false [a18,a22]) p23,
mv a23 p3])) (.run [mv a4 p16,
.go (.bin .add 3 a16 (ki 1)) p17,
mv a17 p4])))))) (.seq (.run [mv a3 p24,
mv a24 p2]) .ret)))))
noncomputable def f67 : FFunc := .mk c67 u32 [p0] [.tmp p2]
theorem e67 : @compF Try.prog (Gl.none Try.prog) Try.f67 1 = f67 := by kernel_rfl
theorem o67 : okF Try.prog Try.f67 = true := by kernel_rfl
theorem g67 : Try.prog.funcs[(67 : Nat)]? = some Try.f67 := by kernel_rfl
noncomputable def c68 : FCode := (.seq (.run [mv kz p2]) (.seq (.seq (.run [mv a0 p5,
.go (.len 0 a5) p6,
.go (.bin .lss 3 a6 (ki 1)) p7]) (.cond a7 (.run [.go (.call (.con (.chan none)) []) p8,
.un (.call (.con (.chan none)) [])]) .skip)) (.seq (.run [mv a0 p9,
.go (.indexAddr none 1 a9 kz) p10,
.go (.load1 a10) p11,
mv a11 p3]) (.seq (.seq (.run [mv (ki 1) p4]) (.block 0 (.loop (.seq (.seq (.run [mv a4 p12,
mv a0 p13,
.go (.len 0 a13) p14,
.go (.bin .lss 3 a12 a14) p15]) (.cond a15 .skip (.exit 0))) (.seq (.block 1 (.run [mv a3 p18,
mv a0 p19,
mv a4 p20,
.go (.indexAddr none 1 a19 a20) p21,
.go (.load1 a21) p22,
.go (.mm true [a18,a22]) p23,
mv a23 p3])) (.run [mv a4 p16,
.go (.bin .add 3 a16 (ki 1)) p17,
mv a17 p4])))))) (.seq (.run [mv a3 p24,
mv a24 p2]) .ret)))))
noncomputable def f68 : FFunc := .mk c68 u32 [p0] [.tmp p2]
theorem e68 : @compF Try.prog (Gl.none Try.prog) Try.f68 1 = f68 := by kernel_rfl
theorem o68 : okF Try.prog Try.f68 = true := by kernel_rfl
theorem g68 : Try.prog.funcs[(68 : Nat)]? = some Try.f68 := by kernel_rfl
noncomputable def c70 : FCode := (.seq (.run [mv (.con (.bool false)) p2]) (.seq (.run [.go (.build [z0,z0] [(0,1,kz),(1,1,(ki 50))]) p4,
.go (.alloc 53 [z0,z0]) p3,
.un (.store 2 a3 a4)]) (.seq (.draw 11 [mv a0 p5,
.go (.loadN 2 a3) p6,
.go (.makeFunc 52 [a6] []) p7,
.go (.call (kf 72) [a5,a7]) p8,
mv a8 p9,
.gd p9 true (.loadN 2 a3) p10,
.gd p9 true (.move a0) p11,
.gd p9 true (.call (kf 86) [a11]) p12,
.gd p9 true (.call (kf 52) [a10,a12]) p13,
.go (.pick a9 a13 (.con (.bool false))) p14,
mv a14 p2] [.ok,.ok,.ok,.ok,.ok,.rd (some (p9,true)) (.loadN 2 a3) (some p10) [8],.ok,.ok,.ok,.ok,.ok]) .ret)))
noncomputable def f70 : FFunc := .mk c70 u25 [p0] [.tmp p2]
theorem e70 : @compF Try.prog (Gl.none Try.prog) Try.f70 1 = f70 := by kernel_rfl
theorem o70 : okF Try.prog Try.f70 = true := by kernel_rfl
theorem g70 : Try.prog.funcs[(70 : Nat)]? = some Try.f70 := by kernel_rfl
noncomputable def c71 : FCode := (.seq (.run [.go (.box 3 a0) p3,
.go (.box 53 a1) p4,
.go (.box 36 a2) p5,
mv kz p6,
mv kz p7]) (.scope (.seq (.run [.go (.alloc 3 [z0]) p8,
.go (.alloc 24 [z0]) p9,
.un (.store 1 a8 kz),
.un (.store 1 a9 (ki 9))]) (.seq (.draw 7 [.go (.call (kf 53) []) p15,
.go (.load1 a3) p16,
.go (.build [z0,z0] [(0,1,kz),(1,1,a16)]) p17,
.go (.alloc 33 [.nilFunc]) p10,
.go (.alloc 53 [z0,z0]) p11,
.un (.store 1 a10 a15),
.un (.store 2 a11 a17)] [.ok,.rd none (.load1 a3) (some p16) [0,6],.ok,.nw none (some p10) 3 true,.nw none (some p11) 4 true,.ok,.ok]) (.seq .skip (.seq (.seq (.run [.go (.loadN 2 a11) p18,
.go (.call (kf 75) [a18]) p19]) (.block 0 (.rangeFunc a19 [p20] (rfA Try.f71 0) (rfB Try.f71 0) (.run [mv a20 p12]) (.block 1 (.seq (.run [.go (.load1 a3) p21,
.go (.fieldAddr 1 a4) p22,
.go (.load1 a22) p23,
mv a12 p24,
.go (.build [z0,z0,z0,z0] [(0,1,a21),(1,1,a23),(2,1,a24),(3,1,kz)]) p25,
.go (.load1 a10) p26,
.go (.build [z0,z0,z0,z0,.nilFunc] [(0,4,a25),(4,1,a26)]) p27,
.go (.alloc 92 [z0,z0,z0,z0,.nilFunc]) p13,
.un (.store 5 a13 a27)]) (.seq (.seq (.run [.go (.loadN 2 a4) p28,
.go (.call (kf 75) [a28]) p29]) (.block 2 (.rangeFunc a29 [p30] (rfA Try.f71 1) (rfB Try.f71 1) (.run [mv a30 p14]) (.block 3 (.seq (.draw 6 [.go (.loadN 5 a13) p31,
mv a14 p32,
.go (.call (kf 87) [a31,a32]) p33,
.go (.loadN 2 a5) p34,
.go (.call (kf 83) [a33,a34]) p35,
.go (.bin .lss 3 a35 kz) p36] [.ok,.ok,.ok,.rd none (.loadN 2 a5) (some p34) [0],.ok,.ok]) (.cond a36 (.exit 1) .skip)))))) (.seq (.run [mv a12 p37,
.un (.store 1 a8 a37),
.un (.store 1 a9 kz)]) (.exit 0)))))))) (.seq (.draw 4 [.go (.load1 a8) p38,
.go (.load1 a9) p39,
mv a38 p6,
mv a39 p7] [.ok,.ok,.ok,.ok]) .ret)))))))
noncomputable def f71 : FFunc := .mk c71 u34 [p0,p1,p2] [.tmp p6,.tmp p7]
theorem e71 : @compF Try.prog (Gl.none Try.prog) Try.f71 3 = f71 := by kernel_rfl
theorem o71 : okF Try.prog Try.f71 = true := by kernel_rfl
theorem g71 : Try.prog.funcs[(71 : Nat)]? = some Try.f71 := by kernel_rfl
noncomputable def c72 : FCode := (.seq (.run [mv (.con (.bool false)) p4]) (.seq (.seq (.run [mv a0 p7,
.go (.len 0 a7) p8,
mv kz p9]) (.block 0 (.loop (.seq (.run [.go (.bin .lss 3 a9 a8) p10]) (.seq (.cond a10 .skip (.exit 0)) (.seq (.block 1 (.seq (.run [.go (.indexAddr none 1 a7 a9) p11,
.go (.load1 a11) p12,
mv a12 p6]) (.seq (.run [mv a1 p13,
mv a6 p14,
.go (.call a13 [a14]) p15,
.go (.un .not a15) p16]) (.cond a16 (.seq (.run [mv (.con (.bool false)) p4]) .ret) .skip)))) (.run [.go (.bin .add 3 a9 (ki 1)) p17,
mv a17 p9]))))))) (.seq (.run [mv (.con (.bool true)) p4]) .ret)))
noncomputable def f72 : FFunc := .mk c72 u23 [p0,p1] [.tmp p4]
theorem e72 : @compF Try.prog (Gl.none Try.prog) Try.f72 2 = f72 := by kernel_rfl
theorem o72 : okF Try.prog Try.f72 = true := by kernel_rfl
theorem g72 : Try.prog.funcs[(72 : Nat)]? = some Try.f72 := by kernel_rfl
noncomputable def c73 : FCode := (.seq (.run [mv (.con (.bool false)) p2]) (.seq (.run [mv a0 p3,
.go (.bin .geq 3 a3 kz) p4,
mv a4 p2]) .ret))
noncomputable def f73 : FFunc := .mk c73 u4 [p0] [.tmp p2]
theorem e73 : @compF Try.prog (Gl.none Try.prog) Try.f73 1 = f73 := by kernel_rfl
theorem o73 : okF Try.prog Try.f73 = true := by kernel_rfl
theorem g73 : Try.prog.funcs[(73 : Nat)]? = some Try.f73 := by kernel_rfl
noncomputable def c74 : FCode := (.seq (.run [mv (.con (.slice none 0 0)) p2]) (.seq (.run [mv a0 p3,
.go (.call (kf 88) [(.con (.slice none 0 0)),a3]) p4,
mv a4 p2]) .ret))
noncomputable def f74 : FFunc := .mk c74 u4 [p0] [.tmp p2]
theorem e74 : @compF Try.prog (Gl.none Try.prog) Try.f74 1 = f74 := by kernel_rfl
theorem o74 : okF Try.prog Try.f74 = true := by kernel_rfl
theorem g74 : Try.prog.funcs[(74 : Nat)]? = some Try.f74 := by kernel_rfl
noncomputable def c75 : FCode := (.seq (.run [.go (.box 53 a0) p1,
mv (.con .nilFunc) p2]) (.seq (.run [.go (.makeFunc 89 [] [a1]) p3,
mv a3 p2]) .ret))
noncomputable def f75 : FFunc := .mk c75 u9 [p0] [.tmp p2]
theorem e75 : @compF Try.prog (Gl.none Try.prog) Try.f75 1 = f75 := by kernel_rfl
theorem o75 : okF Try.prog Try.f75 = true := by kernel_rfl
theorem g75 : Try.prog.funcs[(75 : Nat)]? = some Try.f75 := by kernel_rfl
noncomputable def c76 : FCode := (.seq (.run [mv (.con (.slice none 0 0)) p6]) (.seq (.run [mv a0 p8,
mv a1 p9,
mv a2 p10,
mv a0 p11,
.go (.len 0 a11) p12,
.go (.slice3 3 1 a8 (some a9) a10 a12) p13]) (.seq (.seq (.run [mv a1 p14,
mv a2 p15,
.go (.bin .eql 3 a14 a15) p16]) (.cond a16 (.seq (.run [mv a0 p17,
mv a17 p6]) .ret) .skip)) (.seq (.run [mv a0 p18,
.go (.len 0 a18) p19,
mv a19 p7]) (.seq (.draw 8 [mv a0 p20,
mv a1 p21,
.go (.slice 3 1 a20 none (some a21)) p22,
mv a0 p23,
mv a2 p24,
.go (.slice 3 1 a23 (some a24) none) p25,
.go (.append 3 1 8 a22 a25) p26,
mv a26 p0] [.ok,.ok,.ok,.ok,.ok,.ok,.ok,.ok]) (.seq (.run [mv a0 p27,
mv a0 p28,
.go (.len 0 a28) p29,
mv a7 p30,
.go (.slice 3 1 a27 (some a29) (some a30)) p31,
.un (.clear 1 [z0] a31)]) (.seq (.run [mv a0 p32,
mv a32 p6]) .ret)))))))
noncomputable def f76 : FFunc := .mk c76 u35 [p0,p1,p2] [.tmp p6]
theorem e76 : @compF Try.prog (Gl.none Try.prog) Try.f76 3 = f76 := by kernel_rfl
theorem o76 : okF Try.prog Try.f76 = true := by kernel_rfl
theorem g76 : Try.prog.funcs[(76 : Nat)]? = some Try.f76 := by kernel_rfl
noncomputable def c77 : FCode := (.seq (.run [mv a0 p3,
.go (.len 0 a3) p4,
mv a4 p2]) (.run [mv a0 p5,
mv a2 p6,
mv a2 p7,
.go (.conv .u64 a7) p8,
.go (.call (kf 91) [a8]) p9,
.go (.call (kf 90) [a5,kz,a6,a9]) p10]))
noncomputable def f77 : FFunc := .mk c77 u5 [p0] []
theorem e77 : @compF Try.prog (Gl.none Try.prog) Try.f77 1 = f77 := by kernel_rfl
theorem o77 : okF Try.prog Try.f77 = true := by kernel_rfl
theorem g77 : Try.prog.funcs[(77 : Nat)]? = some Try.f77 := by kernel_rfl
noncomputable def c78 : FCode := (.seq (.run [mv kz p6]) (.seq (.seq (.run [mv a1 p9,
mv a0 p10,
.go (.bin .gtr 3 a9 a10) p11]) (.cond a11 (.seq (.run [mv kz p6]) .ret) .skip)) (.seq (.seq (.run [mv a1 p12,
.go (.bin .eql 3 a12 kz) p13,
mv a13 p14,
.gd p14 false (.move a1) p15,
.gd p14 false (.move a0) p16,
.gd p14 false (.bin .eql 3 a15 a16) p17,
.go (.pick a14 (.con (.bool true)) a17) p18]) (.cond a18 (.seq (.run [mv (ki 1) p6]) .ret) .skip)) (.seq (.run [.go (.load1 a2) p20,
mv a0 p21,
mv a1 p22,
.go (.build [z0,z0] [(0,1,a21),(1,1,a22)]) p23,
.go (.lookup 123 z0 a20 a23 true) p24,
mv a24 p19,
.go (.extract a19 0) p25,
.go (.extract a19 1) p26,
mv a25 p7,
mv a26 p8]) (.seq (.seq (.run [mv a8 p27,
.go (.un .not a27) p28]) (.cond a28 (.seq (.draw 13 [.go (.load1 a3) p29,
mv a0 p30,
.go (.bin .sub 3 a30 (ki 1)) p31,
mv a1 p32,
.go (.call a29 [a31,a32]) p33,
.go (.load1 a3) p34,
mv a0 p35,
.go (.bin .sub 3 a35 (ki 1)) p36,
mv a1 p37,
.go (.bin .sub 3 a37 (ki 1)) p38,
.go (.call a34 [a36,a38]) p39,
.go (.bin .add 3 a33 a39) p40,
mv a40 p7] [.ok,.ok,.ok,.ok,.ok,.rd none (.load1 a3) (some p34) [0],.ok,.ok,.ok,.ok,.ok,.ok,.ok]) (.run [.go (.load1 a2) p41,
mv a0 p42,
mv a1 p43,
.go (.build [z0,z0] [(0,1,a42),(1,1,a43)]) p44,
mv a7 p45,
.un (.mapUpdate 123 a41 a44 a45)])) .skip)) (.seq (.run [mv a7 p46,
mv a46 p6]) .ret))))))
noncomputable def f78 : FFunc := .mk c78 u7 [p0,p1,p2,p3] [.tmp p6]
theorem e78 : @compF Try.prog (Gl.none Try.prog) Try.f78 4 = f78 := by kernel_rfl
theorem o78 : okF Try.prog Try.f78 = true := by kernel_rfl
theorem g78 : Try.prog.funcs[(78 : Nat)]? = some Try.f78 := by kernel_rfl
noncomputable def c79 : FCode := (.seq (.run [.go (.box 92 a0) p1,
.go (.alloc 53 [z0,z0]) p2]) (.seq (.run [.go (.fieldAddr 0 a1) p3,
.go (.fieldAddr 1 a3) p4,
.go (.load1 a4) p5,
.go (.build [z0,z0] [(0,1,kz),(1,1,a5)]) p6,
.un (.store 2 a2 a6)]) .ret))
noncomputable def f79 : FFunc := .mk c79 u12 [p0] [.many p2 2]
theorem e79 : @compF Try.prog (Gl.none Try.prog) Try.f79 1 = f79 := by kernel_rfl
theorem o79 : okF Try.prog Try.f79 = true := by kernel_rfl
theorem g79 : Try.prog.funcs[(79 : Nat)]? = some Try.f79 := by kernel_rfl
noncomputable def c80 : FCode := (.seq (.run [.go (.alloc 36 [z0,z0]) p4]) (.seq (.run [mv a0 p6,
mv a1 p7,
.go (.call (kf 92) [a6,a7]) p8,
mv a8 p5]) (.seq (.draw 8 [mv a0 p9,
mv a5 p10,
.go (.bin .quo 3 a9 a10) p11,
mv a1 p12,
mv a5 p13,
.go (.bin .quo 3 a12 a13) p14,
.go (.build [z0,z0] [(0,1,a11),(1,1,a14)]) p15,
.un (.store 2 a4 a15)] [.ok,.ok,.ok,.ok,.ok,.ok,.ok,.ok]) .ret)))
noncomputable def f80 : FFunc := .mk c80 u30 [p0,p1] [.many p4 2]
theorem e80 : @compF Try.prog (Gl.none Try.prog) Try.f80 2 = f80 := by kernel_rfl
theorem o80 : okF Try.prog Try.f80 = true := by kernel_rfl
theorem g80 : Try.prog.funcs[(80 : Nat)]? = some Try.f80 := by kernel_rfl
noncomputable def c81 : FCode := (.seq (.run [mv kz p2]) (.seq (.draw 17 [mv a0 p3,
.go (.nilCheck a3) p4,
.go (.fieldAddr 4 a4) p5,
mv a0 p6,
.go (.nilCheck a6) p7,
.go (.fieldAddr 0 a7) p8,
.go (.fieldAddr 3 a8) p9,
.go (.load1 a9) p10,
mv a0 p11,
.go (.nilCheck a11) p12,
.go (.fieldAddr 0 a12) p13,
.go (.fieldAddr 2 a13) p14,
.go (.load1 a14) p15,
.go (.bin .add 3 a15 (ki 1)) p16,
.go (.sliceSlow 125 a5 (some a10) (some a16)) p17,
.go (.call (kf 86) [a17]) p18,
mv a18 p2] [.ok,.ok,.ok,.ok,.ok,.ok,.ok,.ok,.ok,.ok,.ok,.ok,.ok,.ok,.ok,.ok,.ok]) .ret))
noncomputable def f81 : FFunc := .mk c81 u16 [p0] [.tmp p2]
theorem e81 : @compF Try.prog (Gl.none Try.prog) Try.f81 1 = f81 := by kernel_rfl
theorem o81 : okF Try.prog Try.f81 = true := by kernel_rfl
theorem g81 : Try.prog.funcs[(81 : Nat)]? = some Try.f81 := by kernel_rfl
noncomputable def c82 : FCode := (.seq (.run [mv kz p2]) (.seq (.draw 12 [mv a0 p3,
.go (.nilCheck a3) p4,
.go (.fieldAddr 4 a4) p5,
mv a0 p6,
.go (.nilCheck a6) p7,
.go (.fieldAddr 0 a7) p8,
.go (.fieldAddr 3 a8) p9,
.go (.load1 a9) p10,
.go (.bin .add 3 a10 (ki 1)) p11,
.go (.sliceSlow 125 a5 none (some a11)) p12,
.go (.call (kf 86) [a12]) p13,
mv a13 p2] [.ok,.ok,.ok,.ok,.ok,.ok,.ok,.ok,.ok,.ok,.ok,.ok]) .ret))
noncomputable def f82 : FFunc := .mk c82 u13 [p0] [.tmp p2]
theorem e82 : @compF Try.prog (Gl.none Try.prog) Try.f82 1 = f82 := by kernel_rfl
theorem o82 : okF Try.prog Try.f82 = true := by kernel_rfl
theorem g82 : Try.prog.funcs[(82 : Nat)]? = some Try.f82 := by kernel_rfl
noncomputable def c83 : FCode := (.seq (.run [.go (.box 36 a0) p2,
.go (.box 36 a1) p3,
mv kz p4]) (.seq (.run [.go (.fieldAddr 0 a2) p10,
.go (.load1 a10) p11,
.go (.conv .u64 a11) p12,
.go (.fieldAddr 1 a3) p13,
.go (.load1 a13) p14,
.go (.conv .u64 a14) p15,
.go (.call (kf 93) [a12,a15]) p16,
mv a16 p9,
.go (.extract a9 0) p17,
.go (.extract a9 1) p18,
mv a17 p5,
mv a18 p6]) (.seq (.run [.go (.fieldAddr 0 a3) p20,
.go (.load1 a20) p21,
.go (.conv .u64 a21) p22,
.go (.fieldAddr 1 a2) p23,
.go (.load1 a23) p24,
.go (.conv .u64 a24) p25,
.go (.call (kf 93) [a22,a25]) p26,
mv a26 p19,
.go (.extract a19 0) p27,
.go (.extract a19 1) p28,
mv a27 p7,
mv a28 p8]) (.seq (.run [mv a5 p29,
mv a7 p30,
.go (.call (kf 95) [a29,a30]) p31,
mv a6 p32,
mv a8 p33,
.go (.call (kf 95) [a32,a33]) p34,
.go (.buildSlice 3 2 [z0,z0] [(0,1,a31),(1,1,a34)]) p35,
.go (.call (kf 94) [a35]) p36,
mv a36 p4]) .ret))))
noncomputable def f83 : FFunc := .mk c83 u24 [p0,p1] [.tmp p4]
theorem e83 : @compF Try.prog (Gl.none Try.prog) Try.f83 2 = f83 := by kernel_rfl
theorem o83 : okF Try.prog Try.f83 = true := by kernel_rfl
theorem g83 : Try.prog.funcs[(83 : Nat)]? = some Try.f83 := by kernel_rfl
noncomputable def c84 : FCode := (.seq (.run [mv (.con (.slice none 0 0)) p4]) (.seq (.run [mv a0 p8,
mv a1 p9,
.go (.call (kf 96) [a8,a9]) p10,
mv a10 p5]) (.seq (.seq (.run [mv a5 p11,
.go (.bin .eql 3 a11 (.con (.int .i64 (.negSucc 0)))) p12]) (.cond a12 (.seq (.run [mv a0 p13,
mv a13 p4]) .ret) .skip)) (.seq (.seq (.run [mv a5 p14,
.go (.bin .add 3 a14 (ki 1)) p15,
mv a15 p6]) (.block 0 (.loop (.seq (.seq (.run [mv a6 p16,
mv a0 p17,
.go (.len 0 a17) p18,
.go (.bin .lss 3 a16 a18) p19]) (.cond a19 .skip (.exit 0))) (.seq (.block 1 (.seq (.run [mv a0 p22,
mv a6 p23,
.go (.indexAddr none 1 a22 a23) p24,
.go (.load1 a24) p25,
mv a25 p7]) (.seq (.run [mv a1 p26,
mv a7 p27,
.go (.call a26 [a27]) p28,
.go (.un .not a28) p29]) (.cond a29 (.seq (.run [mv a0 p30,
mv a5 p31,
mv a7 p32,
.go (.indexAddr none 1 a30 a31) p33,
.un (.store 1 a33 a32)]) (.run [mv a5 p34,
.go (.bin .add 3 a34 (ki 1)) p35,
mv a35 p5])) .skip)))) (.run [mv a6 p20,
.go (.bin .add 3 a20 (ki 1)) p21,
mv a21 p6])))))) (.seq (.run [mv a0 p36,
mv a5 p37,
.go (.slice 3 1 a36 (some a37) none) p38,
.un (.clear 1 [z0] a38)]) (.seq (.run [mv a0 p39,
mv a5 p40,
.go (.slice 3 1 a39 none (some a40)) p41,
mv a41 p4]) .ret))))))
noncomputable def f84 : FFunc := .mk c84 u36 [p0,p1] [.tmp p4]
theorem e84 : @compF Try.prog (Gl.none Try.prog) Try.f84 2 = f84 := by kernel_rfl
theorem o84 : okF Try.prog Try.f84 = true := by kernel_rfl
theorem g84 : Try.prog.funcs[(84 : Nat)]? = some Try.f84 := by kernel_rfl
noncomputable def c85 : FCode := (.seq (.run [.go (.box 108 a0) p2,
mv (.con (.bool false)) p4]) (.seq (.run [.go (.fieldAddr 0 a2) p7,
.go (.loadN 5 a7) p8,
mv a1 p9,
.go (.call (kf 61) [a8,a9]) p10,
.go (.alloc 101 [(.pointer none)]) p5,
.un (.store 1 a5 a10)]) (.seq (.run [.go (.makeFunc 97 [] [a5,a2]) p11,
mv a11 p6]) (.seq (.run [.go (.call (kf 59) []) p12,
.go (.call (kf 58) []) p13,
.go (.buildSlice 98 2 [.nilFunc,.nilFunc] [(0,1,a12),(1,1,a13)]) p14,
mv a6 p15,
.go (.call (kf 98) [a14,a15]) p16,
mv a16 p4]) .ret))))
noncomputable def f85 : FFunc := .mk c85 u29 [p0,p1] [.tmp p4]
theorem e85 : @compF Try.prog (Gl.none Try.prog) Try.f85 2 = f85 := by kernel_rfl
theorem o85 : okF Try.prog Try.f85 = true := by kernel_rfl
theorem g85 : Try.prog.funcs[(85 : Nat)]? = some Try.f85 := by kernel_rfl
noncomputable def c86 : FCode := (.seq (.run [mv kz p2]) (.seq (.run [mv kz p3]) (.seq (.seq (.run [mv a0 p6,
.go (.len 0 a6) p7,
mv kz p8]) (.block 0 (.loop (.seq (.run [.go (.bin .lss 3 a8 a7) p9]) (.seq (.cond a9 .skip (.exit 0)) (.seq (.block 1 (.seq (.run [.go (.indexAddr none 1 a6 a8) p10,
.go (.load1 a10) p11,
mv a11 p5]) (.run [mv a3 p12,
mv a5 p13,
.go (.bin .add 3 a12 a13) p14,
mv a14 p3]))) (.run [.go (.bin .add 3 a8 (ki 1)) p15,
mv a15 p8]))))))) (.seq (.run [mv a3 p16,
mv a16 p2]) .ret))))
noncomputable def f86 : FFunc := .mk c86 u29 [p0] [.tmp p2]
theorem e86 : @compF Try.prog (Gl.none Try.prog) Try.f86 1 = f86 := by kernel_rfl
theorem o86 : okF Try.prog Try.f86 = true := by kernel_rfl
theorem g86 : Try.prog.funcs[(86 : Nat)]? = some Try.f86 := by kernel_rfl
noncomputable def c87 : FCode := (.seq (.run [.go (.box 92 a0) p2,
.go (.alloc 36 [z0,z0]) p4]) (.seq (.run [.go (.fieldAddr 4 a2) p6,
.go (.load1 a6) p7,
.go (.fieldAddr 0 a2) p8,
.go (.fieldAddr 0 a8) p9,
.go (.load1 a9) p10,
mv a1 p11,
.go (.bin .add 3 a10 a11) p12,
.go (.fieldAddr 0 a2) p13,
.go (.fieldAddr 2 a13) p14,
.go (.load1 a14) p15,
.go (.call a7 [a12,a15]) p16,
mv a16 p5]) (.seq (.run [mv a5 p17,
.go (.fieldAddr 4 a2) p18,
.go (.load1 a18) p19,
.go (.fieldAddr 0 a2) p20,
.go (.fieldAddr 0 a20) p21,
.go (.load1 a21) p22,
.go (.fieldAddr 0 a2) p23,
.go (.fieldAddr 2 a23) p24,
.go (.load1 a24) p25,
.go (.call a19 [a22,a25]) p26,
.go (.bin .sub 3 a17 a26) p27,
mv a5 p28,
.go (.call (kf 80) [a27,a28]) p29,
.un (.store 2 a4 a29)]) .ret)))
noncomputable def f87 : FFunc := .mk c87 u37 [p0,p1] [.many p4 2]
theorem e87 : @compF Try.prog (Gl.none Try.prog) Try.f87 2 = f87 := by kernel_rfl
theorem o87 : okF Try.prog Try.f87 = true := by kernel_rfl
theorem g87 : Try.prog.funcs[(87 : Nat)]? = some Try.f87 := by kernel_rfl
noncomputable def c88 : FCode := (.seq (.run [.go (.box 45 a0) p2,
mv (.con (.slice none 0 0)) p4]) (.seq (.seq (.run [mv a1 p6]) (.block 0 (.rangeFunc a6 [p7] (rfA Try.f88 0) (rfB Try.f88 0) (.run [mv a7 p5]) (.block 1 (.run [.go (.load1 a2) p8,
mv a5 p9,
.go (.buildSlice 3 1 [z0] [(0,1,a9)]) p10,
.go (.append 3 1 8 a8 a10) p11,
.un (.store 1 a2 a11)]))))) (.seq (.run [.go (.load1 a2) p12,
mv a12 p4]) .ret)))
noncomputable def f88 : FFunc := .mk c88 u17 [p0,p1] [.tmp p4]
theorem e88 : @compF Try.prog (Gl.none Try.prog) Try.f88 2 = f88 := by kernel_rfl
theorem o88 : okF Try.prog Try.f88 = true := by kernel_rfl
theorem g88 : Try.prog.funcs[(88 : Nat)]? = some Try.f88 := by kernel_rfl
noncomputable def c89 : FCode := (.seq (.run [.go (.fieldAddr 0 a1) p4,
.go (.load1 a4) p5,
mv a5 p3]) (.block 0 (.loop (.seq (.seq (.run [mv a3 p6,
.go (.fieldAddr 1 a1) p7,
.go (.load1 a7) p8,
.go (.bin .leq 3 a6 a8) p9]) (.cond a9 .skip (.exit 0))) (.seq (.block 1 (.seq (.run [mv a0 p12,
mv a3 p13,
.go (.call a12 [a13]) p14,
.go (.un .not a14) p15]) (.cond a15 .ret .skip))) (.run [mv a3 p10,
.go (.bin .add 3 a10 (ki 1)) p11,
mv a11 p3]))))))
noncomputable def f89 : FFunc := .mk c89 u30 [p0,p1] []
theorem e89 : @compF Try.prog (Gl.none Try.prog) Try.f89 2 = f89 := by kernel_rfl
theorem o89 : okF Try.prog Try.f89 = true := by kernel_rfl
theorem g89 : Try.prog.funcs[(89 : Nat)]? = some Try.f89 := by kernel_rfl
noncomputable def c90 : FCode := (.seq (.run [mv (.con (.bool true)) p8]) (.seq (.run [mv (.con (.bool true)) p9]) (.block 0 (.loop (.block 1 (.seq (.run [mv a2 p19,
mv a1 p20,
.go (.bin .sub 3 a19 a20) p21,
mv a21 p10]) (.seq (.seq (.run [mv a10 p22,
.go (.bin .leq 3 a22 (ki 12)) p23]) (.cond a23 (.seq (.run [mv a0 p24,
mv a1 p25,
mv a2 p26,
.go (.call (kf 99) [a24,a25,a26]) p27]) .ret) .skip)) (.seq (.seq (.run [mv a3 p28,
.go (.bin .eql 3 a28 kz) p29]) (.cond a29 (.seq (.run [mv a0 p30,
mv a1 p31,
mv a2 p32,
.go (.call (kf 100) [a30,a31,a32]) p33]) .ret) .skip)) (.seq (.seq (.run [mv a8 p34,
.go (.un .not a34) p35]) (.cond a35 (.seq (.run [mv a0 p36,
mv a1 p37,
mv a2 p38,
.go (.call (kf 101) [a36,a37,a38]) p39]) (.run [mv a3 p40,
.go (.bin .sub 3 a40 (ki 1)) p41,
mv a41 p3])) .skip)) (.seq (.run [mv a0 p43,
mv a1 p44,
mv a2 p45,
.go (.call (kf 102) [a43,a44,a45]) p46,
mv a46 p42,
.go (.extract a42 0) p47,
.go (.extract a42 1) p48,
mv a47 p11,
mv a48 p12]) (.seq (.seq (.run [mv a12 p49,
.go (.bin .eql 144 a49 (ki 2)) p50]) (.cond a50 (.seq (.run [mv a0 p51,
mv a1 p52,
mv a2 p53,
.go (.call (kf 103) [a51,a52,a53]) p54]) (.seq (.run [mv a2 p55,
.go (.bin .sub 3 a55 (ki 1)) p56,
mv a11 p57,
mv a1 p58,
.go (.bin .sub 3 a57 a58) p59,
.go (.bin .sub 3 a56 a59) p60,
mv a60 p11]) (.run [mv (ki 1) p12]))) .skip)) (.seq (.seq (.run [mv a8 p61,
mv a61 p62,
.gd p62 true (.move a9) p63,
.go (.pick a62 a63 (.con (.bool false))) p64,
mv a64 p65,
.gd p65 true (.move a12) p66,
.gd p65 true (.bin .eql 144 a66 (ki 1)) p67,
.go (.pick a65 a67 (.con (.bool false))) p68]) (.cond a68 (.seq (.run [mv a0 p69,
mv a1 p70,
mv a2 p71,
.go (.call (kf 104) [a69,a70,a71]) p72]) (.cond a72 .ret .skip)) .skip)) (.seq (.seq (.draw 15 [mv a1 p73,
.go (.bin .gtr 3 a73 kz) p74,
mv a74 p75,
.gd p75 true (.move a0) p76,
.gd p75 true (.move a1) p77,
.gd p75 true (.bin .sub 3 a77 (ki 1)) p78,
.gd p75 true (.indexAddr none 1 a76 a78) p79,
.gd p75 true (.load1 a79) p80,
.gd p75 true (.move a0) p81,
.gd p75 true (.move a11) p82,
.gd p75 true (.indexAddr none 1 a81 a82) p83,
.gd p75 true (.load1 a83) p84,
.gd p75 true (.call (kf 105) [a80,a84]) p85,
.gd p75 true (.un .not a85) p86,
.go (.pick a75 a86 (.con (.bool false))) p87] [.ok,.ok,.ok,.ok,.ok,.ok,.ok,.ok,.ok,.ok,.ok,.ok,.ok,.ok,.ok]) (.cond a87 (.seq (.run [mv a0 p88,
mv a1 p89,
mv a2 p90,
mv a11 p91,
.go (.call (kf 106) [a88,a89,a90,a91]) p92,
mv a92 p13]) (.seq (.run [mv a13 p93,
mv a93 p1]) (.exit 1))) .skip)) (.seq (.run [mv a0 p95,
mv a1 p96,
mv a2 p97,
mv a11 p98,
.go (.call (kf 107) [a95,a96,a97,a98]) p99,
mv a99 p94,
.go (.extract a94 0) p100,
.go (.extract a94 1) p101,
mv a100 p14,
mv a101 p15]) (.seq (.run [mv a15 p102,
mv a102 p9]) (.seq (.run [mv a14 p103,
mv a1 p104,
.go (.bin .sub 3 a103 a104) p105,
mv a2 p106,
mv a14 p107,
.go (.bin .sub 3 a106 a107) p108,
mv a105 p16,
mv a108 p17]) (.seq (.run [mv a10 p109,
.go (.bin .quo 3 a109 (ki 8)) p110,
mv a110 p18]) (.seq (.run [mv a16 p111,
mv a17 p112,
.go (.bin .lss 3 a111 a112) p113]) (.cond a113 (.seq (.run [mv a16 p114,
mv a18 p115,
.go (.bin .geq 3 a114 a115) p116,
mv a116 p8]) (.seq (.run [mv a0 p117,
mv a1 p118,
mv a14 p119,
mv a3 p120,
.go (.call (kf 90) [a117,a118,a119,a120]) p121]) (.run [mv a14 p122,
.go (.bin .add 3 a122 (ki 1)) p123,
mv a123 p1]))) (.seq (.run [mv a17 p124,
mv a18 p125,
.go (.bin .geq 3 a124 a125) p126,
mv a126 p8]) (.seq (.run [mv a0 p127,
mv a14 p128,
.go (.bin .add 3 a128 (ki 1)) p129,
mv a2 p130,
mv a3 p131,
.go (.call (kf 90) [a127,a129,a130,a131]) p132]) (.run [mv a14 p133,
mv a133 p2]))))))))))))))))))))))
noncomputable def f90 : FFunc := .mk c90 u41 [p0,p1,p2,p3] []
theorem e90 : @compF Try.prog (Gl.none Try.prog) Try.f90 4 = f90 := by kernel_rfl
theorem o90 : okF Try.prog Try.f90 = true := by kernel_rfl
theorem g90 : Try.prog.funcs[(90 : Nat)]? = some Try.f90 := by kernel_rfl
noncomputable def c91 : FCode := (.seq (.run [mv kz p2]) (.seq (.cond (.con (.bool false)) (.seq (.run [mv a0 p3,
.go (.conv .u32 a3) p4,
.go (.call (kf 108) [a4]) p5,
mv a5 p2]) .ret) .skip) (.seq (.run [mv a0 p6,
.go (.call (kf 109) [a6]) p7,
mv a7 p2]) .ret)))
noncomputable def f91 : FFunc := .mk c91 u22 [p0] [.tmp p2]
theorem e91 : @compF Try.prog (Gl.none Try.prog) Try.f91 1 = f91 := by kernel_rfl
theorem o91 : okF Try.prog Try.f91 = true := by kernel_rfl
theorem g91 : Try.prog.funcs[(91 : Nat)]? = some Try.f91 := by kernel_rfl
noncomputable def c92 : FCode := (.seq (.run [mv kz p4]) (.seq (.block 0 (.loop (.seq (.seq (.run [mv a1 p5,
.go (.bin .gtr 3 a5 kz) p6]) (.cond a6 .skip (.exit 0))) (.block 1 (.draw 6 [mv a1 p7,
mv a0 p8,
mv a1 p9,
.go (.bin .rem 3 a8 a9) p10,
mv a7 p0,
mv a10 p1] [.ok,.ok,.ok,.ok,.ok,.ok]))))) (.seq (.run [mv a0 p11,
mv a11 p4]) .ret)))
noncomputable def f92 : FFunc := .mk c92 u18 [p0,p1] [.tmp p4]
theorem e92 : @compF Try.prog (Gl.none Try.prog) Try.f92 2 = f92 := by kernel_rfl
theorem o92 : okF Try.prog Try.f92 = true := by kernel_rfl
theorem g92 : Try.prog.funcs[(92 : Nat)]? = some Try.f92 := by kernel_rfl
noncomputable def c93 : FCode := (.seq (.run [mv (.con (.int .u64 (.ofNat 0))) p4,
mv (.con (.int .u64 (.ofNat 0))) p5]) (.seq (.run [mv a0 p14,
.go (.bin .and 135 a14 (.con (.int .u64 (.ofNat 4294967295)))) p15,
mv a15 p6]) (.seq (.run [mv a0 p16,
.go (.bin .shr 135 a16 (.con (.int .u64 (.ofNat 32)))) p17,
mv a17 p7]) (.seq (.run [mv a1 p18,
.go (.bin .and 135 a18 (.con (.int .u64 (.ofNat 4294967295)))) p19,
mv a19 p8]) (.seq (.run [mv a1 p20,
.go (.bin .shr 135 a20 (.con (.int .u64 (.ofNat 32)))) p21,
mv a21 p9]) (.seq (.run [mv a6 p22,
mv a8 p23,
.go (.bin .mul 135 a22 a23) p24,
mv a24 p10]) (.seq (.run [mv a7 p25,
mv a8 p26,
.go (.bin .mul 135 a25 a26) p27,
mv a10 p28,
.go (.bin .shr 135 a28 (.con (.int .u64 (.ofNat 32)))) p29,
.go (.bin .add 135 a27 a29) p30,
mv a30 p11]) (.seq (.run [mv a11 p31,
.go (.bin .and 135 a31 (.con (.int .u64 (.ofNat 4294967295)))) p32,
mv a32 p12]) (.seq (.run [mv a11 p33,
.go (.bin .shr 135 a33 (.con (.int .u64 (.ofNat 32)))) p34,
mv a34 p13]) (.seq (.run [mv a12 p35,
mv a6 p36,
mv a9 p37,
.go (.bin .mul 135 a36 a37) p38,
.go (.bin .add 135 a35 a38) p39,
mv a39 p12]) (.seq (.run [mv a7 p40,
mv a9 p41,
.go (.bin .mul 135 a40 a41) p42,
mv a13 p43,
.go (.bin .add 135 a42 a43) p44,
mv a12 p45,
.go (.bin .shr 135 a45 (.con (.int .u64 (.ofNat 32)))) p46,
.go (.bin .add 135 a44 a46) p47,
mv a47 p4]) (.seq (.run [mv a0 p48,
mv a1 p49,
.go (.bin .mul 135 a48 a49) p50,
mv a50 p5]) .ret))))))))))))
noncomputable def f93 : FFunc := .mk c93 u42 [p0,p1] [.tmp p4,.tmp p5]
theorem e93 : @compF Try.prog (Gl.none Try.prog) Try.f93 2 = f93 := by kernel_rfl
theorem o93 : okF Try.prog Try.f93 = true := by kernel_rfl
theorem g93 : Try.prog.funcs[(93 : Nat)]? = some Try.f93 := by kernel_rfl
noncomputable def c94 : FCode := (.seq (.run [mv kz p2]) (.seq (.run [mv kz p3]) (.seq (.seq (.run [mv a0 p6,
.go (.len 0 a6) p7,
mv kz p8]) (.block 0 (.loop (.seq (.run [.go (.bin .lss 3 a8 a7) p9]) (.seq (.cond a9 .skip (.exit 0)) (.seq (.block 1 (.seq (.run [.go (.indexAddr none 1 a6 a8) p10,
.go (.load1 a10) p11,
mv a11 p5]) (.seq (.run [mv a5 p12,
mv a3 p13,
.go (.bin .neq 3 a12 a13) p14]) (.cond a14 (.seq (.run [mv a5 p15,
mv a15 p2]) .ret) .skip)))) (.run [.go (.bin .add 3 a8 (ki 1)) p16,
mv a16 p8]))))))) (.seq (.run [mv a3 p17,
mv a17 p2]) .ret))))
noncomputable def f94 : FFunc := .mk c94 u23 [p0] [.tmp p2]
theorem e94 : @compF Try.prog (Gl.none Try.prog) Try.f94 1 = f94 := by kernel_rfl
theorem o94 : okF Try.prog Try.f94 = true := by kernel_rfl
theorem g94 : Try.prog.funcs[(94 : Nat)]? = some Try.f94 := by kernel_rfl
noncomputable def c95 : FCode := (.seq (.run [mv kz p4]) (.seq (.run [mv a0 p7,
.go (.call (kf 110) [a7]) p8,
mv a8 p5]) (.seq (.run [mv a1 p9,
.go (.call (kf 110) [a9]) p10,
mv a10 p6]) (.seq (.seq (.run [mv a5 p11]) (.cond a11 (.seq (.seq (.run [mv a6 p12]) (.cond a12 (.seq (.run [mv kz p4]) .ret) .skip)) (.seq (.run [mv (.con (.int .i64 (.negSucc 0))) p4]) .ret)) .skip)) (.seq (.seq (.run [mv a6 p13]) (.cond a13 (.seq (.run [mv (ki 1) p4]) .ret) .skip)) (.seq (.seq (.run [mv a0 p14,
mv a1 p15,
.go (.bin .lss 135 a14 a15) p16]) (.cond a16 (.seq (.run [mv (.con (.int .i64 (.negSucc 0))) p4]) .ret) .skip)) (.seq (.seq (.run [mv a0 p17,
mv a1 p18,
.go (.bin .gtr 135 a17 a18) p19]) (.cond a19 (.seq (.run [mv (ki 1) p4]) .ret) .skip)) (.seq (.run [mv kz p4]) .ret))))))))
noncomputable def f95 : FFunc := .mk c95 u33 [p0,p1] [.tmp p4]
theorem e95 : @compF Try.prog (Gl.none Try.prog) Try.f95 2 = f95 := by kernel_rfl
theorem o95 : okF Try.prog Try.f95 = true := by kernel_rfl
theorem g95 : Try.prog.funcs[(95 : Nat)]? = some Try.f95 := by kernel_rfl
noncomputable def c96 : FCode := (.seq (.run [mv kz p4]) (.seq (.seq (.run [mv a0 p6,
.go (.len 0 a6) p7,
mv kz p8]) (.block 0 (.loop (.seq (.run [.go (.bin .lss 3 a8 a7) p9]) (.seq (.cond a9 .skip (.exit 0)) (.seq (.block 1 (.seq (.run [mv a8 p10,
mv a10 p5]) (.seq (.run [mv a1 p11,
mv a0 p12,
mv a5 p13,
.go (.indexAddr none 1 a12 a13) p14,
.go (.load1 a14) p15,
.go (.call a11 [a15]) p16]) (.cond a16 (.seq (.run [mv a5 p17,
mv a17 p4]) .ret) .skip)))) (.run [.go (.bin .add 3 a8 (ki 1)) p18,
mv a18 p8]))))))) (.seq (.run [mv (.con (.int .i64 (.negSucc 0))) p4]) .ret)))
noncomputable def f96 : FFunc := .mk c96 u16 [p0,p1] [.tmp p4]
theorem e96 : @compF Try.prog (Gl.none Try.prog) Try.f96 2 = f96 := by kernel_rfl
theorem o96 : okF Try.prog Try.f96 = true := by kernel_rfl
theorem g96 : Try.prog.funcs[(96 : Nat)]? = some Try.f96 := by kernel_rfl
noncomputable def c97 : FCode := (.seq (.run [.go (.box 98 a0) p3,
mv (.con (.bool false)) p4]) (.seq (.draw 8 [.go (.loadN 1 a3) p5,
.go (.load1 a1) p6,
.go (.call (kf 60) [a5,a6]) p7,
.go (.fieldAddr 5 a2) p8,
.go (.loadN 2 a8) p9,
.go (.call (kf 83) [a7,a9]) p10,
.go (.bin .lss 3 a10 kz) p11,
mv a11 p4] [.ok,.ok,.ok,.ok,.rd none (.loadN 2 a8) (some p9) [0],.ok,.ok,.ok]) .ret))
noncomputable def f97 : FFunc := .mk c97 u18 [p0,p1,p2] [.tmp p4]
theorem e97 : @compF Try.prog (Gl.none Try.prog) Try.f97 3 = f97 := by kernel_rfl
theorem o97 : okF Try.prog Try.f97 = true := by kernel_rfl
theorem g97 : Try.prog.funcs[(97 : Nat)]? = some Try.f97 := by kernel_rfl
noncomputable def c98 : FCode := (.seq (.run [mv (.con (.bool false)) p4]) (.seq (.run [mv a0 p5,
mv a1 p6,
.go (.call (kf 111) [a5,a6]) p7,
.go (.bin .geq 3 a7 kz) p8,
mv a8 p4]) .ret))
noncomputable def f98 : FFunc := .mk c98 u15 [p0,p1] [.tmp p4]
theorem e98 : @compF Try.prog (Gl.none Try.prog) Try.f98 2 = f98 := by kernel_rfl
theorem o98 : okF Try.prog Try.f98 = true := by kernel_rfl
theorem g98 : Try.prog.funcs[(98 : Nat)]? = some Try.f98 := by kernel_rfl
noncomputable def c99 : FCode := (.seq (.run [mv a1 p8,
.go (.bin .add 3 a8 (ki 1)) p9,
mv a9 p6]) (.block 0 (.loop (.seq (.seq (.run [mv a6 p10,
mv a2 p11,
.go (.bin .lss 3 a10 a11) p12]) (.cond a12 .skip (.exit 0))) (.seq (.block 1 (.seq (.run [mv a6 p15,
mv a15 p7]) (.block 2 (.loop (.seq (.seq (.draw 15 [mv a7 p16,
mv a1 p17,
.go (.bin .gtr 3 a16 a17) p18,
mv a18 p19,
.gd p19 true (.move a0) p20,
.gd p19 true (.move a7) p21,
.gd p19 true (.indexAddr none 1 a20 a21) p22,
.gd p19 true (.load1 a22) p23,
.gd p19 true (.move a0) p24,
.gd p19 true (.move a7) p25,
.gd p19 true (.bin .sub 3 a25 (ki 1)) p26,
.gd p19 true (.indexAddr none 1 a24 a26) p27,
.gd p19 true (.load1 a27) p28,
.gd p19 true (.call (kf 105) [a23,a28]) p29,
.go (.pick a19 a29 (.con (.bool false))) p30] [.ok,.ok,.ok,.ok,.ok,.ok,.ok,.ok,.ok,.ok,.ok,.ok,.ok,.ok,.ok]) (.cond a30 .skip (.exit 2))) (.seq (.block 3 (.draw 18 [mv a0 p33,
mv a7 p34,
mv a0 p35,
mv a7 p36,
.go (.bin .sub 3 a36 (ki 1)) p37,
mv a0 p38,
mv a7 p39,
.go (.bin .sub 3 a39 (ki 1)) p40,
.go (.indexAddr none 1 a38 a40) p41,
.go (.load1 a41) p42,
mv a0 p43,
mv a7 p44,
.go (.indexAddr none 1 a43 a44) p45,
.go (.load1 a45) p46,
.go (.indexAddr none 1 a33 a34) p47,
.un (.store 1 a47 a42),
.go (.indexAddr none 1 a35 a37) p48,
.un (.store 1 a48 a46)] [.ok,.ok,.ok,.ok,.ok,.ok,.ok,.ok,.ok,.ok,.ok,.ok,.ok,.ok,.ok,.ok,.ok,.ok])) (.run [mv a7 p31,
.go (.bin .sub 3 a31 (ki 1)) p32,
mv a32 p7]))))))) (.run [mv a6 p13,
.go (.bin .add 3 a13 (ki 1)) p14,
mv a14 p6]))))))
noncomputable def f99 : FFunc := .mk c99 u43 [p0,p1,p2] []
theorem e99 : @compF Try.prog (Gl.none Try.prog) Try.f99 3 = f99 := by kernel_rfl
theorem o99 : okF Try.prog Try.f99 = true := by kernel_rfl
theorem g99 : Try.prog.funcs[(99 : Nat)]? = some Try.f99 := by kernel_rfl
noncomputable def c100 : FCode := (.seq (.run [mv a1 p11,
mv a11 p6]) (.seq (.run [mv kz p7]) (.seq (.run [mv a2 p12,
mv a1 p13,
.go (.bin .sub 3 a12 a13) p14,
mv a14 p8]) (.seq (.seq (.run [mv a8 p15,
.go (.bin .sub 3 a15 (ki 1)) p16,
.go (.bin .quo 3 a16 (ki 2)) p17,
mv a17 p9]) (.block 0 (.loop (.seq (.seq (.run [mv a9 p18,
.go (.bin .geq 3 a18 kz) p19]) (.cond a19 .skip (.exit 0))) (.seq (.block 1 (.run [mv a0 p22,
mv a9 p23,
mv a8 p24,
mv a6 p25,
.go (.call (kf 112) [a22,a23,a24,a25]) p26])) (.run [mv a9 p20,
.go (.bin .sub 3 a20 (ki 1)) p21,
mv a21 p9])))))) (.seq (.run [mv a8 p27,
.go (.bin .sub 3 a27 (ki 1)) p28,
mv a28 p10]) (.block 2 (.loop (.seq (.seq (.run [mv a10 p29,
.go (.bin .geq 3 a29 kz) p30]) (.cond a30 .skip (.exit 2))) (.seq (.block 3 (.seq (.draw 20 [mv a0 p33,
mv a6 p34,
mv a0 p35,
mv a6 p36,
mv a10 p37,
.go (.bin .add 3 a36 a37) p38,
mv a0 p39,
mv a6 p40,
mv a10 p41,
.go (.bin .add 3 a40 a41) p42,
.go (.indexAddr none 1 a39 a42) p43,
.go (.load1 a43) p44,
mv a0 p45,
mv a6 p46,
.go (.indexAddr none 1 a45 a46) p47,
.go (.load1 a47) p48,
.go (.indexAddr none 1 a33 a34) p49,
.un (.store 1 a49 a44),
.go (.indexAddr none 1 a35 a38) p50,
.un (.store 1 a50 a48)] [.ok,.ok,.ok,.ok,.ok,.ok,.ok,.ok,.ok,.ok,.ok,.ok,.ok,.ok,.ok,.ok,.ok,.ok,.ok,.ok]) (.run [mv a0 p51,
mv a7 p52,
mv a10 p53,
mv a6 p54,
.go (.call (kf 112) [a51,a52,a53,a54]) p55]))) (.run [mv a10 p31,
.go (.bin .sub 3 a31 (ki 1)) p32,
mv a32 p10]))))))))))
noncomputable def f100 : FFunc := .mk c100 u45 [p0,p1,p2] []
theorem e100 : @compF Try.prog (Gl.none Try.prog) Try.f100 3 = f100 := by kernel_rfl
theorem o100 : okF Try.prog Try.f100 = true := by kernel_rfl
theorem g100 : Try.prog.funcs[(100 : Nat)]? = some Try.f100 := by kernel_rfl
noncomputable def c101 : FCode := (.seq (.run [mv a2 p11,
mv a1 p12,
.go (.bin .sub 3 a11 a12) p13,
mv a13 p6]) (.seq (.run [mv a6 p14,
.go (.bin .geq 3 a14 (ki 8)) p15]) (.cond a15 (.seq (.run [mv a6 p16,
.go (.conv .u64 a16) p17,
.go (.alloc 155 [(.int .u64 (.ofNat 0))]) p7,
.un (.store 1 a7 a17)]) (.seq (.run [mv a6 p18,
.go (.call (kf 113) [a18]) p19,
mv a19 p8]) (.seq (.run [mv a1 p20,
mv a6 p21,
.go (.bin .quo 3 a21 (ki 4)) p22,
.go (.bin .mul 3 a22 (ki 2)) p23,
.go (.bin .add 3 a20 a23) p24,
.go (.bin .sub 3 a24 (ki 1)) p25,
mv a25 p9]) (.block 0 (.loop (.seq (.seq (.run [mv a9 p26,
mv a1 p27,
mv a6 p28,
.go (.bin .quo 3 a28 (ki 4)) p29,
.go (.bin .mul 3 a29 (ki 2)) p30,
.go (.bin .add 3 a27 a30) p31,
.go (.bin .add 3 a31 (ki 1)) p32,
.go (.bin .leq 3 a26 a32) p33]) (.cond a33 .skip (.exit 0))) (.seq (.block 1 (.seq (.run [.go (.call (kf 114) [a7]) p36,
mv a8 p37,
.go (.bin .sub 86 a37 (.con (.int .u64 (.ofNat 1)))) p38,
.go (.bin .and 86 a36 a38) p39,
.go (.conv .i64 a39) p40,
mv a40 p10]) (.seq (.seq (.run [mv a10 p41,
mv a6 p42,
.go (.bin .geq 3 a41 a42) p43]) (.cond a43 (.run [mv a10 p44,
mv a6 p45,
.go (.bin .sub 3 a44 a45) p46,
mv a46 p10]) .skip)) (.draw 20 [mv a0 p47,
mv a9 p48,
mv a0 p49,
mv a1 p50,
mv a10 p51,
.go (.bin .add 3 a50 a51) p52,
mv a0 p53,
mv a1 p54,
mv a10 p55,
.go (.bin .add 3 a54 a55) p56,
.go (.indexAddr none 1 a53 a56) p57,
.go (.load1 a57) p58,
mv a0 p59,
mv a9 p60,
.go (.indexAddr none 1 a59 a60) p61,
.go (.load1 a61) p62,
.go (.indexAddr none 1 a47 a48) p63,
.un (.store 1 a63 a58),
.go (.indexAddr none 1 a49 a52) p64,
.un (.store 1 a64 a62)] [.ok,.ok,.ok,.ok,.ok,.ok,.ok,.ok,.ok,.ok,.ok,.ok,.ok,.ok,.ok,.ok,.ok,.ok,.ok,.ok])))) (.run [mv a9 p34,
.go (.bin .add 3 a34 (ki 1)) p35,
mv a35 p9])))))))) .skip)))
noncomputable def f101 : FFunc := .mk c101 u46 [p0,p1,p2] []
theorem e101 : @compF Try.prog (Gl.none Try.prog) Try.f101 3 = f101 := by kernel_rfl
theorem o101 : okF Try.prog Try.f101 = true := by kernel_rfl
theorem g101 : Try.prog.funcs[(101 : Nat)]? = some Try.f101 := by kernel_rfl
noncomputable def c102 : FCode := (.seq (.run [mv kz p6,
mv kz p7]) (.seq (.run [mv a2 p13,
mv a1 p14,
.go (.bin .sub 3 a13 a14) p15,
mv a15 p8]) (.seq (.run [.go (.alloc 3 [z0]) p9]) (.seq (.run [mv a1 p16,
mv a8 p17,
.go (.bin .quo 3 a17 (ki 4)) p18,
.go (.bin .mul 3 a18 (ki 1)) p19,
.go (.bin .add 3 a16 a19) p20,
mv a20 p10]) (.seq (.run [mv a1 p21,
mv a8 p22,
.go (.bin .quo 3 a22 (ki 4)) p23,
.go (.bin .mul 3 a23 (ki 2)) p24,
.go (.bin .add 3 a21 a24) p25,
mv a25 p11]) (.seq (.run [mv a1 p26,
mv a8 p27,
.go (.bin .quo 3 a27 (ki 4)) p28,
.go (.bin .mul 3 a28 (ki 3)) p29,
.go (.bin .add 3 a26 a29) p30,
mv a30 p12]) (.seq (.seq (.run [mv a8 p31,
.go (.bin .geq 3 a31 (ki 8)) p32]) (.cond a32 (.seq (.seq (.run [mv a8 p33,
.go (.bin .geq 3 a33 (ki 50)) p34]) (.cond a34 (.seq (.run [mv a0 p35,
mv a10 p36,
.go (.call (kf 115) [a35,a36,a9]) p37,
mv a37 p10]) (.seq (.run [mv a0 p38,
mv a11 p39,
.go (.call (kf 115) [a38,a39,a9]) p40,
mv a40 p11]) (.run [mv a0 p41,
mv a12 p42,
.go (.call (kf 115) [a41,a42,a9]) p43,
mv a43 p12]))) .skip)) (.run [mv a0 p44,
mv a10 p45,
mv a11 p46,
mv a12 p47,
.go (.call (kf 116) [a44,a45,a46,a47,a9]) p48,
mv a48 p11])) .skip)) (.seq (.run [.go (.load1 a9) p49]) (.block 0 (.seq (.run [.go (.bin .eql 3 a49 kz) p52,
mv a52 p51]) (.cond a51 (.seq (.run [mv a11 p53,
mv a53 p6,
mv (ki 1) p7]) .ret) (.seq (.run [.go (.bin .eql 3 a49 (ki 12)) p55,
mv a55 p54]) (.cond a54 (.seq (.run [mv a11 p56,
mv a56 p6,
mv (ki 2) p7]) .ret) (.seq (.run [mv a11 p50,
mv a50 p6,
mv kz p7]) .ret))))))))))))))
noncomputable def f102 : FFunc := .mk c102 u21 [p0,p1,p2] [.tmp p6,.tmp p7]
theorem e102 : @compF Try.prog (Gl.none Try.prog) Try.f102 3 = f102 := by kernel_rfl
theorem o102 : okF Try.prog Try.f102 = true := by kernel_rfl
theorem g102 : Try.prog.funcs[(102 : Nat)]? = some Try.f102 := by kernel_rfl
noncomputable def c103 : FCode := (.seq (.run [mv a1 p8,
mv a8 p6]) (.seq (.run [mv a2 p9,
.go (.bin .sub 3 a9 (ki 1)) p10,
mv a10 p7]) (.block 0 (.loop (.seq (.seq (.run [mv a6 p11,
mv a7 p12,
.go (.bin .lss 3 a11 a12) p13]) (.cond a13 .skip (.exit 0))) (.block 1 (.seq (.draw 16 [mv a0 p14,
mv a6 p15,
mv a0 p16,
mv a7 p17,
mv a0 p18,
mv a7 p19,
.go (.indexAddr none 1 a18 a19) p20,
.go (.load1 a20) p21,
mv a0 p22,
mv a6 p23,
.go (.indexAddr none 1 a22 a23) p24,
.go (.load1 a24) p25,
.go (.indexAddr none 1 a14 a15) p26,
.un (.store 1 a26 a21),
.go (.indexAddr none 1 a16 a17) p27,
.un (.store 1 a27 a25)] [.ok,.ok,.ok,.ok,.ok,.ok,.ok,.ok,.ok,.ok,.ok,.ok,.ok,.ok,.ok,.ok]) (.seq (.run [mv a6 p28,
.go (.bin .add 3 a28 (ki 1)) p29,
mv a29 p6]) (.run [mv a7 p30,
.go (.bin .sub 3 a30 (ki 1)) p31,
mv a31 p7])))))))))
noncomputable def f103 : FFunc := .mk c103 u39 [p0,p1,p2] []
theorem e103 : @compF Try.prog (Gl.none Try.prog) Try.f103 3 = f103 := by kernel_rfl
theorem o103 : okF Try.prog Try.f103 = true := by kernel_rfl
theorem g103 : Try.prog.funcs[(103 : Nat)]? = some Try.f103 := by kernel_rfl
noncomputable def c104 : FCode := (.seq (.run [mv (.con (.bool false)) p6]) (.seq (.run [mv a1 p11,
.go (.bin .add 3 a11 (ki 1)) p12,
mv a12 p7]) (.seq (.seq (.run [mv kz p8]) (.block 0 (.loop (.seq (.seq (.run [mv a8 p13,
.go (.bin .lss 3 a13 (ki 5)) p14]) (.cond a14 .skip (.exit 0))) (.seq (.block 1 (.seq (.block 2 (.loop (.seq (.seq (.draw 16 [mv a7 p17,
mv a2 p18,
.go (.bin .lss 3 a17 a18) p19,
mv a19 p20,
.gd p20 true (.move a0) p21,
.gd p20 true (.move a7) p22,
.gd p20 true (.indexAddr none 1 a21 a22) p23,
.gd p20 true (.load1 a23) p24,
.gd p20 true (.move a0) p25,
.gd p20 true (.move a7) p26,
.gd p20 true (.bin .sub 3 a26 (ki 1)) p27,
.gd p20 true (.indexAddr none 1 a25 a27) p28,
.gd p20 true (.load1 a28) p29,
.gd p20 true (.call (kf 105) [a24,a29]) p30,
.gd p20 true (.un .not a30) p31,
.go (.pick a20 a31 (.con (.bool false))) p32] [.ok,.ok,.ok,.ok,.ok,.ok,.ok,.ok,.ok,.ok,.ok,.ok,.ok,.ok,.ok,.ok]) (.cond a32 .skip (.exit 2))) (.block 3 (.run [mv a7 p33,
.go (.bin .add 3 a33 (ki 1)) p34,
mv a34 p7]))))) (.seq (.seq (.run [mv a7 p35,
mv a2 p36,
.go (.bin .eql 3 a35 a36) p37]) (.cond a37 (.seq (.run [mv (.con (.bool true)) p6]) .ret) .skip)) (.seq (.seq (.run [mv a2 p38,
mv a1 p39,
.go (.bin .sub 3 a38 a39) p40,
.go (.bin .lss 3 a40 (ki 50)) p41]) (.cond a41 (.seq (.run [mv (.con (.bool false)) p6]) .ret) .skip)) (.seq (.draw 18 [mv a0 p42,
mv a7 p43,
mv a0 p44,
mv a7 p45,
.go (.bin .sub 3 a45 (ki 1)) p46,
mv a0 p47,
mv a7 p48,
.go (.bin .sub 3 a48 (ki 1)) p49,
.go (.indexAddr none 1 a47 a49) p50,
.go (.load1 a50) p51,
mv a0 p52,
mv a7 p53,
.go (.indexAddr none 1 a52 a53) p54,
.go (.load1 a54) p55,
.go (.indexAddr none 1 a42 a43) p56,
.un (.store 1 a56 a51),
.go (.indexAddr none 1 a44 a46) p57,
.un (.store 1 a57 a55)] [.ok,.ok,.ok,.ok,.ok,.ok,.ok,.ok,.ok,.ok,.ok,.ok,.ok,.ok,.ok,.ok,.ok,.ok]) (.seq (.seq (.run [mv a7 p58,
mv a1 p59,
.go (.bin .sub 3 a58 a59) p60,
.go (.bin .geq 3 a60 (ki 2)) p61]) (.cond a61 (.seq (.run [mv a7 p62,
.go (.bin .sub 3 a62 (ki 1)) p63,
mv a63 p9]) (.block 4 (.loop (.seq (.seq (.run [mv a9 p64,
.go (.bin .geq 3 a64 (ki 1)) p65]) (.cond a65 .skip (.exit 4))) (.seq (.block 5 (.seq (.seq (.draw 11 [mv a0 p68,
mv a9 p69,
.go (.indexAddr none 1 a68 a69) p70,
.go (.load1 a70) p71,
mv a0 p72,
mv a9 p73,
.go (.bin .sub 3 a73 (ki 1)) p74,
.go (.indexAddr none 1 a72 a74) p75,
.go (.load1 a75) p76,
.go (.call (kf 105) [a71,a76]) p77,
.go (.un .not a77) p78] [.ok,.ok,.ok,.ok,.ok,.ok,.ok,.ok,.ok,.ok,.ok]) (.cond a78 (.exit 4) .skip)) (.draw 18 [mv a0 p79,
mv a9 p80,
mv a0 p81,
mv a9 p82,
.go (.bin .sub 3 a82 (ki 1)) p83,
mv a0 p84,
mv a9 p85,
.go (.bin .sub 3 a85 (ki 1)) p86,
.go (.indexAddr none 1 a84 a86) p87,
.go (.load1 a87) p88,
mv a0 p89,
mv a9 p90,
.go (.indexAddr none 1 a89 a90) p91,
.go (.load1 a91) p92,
.go (.indexAddr none 1 a79 a80) p93,
.un (.store 1 a93 a88),
.go (.indexAddr none 1 a81 a83) p94,
.un (.store 1 a94 a92)] [.ok,.ok,.ok,.ok,.ok,.ok,.ok,.ok,.ok,.ok,.ok,.ok,.ok,.ok,.ok,.ok,.ok,.ok]))) (.run [mv a9 p66,
.go (.bin .sub 3 a66 (ki 1)) p67,
mv a67 p9])))))) .skip)) (.seq (.run [mv a2 p95,
mv a7 p96,
.go (.bin .sub 3 a95 a96) p97,
.go (.bin .geq 3 a97 (ki 2)) p98]) (.cond a98 (.seq (.run [mv a7 p99,
.go (.bin .add 3 a99 (ki 1)) p100,
mv a100 p10]) (.block 6 (.loop (.seq (.seq (.run [mv a10 p101,
mv a2 p102,
.go (.bin .lss 3 a101 a102) p103]) (.cond a103 .skip (.exit 6))) (.seq (.block 7 (.seq (.seq (.draw 11 [mv a0 p106,
mv a10 p107,
.go (.indexAddr none 1 a106 a107) p108,
.go (.load1 a108) p109,
mv a0 p110,
mv a10 p111,
.go (.bin .sub 3 a111 (ki 1)) p112,
.go (.indexAddr none 1 a110 a112) p113,
.go (.load1 a113) p114,
.go (.call (kf 105) [a109,a114]) p115,
.go (.un .not a115) p116] [.ok,.ok,.ok,.ok,.ok,.ok,.ok,.ok,.ok,.ok,.ok]) (.cond a116 (.exit 6) .skip)) (.draw 18 [mv a0 p117,
mv a10 p118,
mv a0 p119,
mv a10 p120,
.go (.bin .sub 3 a120 (ki 1)) p121,
mv a0 p122,
mv a10 p123,
.go (.bin .sub 3 a123 (ki 1)) p124,
.go (.indexAddr none 1 a122 a124) p125,
.go (.load1 a125) p126,
mv a0 p127,
mv a10 p128,
.go (.indexAddr none 1 a127 a128) p129,
.go (.load1 a129) p130,
.go (.indexAddr none 1 a117 a118) p131,
.un (.store 1 a131 a126),
.go (.indexAddr none 1 a119 a121) p132,
.un (.store 1 a132 a130)] [.ok,.ok,.ok,.ok,.ok,.ok,.ok,.ok,.ok,.ok,.ok,.ok,.ok,.ok,.ok,.ok,.ok,.ok]))) (.run [mv a10 p104,
.go (.bin .add 3 a104 (ki 1)) p105,
mv a105 p10])))))) .skip)))))))) (.run [mv a8 p15,
.go (.bin .add 3 a15 (ki 1)) p16,
mv a16 p8])))))) (.seq (.run [mv (.con (.bool false)) p6]) .ret))))
noncomputable def f104 : FFunc := .mk c104 u47 [p0,p1,p2] [.tmp p6]
theorem e104 : @compF Try.prog (Gl.none Try.prog) Try.f104 3 = f104 := by kernel_rfl
theorem o104 : okF Try.prog Try.f104 = true := by kernel_rfl
theorem g104 : Try.prog.funcs[(104 : Nat)]? = some Try.f104 := by kernel_rfl
noncomputable def c105 : FCode := (.seq (.run [mv (.con (.bool false)) p4]) (.seq (.run [mv a0 p5,
.go (.call (kf 117) [a5]) p6,
mv a6 p7,
.gd p7 true (.move a1) p8,
.gd p7 true (.call (kf 117) [a8]) p9,
.gd p7 true (.un .not a9) p10,
.go (.pick a7 a10 (.con (.bool false))) p11,
mv a11 p12,
.gd p12 false (.move a0) p13,
.gd p12 false (.move a1) p14,
.gd p12 false (.bin .lss 3 a13 a14) p15,
.go (.pick a12 (.con (.bool true)) a15) p16,
mv a16 p4]) .ret))
noncomputable def f105 : FFunc := .mk c105 u29 [p0,p1] [.tmp p4]
theorem e105 : @compF Try.prog (Gl.none Try.prog) Try.f105 2 = f105 := by kernel_rfl
theorem o105 : okF Try.prog Try.f105 = true := by kernel_rfl
theorem g105 : Try.prog.funcs[(105 : Nat)]? = some Try.f105 := by kernel_rfl
noncomputable def c106 : FCode := (.seq (.run [mv kz p8]) (.seq (.draw 16 [mv a0 p11,
mv a1 p12,
mv a0 p13,
mv a3 p14,
mv a0 p15,
mv a3 p16,
.go (.indexAddr none 1 a15 a16) p17,
.go (.load1 a17) p18,
mv a0 p19,
mv a1 p20,
.go (.indexAddr none 1 a19 a20) p21,
.go (.load1 a21) p22,
.go (.indexAddr none 1 a11 a12) p23,
.un (.store 1 a23 a18),
.go (.indexAddr none 1 a13 a14) p24,
.un (.store 1 a24 a22)] [.ok,.ok,.ok,.ok,.ok,.ok,.ok,.ok,.ok,.ok,.ok,.ok,.ok,.ok,.ok,.ok]) (.seq (.run [mv a1 p25,
.go (.bin .add 3 a25 (ki 1)) p26,
mv a2 p27,
.go (.bin .sub 3 a27 (ki 1)) p28,
mv a26 p9,
mv a28 p10]) (.seq (.block 0 (.loop (.block 1 (.seq (.block 2 (.loop (.seq (.seq (.draw 15 [mv a9 p29,
mv a10 p30,
.go (.bin .leq 3 a29 a30) p31,
mv a31 p32,
.gd p32 true (.move a0) p33,
.gd p32 true (.move a1) p34,
.gd p32 true (.indexAddr none 1 a33 a34) p35,
.gd p32 true (.load1 a35) p36,
.gd p32 true (.move a0) p37,
.gd p32 true (.move a9) p38,
.gd p32 true (.indexAddr none 1 a37 a38) p39,
.gd p32 true (.load1 a39) p40,
.gd p32 true (.call (kf 105) [a36,a40]) p41,
.gd p32 true (.un .not a41) p42,
.go (.pick a32 a42 (.con (.bool false))) p43] [.ok,.ok,.ok,.ok,.ok,.ok,.ok,.ok,.ok,.ok,.ok,.ok,.ok,.ok,.ok]) (.cond a43 .skip (.exit 2))) (.block 3 (.run [mv a9 p44,
.go (.bin .add 3 a44 (ki 1)) p45,
mv a45 p9]))))) (.seq (.block 4 (.loop (.seq (.seq (.draw 14 [mv a9 p46,
mv a10 p47,
.go (.bin .leq 3 a46 a47) p48,
mv a48 p49,
.gd p49 true (.move a0) p50,
.gd p49 true (.move a1) p51,
.gd p49 true (.indexAddr none 1 a50 a51) p52,
.gd p49 true (.load1 a52) p53,
.gd p49 true (.move a0) p54,
.gd p49 true (.move a10) p55,
.gd p49 true (.indexAddr none 1 a54 a55) p56,
.gd p49 true (.load1 a56) p57,
.gd p49 true (.call (kf 105) [a53,a57]) p58,
.go (.pick a49 a58 (.con (.bool false))) p59] [.ok,.ok,.ok,.ok,.ok,.ok,.ok,.ok,.ok,.ok,.ok,.ok,.ok,.ok]) (.cond a59 .skip (.exit 4))) (.block 5 (.run [mv a10 p60,
.go (.bin .sub 3 a60 (ki 1)) p61,
mv a61 p10]))))) (.seq (.seq (.run [mv a9 p62,
mv a10 p63,
.go (.bin .gtr 3 a62 a63) p64]) (.cond a64 (.exit 0) .skip)) (.seq (.draw 16 [mv a0 p65,
mv a9 p66,
mv a0 p67,
mv a10 p68,
mv a0 p69,
mv a10 p70,
.go (.indexAddr none 1 a69 a70) p71,
.go (.load1 a71) p72,
mv a0 p73,
mv a9 p74,
.go (.indexAddr none 1 a73 a74) p75,
.go (.load1 a75) p76,
.go (.indexAddr none 1 a65 a66) p77,
.un (.store 1 a77 a72),
.go (.indexAddr none 1 a67 a68) p78,
.un (.store 1 a78 a76)] [.ok,.ok,.ok,.ok,.ok,.ok,.ok,.ok,.ok,.ok,.ok,.ok,.ok,.ok,.ok,.ok]) (.seq (.run [mv a9 p79,
.go (.bin .add 3 a79 (ki 1)) p80,
mv a80 p9]) (.run [mv a10 p81,
.go (.bin .sub 3 a81 (ki 1)) p82,
mv a82 p10]))))))))) (.seq (.run [mv a9 p83,
mv a83 p8]) .ret)))))
noncomputable def f106 : FFunc := .mk c106 u49 [p0,p1,p2,p3] [.tmp p8]
theorem e106 : @compF Try.prog (Gl.none Try.prog) Try.f106 4 = f106 := by kernel_rfl
theorem o106 : okF Try.prog Try.f106 = true := by kernel_rfl
theorem g106 : Try.prog.funcs[(106 : Nat)]? = some Try.f106 := by kernel_rfl
noncomputable def c107 : FCode := (.seq (.run [mv kz p8,
mv (.con (.bool false)) p9]) (.seq (.draw 16 [mv a0 p12,
mv a1 p13,
mv a0 p14,
mv a3 p15,
mv a0 p16,
mv a3 p17,
.go (.indexAddr none 1 a16 a17) p18,
.go (.load1 a18) p19,
mv a0 p20,
mv a1 p21,
.go (.indexAddr none 1 a20 a21) p22,
.go (.load1 a22) p23,
.go (.indexAddr none 1 a12 a13) p24,
.un (.store 1 a24 a19),
.go (.indexAddr none 1 a14 a15) p25,
.un (.store 1 a25 a23)] [.ok,.ok,.ok,.ok,.ok,.ok,.ok,.ok,.ok,.ok,.ok,.ok,.ok,.ok,.ok,.ok]) (.seq (.run [mv a1 p26,
.go (.bin .add 3 a26 (ki 1)) p27,
mv a2 p28,
.go (.bin .sub 3 a28 (ki 1)) p29,
mv a27 p10,
mv a29 p11]) (.seq (.block 0 (.loop (.seq (.seq (.draw 14 [mv a10 p30,
mv a11 p31,
.go (.bin .leq 3 a30 a31) p32,
mv a32 p33,
.gd p33 true (.move a0) p34,
.gd p33 true (.move a10) p35,
.gd p33 true (.indexAddr none 1 a34 a35) p36,
.gd p33 true (.load1 a36) p37,
.gd p33 true (.move a0) p38,
.gd p33 true (.move a1) p39,
.gd p33 true (.indexAddr none 1 a38 a39) p40,
.gd p33 true (.load1 a40) p41,
.gd p33 true (.call (kf 105) [a37,a41]) p42,
.go (.pick a33 a42 (.con (.bool false))) p43] [.ok,.ok,.ok,.ok,.ok,.ok,.ok,.ok,.ok,.ok,.ok,.ok,.ok,.ok]) (.cond a43 .skip (.exit 0))) (.block 1 (.run [mv a10 p44,
.go (.bin .add 3 a44 (ki 1)) p45,
mv a45 p10]))))) (.seq (.block 2 (.loop (.seq (.seq (.draw 15 [mv a10 p46,
mv a11 p47,
.go (.bin .leq 3 a46 a47) p48,
mv a48 p49,
.gd p49 true (.move a0) p50,
.gd p49 true (.move a11) p51,
.gd p49 true (.indexAddr none 1 a50 a51) p52,
.gd p49 true (.load1 a52) p53,
.gd p49 true (.move a0) p54,
.gd p49 true (.move a1) p55,
.gd p49 true (.indexAddr none 1 a54 a55) p56,
.gd p49 true (.load1 a56) p57,
.gd p49 true (.call (kf 105) [a53,a57]) p58,
.gd p49 true (.un .not a58) p59,
.go (.pick a49 a59 (.con (.bool false))) p60] [.ok,.ok,.ok,.ok,.ok,.ok,.ok,.ok,.ok,.ok,.ok,.ok,.ok,.ok,.ok]) (.cond a60 .skip (.exit 2))) (.block 3 (.run [mv a11 p61,
.go (.bin .sub 3 a61 (ki 1)) p62,
mv a62 p11]))))) (.seq (.seq (.run [mv a10 p63,
mv a11 p64,
.go (.bin .gtr 3 a63 a64) p65]) (.cond a65 (.seq (.draw 16 [mv a0 p66,
mv a11 p67,
mv a0 p68,
mv a1 p69,
mv a0 p70,
mv a1 p71,
.go (.indexAddr none 1 a70 a71) p72,
.go (.load1 a72) p73,
mv a0 p74,
mv a11 p75,
.go (.indexAddr none 1 a74 a75) p76,
.go (.load1 a76) p77,
.go (.indexAddr none 1 a66 a67) p78,
.un (.store 1 a78 a73),
.go (.indexAddr none 1 a68 a69) p79,
.un (.store 1 a79 a77)] [.ok,.ok,.ok,.ok,.ok,.ok,.ok,.ok,.ok,.ok,.ok,.ok,.ok,.ok,.ok,.ok]) (.seq (.run [mv a11 p80,
mv a80 p8,
mv (.con (.bool true)) p9]) .ret)) .skip)) (.seq (.draw 16 [mv a0 p81,
mv a10 p82,
mv a0 p83,
mv a11 p84,
mv a0 p85,
mv a11 p86,
.go (.indexAddr none 1 a85 a86) p87,
.go (.load1 a87) p88,
mv a0 p89,
mv a10 p90,
.go (.indexAddr none 1 a89 a90) p91,
.go (.load1 a91) p92,
.go (.indexAddr none 1 a81 a82) p93,
.un (.store 1 a93 a88),
.go (.indexAddr none 1 a83 a84) p94,
.un (.store 1 a94 a92)] [.ok,.ok,.ok,.ok,.ok,.ok,.ok,.ok,.ok,.ok,.ok,.ok,.ok,.ok,.ok,.ok]) (.seq (.run [mv a10 p95,
.go (.bin .add 3 a95 (ki 1)) p96,
mv a96 p10]) (.seq (.run [mv a11 p97,
.go (.bin .sub 3 a97 (ki 1)) p98,
mv a98 p11]) (.seq (.block 4 (.loop (.block 5 (.seq (.block 6 (.loop (.seq (.seq (.draw 14 [mv a10 p99,
mv a11 p100,
.go (.bin .leq 3 a99 a100) p101,
mv a101 p102,
.gd p102 true (.move a0) p103,
.gd p102 true (.move a10) p104,
.gd p102 true (.indexAddr none 1 a103 a104) p105,
.gd p102 true (.load1 a105) p106,
.gd p102 true (.move a0) p107,
.gd p102 true (.move a1) p108,
.gd p102 true (.indexAddr none 1 a107 a108) p109,
.gd p102 true (.load1 a109) p110,
.gd p102 true (.call (kf 105) [a106,a110]) p111,
.go (.pick a102 a111 (.con (.bool false))) p112] [.ok,.ok,.ok,.ok,.ok,.ok,.ok,.ok,.ok,.ok,.ok,.ok,.ok,.ok]) (.cond a112 .skip (.exit 6))) (.block 7 (.run [mv a10 p113,
.go (.bin .add 3 a113 (ki 1)) p114,
mv a114 p10]))))) (.seq (.block 8 (.loop (.seq (.seq (.draw 15 [mv a10 p115,
mv a11 p116,
.go (.bin .leq 3 a115 a116) p117,
mv a117 p118,
.gd p118 true (.move a0) p119,
.gd p118 true (.move a11) p120,
.gd p118 true (.indexAddr none 1 a119 a120) p121,
.gd p118 true (.load1 a121) p122,
.gd p118 true (.move a0) p123,
.gd p118 true (.move a1) p124,
.gd p118 true (.indexAddr none 1 a123 a124) p125,
.gd p118 true (.load1 a125) p126,
.gd p118 true (.call (kf 105) [a122,a126]) p127,
.gd p118 true (.un .not a127) p128,
.go (.pick a118 a128 (.con (.bool false))) p129] [.ok,.ok,.ok,.ok,.ok,.ok,.ok,.ok,.ok,.ok,.ok,.ok,.ok,.ok,.ok]) (.cond a129 .skip (.exit 8))) (.block 9 (.run [mv a11 p130,
.go (.bin .sub 3 a130 (ki 1)) p131,
mv a131 p11]))))) (.seq (.seq (.run [mv a10 p132,
mv a11 p133,
.go (.bin .gtr 3 a132 a133) p134]) (.cond a134 (.exit 4) .skip)) (.seq (.draw 16 [mv a0 p135,
mv a10 p136,
mv a0 p137,
mv a11 p138,
mv a0 p139,
mv a11 p140,
.go (.indexAddr none 1 a139 a140) p141,
.go (.load1 a141) p142,
mv a0 p143,
mv a10 p144,
.go (.indexAddr none 1 a143 a144) p145,
.go (.load1 a145) p146,
.go (.indexAddr none 1 a135 a136) p147,
.un (.store 1 a147 a142),
.go (.indexAddr none 1 a137 a138) p148,
.un (.store 1 a148 a146)] [.ok,.ok,.ok,.ok,.ok,.ok,.ok,.ok,.ok,.ok,.ok,.ok,.ok,.ok,.ok,.ok]) (.seq (.run [mv a10 p149,
.go (.bin .add 3 a149 (ki 1)) p150,
mv a150 p10]) (.run [mv a11 p151,
.go (.bin .sub 3 a151 (ki 1)) p152,
mv a152 p11]))))))))) (.seq (.draw 16 [mv a0 p153,
mv a11 p154,
mv a0 p155,
mv a1 p156,
mv a0 p157,
mv a1 p158,
.go (.indexAddr none 1 a157 a158) p159,
.go (.load1 a159) p160,
mv a0 p161,
mv a11 p162,
.go (.indexAddr none 1 a161 a162) p163,
.go (.load1 a163) p164,
.go (.indexAddr none 1 a153 a154) p165,
.un (.store 1 a165 a160),
.go (.indexAddr none 1 a155 a156) p166,
.un (.store 1 a166 a164)] [.ok,.ok,.ok,.ok,.ok,.ok,.ok,.ok,.ok,.ok,.ok,.ok,.ok,.ok,.ok,.ok]) (.seq (.run [mv a11 p167,
mv a167 p8,
mv (.con (.bool false)) p9]) .ret))))))))))))
noncomputable def f107 : FFunc := .mk c107 u51 [p0,p1,p2,p3] [.tmp p8,.tmp p9]
theorem e107 : @compF Try.prog (Gl.none Try.prog) Try.f107 4 = f107 := by kernel_rfl
theorem o107 : okF Try.prog Try.f107 = true := by kernel_rfl
theorem g107 : Try.prog.funcs[(107 : Nat)]? = some Try.f107 := by kernel_rfl
noncomputable def c108 : FCode := (.seq (.run [mv kz p2]) (.seq (.seq (.run [mv a0 p3,
.go (.bin .geq 151 a3 (.con (.int .u32 (.ofNat 65536)))) p4]) (.cond a4 (.seq (.run [mv a0 p5,
.go (.bin .shr 151 a5 (.con (.int .u64 (.ofNat 16)))) p6,
mv a6 p0]) (.run [mv (ki 16) p2])) .skip)) (.seq (.seq (.run [mv a0 p7,
.go (.bin .geq 151 a7 (.con (.int .u32 (.ofNat 256)))) p8]) (.cond a8 (.seq (.run [mv a0 p9,
.go (.bin .shr 151 a9 (.con (.int .u64 (.ofNat 8)))) p10,
mv a10 p0]) (.run [mv a2 p11,
.go (.bin .add 3 a11 (ki 8)) p12,
mv a12 p2])) .skip)) (.seq (.run [mv a2 p13,
mv a0 p14,
.go (.conv .u8 a14) p15,
.go (.idxSlow 9 (.con (.string ⟨#[0, 1, 2, 2, 3, 3, 3, 3, 4, 4, 4, 4, 4, 4, 4, 4, 5, 5, 5, 5, 5, 5, 5, 5, 5, 5, 5, 5, 5, 5, 5, 5, 6, 6, 6, 6, 6, 6, 6, 6, 6, 6, 6, 6, 6, 6, 6, 6, 6, 6, 6, 6, 6, 6, 6, 6, 6, 6, 6, 6, 6, 6, 6, 6, 7, 7, 7, 7, 7, 7, 7, 7, 7, 7, 7, 7, 7, 7, 7, 7, 7, 7, 7, 7, 7, 7, 7, 7, 7, 7, 7, 7, 7, 7, 7, 7, 7, 7, 7, 7, 7, 7, 7, 7, 7, 7, 7, 7, 7, 7, 7, 7, 7, 7, 7, 7, 7, 7, 7, 7, 7, 7, 7, 7, 7, 7, 7, 7, 8, 8, 8, 8, 8, 8, 8, 8, 8, 8, 8, 8, 8, 8, 8, 8, 8, 8, 8, 8, 8, 8, 8, 8, 8, 8, 8, 8, 8, 8, 8, 8, 8, 8, 8, 8, 8, 8, 8, 8, 8, 8, 8, 8, 8, 8, 8, 8, 8, 8, 8, 8, 8, 8, 8, 8, 8, 8, 8, 8, 8, 8, 8, 8, 8, 8, 8, 8, 8, 8, 8, 8, 8, 8, 8, 8, 8, 8, 8, 8, 8, 8, 8, 8, 8, 8, 8, 8, 8, 8, 8, 8, 8, 8, 8, 8, 8, 8, 8, 8, 8, 8, 8, 8, 8, 8, 8, 8, 8, 8, 8, 8, 8, 8, 8, 8, 8, 8, 8, 8, 8, 8, 8, 8, 8, 8, 8, 8]⟩)) a15) p16,
.go (.conv .i64 a16) p17,
.go (.bin .add 3 a13 a17) p18,
mv a18 p2]) .ret))))
noncomputable def f108 : FFunc := .mk c108 u16 [p0] [.tmp p2]
theorem e108 : @compF Try.prog (Gl.none Try.prog) Try.f108 1 = f108 := by kernel_rfl
theorem o108 : okF Try.prog Try.f108 = true := by kernel_rfl
theorem g108 : Try.prog.funcs[(108 : Nat)]? = some Try.f108 := by kernel_rfl
noncomputable def c109 : FCode := (.seq (.run [mv kz p2]) (.seq (.seq (.run [mv a0 p3,
.go (.bin .geq 135 a3 (.con (.int .u64 (.ofNat 4294967296)))) p4]) (.cond a4 (.seq (.run [mv a0 p5,
.go (.bin .shr 135 a5 (.con (.int .u64 (.ofNat 32)))) p6,
mv a6 p0]) (.run [mv (ki 32) p2])) .skip)) (.seq (.seq (.run [mv a0 p7,
.go (.bin .geq 135 a7 (.con (.int .u64 (.ofNat 65536)))) p8]) (.cond a8 (.seq (.run [mv a0 p9,
.go (.bin .shr 135 a9 (.con (.int .u64 (.ofNat 16)))) p10,
mv a10 p0]) (.run [mv a2 p11,
.go (.bin .add 3 a11 (ki 16)) p12,
mv a12 p2])) .skip)) (.seq (.seq (.run [mv a0 p13,
.go (.bin .geq 135 a13 (.con (.int .u64 (.ofNat 256)))) p14]) (.cond a14 (.seq (.run [mv a0 p15,
.go (.bin .shr 135 a15 (.con (.int .u64 (.ofNat 8)))) p16,
mv a16 p0]) (.run [mv a2 p17,
.go (.bin .add 3 a17 (ki 8)) p18,
mv a18 p2])) .skip)) (.seq (.run [mv a2 p19,
mv a0 p20,
.go (.conv .u8 a20) p21,
.go (.idxSlow 9 (.con (.string ⟨#[0, 1, 2, 2, 3, 3, 3, 3, 4, 4, 4, 4, 4, 4, 4, 4, 5, 5, 5, 5, 5, 5, 5, 5, 5, 5, 5, 5, 5, 5, 5, 5, 6, 6, 6, 6, 6, 6, 6, 6, 6, 6, 6, 6, 6, 6, 6, 6, 6, 6, 6, 6, 6, 6, 6, 6, 6, 6, 6, 6, 6, 6, 6, 6, 7, 7, 7, 7, 7, 7, 7, 7, 7, 7, 7, 7, 7, 7, 7, 7, 7, 7, 7, 7, 7, 7, 7, 7, 7, 7, 7, 7, 7, 7, 7, 7, 7, 7, 7, 7, 7, 7, 7, 7, 7, 7, 7, 7, 7, 7, 7, 7, 7, 7, 7, 7, 7, 7, 7, 7, 7, 7, 7, 7, 7, 7, 7, 7, 8, 8, 8, 8, 8, 8, 8, 8, 8, 8, 8, 8, 8, 8, 8, 8, 8, 8, 8, 8, 8, 8, 8, 8, 8, 8, 8, 8, 8, 8, 8, 8, 8, 8, 8, 8, 8, 8, 8, 8, 8, 8, 8, 8, 8, 8, 8, 8, 8, 8, 8, 8, 8, 8, 8, 8, 8, 8, 8, 8, 8, 8, 8, 8, 8, 8, 8, 8, 8, 8, 8, 8, 8, 8, 8, 8, 8, 8, 8, 8, 8, 8, 8, 8, 8, 8, 8, 8, 8, 8, 8, 8, 8, 8, 8, 8, 8, 8, 8, 8, 8, 8, 8, 8, 8, 8, 8, 8, 8, 8, 8, 8, 8, 8, 8, 8, 8, 8, 8, 8, 8, 8, 8, 8, 8, 8, 8, 8]⟩)) a21) p22,
.go (.conv .i64 a22) p23,
.go (.bin .add 3 a19 a23) p24,
mv a24 p2]) .ret)))))
noncomputable def f109 : FFunc := .mk c109 u32 [p0] [.tmp p2]
theorem e109 : @compF Try.prog (Gl.none Try.prog) Try.f109 1 = f109 := by kernel_rfl
theorem o109 : okF Try.prog Try.f109 = true := by kernel_rfl
theorem g109 : Try.prog.funcs[(109 : Nat)]? = some Try.f109 := by kernel_rfl
noncomputable def c110 : FCode := (.seq (.run [mv (.con (.bool false)) p2]) (.seq (.run [mv a0 p3,
mv a0 p4,
.go (.bin .neq 135 a3 a4) p5,
mv a5 p2]) .ret))
noncomputable def f110 : FFunc := .mk c110 u3 [p0] [.tmp p2]
theorem e110 : @compF Try.prog (Gl.none Try.prog) Try.f110 1 = f110 := by kernel_rfl
theorem o110 : okF Try.prog Try.f110 = true := by kernel_rfl
theorem g110 : Try.prog.funcs[(110 : Nat)]? = some Try.f110 := by kernel_rfl
noncomputable def c111 : FCode := (.seq (.run [mv kz p4]) (.seq (.seq (.run [mv a0 p6,
.go (.len 0 a6) p7,
mv kz p8]) (.block 0 (.loop (.seq (.run [.go (.bin .lss 3 a8 a7) p9]) (.seq (.cond a9 .skip (.exit 0)) (.seq (.block 1 (.seq (.run [mv a8 p10,
mv a10 p5]) (.seq (.run [mv a1 p11,
mv a0 p12,
mv a5 p13,
.go (.indexAddr none 1 a12 a13) p14,
.go (.loadN 1 a14) p15,
.go (.call a11 [a15]) p16]) (.cond a16 (.seq (.run [mv a5 p17,
mv a17 p4]) .ret) .skip)))) (.run [.go (.bin .add 3 a8 (ki 1)) p18,
mv a18 p8]))))))) (.seq (.run [mv (.con (.int .i64 (.negSucc 0))) p4]) .ret)))
noncomputable def f111 : FFunc := .mk c111 u16 [p0,p1] [.tmp p4]
theorem e111 : @compF Try.prog (Gl.none Try.prog) Try.f111 2 = f111 := by kernel_rfl
theorem o111 : okF Try.prog Try.f111 = true := by kernel_rfl
theorem g111 : Try.prog.funcs[(111 : Nat)]? = some Try.f111 := by kernel_rfl
noncomputable def c112 : FCode := (.seq (.run [mv a1 p10,
mv a10 p8]) (.block 0 (.loop (.block 1 (.seq (.run [mv a8 p11,
.go (.bin .mul 3 (ki 2) a11) p12,
.go (.bin .add 3 a12 (ki 1)) p13,
mv a13 p9]) (.seq (.seq (.run [mv a9 p14,
mv a2 p15,
.go (.bin .geq 3 a14 a15) p16]) (.cond a16 (.exit 0) .skip)) (.seq (.seq (.draw 20 [mv a9 p17,
.go (.bin .add 3 a17 (ki 1)) p18,
mv a2 p19,
.go (.bin .lss 3 a18 a19) p20,
mv a20 p21,
.gd p21 true (.move a0) p22,
.gd p21 true (.move a3) p23,
.gd p21 true (.move a9) p24,
.gd p21 true (.bin .add 3 a23 a24) p25,
.gd p21 true (.indexAddr none 1 a22 a25) p26,
.gd p21 true (.load1 a26) p27,
.gd p21 true (.move a0) p28,
.gd p21 true (.move a3) p29,
.gd p21 true (.move a9) p30,
.gd p21 true (.bin .add 3 a29 a30) p31,
.gd p21 true (.bin .add 3 a31 (ki 1)) p32,
.gd p21 true (.indexAddr none 1 a28 a32) p33,
.gd p21 true (.load1 a33) p34,
.gd p21 true (.call (kf 105) [a27,a34]) p35,
.go (.pick a21 a35 (.con (.bool false))) p36] [.ok,.ok,.ok,.ok,.ok,.ok,.ok,.ok,.ok,.ok,.ok,.ok,.ok,.ok,.ok,.ok,.ok,.ok,.ok,.ok]) (.cond a36 (.run [mv a9 p37,
.go (.bin .add 3 a37 (ki 1)) p38,
mv a38 p9]) .skip)) (.seq (.seq (.draw 14 [mv a0 p39,
mv a3 p40,
mv a8 p41,
.go (.bin .add 3 a40 a41) p42,
.go (.indexAddr none 1 a39 a42) p43,
.go (.load1 a43) p44,
mv a0 p45,
mv a3 p46,
mv a9 p47,
.go (.bin .add 3 a46 a47) p48,
.go (.indexAddr none 1 a45 a48) p49,
.go (.load1 a49) p50,
.go (.call (kf 105) [a44,a50]) p51,
.go (.un .not a51) p52] [.ok,.ok,.ok,.ok,.ok,.ok,.ok,.ok,.ok,.ok,.ok,.ok,.ok,.ok]) (.cond a52 .ret .skip)) (.seq (.draw 24 [mv a0 p53,
mv a3 p54,
mv a8 p55,
.go (.bin .add 3 a54 a55) p56,
mv a0 p57,
mv a3 p58,
mv a9 p59,
.go (.bin .add 3 a58 a59) p60,
mv a0 p61,
mv a3 p62,
mv a9 p63,
.go (.bin .add 3 a62 a63) p64,
.go (.indexAddr none 1 a61 a64) p65,
.go (.load1 a65) p66,
mv a0 p67,
mv a3 p68,
mv a8 p69,
.go (.bin .add 3 a68 a69) p70,
.go (.indexAddr none 1 a67 a70) p71,
.go (.load1 a71) p72,
.go (.indexAddr none 1 a53 a56) p73,
.un (.store 1 a73 a66),
.go (.indexAddr none 1 a57 a60) p74,
.un (.store 1 a74 a72)] [.ok,.ok,.ok,.ok,.ok,.ok,.ok,.ok,.ok,.ok,.ok,.ok,.ok,.ok,.ok,.ok,.ok,.ok,.ok,.ok,.ok,.ok,.ok,.ok]) (.run [mv a9 p75,
mv a75 p8]))))))))))
noncomputable def f112 : FFunc := .mk c112 u53 [p0,p1,p2,p3] []
theorem e112 : @compF Try.prog (Gl.none Try.prog) Try.f112 4 = f112 := by kernel_rfl
theorem o112 : okF Try.prog Try.f112 = true := by kernel_rfl
theorem g112 : Try.prog.funcs[(112 : Nat)]? = some Try.f112 := by kernel_rfl
noncomputable def c113 : FCode := (.seq (.run [mv (.con (.int .u64 (.ofNat 0))) p2]) (.seq (.run [mv a0 p3,
.go (.conv .u64 a3) p4,
.go (.call (kf 91) [a4]) p5,
.go (.bin .shl 86 (.con (.int .u64 (.ofNat 1))) a5) p6,
mv a6 p2]) .ret))
noncomputable def f113 : FFunc := .mk c113 u12 [p0] [.tmp p2]
theorem e113 : @compF Try.prog (Gl.none Try.prog) Try.f113 1 = f113 := by kernel_rfl
theorem o113 : okF Try.prog Try.f113 = true := by kernel_rfl
theorem g113 : Try.prog.funcs[(113 : Nat)]? = some Try.f113 := by kernel_rfl
noncomputable def c114 : FCode := (.seq (.run [mv (.con (.int .u64 (.ofNat 0))) p2]) (.seq (.draw 10 [mv a0 p3,
.go (.nilCheck a3) p4,
.go (.load1 a4) p5,
mv a0 p6,
.go (.nilCheck a6) p7,
.go (.load1 a7) p8,
.go (.bin .shl 155 a8 (.con (.int .u64 (.ofNat 13)))) p9,
.go (.bin .xor 155 a5 a9) p10,
.go (.nilCheck a3) p11,
.un (.store 1 a11 a10)] [.ok,.ok,.ok,.ok,.ok,.ok,.ok,.ok,.ok,.ok]) (.seq (.draw 10 [mv a0 p12,
.go (.nilCheck a12) p13,
.go (.load1 a13) p14,
mv a0 p15,
.go (.nilCheck a15) p16,
.go (.load1 a16) p17,
.go (.bin .shr 155 a17 (.con (.int .u64 (.ofNat 7)))) p18,
.go (.bin .xor 155 a14 a18) p19,
.go (.nilCheck a12) p20,
.un (.store 1 a20 a19)] [.ok,.ok,.ok,.ok,.ok,.ok,.ok,.ok,.ok,.ok]) (.seq (.draw 10 [mv a0 p21,
.go (.nilCheck a21) p22,
.go (.load1 a22) p23,
mv a0 p24,
.go (.nilCheck a24) p25,
.go (.load1 a25) p26,
.go (.bin .shl 155 a26 (.con (.int .u64 (.ofNat 17)))) p27,
.go (.bin .xor 155 a23 a27) p28,
.go (.nilCheck a21) p29,
.un (.store 1 a29 a28)] [.ok,.ok,.ok,.ok,.ok,.ok,.ok,.ok,.ok,.ok]) (.seq (.run [mv a0 p30,
.go (.nilCheck a30) p31,
.go (.load1 a31) p32,
mv a32 p2]) .ret)))))
noncomputable def f114 : FFunc := .mk c114 u35 [p0] [.tmp p2]
theorem e114 : @compF Try.prog (Gl.none Try.prog) Try.f114 1 = f114 := by kernel_rfl
theorem o114 : okF Try.prog Try.f114 = true := by kernel_rfl
theorem g114 : Try.prog.funcs[(114 : Nat)]? = some Try.f114 := by kernel_rfl
noncomputable def c115 : FCode := (.seq (.run [mv kz p6]) (.seq (.run [mv a0 p7,
mv a1 p8,
.go (.bin .sub 3 a8 (ki 1)) p9,
mv a1 p10,
mv a1 p11,
.go (.bin .add 3 a11 (ki 1)) p12,
mv a2 p13,
.go (.call (kf 116) [a7,a9,a10,a12,a13]) p14,
mv a14 p6]) .ret))
noncomputable def f115 : FFunc := .mk c115 u25 [p0,p1,p2] [.tmp p6]
theorem e115 : @compF Try.prog (Gl.none Try.prog) Try.f115 3 = f115 := by kernel_rfl
theorem o115 : okF Try.prog Try.f115 = true := by kernel_rfl
theorem g115 : Try.prog.funcs[(115 : Nat)]? = some Try.f115 := by kernel_rfl
noncomputable def c116 : FCode := (.seq (.run [mv kz p10]) (.seq (.run [mv a0 p12,
mv a1 p13,
mv a2 p14,
mv a4 p15,
.go (.call (kf 118) [a12,a13,a14,a15]) p16,
mv a16 p11,
.go (.extract a11 0) p17,
.go (.extract a11 1) p18,
mv a17 p1,
mv a18 p2]) (.seq (.run [mv a0 p20,
mv a2 p21,
mv a3 p22,
mv a4 p23,
.go (.call (kf 118) [a20,a21,a22,a23]) p24,
mv a24 p19,
.go (.extract a19 0) p25,
.go (.extract a19 1) p26,
mv a25 p2,
mv a26 p3]) (.seq (.run [mv a0 p28,
mv a1 p29,
mv a2 p30,
mv a4 p31,
.go (.call (kf 118) [a28,a29,a30,a31]) p32,
mv a32 p27,
.go (.extract a27 0) p33,
.go (.extract a27 1) p34,
mv a33 p1,
mv a34 p2]) (.seq (.run [mv a2 p35,
mv a35 p10]) .ret)))))
noncomputable def f116 : FFunc := .mk c116 u54 [p0,p1,p2,p3,p4] [.tmp p10]
theorem e116 : @compF Try.prog (Gl.none Try.prog) Try.f116 5 = f116 := by kernel_rfl
theorem o116 : okF Try.prog Try.f116 = true := by kernel_rfl
theorem g116 : Try.prog.funcs[(116 : Nat)]? = some Try.f116 := by kernel_rfl
noncomputable def c117 : FCode := (.seq (.run [mv (.con (.bool false)) p2]) (.seq (.run [mv a0 p3,
mv a0 p4,
.go (.bin .neq 3 a3 a4) p5,
mv a5 p2]) .ret))
noncomputable def f117 : FFunc := .mk c117 u3 [p0] [.tmp p2]
theorem e117 : @compF Try.prog (Gl.none Try.prog) Try.f117 1 = f117 := by kernel_rfl
theorem o117 : okF Try.prog Try.f117 = true := by kernel_rfl
theorem g117 : Try.prog.funcs[(117 : Nat)]? = some Try.f117 := by kernel_rfl
noncomputable def c118 : FCode := (.seq (.run [mv kz p8,
mv kz p9]) (.seq (.seq (.draw 9 [mv a0 p10,
mv a2 p11,
.go (.indexAddr none 1 a10 a11) p12,
.go (.load1 a12) p13,
mv a0 p14,
mv a1 p15,
.go (.indexAddr none 1 a14 a15) p16,
.go (.load1 a16) p17,
.go (.call (kf 105) [a13,a17]) p18] [.ok,.ok,.ok,.ok,.ok,.ok,.ok,.ok,.ok]) (.cond a18 (.seq (.run [mv a3 p19,
.go (.nilCheck a19) p20,
.go (.load1 a20) p21,
.go (.bin .add 3 a21 (ki 1)) p22,
.go (.nilCheck a19) p23,
.un (.store 1 a23 a22)]) (.seq (.run [mv a2 p24,
mv a1 p25,
mv a24 p8,
mv a25 p9]) .ret)) .skip)) (.seq (.run [mv a1 p26,
mv a2 p27,
mv a26 p8,
mv a27 p9]) .ret)))
noncomputable def f118 : FFunc := .mk c118 u20 [p0,p1,p2,p3] [.tmp p8,.tmp p9]
theorem e118 : @compF Try.prog (Gl.none Try.prog) Try.f118 4 = f118 := by kernel_rfl
theorem o118 : okF Try.prog Try.f118 = true := by kernel_rfl
theorem g118 : Try.prog.funcs[(118 : Nat)]? = some Try.f118 := by kernel_rfl
noncomputable def tbl0 : FT := (.n .bad (.n .bad (.n .bad (.n .bad (.n .bad (.n f31 (.n f63 (.n .bad .e .e) .e) (.n f95 .e .e)) (.n f47 (.n f79 .e .e) (.n f111 .e .e))) (.n .bad (.n f39 (.n f71 (.n .bad .e .e) .e) (.n f103 .e .e)) (.n .bad (.n f87 .e .e) (.n .bad .e .e)))) (.n .bad (.n .bad (.n .bad (.n f67 (.n .bad .e .e) .e) (.n f99 .e .e)) (.n .bad (.n f83 .e .e) (.n f115 .e .e))) (.n f27 (.n f43 (.n f75 .e .e) (.n f107 .e .e)) (.n f59 (.n f91 .e .e) (.n .bad .e .e))))) (.n .bad (.n .bad (.n .bad (.n f33 (.n f65 (.n .bad .e .e) .e) (.n f97 .e .e)) (.n .bad (.n f81 .e .e) (.n f113 .e .e))) (.n .bad (.n .bad (.n f73 .e .e) (.n f105 .e .e)) (.n f57 (.n f89 .e .e) (.n .bad .e .e)))) (.n .bad (.n .bad (.n .bad (.n .bad (.n .bad .e .e) .e) (.n f101 .e .e)) (.n f53 (.n f85 .e .e) (.n f117 .e .e))) (.n .bad (.n f45 (.n f77 .e .e) (.n f109 .e .e)) (.n f61 (.n f93 .e .e) (.n .bad .e .e)))))) (.n .bad (.n .bad (.n .bad (.n .bad (.n .bad (.n f64 (.n .bad .e .e) .e) (.n f96 .e .e)) (.n .bad (.n f80 .e .e) (.n f112 .e .e))) (.n f24 (.n f40 (.n f72 .e .e) (.n f104 .e .e)) (.n f56 (.n f88 .e .e) (.n .bad .e .e)))) (.n .bad (.n f20 (.n .bad (.n f68 (.n .bad .e .e) .e) (.n f100 .e .e)) (.n f52 (.n f84 .e .e) (.n f116 .e .e))) (.n .bad (.n .bad (.n f76 .e .e) (.n f108 .e .e)) (.n f60 (.n f92 .e .e) (.n .bad .e .e))))) (.n .bad (.n .bad (.n .bad (.n f34 (.n f66 (.n .bad .e .e) .e) (.n f98 .e .e)) (.n .bad (.n f82 .e .e) (.n f114 .e .e))) (.n f26 (.n .bad (.n f74 .e .e) (.n f106 .e .e)) (.n f58 (.n f90 .e .e) (.n .bad .e .e)))) (.n .bad (.n .bad (.n .bad (.n f70 (.n .bad .e .e) .e) (.n f102 .e .e)) (.n f54 (.n f86 .e .e) (.n f118 .e .e))) (.n .bad (.n f46 (.n f78 .e .e) (.n f110 .e .e)) (.n .bad (.n f94 .e .e) (.n .bad .e .e)))))))
noncomputable def F0 (n : Nat) : FFunc := look tbl0 n
def orcs0 (_n : Nat) : Option Bool := none
theorem ok0 (O : Orc Try.prog) (h : O.O = orcs0) : @FnOk Try.prog (Gl.none Try.prog) O F0 := @fnOk_of Try.prog (Gl.none Try.prog) O _ (by rw [h]; exact ⟨.inl rfl, ⟨.inl rfl, ⟨.inl rfl, ⟨.inl rfl, ⟨.inl rfl, ⟨.inr (.inr ⟨rfl, _, _, g31, o31, e31⟩), ⟨.inr (.inr ⟨rfl, _, _, g63, o63, e63⟩), ⟨.inl rfl, trivial, trivial⟩, trivial⟩, ⟨.inr (.inr ⟨rfl, _, _, g95, o95, e95⟩), trivial, trivial⟩⟩, ⟨.inr (.inr ⟨rfl, _, _, g47, o47, e47⟩), ⟨.inr (.inr ⟨rfl, _, _, g79, o79, e79⟩), trivial, trivial⟩, ⟨.inr (.inr ⟨rfl, _, _, g111, o111, e111⟩), trivial, trivial⟩⟩⟩, ⟨.inl rfl, ⟨.inr (.inr ⟨rfl, _, _, g39, o39, e39⟩), ⟨.inr (.inr ⟨rfl, _, _, g71, o71, e71⟩), ⟨.inl rfl, trivial, trivial⟩, trivial⟩, ⟨.inr (.inr ⟨rfl, _, _, g103, o103, e103⟩), trivial, trivial⟩⟩, ⟨.inl rfl, ⟨.inr (.inr ⟨rfl, _, _, g87, o87, e87⟩), trivial, trivial⟩, ⟨.inl rfl, trivial, trivial⟩⟩⟩⟩, ⟨.inl rfl, ⟨.inl rfl, ⟨.inl rfl, ⟨.inr (.inr ⟨rfl, _, _, g67, o67, e67⟩), ⟨.inl rfl, trivial, trivial⟩, trivial⟩, ⟨.inr (.inr ⟨rfl, _, _, g99, o99, e99⟩), trivial, trivial⟩⟩, ⟨.inl rfl, ⟨.inr (.inr ⟨rfl, _, _, g83, o83, e83⟩), trivial, trivial⟩, ⟨.inr (.inr ⟨rfl, _, _, g115, o115, e115⟩), trivial, trivial⟩⟩⟩, ⟨.inr (.inr ⟨rfl, _, _, g27, o27, e27⟩), ⟨.inr (.inr ⟨rfl, _, _, g43, o43, e43⟩), ⟨.inr (.inr ⟨rfl, _, _, g75, o75, e75⟩), trivial, trivial⟩, ⟨.inr (.inr ⟨rfl, _, _, g107, o107, e107⟩), trivial, trivial⟩⟩, ⟨.inr (.inr ⟨rfl, _, _, g59, o59, e59⟩), ⟨.inr (.inr ⟨rfl, _, _, g91, o91, e91⟩), trivial, trivial⟩, ⟨.inl rfl, trivial, trivial⟩⟩⟩⟩⟩, ⟨.inl rfl, ⟨.inl rfl, ⟨.inl rfl, ⟨.inr (.inr ⟨rfl, _, _, g33, o33, e33⟩), ⟨.inr (.inr ⟨rfl, _, _, g65, o65, e65⟩), ⟨.inl rfl, trivial, trivial⟩, trivial⟩, ⟨.inr (.inr ⟨rfl, _, _, g97, o97, e97⟩), trivial, trivial⟩⟩, ⟨.inl rfl, ⟨.inr (.inr ⟨rfl, _, _, g81, o81, e81⟩), trivial, trivial⟩, ⟨.inr (.inr ⟨rfl, _, _, g113, o113, e113⟩), trivial, trivial⟩⟩⟩, ⟨.inl rfl, ⟨.inl rfl, ⟨.inr (.inr ⟨rfl, _, _, g73, o73, e73⟩), trivial, trivial⟩, ⟨.inr (.inr ⟨rfl, _, _, g105, o105, e105⟩), trivial, trivial⟩⟩, ⟨.inr (.inr ⟨rfl, _, _, g57, o57, e57⟩), ⟨.inr (.inr ⟨rfl, _, _, g89, o89, e89⟩), trivial, trivial⟩, ⟨.inl rfl, trivial, trivial⟩⟩⟩⟩, ⟨.inl rfl, ⟨.inl rfl, ⟨.inl rfl, ⟨.inl rfl, ⟨.inl rfl, trivial, trivial⟩, trivial⟩, ⟨.inr (.inr ⟨rfl, _, _, g101, o101, e101⟩), trivial, trivial⟩⟩, ⟨.inr (.inr ⟨rfl, _, _, g53, o53, e53⟩), ⟨.inr (.inr ⟨rfl, _, _, g85, o85, e85⟩), trivial, trivial⟩, ⟨.inr (.inr ⟨rfl, _, _, g117, o117, e117⟩), trivial, trivial⟩⟩⟩, ⟨.inl rfl, ⟨.inr (.inr ⟨rfl, _, _, g45, o45, e45⟩), ⟨.inr (.inr ⟨rfl, _, _, g77, o77, e77⟩), trivial, trivial⟩, ⟨.inr (.inr ⟨rfl, _, _, g109, o109, e109⟩), trivial, trivial⟩⟩, ⟨.inr (.inr ⟨rfl, _, _, g61, o61, e61⟩), ⟨.inr (.inr ⟨rfl, _, _, g93, o93, e93⟩), trivial, trivial⟩, ⟨.inl rfl, trivial, trivial⟩⟩⟩⟩⟩⟩, ⟨.inl rfl, ⟨.inl rfl, ⟨.inl rfl, ⟨.inl rfl, ⟨.inl rfl, ⟨.inr (.inr ⟨rfl, _, _, g64, o64, e64⟩), ⟨.inl rfl, trivial, trivial⟩, trivial⟩, ⟨.inr (.inr ⟨rfl, _, _, g96, o96, e96⟩), trivial, trivial⟩⟩, ⟨.inl rfl, ⟨.inr (.inr ⟨rfl, _, _, g80, o80, e80⟩), trivial, trivial⟩, ⟨.inr (.inr ⟨rfl, _, _, g112, o112, e112⟩), trivial, trivial⟩⟩⟩, ⟨.inr (.inr ⟨rfl, _, _, g24, o24, e24⟩), ⟨.inr (.inr ⟨rfl, _, _, g40, o40, e40⟩), ⟨.inr (.inr ⟨rfl, _, _, g72, o72, e72⟩), trivial, trivial⟩, ⟨.inr (.inr ⟨rfl, _, _, g104, o104, e104⟩), trivial, trivial⟩⟩, ⟨.inr (.inr ⟨rfl, _, _, g56, o56, e56⟩), ⟨.inr (.inr ⟨rfl, _, _, g88, o88, e88⟩), trivial, trivial⟩, ⟨.inl rfl, trivial, trivial⟩⟩⟩⟩, ⟨.inl rfl, ⟨.inr (.inr ⟨rfl, _, _, g20, o20, e20⟩), ⟨.inl rfl, ⟨.inr (.inr ⟨rfl, _, _, g68, o68, e68⟩), ⟨.inl rfl, trivial, trivial⟩, trivial⟩, ⟨.inr (.inr ⟨rfl, _, _, g100, o100, e100⟩), trivial, trivial⟩⟩, ⟨.inr (.inr ⟨rfl, _, _, g52, o52, e52⟩), ⟨.inr (.inr ⟨rfl, _, _, g84, o84, e84⟩), trivial, trivial⟩, ⟨.inr (.inr ⟨rfl, _, _, g116, o116, e116⟩), trivial, trivial⟩⟩⟩, ⟨.inl rfl, ⟨.inl rfl, ⟨.inr (.inr ⟨rfl, _, _, g76, o76, e76⟩), trivial, trivial⟩, ⟨.inr (.inr ⟨rfl, _, _, g108, o108, e108⟩), trivial, trivial⟩⟩, ⟨.inr (.inr ⟨rfl, _, _, g60, o60, e60⟩), ⟨.inr (.inr ⟨rfl, _, _, g92, o92, e92⟩), trivial, trivial⟩, ⟨.inl rfl, trivial, trivial⟩⟩⟩⟩⟩, ⟨.inl rfl, ⟨.inl rfl, ⟨.inl rfl, ⟨.inr (.inr ⟨rfl, _, _, g34, o34, e34⟩), ⟨.inr (.inr ⟨rfl, _, _, g66, o66, e66⟩), ⟨.inl rfl, trivial, trivial⟩, trivial⟩, ⟨.inr (.inr ⟨rfl, _, _, g98, o98, e98⟩), trivial, trivial⟩⟩, ⟨.inl rfl, ⟨.inr (.inr ⟨rfl, _, _, g82, o82, e82⟩), trivial, trivial⟩, ⟨.inr (.inr ⟨rfl, _, _, g114, o114, e114⟩), trivial, trivial⟩⟩⟩, ⟨.inr (.inr ⟨rfl, _, _, g26, o26, e26⟩), ⟨.inl rfl, ⟨.inr (.inr ⟨rfl, _, _, g74, o74, e74⟩), trivial, trivial⟩, ⟨.inr (.inr ⟨rfl, _, _, g106, o106, e106⟩), trivial, trivial⟩⟩, ⟨.inr (.inr ⟨rfl, _, _, g58, o58, e58⟩), ⟨.inr (.inr ⟨rfl, _, _, g90, o90, e90⟩), trivial, trivial⟩, ⟨.inl rfl, trivial, trivial⟩⟩⟩⟩, ⟨.inl rfl, ⟨.inl rfl, ⟨.inl rfl, ⟨.inr (.inr ⟨rfl, _, _, g70, o70, e70⟩), ⟨.inl rfl, trivial, trivial⟩, trivial⟩, ⟨.inr (.inr ⟨rfl, _, _, g102, o102, e102⟩), trivial, trivial⟩⟩, ⟨.inr (.inr ⟨rfl, _, _, g54, o54, e54⟩), ⟨.inr (.inr ⟨rfl, _, _, g86, o86, e86⟩), trivial, trivial⟩, ⟨.inr (.inr ⟨rfl, _, _, g118, o118, e118⟩), trivial, trivial⟩⟩⟩, ⟨.inl rfl, ⟨.inr (.inr ⟨rfl, _, _, g46, o46, e46⟩), ⟨.inr (.inr ⟨rfl, _, _, g78, o78, e78⟩), trivial, trivial⟩, ⟨.inr (.inr ⟨rfl, _, _, g110, o110, e110⟩), trivial, trivial⟩⟩, ⟨.inl rfl, ⟨.inr (.inr ⟨rfl, _, _, g94, o94, e94⟩), trivial, trivial⟩, ⟨.inl rfl, trivial, trivial⟩⟩⟩⟩⟩⟩⟩)
noncomputable def tbl1 : FT := (.n .bad (.n .bad (.n .bad (.n .bad (.n .bad (.n f31 (.n f63 (.n .bad .e .e) .e) (.n f95 .e .e)) (.n f47 (.n f79 .e .e) (.n f111 .e .e))) (.n .bad (.n f39 (.n f71 (.n .bad .e .e) .e) (.n f103 .e .e)) (.n .bad (.n f87 .e .e) (.n .bad .e .e)))) (.n .bad (.n .bad (.n .bad (.n f67 (.n .bad .e .e) .e) (.n f99 .e .e)) (.n .bad (.n f83 .e .e) (.n f115 .e .e))) (.n f27 (.n f43 (.n f75 .e .e) (.n f107 .e .e)) (.n f59 (.n f91 .e .e) (.n .bad .e .e))))) (.n .bad (.n .bad (.n .bad (.n f33 (.n f65 (.n .bad .e .e) .e) (.n f97 .e .e)) (.n .bad (.n f81 .e .e) (.n f113 .e .e))) (.n .bad (.n .bad (.n f73 .e .e) (.n f105 .e .e)) (.n f57 (.n f89 .e .e) (.n .bad .e .e)))) (.n .bad (.n .bad (.n .bad (.n .bad (.n .bad .e .e) .e) (.n f101 .e .e)) (.n f53 (.n f85 .e .e) (.n f117 .e .e))) (.n .bad (.n f45 (.n f77 .e .e) (.n f109 .e .e)) (.n f61 (.n f93 .e .e) (.n .bad .e .e)))))) (.n .bad (.n .bad (.n .bad (.n .bad (.n .bad (.n f64 (.n .bad .e .e) .e) (.n f96 .e .e)) (.n .bad (.n f80 .e .e) (.n f112 .e .e))) (.n (.orc true) (.n f40 (.n f72 .e .e) (.n f104 .e .e)) (.n f56 (.n f88 .e .e) (.n .bad .e .e)))) (.n .bad (.n f20 (.n .bad (.n f68 (.n .bad .e .e) .e) (.n f100 .e .e)) (.n f52 (.n f84 .e .e) (.n f116 .e .e))) (.n .bad (.n .bad (.n f76 .e .e) (.n f108 .e .e)) (.n f60 (.n f92 .e .e) (.n .bad .e .e))))) (.n .bad (.n .bad (.n .bad (.n f34 (.n f66 (.n .bad .e .e) .e) (.n f98 .e .e)) (.n .bad (.n f82 .e .e) (.n f114 .e .e))) (.n f26 (.n .bad (.n f74 .e .e) (.n f106 .e .e)) (.n f58 (.n f90 .e .e) (.n .bad .e .e)))) (.n .bad (.n .bad (.n .bad (.n f70 (.n .bad .e .e) .e) (.n f102 .e .e)) (.n f54 (.n f86 .e .e) (.n f118 .e .e))) (.n .bad (.n f46 (.n f78 .e .e) (.n f110 .e .e)) (.n .bad (.n f94 .e .e) (.n .bad .e .e)))))))
noncomputable def F1 (n : Nat) : FFunc := look tbl1 n
def orcs1 (_n : Nat) : Option Bool := if _n = 24 then some true else none
theorem ok1 (O : Orc Try.prog) (h : O.O = orcs1) : @FnOk Try.prog (Gl.none Try.prog) O F1 := @fnOk_of Try.prog (Gl.none Try.prog) O _ (by rw [h]; exact ⟨.inl rfl, ⟨.inl rfl, ⟨.inl rfl, ⟨.inl rfl, ⟨.inl rfl, ⟨.inr (.inr ⟨rfl, _, _, g31, o31, e31⟩), ⟨.inr (.inr ⟨rfl, _, _, g63, o63, e63⟩), ⟨.inl rfl, trivial, trivial⟩, trivial⟩, ⟨.inr (.inr ⟨rfl, _, _, g95, o95, e95⟩), trivial, trivial⟩⟩, ⟨.inr (.inr ⟨rfl, _, _, g47, o47, e47⟩), ⟨.inr (.inr ⟨rfl, _, _, g79, o79, e79⟩), trivial, trivial⟩, ⟨.inr (.inr ⟨rfl, _, _, g111, o111, e111⟩), trivial, trivial⟩⟩⟩, ⟨.inl rfl, ⟨.inr (.inr ⟨rfl, _, _, g39, o39, e39⟩), ⟨.inr (.inr ⟨rfl, _, _, g71, o71, e71⟩), ⟨.inl rfl, trivial, trivial⟩, trivial⟩, ⟨.inr (.inr ⟨rfl, _, _, g103, o103, e103⟩), trivial, trivial⟩⟩, ⟨.inl rfl, ⟨.inr (.inr ⟨rfl, _, _, g87, o87, e87⟩), trivial, trivial⟩, ⟨.inl rfl, trivial, trivial⟩⟩⟩⟩, ⟨.inl rfl, ⟨.inl rfl, ⟨.inl rfl, ⟨.inr (.inr ⟨rfl, _, _, g67, o67, e67⟩), ⟨.inl rfl, trivial, trivial⟩, trivial⟩, ⟨.inr (.inr ⟨rfl, _, _, g99, o99, e99⟩), trivial, trivial⟩⟩, ⟨.inl rfl, ⟨.inr (.inr ⟨rfl, _, _, g83, o83, e83⟩), trivial, trivial⟩, ⟨.inr (.inr ⟨rfl, _, _, g115, o115, e115⟩), trivial, trivial⟩⟩⟩, ⟨.inr (.inr ⟨rfl, _, _, g27, o27, e27⟩), ⟨.inr (.inr ⟨rfl, _, _, g43, o43, e43⟩), ⟨.inr (.inr ⟨rfl, _, _, g75, o75, e75⟩), trivial, trivial⟩, ⟨.inr (.inr ⟨rfl, _, _, g107, o107, e107⟩), trivial, trivial⟩⟩, ⟨.inr (.inr ⟨rfl, _, _, g59, o59, e59⟩), ⟨.inr (.inr ⟨rfl, _, _, g91, o91, e91⟩), trivial, trivial⟩, ⟨.inl rfl, trivial, trivial⟩⟩⟩⟩⟩, ⟨.inl rfl, ⟨.inl rfl, ⟨.inl rfl, ⟨.inr (.inr ⟨rfl, _, _, g33, o33, e33⟩), ⟨.inr (.inr ⟨rfl, _, _, g65, o65, e65⟩), ⟨.inl rfl, trivial, trivial⟩, trivial⟩, ⟨.inr (.inr ⟨rfl, _, _, g97, o97, e97⟩), trivial, trivial⟩⟩, ⟨.inl rfl, ⟨.inr (.inr ⟨rfl, _, _, g81, o81, e81⟩), trivial, trivial⟩, ⟨.inr (.inr ⟨rfl, _, _, g113, o113, e113⟩), trivial, trivial⟩⟩⟩, ⟨.inl rfl, ⟨.inl rfl, ⟨.inr (.inr ⟨rfl, _, _, g73, o73, e73⟩), trivial, trivial⟩, ⟨.inr (.inr ⟨rfl, _, _, g105, o105, e105⟩), trivial, trivial⟩⟩, ⟨.inr (.inr ⟨rfl, _, _, g57, o57, e57⟩), ⟨.inr (.inr ⟨rfl, _, _, g89, o89, e89⟩), trivial, trivial⟩, ⟨.inl rfl, trivial, trivial⟩⟩⟩⟩, ⟨.inl rfl, ⟨.inl rfl, ⟨.inl rfl, ⟨.inl rfl, ⟨.inl rfl, trivial, trivial⟩, trivial⟩, ⟨.inr (.inr ⟨rfl, _, _, g101, o101, e101⟩), trivial, trivial⟩⟩, ⟨.inr (.inr ⟨rfl, _, _, g53, o53, e53⟩), ⟨.inr (.inr ⟨rfl, _, _, g85, o85, e85⟩), trivial, trivial⟩, ⟨.inr (.inr ⟨rfl, _, _, g117, o117, e117⟩), trivial, trivial⟩⟩⟩, ⟨.inl rfl, ⟨.inr (.inr ⟨rfl, _, _, g45, o45, e45⟩), ⟨.inr (.inr ⟨rfl, _, _, g77, o77, e77⟩), trivial, trivial⟩, ⟨.inr (.inr ⟨rfl, _, _, g109, o109, e109⟩), trivial, trivial⟩⟩, ⟨.inr (.inr ⟨rfl, _, _, g61, o61, e61⟩), ⟨.inr (.inr ⟨rfl, _, _, g93, o93, e93⟩), trivial, trivial⟩, ⟨.inl rfl, trivial, trivial⟩⟩⟩⟩⟩⟩, ⟨.inl rfl, ⟨.inl rfl, ⟨.inl rfl, ⟨.inl rfl, ⟨.inl rfl, ⟨.inr (.inr ⟨rfl, _, _, g64, o64, e64⟩), ⟨.inl rfl, trivial, trivial⟩, trivial⟩, ⟨.inr (.inr ⟨rfl, _, _, g96, o96, e96⟩), trivial, trivial⟩⟩, ⟨.inl rfl, ⟨.inr (.inr ⟨rfl, _, _, g80, o80, e80⟩), trivial, trivial⟩, ⟨.inr (.inr ⟨rfl, _, _, g112, o112, e112⟩), trivial, trivial⟩⟩⟩, ⟨.inr (.inl ⟨_, rfl, rfl⟩), ⟨.inr (.inr ⟨rfl, _, _, g40, o40, e40⟩), ⟨.inr (.inr ⟨rfl, _, _, g72, o72, e72⟩), trivial, trivial⟩, ⟨.inr (.inr ⟨rfl, _, _, g104, o104, e104⟩), trivial, trivial⟩⟩, ⟨.inr (.inr ⟨rfl, _, _, g56, o56, e56⟩), ⟨.inr (.inr ⟨rfl, _, _, g88, o88, e88⟩), trivial, trivial⟩, ⟨.inl rfl, trivial, trivial⟩⟩⟩⟩, ⟨.inl rfl, ⟨.inr (.inr ⟨rfl, _, _, g20, o20, e20⟩), ⟨.inl rfl, ⟨.inr (.inr ⟨rfl, _, _, g68, o68, e68⟩), ⟨.inl rfl, trivial, trivial⟩, trivial⟩, ⟨.inr (.inr ⟨rfl, _, _, g100, o100, e100⟩), trivial, trivial⟩⟩, ⟨.inr (.inr ⟨rfl, _, _, g52, o52, e52⟩), ⟨.inr (.inr ⟨rfl, _, _, g84, o84, e84⟩), trivial, trivial⟩, ⟨.inr (.inr ⟨rfl, _, _, g116, o116, e116⟩), trivial, trivial⟩⟩⟩, ⟨.inl rfl, ⟨.inl rfl, ⟨.inr (.inr ⟨rfl, _, _, g76, o76, e76⟩), trivial, trivial⟩, ⟨.inr (.inr ⟨rfl, _, _, g108, o108, e108⟩), trivial, trivial⟩⟩, ⟨.inr (.inr ⟨rfl, _, _, g60, o60, e60⟩), ⟨.inr (.inr ⟨rfl, _, _, g92, o92, e92⟩), trivial, trivial⟩, ⟨.inl rfl, trivial, trivial⟩⟩⟩⟩⟩, ⟨.inl rfl, ⟨.inl rfl, ⟨.inl rfl, ⟨.inr (.inr ⟨rfl, _, _, g34, o34, e34⟩), ⟨.inr (.inr ⟨rfl, _, _, g66, o66, e66⟩), ⟨.inl rfl, trivial, trivial⟩, trivial⟩, ⟨.inr (.inr ⟨rfl, _, _, g98, o98, e98⟩), trivial, trivial⟩⟩, ⟨.inl rfl, ⟨.inr (.inr ⟨rfl, _, _, g82, o82, e82⟩), trivial, trivial⟩, ⟨.inr (.inr ⟨rfl, _, _, g114, o114, e114⟩), trivial, trivial⟩⟩⟩, ⟨.inr (.inr ⟨rfl, _, _, g26, o26, e26⟩), ⟨.inl rfl, ⟨.inr (.inr ⟨rfl, _, _, g74, o74, e74⟩), trivial, trivial⟩, ⟨.inr (.inr ⟨rfl, _, _, g106, o106, e106⟩), trivial, trivial⟩⟩, ⟨.inr (.inr ⟨rfl, _, _, g58, o58, e58⟩), ⟨.inr (.inr ⟨rfl, _, _, g90, o90, e90⟩), trivial, trivial⟩, ⟨.inl rfl, trivial, trivial⟩⟩⟩⟩, ⟨.inl rfl, ⟨.inl rfl, ⟨.inl rfl, ⟨.inr (.inr ⟨rfl, _, _, g70, o70, e70⟩), ⟨.inl rfl, trivial, trivial⟩, trivial⟩, ⟨.inr (.inr ⟨rfl, _, _, g102, o102, e102⟩), trivial, trivial⟩⟩, ⟨.inr (.inr ⟨rfl, _, _, g54, o54, e54⟩), ⟨.inr (.inr ⟨rfl, _, _, g86, o86, e86⟩), trivial, trivial⟩, ⟨.inr (.inr ⟨rfl, _, _, g118, o118, e118⟩), trivial, trivial⟩⟩⟩, ⟨.inl rfl, ⟨.inr (.inr ⟨rfl, _, _, g46, o46, e46⟩), ⟨.inr (.inr ⟨rfl, _, _, g78, o78, e78⟩), trivial, trivial⟩, ⟨.inr (.inr ⟨rfl, _, _, g110, o110, e110⟩), trivial, trivial⟩⟩, ⟨.inl rfl, ⟨.inr (.inr ⟨rfl, _, _, g94, o94, e94⟩), trivial, trivial⟩, ⟨.inl rfl, trivial, trivial⟩⟩⟩⟩⟩⟩⟩)
end Go.Xe.TM
