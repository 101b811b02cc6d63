/- The code of the program's functions, their types resolved, as the machine for the kernel runs it: definitions, and for each that it is the program's own. Conditions: none. -/
import Derived.Test.YtbbdafmehaohkaaYk
import Derived.Test.YtbbdafmehaohkaaProg
import Derived.KernelRfl
namespace Go.Xe.TF
open Go Go.Xe Go.Proofs
set_option maxRecDepth 1000000
abbrev U : Value:=.tuple ⟨[]⟩
def p0 : Pth:=.o
def p1 : Pth:=.l p0
def p2 : Pth:=.r p0
def p3 : Pth:=.l p1
def p4 : Pth:=.r p1
def p5 : Pth:=.l p2
def p6 : Pth:=.r p2
def p7 : Pth:=.l p3
def p8 : Pth:=.r p3
def p9 : Pth:=.l p4
def p10 : Pth:=.r p4
def p11 : Pth:=.l p5
def p12 : Pth:=.r p5
def p13 : Pth:=.l p6
def p14 : Pth:=.r p6
def p15 : Pth:=.l p7
def p16 : Pth:=.r p7
def p17 : Pth:=.l p8
def p18 : Pth:=.r p8
def p19 : Pth:=.l p9
def p20 : Pth:=.r p9
def p21 : Pth:=.l p10
def p22 : Pth:=.r p10
def p23 : Pth:=.l p11
def p24 : Pth:=.r p11
def p25 : Pth:=.l p12
def p26 : Pth:=.r p12
def p27 : Pth:=.l p13
def p28 : Pth:=.r p13
def p29 : Pth:=.l p14
def p30 : Pth:=.r p14
def p31 : Pth:=.l p15
def p32 : Pth:=.r p15
def p33 : Pth:=.l p16
def p34 : Pth:=.r p16
def p35 : Pth:=.l p17
def p36 : Pth:=.r p17
def p37 : Pth:=.l p18
def p38 : Pth:=.r p18
def p39 : Pth:=.l p19
def p40 : Pth:=.r p19
def p41 : Pth:=.l p20
def p42 : Pth:=.r p20
def p43 : Pth:=.l p21
def p44 : Pth:=.r p21
def p45 : Pth:=.l p22
def p46 : Pth:=.r p22
def p47 : Pth:=.l p23
def p48 : Pth:=.r p23
def p49 : Pth:=.l p24
def p50 : Pth:=.r p24
def p51 : Pth:=.l p25
def p52 : Pth:=.r p25
def p53 : Pth:=.l p26
def p54 : Pth:=.r p26
def p55 : Pth:=.l p27
def p56 : Pth:=.r p27
def p57 : Pth:=.l p28
def p58 : Pth:=.r p28
def p59 : Pth:=.l p29
def p60 : Pth:=.r p29
def p61 : Pth:=.l p30
def p62 : Pth:=.r p30
def p63 : Pth:=.l p31
def p64 : Pth:=.r p31
def p65 : Pth:=.l p32
def p66 : Pth:=.r p32
def p67 : Pth:=.l p33
def p68 : Pth:=.r p33
def p69 : Pth:=.l p34
def p70 : Pth:=.r p34
def p71 : Pth:=.l p35
def p72 : Pth:=.r p35
def p73 : Pth:=.l p36
def p74 : Pth:=.r p36
def p75 : Pth:=.l p37
def p76 : Pth:=.r p37
def p77 : Pth:=.l p38
def p78 : Pth:=.r p38
def p79 : Pth:=.l p39
def p80 : Pth:=.r p39
def p81 : Pth:=.l p40
def p82 : Pth:=.r p40
def p83 : Pth:=.l p41
def p84 : Pth:=.r p41
def p85 : Pth:=.l p42
def p86 : Pth:=.r p42
def p87 : Pth:=.l p43
def p88 : Pth:=.r p43
def p89 : Pth:=.l p44
def p90 : Pth:=.r p44
def p91 : Pth:=.l p45
def p92 : Pth:=.r p45
def p93 : Pth:=.l p46
def p94 : Pth:=.r p46
def p95 : Pth:=.l p47
def p96 : Pth:=.r p47
def p97 : Pth:=.l p48
def p98 : Pth:=.r p48
def p99 : Pth:=.l p49
def p100 : Pth:=.r p49
def p101 : Pth:=.l p50
def p102 : Pth:=.r p50
def p103 : Pth:=.l p51
def p104 : Pth:=.r p51
def p105 : Pth:=.l p52
def p106 : Pth:=.r p52
def p107 : Pth:=.l p53
def p108 : Pth:=.r p53
def p109 : Pth:=.l p54
def p110 : Pth:=.r p54
def p111 : Pth:=.l p55
def p112 : Pth:=.r p55
def p113 : Pth:=.l p56
def p114 : Pth:=.r p56
def p115 : Pth:=.l p57
def p116 : Pth:=.r p57
def p117 : Pth:=.l p58
def p118 : Pth:=.r p58
def p119 : Pth:=.l p59
def p120 : Pth:=.r p59
def u0 : TT:=.n U .e .e
def u1 : TT:=.n U u0 u0
def u2 : TT:=.n U u1 u1
def u3 : TT:=.n U u2 u2
def u4 : TT:=.n U u0 .e
def u5 : TT:=.n U u1 u4
def u6 : TT:=.n U u2 u5
def u7 : TT:=.n U u3 u6
def u8 : TT:=.n U u6 u6
def u9 : TT:=.n U u7 u8
def u10 : TT:=.n U u9 u9
def u11 : TT:=.n U u4 u4
def u12 : TT:=.n U u11 u11
def u13 : TT:=.n U u12 u12
def u14 : TT:=.n U u13 u13
def u15 : TT:=.n U u4 u0
def u16 : TT:=.n U u15 u15
def u17 : TT:=.n U u16 u16
def u18 : TT:=.n U u17 u17
def u19 : TT:=.n U u3 u3
def u20 : TT:=.n U u11 u15
def u21 : TT:=.n U u20 u16
def u22 : TT:=.n U u21 u21
def u23 : TT:=.n U u5 u5
def u24 : TT:=.n U u6 u23
def u25 : TT:=.n U u15 u1
def u26 : TT:=.n U u5 u11
def u27 : TT:=.n U u25 u25
def u28 : TT:=.n U u25 u2
def u29 : TT:=.n U u27 u28
def u30 : TT:=.n U u28 u28
def u31 : TT:=.n U u29 u30
def u32 : TT:=.n U u16 u25
def u33 : TT:=.n U u17 u32
def u34 : TT:=.n U u12 u20
def u35 : TT:=.n U u26 u26
def u36 : TT:=.n U u26 u12
def u37 : TT:=.n U u35 u36
def u38 : TT:=.n U u32 u32
def u39 : TT:=.n U u33 u38
def u40 : TT:=.n U u23 u26
def u41 : TT:=.n U u36 u13
def u42 : TT:=.n U u28 u3
def u43 : TT:=.n U u30 u42
def z0 : Value:=.int .i64 (.ofNat 0)
def a0 : FA:=.tmp p0
def a1 : FA:=.tmp p1
def a2 : FA:=.tmp p2
def a3 : FA:=.tmp p3
def a4 : FA:=.tmp p4
def a5 : FA:=.tmp p5
def a6 : FA:=.tmp p6
def a7 : FA:=.tmp p7
def a8 : FA:=.tmp p8
def a9 : FA:=.tmp p9
def a10 : FA:=.tmp p10
def a11 : FA:=.tmp p11
def a12 : FA:=.tmp p12
def a13 : FA:=.tmp p13
def a14 : FA:=.tmp p14
def a15 : FA:=.tmp p15
def a16 : FA:=.tmp p16
def a17 : FA:=.tmp p17
def a18 : FA:=.tmp p18
def a19 : FA:=.tmp p19
def a20 : FA:=.tmp p20
def a21 : FA:=.tmp p21
def a22 : FA:=.tmp p22
def a23 : FA:=.tmp p23
def a24 : FA:=.tmp p24
def a25 : FA:=.tmp p25
def a26 : FA:=.tmp p26
def a27 : FA:=.tmp p27
def a28 : FA:=.tmp p28
def a29 : FA:=.tmp p29
def a30 : FA:=.tmp p30
def a31 : FA:=.tmp p31
def a32 : FA:=.tmp p32
def a33 : FA:=.tmp p33
def a34 : FA:=.tmp p34
def a35 : FA:=.tmp p35
def a36 : FA:=.tmp p36
def a37 : FA:=.tmp p37
def a38 : FA:=.tmp p38
def a39 : FA:=.tmp p39
def a40 : FA:=.tmp p40
def a41 : FA:=.tmp p41
def a42 : FA:=.tmp p42
def a43 : FA:=.tmp p43
def a44 : FA:=.tmp p44
def a45 : FA:=.tmp p45
def a46 : FA:=.tmp p46
def a47 : FA:=.tmp p47
def a48 : FA:=.tmp p48
def a49 : FA:=.tmp p49
def a50 : FA:=.tmp p50
def a51 : FA:=.tmp p51
def a52 : FA:=.tmp p52
def a53 : FA:=.tmp p53
def a54 : FA:=.tmp p54
def a55 : FA:=.tmp p55
def a56 : FA:=.tmp p56
def a57 : FA:=.tmp p57
def a58 : FA:=.tmp p58
def a59 : FA:=.tmp p59
def a60 : FA:=.tmp p60
def a61 : FA:=.tmp p61
def a62 : FA:=.tmp p62
def a63 : FA:=.tmp p63
def a64 : FA:=.tmp p64
def a65 : FA:=.tmp p65
def a66 : FA:=.tmp p66
def a67 : FA:=.tmp p67
def a68 : FA:=.tmp p68
def a69 : FA:=.tmp p69
def a70 : FA:=.tmp p70
def a71 : FA:=.tmp p71
def a72 : FA:=.tmp p72
def a73 : FA:=.tmp p73
def a74 : FA:=.tmp p74
def a75 : FA:=.tmp p75
def a76 : FA:=.tmp p76
def a77 : FA:=.tmp p77
def a78 : FA:=.tmp p78
def a79 : FA:=.tmp p79
def a80 : FA:=.tmp p80
def a81 : FA:=.tmp p81
def a82 : FA:=.tmp p82
def a83 : FA:=.tmp p83
def a84 : FA:=.tmp p84
def a85 : FA:=.tmp p85
def a86 : FA:=.tmp p86
def a87 : FA:=.tmp p87
def a88 : FA:=.tmp p88
def a89 : FA:=.tmp p89
def a90 : FA:=.tmp p90
def a91 : FA:=.tmp p91
def a92 : FA:=.tmp p92
def a93 : FA:=.tmp p93
def a94 : FA:=.tmp p94
def a95 : FA:=.tmp p95
def a96 : FA:=.tmp p96
def a97 : FA:=.tmp p97
def a98 : FA:=.tmp p98
def a99 : FA:=.tmp p99
def a100 : FA:=.tmp p100
def a101 : FA:=.tmp p101
def a102 : FA:=.tmp p102
def a103 : FA:=.tmp p103
def a104 : FA:=.tmp p104
def a105 : FA:=.tmp p105
def a106 : FA:=.tmp p106
def a107 : FA:=.tmp p107
def a108 : FA:=.tmp p108
def a109 : FA:=.tmp p109
def a110 : FA:=.tmp p110
def a111 : FA:=.tmp p111
def a112 : FA:=.tmp p112
def a113 : FA:=.tmp p113
def a114 : FA:=.tmp p114
def a115 : FA:=.tmp p115
def a116 : FA:=.tmp p116
def a117 : FA:=.tmp p117
def a118 : FA:=.tmp p118
def a119 : FA:=.tmp p119
def a120 : FA:=.tmp p120
noncomputable def c20 : FCode:=(.seq (.run [.go (.move (.con (.bool false))) p0]) (.seq (.run [.go (.call (.con (.func (.func 51) ⟨[]⟩ ⟨[]⟩)) [(.con (.int .i64 (.ofNat 60))),(.con (.int .i64 (.ofNat 120)))]) p10,
.go (.call (.con (.func (.func 31) ⟨[]⟩ ⟨[]⟩)) [a10]) p11,
.go (.move a11) p9,
.go (.extract a9 0) p12,
.go (.extract a9 1) p13,
.go (.move a12) p1,
.go (.move a13) p2]) (.seq (.run [.go (.call (.con (.func (.func 51) ⟨[]⟩ ⟨[]⟩)) [(.con (.int .i64 (.ofNat 60))),(.con (.int .i64 (.ofNat 120)))]) p15,
.go (.build [z0,z0] [(0,1,(.con z0)),(1,1,(.con (.int .i64 (.ofNat 2))))]) p16,
.go (.call (.con (.func (.func 40) ⟨[]⟩ ⟨[]⟩)) [a15,a16]) p17,
.go (.move a17) p14,
.go (.extract a14 0) p18,
.go (.extract a14 1) p19,
.go (.alloc 69 [z0,z0]) p3,
.un (.store 2 a3 a18),
.go (.move a19) p4]) (.seq (.run [.go (.call (.con (.func (.func 51) ⟨[]⟩ ⟨[]⟩)) [(.con (.int .i64 (.ofNat 60))),(.con (.int .i64 (.ofNat 120)))]) p21,
.go (.call (.con (.func (.func 52) ⟨[]⟩ ⟨[]⟩)) [(.con z0),(.con (.int .i64 (.ofNat 50)))]) p22,
.go (.call (.con (.func (.func 44) ⟨[]⟩ ⟨[]⟩)) [a21,a22]) p23,
.go (.move a23) p20,
.go (.extract a20 0) p24,
.go (.extract a20 1) p25,
.go (.move a24) p5,
.go (.move a25) p6]) (.seq (.run [.go (.call (.con (.func (.func 51) ⟨[]⟩ ⟨[]⟩)) [(.con (.int .i64 (.ofNat 60))),(.con (.int .i64 (.ofNat 70)))]) p27,
.go (.call (.con (.func (.func 46) ⟨[]⟩ ⟨[]⟩)) [a27]) p28,
.go (.move a28) p26,
.go (.extract a26 0) p29,
.go (.extract a26 1) p30,
.go (.move a29) p7,
.go (.move a30) p8]) (.seq (.draw 91 [.go (.move a2) p31,
.go (.bin .eql 33 a31 (.con z0)) p32,
.go (.move a32) p33,
.gd p33 true (.move a1) p34,
.gd p33 true (.len 0 a34) p35,
.gd p33 true (.bin .eql 3 a35 (.con (.int .i64 (.ofNat 2)))) p36,
.go (.pick a33 a36 (.con (.bool false))) p37,
.go (.move a37) p38,
.gd p38 true (.move a1) p39,
.gd p38 true (.indexAddr none 1 a39 (.con (.int .i64 (.ofNat 1)))) p40,
.gd p38 true (.load1 a40) p41,
.gd p38 true (.len 0 a41) p42,
.gd p38 true (.bin .eql 3 a42 (.con (.int .i64 (.ofNat 3)))) p43,
.go (.pick a38 a43 (.con (.bool false))) p44,
.go (.move a44) p45,
.gd p45 true (.move a1) p46,
.gd p45 true (.indexAddr none 1 a46 (.con z0)) p47,
.gd p45 true (.load1 a47) p48,
.gd p45 true (.indexAddr none 2 a48 (.con (.int .i64 (.ofNat 1)))) p49,
.gd p45 true (.loadN 2 a49) p50,
.gd p45 true (.call (.con (.func (.func 52) ⟨[]⟩ ⟨[]⟩)) [(.con (.int .i64 (.ofNat 80))),(.con (.int .i64 (.ofNat 90)))]) p51,
.gd p45 true (.bin .eql 69 a50 a51) p52,
.go (.pick a45 a52 (.con (.bool false))) p53,
.go (.move a53) p54,
.gd p54 true (.move a1) p55,
.gd p54 true (.indexAddr none 1 a55 (.con (.int .i64 (.ofNat 1)))) p56,
.gd p54 true (.load1 a56) p57,
.gd p54 true (.indexAddr none 2 a57 (.con z0)) p58,
.gd p54 true (.loadN 2 a58) p59,
.gd p54 true (.call (.con (.func (.func 52) ⟨[]⟩ ⟨[]⟩)) [(.con (.int .i64 (.ofNat 88))),(.con (.int .i64 (.ofNat 102)))]) p60,
.gd p54 true (.bin .eql 69 a59 a60) p61,
.go (.pick a54 a61 (.con (.bool false))) p62,
.go (.move a62) p63,
.gd p63 true (.move a1) p64,
.gd p63 true (.indexAddr none 1 a64 (.con (.int .i64 (.ofNat 1)))) p65,
.gd p63 true (.load1 a65) p66,
.gd p63 true (.indexAddr none 2 a66 (.con (.int .i64 (.ofNat 1)))) p67,
.gd p63 true (.loadN 2 a67) p68,
.gd p63 true (.call (.con (.func (.func 52) ⟨[]⟩ ⟨[]⟩)) [(.con (.int .i64 (.ofNat 91))),(.con (.int .i64 (.ofNat 97)))]) p69,
.gd p63 true (.bin .eql 69 a68 a69) p70,
.go (.pick a63 a70 (.con (.bool false))) p71,
.go (.move a71) p72,
.gd p72 true (.move a4) p73,
.gd p72 true (.bin .eql 33 a73 (.con z0)) p74,
.go (.pick a72 a74 (.con (.bool false))) p75,
.go (.move a75) p76,
.gd p76 true (.loadN 2 a3) p77,
.gd p76 true (.call (.con (.func (.func 52) ⟨[]⟩ ⟨[]⟩)) [(.con (.int .i64 (.ofNat 19))),(.con (.int .i64 (.ofNat 68)))]) p78,
.gd p76 true (.bin .eql 69 a77 a78) p79,
.go (.pick a76 a79 (.con (.bool false))) p80,
.go (.move a80) p81,
.gd p81 true (.move a6) p82,
.gd p81 true (.bin .eql 33 a82 (.con z0)) p83,
.go (.pick a81 a83 (.con (.bool false))) p84,
.go (.move a84) p85,
.gd p85 true (.move a5) p86,
.gd p85 true (.len 0 a86) p87,
.gd p85 true (.bin .eql 3 a87 (.con (.int .i64 (.ofNat 3)))) p88,
.go (.pick a85 a88 (.con (.bool false))) p89,
.go (.move a89) p90,
.gd p90 true (.move a5) p91,
.gd p90 true (.indexAddr none 2 a91 (.con z0)) p92,
.gd p90 true (.loadN 2 a92) p93,
.gd p90 true (.call (.con (.func (.func 52) ⟨[]⟩ ⟨[]⟩)) [(.con z0),(.con (.int .i64 (.ofNat 43)))]) p94,
.gd p90 true (.bin .eql 69 a93 a94) p95,
.go (.pick a90 a95 (.con (.bool false))) p96,
.go (.move a96) p97,
.gd p97 true (.move a5) p98,
.gd p97 true (.indexAddr none 2 a98 (.con (.int .i64 (.ofNat 1)))) p99,
.gd p97 true (.loadN 2 a99) p100,
.gd p97 true (.call (.con (.func (.func 52) ⟨[]⟩ ⟨[]⟩)) [(.con (.int .i64 (.ofNat 79))),(.con (.int .i64 (.ofNat 105)))]) p101,
.gd p97 true (.bin .eql 69 a100 a101) p102,
.go (.pick a97 a102 (.con (.bool false))) p103,
.go (.move a103) p104,
.gd p104 true (.move a5) p105,
.gd p104 true (.indexAddr none 2 a105 (.con (.int .i64 (.ofNat 2)))) p106,
.gd p104 true (.loadN 2 a106) p107,
.gd p104 true (.call (.con (.func (.func 52) ⟨[]⟩ ⟨[]⟩)) [(.con (.int .i64 (.ofNat 145))),(.con (.int .i64 (.ofNat 174)))]) p108,
.gd p104 true (.bin .eql 69 a107 a108) p109,
.go (.pick a104 a109 (.con (.bool false))) p110,
.go (.move a110) p111,
.gd p111 true (.move a8) p112,
.gd p111 true (.bin .eql 33 a112 (.con z0)) p113,
.go (.pick a111 a113 (.con (.bool false))) p114,
.go (.move a114) p115,
.gd p115 true (.move a7) p116,
.gd p115 true (.build [z0,z0] [(0,1,(.con (.int .i64 (.ofNat 1))))]) p117,
.gd p115 true (.buildSlice 77 1 [z0,z0] [(0,2,a117)]) p118,
.gd p115 true (.call (.con (.func (.func 50) ⟨[]⟩ ⟨[]⟩)) [a116,a118]) p119,
.go (.pick a115 a119 (.con (.bool false))) p120,
.go (.move a120) p0] [.ok,.ok,.ok,.ok,.ok,.ok,.ok,.ok,.ok,.ok,.ok,.ok,.ok,.ok,.ok,.ok,.ok,.rd (some (p45,true)) (.load1 a47) (some p48) [21],.ok,.rd (some (p45,true)) (.loadN 2 a49) (some p50) [21],.ok,.ok,.ok,.ok,.ok,.ok,.rd (some (p54,true)) (.load1 a56) (some p57) [30],.ok,.rd (some (p54,true)) (.loadN 2 a58) (some p59) [30],.ok,.ok,.ok,.ok,.ok,.ok,.rd (some (p63,true)) (.load1 a65) (some p66) [39],.ok,.rd (some (p63,true)) (.loadN 2 a67) (some p68) [39],.ok,.ok,.ok,.ok,.ok,.ok,.ok,.ok,.rd (some (p76,true)) (.loadN 2 a3) (some p77) [48],.ok,.ok,.ok,.ok,.ok,.ok,.ok,.ok,.ok,.ok,.ok,.ok,.ok,.ok,.ok,.rd (some (p90,true)) (.loadN 2 a92) (some p93) [64],.ok,.ok,.ok,.ok,.ok,.ok,.rd (some (p97,true)) (.loadN 2 a99) (some p100) [71],.ok,.ok,.ok,.ok,.ok,.ok,.rd (some (p104,true)) (.loadN 2 a106) (some p107) [78],.ok,.ok,.ok,.ok,.ok,.ok,.ok,.ok,.ok,.ok,.ok,.ok,.ok,.ok]) .ret))))))
noncomputable def f20 : FFunc:=.mk c20 u10 [] [.tmp p0]
theorem e20 : @compF Try.prog (Gl.none Try.prog) Try.f20 0=f20:=by kernel_rfl
theorem o20 : okF Try.prog Try.f20=true:=by kernel_rfl
theorem g20 : Try.prog.funcs[(20 : Nat)]?=some Try.f20:=by kernel_rfl
noncomputable def c21 : FCode:=(.seq (.run [.go (.box 38 a0) p1,
.go (.move (.con z0)) p2]) (.seq (.block 0 (.seq (.run [.go (.loadN 4 a1) p4,
.go (.call (.con (.func (.func 62) ⟨[]⟩ ⟨[]⟩)) [a4]) p5,
.go (.un .not a5) p6,
.go (.move a6) p3]) (.cond a3 (.seq (.run [.go (.move (.con (.int .i64 (.ofNat 3)))) p2]) .ret) (.seq (.run [.go (.loadN 4 a1) p8,
.go (.call (.con (.func (.func 63) ⟨[]⟩ ⟨[]⟩)) [a8]) p9,
.go (.un .not a9) p10,
.go (.move a10) p7]) (.cond a7 (.seq (.run [.go (.move (.con (.int .i64 (.ofNat 1)))) p2]) .ret) .skip))))) (.seq (.run [.go (.move (.con z0)) p2]) .ret)))
noncomputable def f21 : FFunc:=.mk c21 u12 [p0] [.tmp p2]
theorem e21 : @compF Try.prog (Gl.none Try.prog) Try.f21 1=f21:=by kernel_rfl
theorem o21 : okF Try.prog Try.f21=true:=by kernel_rfl
theorem g21 : Try.prog.funcs[(21 : Nat)]?=some Try.f21:=by kernel_rfl
noncomputable def c31 : FCode:=(.seq (.run [.go (.box 38 a0) p1,
.go (.move (.con (.slice none 0 0))) p2,
.go (.move (.con z0)) p3]) (.seq (.run [.go (.loadN 4 a1) p11,
.go (.call (.con (.func (.func 72) ⟨[]⟩ ⟨[]⟩)) [a11]) p12,
.go (.move a12) p10,
.go (.extract a10 0) p13,
.go (.extract a10 1) p14,
.go (.alloc 135 [(.slice none 0 0),(.slice none 0 0),(.slice none 0 0),(.slice none 0 0),(.bool false),(.bool false),(.bool false),(.bool false),(.bool false),(.bool false),(.bool false),(.bool false),(.bool false),(.bool false),(.bool false),(.bool false),(.bool false),(.bool false),(.bool false),(.bool false),.nilFunc,.nilFunc]) p4,
.un (.store 22 a4 a13),
.go (.move a14) p5]) (.seq (.seq (.run [.go (.move a5) p15,
.go (.bin .neq 33 a15 (.con z0)) p16]) (.cond a16 (.seq (.run [.go (.move a5) p17,
.go (.move (.con (.slice none 0 0))) p2,
.go (.move a17) p3]) .ret) .skip)) (.seq (.run [.go (.loadN 22 a4) p19,
.go (.call (.con (.func (.func 73) ⟨[]⟩ ⟨[]⟩)) [a19]) p20,
.go (.move a20) p18,
.go (.extract a18 0) p21,
.go (.extract a18 1) p22,
.go (.alloc 138 [(.map none)]) p6,
.un (.store 1 a6 a21),
.go (.move a22) p7]) (.seq (.seq (.run [.go (.move a7) p23,
.go (.un .not a23) p24]) (.cond a24 (.seq (.run [.go (.move (.con (.slice none 0 0))) p2,
.go (.move (.con (.int .i64 (.ofNat 9)))) p3]) .ret) .skip)) (.seq (.run [.go (.fieldAddr 0 a1) p25,
.go (.load1 a25) p26,
.go (.len 0 a26) p27,
.go (.makeSlice 36 1 24 [(.slice none 0 0)] a27 a27) p28,
.go (.alloc 35 [(.slice none 0 0)]) p8,
.un (.store 1 a8 a28)]) (.seq (.seq (.run [.go (.loadN 22 a4) p29,
.go (.call (.con (.func (.func 74) ⟨[]⟩ ⟨[]⟩)) [a29]) p30]) (.block 0 (.rangeFunc a30 [p31] (rfA Try.f31 0) (rfB Try.f31 0) (.run [.go (.alloc 74 [z0,z0]) p9,
.un (.store 2 a9 a31)]) (.block 1 (.draw 15 [.go (.load1 a8) p32,
.go (.fieldAddr 0 a9) p33,
.go (.load1 a33) p34,
.go (.load1 a8) p35,
.go (.fieldAddr 0 a9) p36,
.go (.load1 a36) p37,
.go (.indexAddr none 1 a35 a37) p38,
.go (.load1 a38) p39,
.go (.load1 a6) p40,
.go (.loadN 2 a9) p41,
.go (.lookup 74 (.agg ⟨[z0,z0]⟩) a40 a41 false) p42,
.go (.buildSlice 69 1 [z0,z0] [(0,2,a42)]) p43,
.go (.append 69 2 16 a39 a43) p44,
.go (.indexAddr none 1 a32 a34) p45,
.un (.store 1 a45 a44)] [.rd none (.load1 a8) (some p32) [12,13],.ok,.rd none (.load1 a33) (some p34) [12,13],.rd none (.load1 a8) (some p35) [12],.ok,.rd none (.load1 a36) (some p37) [12],.ok,.rd none (.load1 a38) (some p39) [12],.ok,.ok,.ok,.ok,.ok,.ok,.ok]))))) (.seq (.run [.go (.load1 a8) p46,
.go (.move a46) p2,
.go (.move (.con z0)) p3]) .ret))))))))
noncomputable def f31 : FFunc:=.mk c31 u14 [p0] [.tmp p2,.tmp p3]
theorem e31 : @compF Try.prog (Gl.none Try.prog) Try.f31 1=f31:=by kernel_rfl
theorem o31 : okF Try.prog Try.f31=true:=by kernel_rfl
theorem g31 : Try.prog.funcs[(31 : Nat)]?=some Try.f31:=by kernel_rfl
noncomputable def c40 : FCode:=(.seq (.run [.go (.box 38 a0) p2,
.go (.box 74 a1) p3,
.go (.alloc 69 [z0,z0]) p4,
.go (.move (.con z0)) p5]) (.seq (.run [.go (.loadN 4 a2) p11,
.go (.call (.con (.func (.func 72) ⟨[]⟩ ⟨[]⟩)) [a11]) p12,
.go (.move a12) p10,
.go (.extract a10 0) p13,
.go (.extract a10 1) p14,
.go (.alloc 135 [(.slice none 0 0),(.slice none 0 0),(.slice none 0 0),(.slice none 0 0),(.bool false),(.bool false),(.bool false),(.bool false),(.bool false),(.bool false),(.bool false),(.bool false),(.bool false),(.bool false),(.bool false),(.bool false),(.bool false),(.bool false),(.bool false),(.bool false),.nilFunc,.nilFunc]) p6,
.un (.store 22 a6 a13),
.go (.move a14) p7]) (.seq (.seq (.run [.go (.move a7) p15,
.go (.bin .neq 33 a15 (.con z0)) p16]) (.cond a16 (.seq (.run [.go (.build [z0,z0] []) p17,
.go (.move a7) p18,
.un (.store 2 a4 a17),
.go (.move a18) p5]) .ret) .skip)) (.seq (.seq (.draw 6 [.go (.loadN 22 a6) p19,
.go (.call (.con (.func (.func 74) ⟨[]⟩ ⟨[]⟩)) [a19]) p20,
.go (.call (.con (.func (.func 83) ⟨[]⟩ ⟨[]⟩)) [a20]) p21,
.go (.loadN 2 a3) p22,
.go (.call (.con (.func (.func 82) ⟨[]⟩ ⟨[]⟩)) [a21,a22]) p23,
.go (.un .not a23) p24] [.ok,.ok,.ok,.rd none (.loadN 2 a3) (some p22) [0,2],.ok,.ok]) (.cond a24 (.seq (.run [.go (.build [z0,z0] []) p25,
.un (.store 2 a4 a25),
.go (.move (.con (.int .i64 (.ofNat 2)))) p5]) .ret) .skip)) (.seq (.run [.go (.loadN 2 a3) p26,
.go (.call (.con (.func (.func 84) ⟨[]⟩ ⟨[]⟩)) [a6,a26,(.con (.bool true))]) p27]) (.seq (.run [.go (.loadN 22 a6) p29,
.go (.call (.con (.func (.func 73) ⟨[]⟩ ⟨[]⟩)) [a29]) p30,
.go (.move a30) p28,
.go (.extract a28 0) p31,
.go (.extract a28 1) p32,
.go (.move a31) p8,
.go (.move a32) p9]) (.seq (.seq (.run [.go (.move a9) p33,
.go (.un .not a33) p34]) (.cond a34 (.seq (.run [.go (.build [z0,z0] []) p35,
.un (.store 2 a4 a35),
.go (.move (.con (.int .i64 (.ofNat 9)))) p5]) .ret) .skip)) (.seq (.run [.go (.move a8) p36,
.go (.loadN 2 a3) p37,
.go (.lookup 74 (.agg ⟨[z0,z0]⟩) a36 a37 false) p38,
.un (.store 2 a4 a38),
.go (.move (.con z0)) p5]) .ret))))))))
noncomputable def f40 : FFunc:=.mk c40 u18 [p0,p1] [.many p4 2,.tmp p5]
theorem e40 : @compF Try.prog (Gl.none Try.prog) Try.f40 2=f40:=by kernel_rfl
theorem o40 : okF Try.prog Try.f40=true:=by kernel_rfl
theorem g40 : Try.prog.funcs[(40 : Nat)]?=some Try.f40:=by kernel_rfl
noncomputable def c44 : FCode:=(.seq (.run [.go (.box 38 a0) p2,
.go (.box 69 a1) p3,
.go (.move (.con (.slice none 0 0))) p4,
.go (.move (.con z0)) p5]) (.seq (.run [.go (.loadN 4 a2) p11,
.go (.call (.con (.func (.func 72) ⟨[]⟩ ⟨[]⟩)) [a11]) p12,
.go (.move a12) p10,
.go (.extract a10 0) p13,
.go (.extract a10 1) p14,
.go (.alloc 135 [(.slice none 0 0),(.slice none 0 0),(.slice none 0 0),(.slice none 0 0),(.bool false),(.bool false),(.bool false),(.bool false),(.bool false),(.bool false),(.bool false),(.bool false),(.bool false),(.bool false),(.bool false),(.bool false),(.bool false),(.bool false),(.bool false),(.bool false),.nilFunc,.nilFunc]) p6,
.un (.store 22 a6 a13),
.go (.move a14) p7]) (.seq (.seq (.run [.go (.move a7) p15,
.go (.bin .neq 33 a15 (.con z0)) p16]) (.cond a16 (.seq (.run [.go (.move a7) p17,
.go (.move (.con (.slice none 0 0))) p4,
.go (.move a17) p5]) .ret) .skip)) (.seq (.seq (.draw 4 [.go (.call (.con (.func (.func 85) ⟨[]⟩ ⟨[]⟩)) []) p18,
.go (.loadN 2 a3) p19,
.go (.call (.con (.func (.func 86) ⟨[]⟩ ⟨[]⟩)) [a18,a19]) p20,
.go (.un .not a20) p21] [.ok,.rd none (.loadN 2 a3) (some p19) [0],.ok,.ok]) (.cond a21 (.seq (.run [.go (.move (.con (.slice none 0 0))) p4,
.go (.move (.con (.int .i64 (.ofNat 2)))) p5]) .ret) .skip)) (.seq (.run [.go (.loadN 22 a6) p23,
.go (.loadN 2 a3) p24,
.go (.call (.con (.func (.func 87) ⟨[]⟩ ⟨[]⟩)) [a23,a24]) p25,
.go (.move a25) p22,
.go (.extract a22 0) p26,
.go (.extract a22 1) p27,
.go (.move a26) p8,
.go (.move a27) p9]) (.seq (.seq (.run [.go (.move a9) p28,
.go (.un .not a28) p29]) (.cond a29 (.seq (.run [.go (.move (.con (.slice none 0 0))) p4,
.go (.move (.con (.int .i64 (.ofNat 9)))) p5]) .ret) .skip)) (.seq (.run [.go (.move a8) p30,
.go (.move a30) p4,
.go (.move (.con z0)) p5]) .ret)))))))
noncomputable def f44 : FFunc:=.mk c44 u19 [p0,p1] [.tmp p4,.tmp p5]
theorem e44 : @compF Try.prog (Gl.none Try.prog) Try.f44 2=f44:=by kernel_rfl
theorem o44 : okF Try.prog Try.f44=true:=by kernel_rfl
theorem g44 : Try.prog.funcs[(44 : Nat)]?=some Try.f44:=by kernel_rfl
noncomputable def c46 : FCode:=(.seq (.run [.go (.box 38 a0) p1,
.go (.move (.con (.slice none 0 0))) p2,
.go (.move (.con z0)) p3]) (.seq (.run [.go (.loadN 4 a1) p7,
.go (.call (.con (.func (.func 72) ⟨[]⟩ ⟨[]⟩)) [a7]) p8,
.go (.move a8) p6,
.go (.extract a6 0) p9,
.go (.extract a6 1) p10,
.go (.alloc 135 [(.slice none 0 0),(.slice none 0 0),(.slice none 0 0),(.slice none 0 0),(.bool false),(.bool false),(.bool false),(.bool false),(.bool false),(.bool false),(.bool false),(.bool false),(.bool false),(.bool false),(.bool false),(.bool false),(.bool false),(.bool false),(.bool false),(.bool false),.nilFunc,.nilFunc]) p4,
.un (.store 22 a4 a9),
.go (.move a10) p5]) (.seq (.seq (.run [.go (.move a5) p11,
.go (.bin .neq 33 a11 (.con z0)) p12]) (.cond a12 (.seq (.run [.go (.move a5) p13,
.go (.move (.con (.slice none 0 0))) p2,
.go (.move a13) p3]) .ret) .skip)) (.seq (.seq (.run [.go (.loadN 22 a4) p14,
.go (.call (.con (.func (.func 88) ⟨[]⟩ ⟨[]⟩)) [a14]) p15,
.go (.call (.con (.func (.func 76) ⟨[]⟩ ⟨[]⟩)) [a15]) p16,
.go (.un .not a16) p17]) (.cond a17 (.seq (.run [.go (.move (.con (.slice none 0 0))) p2,
.go (.move (.con (.int .i64 (.ofNat 9)))) p3]) .ret) .skip)) (.seq (.run [.go (.loadN 22 a4) p18,
.go (.call (.con (.func (.func 89) ⟨[]⟩ ⟨[]⟩)) [a18]) p19,
.go (.move a19) p2,
.go (.move (.con z0)) p3]) .ret)))))
noncomputable def f46 : FFunc:=.mk c46 u21 [p0] [.tmp p2,.tmp p3]
theorem e46 : @compF Try.prog (Gl.none Try.prog) Try.f46 1=f46:=by kernel_rfl
theorem o46 : okF Try.prog Try.f46=true:=by kernel_rfl
theorem g46 : Try.prog.funcs[(46 : Nat)]?=some Try.f46:=by kernel_rfl
noncomputable def c50 : FCode:=(.seq (.run [.go (.move (.con (.bool false))) p4]) (.seq (.seq (.run [.go (.move a0) p6,
.go (.len 0 a6) p7,
.go (.move a1) p8,
.go (.len 0 a8) p9,
.go (.bin .neq 3 a7 a9) p10]) (.cond a10 (.seq (.run [.go (.move (.con (.bool false))) p4]) .ret) .skip)) (.seq (.seq (.run [.go (.move (.con z0)) p5]) (.block 0 (.loop (.seq (.seq (.run [.go (.move a5) p11,
.go (.move a0) p12,
.go (.len 0 a12) p13,
.go (.bin .lss 3 a11 a13) p14]) (.cond a14 .skip (.exit 0))) (.seq (.block 1 (.seq (.draw 24 [.go (.move a0) p17,
.go (.move a5) p18,
.go (.indexAddr none 2 a17 a18) p19,
.go (.fieldAddr 0 a19) p20,
.go (.load1 a20) p21,
.go (.move a1) p22,
.go (.move a5) p23,
.go (.indexAddr none 2 a22 a23) p24,
.go (.fieldAddr 0 a24) p25,
.go (.load1 a25) p26,
.go (.bin .neq 3 a21 a26) p27,
.go (.move a27) p28,
.gd p28 false (.move a0) p29,
.gd p28 false (.move a5) p30,
.gd p28 false (.indexAddr none 2 a29 a30) p31,
.gd p28 false (.fieldAddr 1 a31) p32,
.gd p28 false (.load1 a32) p33,
.gd p28 false (.move a1) p34,
.gd p28 false (.move a5) p35,
.gd p28 false (.indexAddr none 2 a34 a35) p36,
.gd p28 false (.fieldAddr 1 a36) p37,
.gd p28 false (.load1 a37) p38,
.gd p28 false (.bin .neq 3 a33 a38) p39,
.go (.pick a28 (.con (.bool true)) a39) p40] [.ok,.ok,.ok,.ok,.ok,.ok,.ok,.ok,.ok,.ok,.ok,.ok,.ok,.ok,.ok,.ok,.ok,.ok,.ok,.ok,.ok,.ok,.ok,.ok]) (.cond a40 (.seq (.run [.go (.move (.con (.bool false))) p4]) .ret) .skip))) (.run [.go (.move a5) p15,
.go (.bin .add 3 a15 (.con (.int .i64 (.ofNat 1)))) p16,
.go (.move a16) p5])))))) (.seq (.run [.go (.move (.con (.bool true))) p4]) .ret))))
noncomputable def f50 : FFunc:=.mk c50 u22 [p0,p1] [.tmp p4]
theorem e50 : @compF Try.prog (Gl.none Try.prog) Try.f50 2=f50:=by kernel_rfl
theorem o50 : okF Try.prog Try.f50=true:=by kernel_rfl
theorem g50 : Try.prog.funcs[(50 : Nat)]?=some Try.f50:=by kernel_rfl
noncomputable def c51 : FCode:=(.seq (.run [.go (.alloc 38 [(.slice none 0 0),(.slice none 0 0),(.slice none 0 0),(.slice none 0 0)]) p4]) (.seq (.run [.go (.call (.con (.func (.func 52) ⟨[]⟩ ⟨[]⟩)) [(.con (.int .i64 (.ofNat 100))),(.con (.int .i64 (.ofNat 100)))]) p5,
.go (.call (.con (.func (.func 52) ⟨[]⟩ ⟨[]⟩)) [(.con (.int .i64 (.ofNat 80))),(.con (.int .i64 (.ofNat 90)))]) p6,
.go (.call (.con (.func (.func 52) ⟨[]⟩ ⟨[]⟩)) [(.con (.int .i64 (.ofNat 40))),(.con (.int .i64 (.ofNat 50)))]) p7,
.go (.buildSlice 69 3 [z0,z0,z0,z0,z0,z0] [(0,2,a5),(2,2,a6),(4,2,a7)]) p8,
.go (.move a0) p9,
.go (.move a1) p10,
.go (.call (.con (.func (.func 52) ⟨[]⟩ ⟨[]⟩)) [a9,a10]) p11,
.go (.call (.con (.func (.func 52) ⟨[]⟩ ⟨[]⟩)) [(.con (.int .i64 (.ofNat 90))),(.con (.int .i64 (.ofNat 97)))]) p12,
.go (.call (.con (.func (.func 52) ⟨[]⟩ ⟨[]⟩)) [(.con (.int .i64 (.ofNat 100))),(.con (.int .i64 (.ofNat 115)))]) p13,
.go (.buildSlice 69 3 [z0,z0,z0,z0,z0,z0] [(0,2,a11),(2,2,a12),(4,2,a13)]) p14,
.go (.buildSlice 36 2 [(.slice none 0 0),(.slice none 0 0)] [(0,1,a8),(1,1,a14)]) p15,
.go (.call (.con (.func (.func 52) ⟨[]⟩ ⟨[]⟩)) [(.con (.int .i64 (.ofNat 110))),(.con (.int .i64 (.ofNat 120)))]) p16,
.go (.buildSlice 69 1 [z0,z0] [(0,2,a16)]) p17,
.go (.call (.con (.func (.func 52) ⟨[]⟩ ⟨[]⟩)) [(.con (.int .i64 (.ofNat 150))),(.con (.int .i64 (.ofNat 200)))]) p18,
.go (.call (.con (.func (.func 52) ⟨[]⟩ ⟨[]⟩)) [(.con (.int .i64 (.ofNat 20))),(.con (.int .i64 (.ofNat 40)))]) p19,
.go (.call (.con (.func (.func 52) ⟨[]⟩ ⟨[]⟩)) [(.con (.int .i64 (.ofNat 50))),(.con (.int .i64 (.ofNat 60)))]) p20,
.go (.call (.con (.func (.func 52) ⟨[]⟩ ⟨[]⟩)) [(.con (.int .i64 (.ofNat 300))),(.con (.int .i64 (.ofNat 400)))]) p21,
.go (.buildSlice 69 4 [z0,z0,z0,z0,z0,z0,z0,z0] [(0,2,a18),(2,2,a19),(4,2,a20),(6,2,a21)]) p22,
.go (.build [z0,z0] []) p23,
.go (.call (.con (.func (.func 52) ⟨[]⟩ ⟨[]⟩)) [(.con (.int .i64 (.negSucc 4))),(.con (.int .i64 (.ofNat 5)))]) p24,
.go (.build [z0,z0] []) p25,
.go (.buildSlice 69 3 [z0,z0,z0,z0,z0,z0] [(0,2,a23),(2,2,a24),(4,2,a25)]) p26,
.go (.build [(.slice none 0 0),(.slice none 0 0),(.slice none 0 0),(.slice none 0 0)] [(0,1,a15),(1,1,a17),(2,1,a22),(3,1,a26)]) p27,
.un (.store 4 a4 a27)]) .ret))
noncomputable def f51 : FFunc:=.mk c51 u24 [p0,p1] [.many p4 4]
theorem e51 : @compF Try.prog (Gl.none Try.prog) Try.f51 2=f51:=by kernel_rfl
theorem o51 : okF Try.prog Try.f51=true:=by kernel_rfl
theorem g51 : Try.prog.funcs[(51 : Nat)]?=some Try.f51:=by kernel_rfl
noncomputable def c52 : FCode:=(.seq (.run [.go (.alloc 69 [z0,z0]) p4]) (.seq (.run [.go (.move a0) p5,
.go (.move a1) p6,
.go (.build [z0,z0] [(0,1,a5),(1,1,a6)]) p7,
.un (.store 2 a4 a7)]) .ret))
noncomputable def f52 : FFunc:=.mk c52 u25 [p0,p1] [.many p4 2]
theorem e52 : @compF Try.prog (Gl.none Try.prog) Try.f52 2=f52:=by kernel_rfl
theorem o52 : okF Try.prog Try.f52=true:=by kernel_rfl
theorem g52 : Try.prog.funcs[(52 : Nat)]?=some Try.f52:=by kernel_rfl
noncomputable def c62 : FCode:=(.seq (.run [.go (.box 38 a0) p1,
.go (.move (.con (.bool false))) p2]) (.seq (.run [.go (.fieldAddr 0 a1) p3,
.go (.load1 a3) p4,
.go (.len 0 a4) p5,
.go (.bin .leq 3 a5 (.con (.int .i64 (.ofNat 4)))) p6,
.go (.move a6) p7,
.gd p7 true (.loadN 4 a1) p8,
.gd p7 true (.call (.con (.func (.func 101) ⟨[]⟩ ⟨[]⟩)) [a8]) p9,
.gd p7 true (.bin .leq 3 a9 (.con (.int .i64 (.ofNat 4)))) p10,
.go (.pick a7 a10 (.con (.bool false))) p11,
.go (.move a11) p2]) .ret))
noncomputable def f62 : FFunc:=.mk c62 u26 [p0] [.tmp p2]
theorem e62 : @compF Try.prog (Gl.none Try.prog) Try.f62 1=f62:=by kernel_rfl
theorem o62 : okF Try.prog Try.f62=true:=by kernel_rfl
theorem g62 : Try.prog.funcs[(62 : Nat)]?=some Try.f62:=by kernel_rfl
noncomputable def c63 : FCode:=(.seq (.run [.go (.box 38 a0) p1,
.go (.move (.con (.bool false))) p2]) (.seq (.run [.go (.call (.con (.func (.func 85) ⟨[]⟩ ⟨[]⟩)) []) p7,
.go (.makeFunc 86 [a7] []) p8,
.go (.build [z0,z0] [(0,1,(.con z0)),(1,1,(.con (.int .i64 (.ofNat 1000))))]) p9,
.go (.makeFunc 86 [a9] []) p10,
.go (.build [z0,z0] [(0,1,(.con (.int .i64 (.negSucc 49)))),(1,1,(.con (.int .i64 (.ofNat 50))))]) p11,
.go (.makeFunc 86 [a11] []) p12,
.go (.alloc 152 [.nilFunc]) p3,
.un (.store 1 a3 a8),
.go (.move a10) p4,
.go (.move a12) p5]) (.seq (.run [.go (.makeFunc 102 [] [a1,a3]) p13,
.go (.move a13) p6]) (.seq (.draw 55 [.go (.loadN 4 a1) p14,
.go (.call (.con (.func (.func 101) ⟨[]⟩ ⟨[]⟩)) [a14]) p15,
.go (.bin .geq 3 a15 (.con (.int .i64 (.ofNat 2)))) p16,
.go (.move a16) p17,
.gd p17 true (.fieldAddr 0 a1) p18,
.gd p17 true (.load1 a18) p19,
.gd p17 true (.move a6) p20,
.gd p17 true (.call (.con (.func (.func 104) ⟨[]⟩ ⟨[]⟩)) [a19,a20]) p21,
.go (.pick a17 a21 (.con (.bool false))) p22,
.go (.move a22) p23,
.gd p23 true (.fieldAddr 1 a1) p24,
.gd p23 true (.load1 a24) p25,
.gd p23 true (.len 0 a25) p26,
.gd p23 true (.fieldAddr 0 a1) p27,
.gd p23 true (.load1 a27) p28,
.gd p23 true (.len 0 a28) p29,
.gd p23 true (.bin .sub 3 a29 (.con (.int .i64 (.ofNat 1)))) p30,
.gd p23 true (.bin .eql 3 a26 a30) p31,
.go (.pick a23 a31 (.con (.bool false))) p32,
.go (.move a32) p33,
.gd p33 true (.fieldAddr 1 a1) p34,
.gd p33 true (.load1 a34) p35,
.gd p33 true (.load1 a3) p36,
.gd p33 true (.call (.con (.func (.func 103) ⟨[]⟩ ⟨[]⟩)) [a35,a36]) p37,
.go (.pick a33 a37 (.con (.bool false))) p38,
.go (.move a38) p39,
.gd p39 true (.fieldAddr 2 a1) p40,
.gd p39 true (.load1 a40) p41,
.gd p39 true (.len 0 a41) p42,
.gd p39 true (.loadN 4 a1) p43,
.gd p39 true (.call (.con (.func (.func 101) ⟨[]⟩ ⟨[]⟩)) [a43]) p44,
.gd p39 true (.bin .add 3 a44 (.con (.int .i64 (.ofNat 1)))) p45,
.gd p39 true (.bin .eql 3 a42 a45) p46,
.go (.pick a39 a46 (.con (.bool false))) p47,
.go (.move a47) p48,
.gd p48 true (.fieldAddr 2 a1) p49,
.gd p48 true (.load1 a49) p50,
.gd p48 true (.move a4) p51,
.gd p48 true (.call (.con (.func (.func 103) ⟨[]⟩ ⟨[]⟩)) [a50,a51]) p52,
.go (.pick a48 a52 (.con (.bool false))) p53,
.go (.move a53) p54,
.gd p54 true (.fieldAddr 3 a1) p55,
.gd p54 true (.load1 a55) p56,
.gd p54 true (.len 0 a56) p57,
.gd p54 true (.loadN 4 a1) p58,
.gd p54 true (.call (.con (.func (.func 101) ⟨[]⟩ ⟨[]⟩)) [a58]) p59,
.gd p54 true (.bin .eql 3 a57 a59) p60,
.go (.pick a54 a60 (.con (.bool false))) p61,
.go (.move a61) p62,
.gd p62 true (.fieldAddr 3 a1) p63,
.gd p62 true (.load1 a63) p64,
.gd p62 true (.move a5) p65,
.gd p62 true (.call (.con (.func (.func 103) ⟨[]⟩ ⟨[]⟩)) [a64,a65]) p66,
.go (.pick a62 a66 (.con (.bool false))) p67,
.go (.move a67) p2] [.ok,.ok,.ok,.ok,.ok,.ok,.ok,.ok,.ok,.ok,.ok,.ok,.ok,.ok,.ok,.ok,.ok,.ok,.ok,.ok,.ok,.ok,.ok,.ok,.ok,.ok,.ok,.rd (some (p39,true)) (.load1 a40) (some p41) [31],.rd (some (p39,true)) (.len 0 a41) (some p42) [31],.ok,.ok,.ok,.ok,.ok,.ok,.ok,.ok,.ok,.ok,.ok,.ok,.ok,.rd (some (p54,true)) (.load1 a55) (some p56) [46],.rd (some (p54,true)) (.len 0 a56) (some p57) [46],.ok,.ok,.ok,.ok,.ok,.ok,.ok,.ok,.ok,.ok,.ok]) .ret))))
noncomputable def f63 : FFunc:=.mk c63 u31 [p0] [.tmp p2]
theorem e63 : @compF Try.prog (Gl.none Try.prog) Try.f63 1=f63:=by kernel_rfl
theorem o63 : okF Try.prog Try.f63=true:=by kernel_rfl
theorem g63 : Try.prog.funcs[(63 : Nat)]?=some Try.f63:=by kernel_rfl
noncomputable def c72 : FCode:=(.seq (.run [.go (.box 38 a0) p1,
.go (.alloc 135 [(.slice none 0 0),(.slice none 0 0),(.slice none 0 0),(.slice none 0 0),(.bool false),(.bool false),(.bool false),(.bool false),(.bool false),(.bool false),(.bool false),(.bool false),(.bool false),(.bool false),(.bool false),(.bool false),(.bool false),(.bool false),(.bool false),(.bool false),.nilFunc,.nilFunc]) p2,
.go (.move (.con z0)) p3]) (.seq (.seq (.run [.go (.loadN 4 a1) p5,
.go (.call (.con (.func (.func 21) ⟨[]⟩ ⟨[]⟩)) [a5]) p6,
.go (.move a6) p4]) (.seq (.run [.go (.move a4) p7,
.go (.bin .neq 33 a7 (.con z0)) p8]) (.cond a8 (.seq (.run [.go (.build [(.slice none 0 0),(.slice none 0 0),(.slice none 0 0),(.slice none 0 0),(.bool false),(.bool false),(.bool false),(.bool false),(.bool false),(.bool false),(.bool false),(.bool false),(.bool false),(.bool false),(.bool false),(.bool false),(.bool false),(.bool false),(.bool false),(.bool false),.nilFunc,.nilFunc] []) p9,
.go (.move a4) p10,
.un (.store 22 a2 a9),
.go (.move a10) p3]) .ret) .skip))) (.seq (.run [.go (.loadN 4 a1) p11,
.go (.call (.con (.func (.func 75) ⟨[]⟩ ⟨[]⟩)) [a11]) p12,
.un (.store 22 a2 a12),
.go (.move (.con z0)) p3]) .ret)))
noncomputable def f72 : FFunc:=.mk c72 u23 [p0] [.many p2 22,.tmp p3]
theorem e72 : @compF Try.prog (Gl.none Try.prog) Try.f72 1=f72:=by kernel_rfl
theorem o72 : okF Try.prog Try.f72=true:=by kernel_rfl
theorem g72 : Try.prog.funcs[(72 : Nat)]?=some Try.f72:=by kernel_rfl
noncomputable def c73 : FCode:=(.seq (.run [.go (.box 135 a0) p1,
.go (.alloc 138 [(.map none)]) p2,
.go (.move (.con (.bool false))) p3]) (.seq (.run [.go (.loadN 22 a1) p9,
.go (.call (.con (.func (.func 115) ⟨[]⟩ ⟨[]⟩)) [a9]) p10,
.go (.move a10) p8,
.go (.extract a8 0) p11,
.go (.extract a8 1) p12,
.un (.store 1 a2 a11),
.go (.move a12) p3]) (.seq (.seq (.run [.go (.move a3) p13,
.go (.un .not a13) p14]) (.cond a14 (.seq (.run [.un (.store 1 a2 (.con (.map none))),
.go (.move (.con (.bool false))) p3]) .ret) .skip)) (.seq (.seq (.run [.go (.loadN 22 a1) p15,
.go (.call (.con (.func (.func 74) ⟨[]⟩ ⟨[]⟩)) [a15]) p16,
.go (.call (.con (.func (.func 83) ⟨[]⟩ ⟨[]⟩)) [a16]) p17,
.go (.call (.con (.func (.func 116) ⟨[]⟩ ⟨[]⟩)) [a17]) p18]) (.block 0 (.rangeFunc a18 [p19,p20] (rfA Try.f73 0) (rfB Try.f73 0) (.run [.go (.alloc 74 [z0,z0]) p5,
.un (.store 2 a5 a20)]) (.block 1 (.seq (.run [.go (.loadN 22 a1) p21,
.go (.loadN 2 a5) p22,
.go (.call (.con (.func (.func 117) ⟨[]⟩ ⟨[]⟩)) [a21,a22]) p23,
.go (.len 0 a23) p24,
.go (.move (.con z0)) p25]) (.block 2 (.loop (.seq (.run [.go (.bin .lss 3 a25 a24) p26]) (.seq (.cond a26 .skip (.exit 2)) (.seq (.block 3 (.seq (.run [.go (.indexAddr none 2 a23 a25) p27,
.go (.loadN 2 a27) p28,
.go (.alloc 74 [z0,z0]) p7,
.un (.store 2 a7 a28)]) (.draw 8 [.go (.load1 a2) p29,
.go (.loadN 2 a7) p30,
.go (.loadN 22 a1) p31,
.go (.loadN 2 a7) p32,
.go (.loadN 2 a5) p33,
.go (.load1 a2) p34,
.go (.call (.con (.func (.func 118) ⟨[]⟩ ⟨[]⟩)) [a31,a32,a33,a34]) p35,
.un (.mapUpdate 74 a29 a30 a35)] [.rd none (.load1 a2) (some p29) [7],.rd none (.loadN 2 a7) (some p30) [7],.ok,.ok,.ok,.ok,.ok,.ok]))) (.run [.go (.bin .add 3 a25 (.con (.int .i64 (.ofNat 1)))) p36,
.go (.move a36) p25]))))))))))) (.seq (.run [.go (.load1 a2) p37,
.un (.store 1 a2 a37),
.go (.move (.con (.bool true))) p3]) .ret)))))
noncomputable def f73 : FFunc:=.mk c73 u33 [p0] [.one p2,.tmp p3]
theorem e73 : @compF Try.prog (Gl.none Try.prog) Try.f73 1=f73:=by kernel_rfl
theorem o73 : okF Try.prog Try.f73=true:=by kernel_rfl
theorem g73 : Try.prog.funcs[(73 : Nat)]?=some Try.f73:=by kernel_rfl
noncomputable def c74 : FCode:=(.seq (.run [.go (.box 135 a0) p1,
.go (.move (.con .nilFunc)) p2]) (.seq (.run [.go (.makeFunc 119 [] [a1]) p3,
.go (.move a3) p2]) .ret))
noncomputable def f74 : FFunc:=.mk c74 u15 [p0] [.tmp p2]
theorem e74 : @compF Try.prog (Gl.none Try.prog) Try.f74 1=f74:=by kernel_rfl
theorem o74 : okF Try.prog Try.f74=true:=by kernel_rfl
theorem g74 : Try.prog.funcs[(74 : Nat)]?=some Try.f74:=by kernel_rfl
noncomputable def c75 : FCode:=(.seq (.run [.go (.box 38 a0) p1,
.go (.alloc 135 [(.slice none 0 0),(.slice none 0 0),(.slice none 0 0),(.slice none 0 0),(.bool false),(.bool false),(.bool false),(.bool false),(.bool false),(.bool false),(.bool false),(.bool false),(.bool false),(.bool false),(.bool false),(.bool false),(.bool false),(.bool false),(.bool false),(.bool false),.nilFunc,.nilFunc]) p2]) (.seq (.run [.go (.loadN 4 a1) p3,
.go (.build [.nilFunc,.nilFunc] [(0,1,(.con (.func (.func 120) ⟨[]⟩ ⟨[]⟩))),(1,1,(.con (.func (.func 121) ⟨[]⟩ ⟨[]⟩)))]) p4,
.go (.build [(.slice none 0 0),(.slice none 0 0),(.slice none 0 0),(.slice none 0 0),(.bool false),(.bool false),(.bool false),(.bool false),(.bool false),(.bool false),(.bool false),(.bool false),(.bool false),(.bool false),(.bool false),(.bool false),(.bool false),(.bool false),(.bool false),(.bool false),.nilFunc,.nilFunc] [(0,4,a3),(20,2,a4)]) p5,
.un (.store 22 a2 a5)]) .ret))
noncomputable def f75 : FFunc:=.mk c75 u5 [p0] [.many p2 22]
theorem e75 : @compF Try.prog (Gl.none Try.prog) Try.f75 1=f75:=by kernel_rfl
theorem o75 : okF Try.prog Try.f75=true:=by kernel_rfl
theorem g75 : Try.prog.funcs[(75 : Nat)]?=some Try.f75:=by kernel_rfl
noncomputable def c76 : FCode:=(.seq (.run [.go (.box 135 a0) p1,
.go (.move (.con (.bool false))) p2]) (.seq (.run [.go (.loadN 22 a1) p6,
.go (.call (.con (.func (.func 115) ⟨[]⟩ ⟨[]⟩)) [a6]) p7,
.go (.move a7) p5,
.go (.extract a5 0) p8,
.go (.extract a5 1) p9,
.go (.move a8) p3,
.go (.move a9) p4]) (.seq (.run [.go (.move a4) p10,
.go (.move a10) p2]) .ret)))
noncomputable def f76 : FFunc:=.mk c76 u12 [p0] [.tmp p2]
theorem e76 : @compF Try.prog (Gl.none Try.prog) Try.f76 1=f76:=by kernel_rfl
theorem o76 : okF Try.prog Try.f76=true:=by kernel_rfl
theorem g76 : Try.prog.funcs[(76 : Nat)]?=some Try.f76:=by kernel_rfl
noncomputable def c82 : FCode:=(.seq (.run [.go (.box 74 a1) p3,
.go (.move (.con (.bool false))) p4]) (.seq (.run [.go (.move a0) p5,
.go (.loadN 2 a3) p6,
.go (.call (.con (.func (.func 122) ⟨[]⟩ ⟨[]⟩)) [a5,a6]) p7,
.go (.bin .geq 3 a7 (.con z0)) p8,
.go (.move a8) p4]) .ret))
noncomputable def f82 : FFunc:=.mk c82 u16 [p0,p1] [.tmp p4]
theorem e82 : @compF Try.prog (Gl.none Try.prog) Try.f82 2=f82:=by kernel_rfl
theorem o82 : okF Try.prog Try.f82=true:=by kernel_rfl
theorem g82 : Try.prog.funcs[(82 : Nat)]?=some Try.f82:=by kernel_rfl
noncomputable def c83 : FCode:=(.seq (.run [.go (.move (.con (.slice none 0 0))) p2]) (.seq (.run [.go (.move a0) p3,
.go (.call (.con (.func (.func 123) ⟨[]⟩ ⟨[]⟩)) [(.con (.slice none 0 0)),a3]) p4,
.go (.move a4) p2]) .ret))
noncomputable def f83 : FFunc:=.mk c83 u11 [p0] [.tmp p2]
theorem e83 : @compF Try.prog (Gl.none Try.prog) Try.f83 1=f83:=by kernel_rfl
theorem o83 : okF Try.prog Try.f83=true:=by kernel_rfl
theorem g83 : Try.prog.funcs[(83 : Nat)]?=some Try.f83:=by kernel_rfl
noncomputable def c84 : FCode:=(.seq (.run [.go (.box 74 a1) p4]) (.draw 11 [.go (.move a0) p6,
.go (.fieldAddr 0 a4) p7,
.go (.load1 a7) p8,
.go (.fieldAddr 1 a4) p9,
.go (.load1 a9) p10,
.go (.move a2) p11,
.go (.nilCheck a6) p12,
.go (.fieldAddr 4 a12) p13,
.go (.indexAddr (some 4) 4 a13 a8) p14,
.go (.indexAddr (some 4) 1 a14 a10) p15,
.un (.store 1 a15 a11)] [.ok,.ok,.ok,.ok,.ok,.ok,.ok,.ok,.ok,.ok,.ok]))
noncomputable def f84 : FFunc:=.mk c84 u28 [p0,p1,p2] []
theorem e84 : @compF Try.prog (Gl.none Try.prog) Try.f84 3=f84:=by kernel_rfl
theorem o84 : okF Try.prog Try.f84=true:=by kernel_rfl
theorem g84 : Try.prog.funcs[(84 : Nat)]?=some Try.f84:=by kernel_rfl
noncomputable def c85 : FCode:=(.seq (.run [.go (.alloc 69 [z0,z0]) p0]) (.seq (.run [.go (.build [z0,z0] [(0,1,(.con z0)),(1,1,(.con (.int .i64 (.ofNat 500))))]) p1,
.un (.store 2 a0 a1)]) .ret))
noncomputable def f85 : FFunc:=.mk c85 u4 [] [.many p0 2]
theorem e85 : @compF Try.prog (Gl.none Try.prog) Try.f85 0=f85:=by kernel_rfl
theorem o85 : okF Try.prog Try.f85=true:=by kernel_rfl
theorem g85 : Try.prog.funcs[(85 : Nat)]?=some Try.f85:=by kernel_rfl
noncomputable def c86 : FCode:=(.seq (.run [.go (.box 69 a0) p2,
.go (.box 69 a1) p3,
.go (.move (.con (.bool false))) p4]) (.seq (.run [.go (.loadN 2 a2) p5,
.go (.fieldAddr 0 a3) p6,
.go (.load1 a6) p7,
.go (.call (.con (.func (.func 109) ⟨[]⟩ ⟨[]⟩)) [a5,a7]) p8,
.go (.move a8) p9,
.gd p9 true (.loadN 2 a2) p10,
.gd p9 true (.fieldAddr 1 a3) p11,
.gd p9 true (.load1 a11) p12,
.gd p9 true (.call (.con (.func (.func 109) ⟨[]⟩ ⟨[]⟩)) [a10,a12]) p13,
.go (.pick a9 a13 (.con (.bool false))) p14,
.go (.move a14) p15,
.gd p15 true (.fieldAddr 0 a3) p16,
.gd p15 true (.load1 a16) p17,
.gd p15 true (.fieldAddr 1 a3) p18,
.gd p15 true (.load1 a18) p19,
.gd p15 true (.bin .leq 3 a17 a19) p20,
.go (.pick a15 a20 (.con (.bool false))) p21,
.go (.move a21) p4]) .ret))
noncomputable def f86 : FFunc:=.mk c86 u34 [p0,p1] [.tmp p4]
theorem e86 : @compF Try.prog (Gl.none Try.prog) Try.f86 2=f86:=by kernel_rfl
theorem o86 : okF Try.prog Try.f86=true:=by kernel_rfl
theorem g86 : Try.prog.funcs[(86 : Nat)]?=some Try.f86:=by kernel_rfl
noncomputable def c87 : FCode:=(.seq (.run [.go (.box 135 a0) p2,
.go (.box 69 a1) p3,
.go (.move (.con (.slice none 0 0))) p4,
.go (.move (.con (.bool false))) p5]) (.seq (.run [.go (.loadN 22 a2) p12,
.go (.call (.con (.func (.func 115) ⟨[]⟩ ⟨[]⟩)) [a12]) p13,
.go (.move a13) p11,
.go (.extract a11 0) p14,
.go (.extract a11 1) p15,
.go (.move a14) p6,
.go (.move a15) p7]) (.seq (.seq (.run [.go (.move a7) p16,
.go (.un .not a16) p17]) (.cond a17 (.seq (.run [.go (.move (.con (.slice none 0 0))) p4,
.go (.move (.con (.bool false))) p5]) .ret) .skip)) (.seq (.run [.go (.fieldAddr 0 a2) p18,
.go (.fieldAddr 0 a18) p19,
.go (.load1 a19) p20,
.go (.len 0 a20) p21,
.go (.bin .sub 3 a21 (.con (.int .i64 (.ofNat 1)))) p22,
.go (.move a22) p8]) (.seq (.run [.go (.move a6) p23,
.go (.move a8) p24,
.go (.build [z0,z0] [(0,1,a24),(1,1,(.con (.int .i64 (.negSucc 0))))]) p25,
.go (.loadN 2 a3) p26,
.un (.mapUpdate 74 a23 a25 a26)]) (.seq (.seq (.run [.go (.fieldAddr 0 a2) p27,
.go (.loadN 4 a27) p28,
.go (.call (.con (.func (.func 101) ⟨[]⟩ ⟨[]⟩)) [a28]) p29,
.go (.move (.con z0)) p30]) (.block 0 (.loop (.seq (.run [.go (.bin .lss 3 a30 a29) p31]) (.seq (.cond a31 .skip (.exit 0)) (.seq (.block 1 (.seq (.run [.go (.move a30) p32,
.go (.move a32) p9]) (.seq (.run [.go (.loadN 22 a2) p33,
.go (.move a8) p34,
.go (.bin .add 3 a34 (.con (.int .i64 (.ofNat 1)))) p35,
.go (.move a9) p36,
.go (.build [z0,z0] [(0,1,a35),(1,1,a36)]) p37,
.go (.move a6) p38,
.go (.call (.con (.func (.func 125) ⟨[]⟩ ⟨[]⟩)) [a33,a37,a38]) p39,
.go (.call (.con (.func (.func 126) ⟨[]⟩ ⟨[]⟩)) []) p40,
.go (.call (.con (.func (.func 124) ⟨[]⟩ ⟨[]⟩)) [a39,a40]) p41,
.go (.alloc 69 [z0,z0]) p10,
.un (.store 2 a10 a41)]) (.seq (.seq (.run [.go (.loadN 2 a10) p42,
.go (.call (.con (.func (.func 127) ⟨[]⟩ ⟨[]⟩)) [a42]) p43]) (.cond a43 (.seq (.run [.go (.move (.con (.slice none 0 0))) p4,
.go (.move (.con (.bool false))) p5]) .ret) .skip)) (.run [.go (.move a4) p44,
.go (.loadN 2 a10) p45,
.go (.buildSlice 69 1 [z0,z0] [(0,2,a45)]) p46,
.go (.append 69 2 16 a44 a46) p47,
.go (.move a47) p4]))))) (.run [.go (.bin .add 3 a30 (.con (.int .i64 (.ofNat 1)))) p48,
.go (.move a48) p30]))))))) (.seq (.run [.go (.move a4) p49,
.go (.move a49) p4,
.go (.move (.con (.bool true))) p5]) .ret)))))))
noncomputable def f87 : FFunc:=.mk c87 u37 [p0,p1] [.tmp p4,.tmp p5]
theorem e87 : @compF Try.prog (Gl.none Try.prog) Try.f87 2=f87:=by kernel_rfl
theorem o87 : okF Try.prog Try.f87=true:=by kernel_rfl
theorem g87 : Try.prog.funcs[(87 : Nat)]?=some Try.f87:=by kernel_rfl
noncomputable def c88 : FCode:=(.seq (.run [.go (.box 135 a0) p1,
.go (.alloc 135 [(.slice none 0 0),(.slice none 0 0),(.slice none 0 0),(.slice none 0 0),(.bool false),(.bool false),(.bool false),(.bool false),(.bool false),(.bool false),(.bool false),(.bool false),(.bool false),(.bool false),(.bool false),(.bool false),(.bool false),(.bool false),(.bool false),(.bool false),.nilFunc,.nilFunc]) p2]) (.seq (.seq (.run [.go (.loadN 22 a1) p4,
.go (.call (.con (.func (.func 74) ⟨[]⟩ ⟨[]⟩)) [a4]) p5]) (.block 0 (.rangeFunc a5 [p6] (rfA Try.f88 0) (rfB Try.f88 0) (.run [.go (.alloc 74 [z0,z0]) p3,
.un (.store 2 a3 a6)]) (.block 1 (.run [.go (.loadN 2 a3) p7,
.go (.call (.con (.func (.func 84) ⟨[]⟩ ⟨[]⟩)) [a1,a7,(.con (.bool true))]) p8]))))) (.seq (.run [.go (.loadN 22 a1) p9,
.un (.store 22 a2 a9)]) .ret)))
noncomputable def f88 : FFunc:=.mk c88 u20 [p0] [.many p2 22]
theorem e88 : @compF Try.prog (Gl.none Try.prog) Try.f88 1=f88:=by kernel_rfl
theorem o88 : okF Try.prog Try.f88=true:=by kernel_rfl
theorem g88 : Try.prog.funcs[(88 : Nat)]?=some Try.f88:=by kernel_rfl
noncomputable def c89 : FCode:=(.seq (.run [.go (.box 135 a0) p1,
.go (.alloc 84 [(.slice none 0 0)]) p2]) (.scope (.seq .skip (.seq (.seq (.draw 10 [.go (.fieldAddr 0 a1) p5,
.go (.fieldAddr 0 a5) p6,
.go (.load1 a6) p7,
.go (.len 0 a7) p8,
.go (.fieldAddr 0 a1) p9,
.go (.loadN 4 a9) p10,
.go (.call (.con (.func (.func 101) ⟨[]⟩ ⟨[]⟩)) [a10]) p11,
.go (.bin .mul 3 a8 a11) p12,
.go (.bin .add 3 a12 (.con (.int .i64 (.ofNat 1)))) p13,
.go (.move (.con z0)) p14] [.ok,.ok,.rd none (.load1 a6) (some p7) [7],.rd none (.len 0 a7) (some p8) [7],.ok,.ok,.ok,.ok,.ok,.ok]) (.block 0 (.loop (.seq (.run [.go (.bin .lss 3 a14 a13) p15]) (.seq (.cond a15 .skip (.exit 0)) (.seq (.block 1 (.seq (.run [.go (.move a14) p16,
.go (.move a16) p3]) (.seq (.run [.go (.loadN 22 a1) p17,
.go (.move a3) p18,
.go (.call (.con (.func (.func 128) ⟨[]⟩ ⟨[]⟩)) [a17,a18]) p19]) (.block 2 (.rangeFunc a19 [p20] (rfA Try.f89 0) (rfB Try.f89 0) (.run [.go (.move a20) p4]) (.block 3 (.seq (.run [.go (.move a4) p21,
.un (.store 1 a2 a21)]) (.exit 0)))))))) (.run [.go (.bin .add 3 a14 (.con (.int .i64 (.ofNat 1)))) p22,
.go (.move a22) p14]))))))) (.seq (.run [.go (.load1 a2) p23,
.un (.store 1 a2 a23)]) .ret)))))
noncomputable def f89 : FFunc:=.mk c89 u36 [p0] [.one p2]
theorem e89 : @compF Try.prog (Gl.none Try.prog) Try.f89 1=f89:=by kernel_rfl
theorem o89 : okF Try.prog Try.f89=true:=by kernel_rfl
theorem g89 : Try.prog.funcs[(89 : Nat)]?=some Try.f89:=by kernel_rfl
noncomputable def c101 : FCode:=(.seq (.run [.go (.box 38 a0) p1,
.go (.move (.con z0)) p2]) (.seq (.seq (.run [.go (.fieldAddr 0 a1) p3,
.go (.load1 a3) p4,
.go (.len 0 a4) p5,
.go (.bin .eql 3 a5 (.con z0)) p6]) (.cond a6 (.seq (.run [.go (.move (.con z0)) p2]) .ret) .skip)) (.seq (.run [.go (.fieldAddr 0 a1) p7,
.go (.load1 a7) p8,
.go (.indexAddr none 1 a8 (.con z0)) p9,
.go (.load1 a9) p10,
.go (.len 0 a10) p11,
.go (.move a11) p2]) .ret)))
noncomputable def f101 : FFunc:=.mk c101 u26 [p0] [.tmp p2]
theorem e101 : @compF Try.prog (Gl.none Try.prog) Try.f101 1=f101:=by kernel_rfl
theorem o101 : okF Try.prog Try.f101=true:=by kernel_rfl
theorem g101 : Try.prog.funcs[(101 : Nat)]?=some Try.f101:=by kernel_rfl
noncomputable def c102 : FCode:=(.seq (.run [.go (.move (.con (.bool false))) p4]) (.seq (.run [.go (.move a0) p5,
.go (.len 0 a5) p6,
.go (.loadN 4 a1) p7,
.go (.call (.con (.func (.func 101) ⟨[]⟩ ⟨[]⟩)) [a7]) p8,
.go (.bin .eql 3 a6 a8) p9,
.go (.move a9) p10,
.gd p10 true (.move a0) p11,
.gd p10 true (.load1 a2) p12,
.gd p10 true (.call (.con (.func (.func 103) ⟨[]⟩ ⟨[]⟩)) [a11,a12]) p13,
.go (.pick a10 a13 (.con (.bool false))) p14,
.go (.move a14) p4]) .ret))
noncomputable def f102 : FFunc:=.mk c102 u3 [p0,p1,p2] [.tmp p4]
theorem e102 : @compF Try.prog (Gl.none Try.prog) Try.f102 3=f102:=by kernel_rfl
theorem o102 : okF Try.prog Try.f102=true:=by kernel_rfl
theorem g102 : Try.prog.funcs[(102 : Nat)]?=some Try.f102:=by kernel_rfl
noncomputable def c103 : FCode:=(.seq (.run [.go (.move (.con (.bool false))) p4]) (.seq (.seq (.run [.go (.move a0) p7,
.go (.len 0 a7) p8,
.go (.move (.con z0)) p9]) (.block 0 (.loop (.seq (.run [.go (.bin .lss 3 a9 a8) p10]) (.seq (.cond a10 .skip (.exit 0)) (.seq (.block 1 (.seq (.run [.go (.indexAddr none 2 a7 a9) p11,
.go (.loadN 2 a11) p12,
.go (.alloc 69 [z0,z0]) p6,
.un (.store 2 a6 a12)]) (.seq (.run [.go (.move a1) p13,
.go (.loadN 2 a6) p14,
.go (.call a13 [a14]) p15,
.go (.un .not a15) p16]) (.cond a16 (.seq (.run [.go (.move (.con (.bool false))) p4]) .ret) .skip)))) (.run [.go (.bin .add 3 a9 (.con (.int .i64 (.ofNat 1)))) p17,
.go (.move a17) p9]))))))) (.seq (.run [.go (.move (.con (.bool true))) p4]) .ret)))
noncomputable def f103 : FFunc:=.mk c103 u32 [p0,p1] [.tmp p4]
theorem e103 : @compF Try.prog (Gl.none Try.prog) Try.f103 2=f103:=by kernel_rfl
theorem o103 : okF Try.prog Try.f103=true:=by kernel_rfl
theorem g103 : Try.prog.funcs[(103 : Nat)]?=some Try.f103:=by kernel_rfl
noncomputable def c104 : FCode:=(.seq (.run [.go (.move (.con (.bool false))) p4]) (.seq (.seq (.run [.go (.move a0) p7,
.go (.len 0 a7) p8,
.go (.move (.con z0)) p9]) (.block 0 (.loop (.seq (.run [.go (.bin .lss 3 a9 a8) p10]) (.seq (.cond a10 .skip (.exit 0)) (.seq (.block 1 (.seq (.run [.go (.indexAddr none 1 a7 a9) p11,
.go (.load1 a11) p12,
.go (.move a12) p6]) (.seq (.run [.go (.move a1) p13,
.go (.move a6) p14,
.go (.call a13 [a14]) p15,
.go (.un .not a15) p16]) (.cond a16 (.seq (.run [.go (.move (.con (.bool false))) p4]) .ret) .skip)))) (.run [.go (.bin .add 3 a9 (.con (.int .i64 (.ofNat 1)))) p17,
.go (.move a17) p9]))))))) (.seq (.run [.go (.move (.con (.bool true))) p4]) .ret)))
noncomputable def f104 : FFunc:=.mk c104 u32 [p0,p1] [.tmp p4]
theorem e104 : @compF Try.prog (Gl.none Try.prog) Try.f104 2=f104:=by kernel_rfl
theorem o104 : okF Try.prog Try.f104=true:=by kernel_rfl
theorem g104 : Try.prog.funcs[(104 : Nat)]?=some Try.f104:=by kernel_rfl
noncomputable def c109 : FCode:=(.seq (.run [.go (.box 69 a0) p2,
.go (.move (.con (.bool false))) p4]) (.seq (.run [.go (.fieldAddr 0 a2) p5,
.go (.load1 a5) p6,
.go (.move a1) p7,
.go (.bin .leq 3 a6 a7) p8,
.go (.move a8) p9,
.gd p9 true (.move a1) p10,
.gd p9 true (.fieldAddr 1 a2) p11,
.gd p9 true (.load1 a11) p12,
.gd p9 true (.bin .leq 3 a10 a12) p13,
.go (.pick a9 a13 (.con (.bool false))) p14,
.go (.move a14) p4]) .ret))
noncomputable def f109 : FFunc:=.mk c109 u3 [p0,p1] [.tmp p4]
theorem e109 : @compF Try.prog (Gl.none Try.prog) Try.f109 2=f109:=by kernel_rfl
theorem o109 : okF Try.prog Try.f109=true:=by kernel_rfl
theorem g109 : Try.prog.funcs[(109 : Nat)]?=some Try.f109:=by kernel_rfl
noncomputable def c115 : FCode:=(.seq (.run [.go (.box 135 a0) p1,
.go (.alloc 138 [(.map none)]) p2,
.go (.alloc 4 [(.bool false)]) p3]) (.seq (.run [.go (.loadN 22 a1) p5,
.go (.call (.con (.func (.func 134) ⟨[]⟩ ⟨[]⟩)) [a5]) p6,
.un (.store 1 a2 a6)]) (.seq (.seq (.run [.go (.loadN 22 a1) p7,
.go (.call (.con (.func (.func 74) ⟨[]⟩ ⟨[]⟩)) [a7]) p8]) (.block 0 (.rangeFunc a8 [p9] (rfA Try.f115 0) (rfB Try.f115 0) (.run [.go (.alloc 74 [z0,z0]) p4,
.un (.store 2 a4 a9)]) (.block 1 (.seq (.run [.go (.loadN 22 a1) p10,
.go (.loadN 2 a4) p11,
.go (.load1 a2) p12,
.go (.call (.con (.func (.func 135) ⟨[]⟩ ⟨[]⟩)) [a10,a11,a12]) p13,
.go (.un .not a13) p14]) (.cond a14 (.seq (.run [.un (.store 1 a2 (.con (.map none))),
.un (.store 1 a3 (.con (.bool false)))]) .ret) .skip)))))) (.seq (.run [.go (.load1 a2) p15,
.un (.store 1 a2 a15),
.un (.store 1 a3 (.con (.bool true)))]) .ret))))
noncomputable def f115 : FFunc:=.mk c115 u28 [p0] [.one p2,.one p3]
theorem e115 : @compF Try.prog (Gl.none Try.prog) Try.f115 1=f115:=by kernel_rfl
theorem o115 : okF Try.prog Try.f115=true:=by kernel_rfl
theorem g115 : Try.prog.funcs[(115 : Nat)]?=some Try.f115:=by kernel_rfl
noncomputable def c116 : FCode:=(.seq (.run [.go (.box 84 a0) p1,
.go (.move (.con .nilFunc)) p2]) (.seq (.run [.go (.makeFunc 136 [] [a1]) p3,
.go (.move a3) p2]) .ret))
noncomputable def f116 : FFunc:=.mk c116 u15 [p0] [.tmp p2]
theorem e116 : @compF Try.prog (Gl.none Try.prog) Try.f116 1=f116:=by kernel_rfl
theorem o116 : okF Try.prog Try.f116=true:=by kernel_rfl
theorem g116 : Try.prog.funcs[(116 : Nat)]?=some Try.f116:=by kernel_rfl
noncomputable def c117 : FCode:=(.seq (.run [.go (.box 135 a0) p2,
.go (.box 74 a1) p3,
.go (.move (.con (.slice none 0 0))) p4]) (.seq (.seq (.run [.go (.fieldAddr 0 a3) p6,
.go (.load1 a6) p7,
.go (.bin .eql 3 a7 (.con z0)) p8]) (.cond a8 (.seq (.run [.go (.move (.con (.slice none 0 0))) p4]) .ret) .skip)) (.seq (.run [.go (.fieldAddr 0 a3) p9,
.go (.load1 a9) p10,
.go (.bin .sub 3 a10 (.con (.int .i64 (.ofNat 1)))) p11,
.go (.fieldAddr 1 a3) p12,
.go (.load1 a12) p13,
.go (.bin .sub 3 a13 (.con (.int .i64 (.ofNat 1)))) p14,
.go (.build [z0,z0] [(0,1,a11),(1,1,a14)]) p15,
.go (.buildSlice 74 1 [z0,z0] [(0,2,a15)]) p16,
.go (.move a16) p5]) (.seq (.seq (.draw 7 [.go (.fieldAddr 1 a3) p17,
.go (.load1 a17) p18,
.go (.fieldAddr 0 a2) p19,
.go (.loadN 4 a19) p20,
.go (.call (.con (.func (.func 101) ⟨[]⟩ ⟨[]⟩)) [a20]) p21,
.go (.bin .sub 3 a21 (.con (.int .i64 (.ofNat 1)))) p22,
.go (.bin .eql 3 a18 a22) p23] [.ok,.rd none (.load1 a17) (some p18) [5],.ok,.ok,.ok,.ok,.ok]) (.cond a23 (.run [.go (.move a5) p24,
.go (.fieldAddr 0 a3) p25,
.go (.load1 a25) p26,
.go (.bin .sub 3 a26 (.con (.int .i64 (.ofNat 1)))) p27,
.go (.fieldAddr 1 a3) p28,
.go (.load1 a28) p29,
.go (.build [z0,z0] [(0,1,a27),(1,1,a29)]) p30,
.go (.buildSlice 74 1 [z0,z0] [(0,2,a30)]) p31,
.go (.append 74 2 16 a24 a31) p32,
.go (.move a32) p5]) .skip)) (.seq (.run [.go (.move a5) p33,
.go (.move a33) p4]) .ret)))))
noncomputable def f117 : FFunc:=.mk c117 u29 [p0,p1] [.tmp p4]
theorem e117 : @compF Try.prog (Gl.none Try.prog) Try.f117 2=f117:=by kernel_rfl
theorem o117 : okF Try.prog Try.f117=true:=by kernel_rfl
theorem g117 : Try.prog.funcs[(117 : Nat)]?=some Try.f117:=by kernel_rfl
noncomputable def c118 : FCode:=(.seq (.run [.go (.box 135 a0) p4,
.go (.box 74 a1) p5,
.go (.box 74 a2) p6,
.go (.alloc 69 [z0,z0]) p8]) (.seq (.draw 12 [.go (.loadN 22 a4) p14,
.go (.loadN 2 a5) p15,
.go (.move a3) p16,
.go (.call (.con (.func (.func 137) ⟨[]⟩ ⟨[]⟩)) [a14,a15,a16]) p17,
.go (.loadN 22 a4) p18,
.go (.loadN 2 a6) p19,
.go (.move a3) p20,
.go (.call (.con (.func (.func 125) ⟨[]⟩ ⟨[]⟩)) [a18,a19,a20]) p21,
.go (.alloc 69 [z0,z0]) p9,
.go (.alloc 69 [z0,z0]) p10,
.un (.store 2 a9 a17),
.un (.store 2 a10 a21)] [.ok,.ok,.ok,.ok,.rd none (.loadN 22 a4) (some p18) [0],.rd none (.loadN 2 a6) (some p19) [0],.ok,.ok,.nw none (some p9) 8 true,.nw none (some p10) 9 true,.ok,.ok]) (.seq (.draw 11 [.go (.move a3) p22,
.go (.loadN 2 a6) p23,
.go (.lookup 74 (.agg ⟨[z0,z0]⟩) a22 a23 false) p24,
.go (.field1 0 a24) p25,
.go (.fieldAddr 1 a10) p26,
.go (.load1 a26) p27,
.go (.fieldAddr 1 a9) p28,
.go (.load1 a28) p29,
.go (.bin .sub 3 a27 a29) p30,
.go (.bin .sub 3 a25 a30) p31,
.go (.move a31) p11] [.ok,.ok,.ok,.ok,.ok,.ok,.ok,.ok,.ok,.ok,.ok]) (.seq (.draw 11 [.go (.move a3) p32,
.go (.loadN 2 a6) p33,
.go (.lookup 74 (.agg ⟨[z0,z0]⟩) a32 a33 false) p34,
.go (.field1 1 a34) p35,
.go (.fieldAddr 0 a10) p36,
.go (.load1 a36) p37,
.go (.fieldAddr 0 a9) p38,
.go (.load1 a38) p39,
.go (.bin .sub 3 a37 a39) p40,
.go (.bin .sub 3 a35 a40) p41,
.go (.move a41) p12] [.ok,.ok,.ok,.ok,.ok,.ok,.ok,.ok,.ok,.ok,.ok]) (.seq (.run [.go (.move a3) p42,
.go (.loadN 2 a5) p43,
.go (.lookup 74 (.agg ⟨[z0,z0]⟩) a42 a43 false) p44,
.go (.alloc 69 [z0,z0]) p13,
.un (.store 2 a13 a44)]) (.seq (.block 0 (.loop (.seq (.seq (.draw 11 [.go (.fieldAddr 20 a4) p45,
.go (.fieldAddr 1 a45) p46,
.go (.load1 a46) p47,
.go (.loadN 22 a4) p48,
.go (.loadN 2 a5) p49,
.go (.call (.con (.func (.func 138) ⟨[]⟩ ⟨[]⟩)) [a48,a49]) p50,
.go (.fieldAddr 0 a13) p51,
.go (.load1 a51) p52,
.go (.call a47 [a50,a52]) p53,
.go (.move a11) p54,
.go (.bin .lss 3 a53 a54) p55] [.ok,.ok,.rd none (.load1 a46) (some p47) [6],.ok,.ok,.ok,.ok,.rd none (.load1 a51) (some p52) [0],.ok,.ok,.ok]) (.cond a55 .skip (.exit 0))) (.block 1 (.run [.go (.fieldAddr 0 a13) p56,
.go (.load1 a56) p57,
.go (.bin .add 3 a57 (.con (.int .i64 (.ofNat 1)))) p58,
.go (.fieldAddr 0 a13) p59,
.un (.store 1 a59 a58)]))))) (.seq (.block 2 (.loop (.seq (.seq (.draw 11 [.go (.fieldAddr 20 a4) p60,
.go (.fieldAddr 0 a60) p61,
.go (.load1 a61) p62,
.go (.loadN 22 a4) p63,
.go (.loadN 2 a5) p64,
.go (.call (.con (.func (.func 138) ⟨[]⟩ ⟨[]⟩)) [a63,a64]) p65,
.go (.fieldAddr 1 a13) p66,
.go (.load1 a66) p67,
.go (.call a62 [a65,a67]) p68,
.go (.move a12) p69,
.go (.bin .gtr 3 a68 a69) p70] [.ok,.ok,.rd none (.load1 a61) (some p62) [6],.ok,.ok,.ok,.ok,.rd none (.load1 a66) (some p67) [0],.ok,.ok,.ok]) (.cond a70 .skip (.exit 2))) (.block 3 (.run [.go (.fieldAddr 1 a13) p71,
.go (.load1 a71) p72,
.go (.bin .sub 3 a72 (.con (.int .i64 (.ofNat 1)))) p73,
.go (.fieldAddr 1 a13) p74,
.un (.store 1 a74 a73)]))))) (.seq (.run [.go (.loadN 2 a13) p75,
.un (.store 2 a8 a75)]) .ret))))))))
noncomputable def f118 : FFunc:=.mk c118 u39 [p0,p1,p2,p3] [.many p8 2]
theorem e118 : @compF Try.prog (Gl.none Try.prog) Try.f118 4=f118:=by kernel_rfl
theorem o118 : okF Try.prog Try.f118=true:=by kernel_rfl
theorem g118 : Try.prog.funcs[(118 : Nat)]?=some Try.f118:=by kernel_rfl
noncomputable def c119 : FCode:=(.seq (.run [.go (.fieldAddr 0 a1) p5,
.go (.fieldAddr 0 a5) p6,
.go (.load1 a6) p7,
.go (.len 0 a7) p8,
.go (.move (.con z0)) p9]) (.block 0 (.loop (.seq (.run [.go (.bin .lss 3 a9 a8) p10]) (.seq (.cond a10 .skip (.exit 0)) (.seq (.block 1 (.seq (.run [.go (.move a9) p11,
.go (.move a11) p3]) (.seq (.run [.go (.fieldAddr 0 a1) p12,
.go (.loadN 4 a12) p13,
.go (.call (.con (.func (.func 101) ⟨[]⟩ ⟨[]⟩)) [a13]) p14,
.go (.move (.con z0)) p15]) (.block 2 (.loop (.seq (.run [.go (.bin .lss 3 a15 a14) p16]) (.seq (.cond a16 .skip (.exit 2)) (.seq (.block 3 (.seq (.run [.go (.move a15) p17,
.go (.move a17) p4]) (.seq (.run [.go (.move a0) p18,
.go (.move a3) p19,
.go (.move a4) p20,
.go (.build [z0,z0] [(0,1,a19),(1,1,a20)]) p21,
.go (.call a18 [a21]) p22,
.go (.un .not a22) p23]) (.cond a23 .ret .skip)))) (.run [.go (.bin .add 3 a15 (.con (.int .i64 (.ofNat 1)))) p24,
.go (.move a24) p15]))))))))) (.run [.go (.bin .add 3 a9 (.con (.int .i64 (.ofNat 1)))) p25,
.go (.move a25) p9])))))))
noncomputable def f119 : FFunc:=.mk c119 u40 [p0,p1] []
theorem e119 : @compF Try.prog (Gl.none Try.prog) Try.f119 2=f119:=by kernel_rfl
theorem o119 : okF Try.prog Try.f119=true:=by kernel_rfl
theorem g119 : Try.prog.funcs[(119 : Nat)]?=some Try.f119:=by kernel_rfl
noncomputable def c120 : FCode:=(.seq (.run [.go (.box 69 a0) p2,
.go (.move (.con z0)) p4]) (.seq (.run [.go (.move a1) p5,
.go (.loadN 2 a2) p6,
.go (.move a1) p7,
.go (.call (.con (.func (.func 133) ⟨[]⟩ ⟨[]⟩)) [a6,a7]) p8,
.go (.field1 1 a8) p9,
.go (.bin .sub 3 a5 a9) p10,
.go (.move a10) p4]) .ret))
noncomputable def f120 : FFunc:=.mk c120 u12 [p0,p1] [.tmp p4]
theorem e120 : @compF Try.prog (Gl.none Try.prog) Try.f120 2=f120:=by kernel_rfl
theorem o120 : okF Try.prog Try.f120=true:=by kernel_rfl
theorem g120 : Try.prog.funcs[(120 : Nat)]?=some Try.f120:=by kernel_rfl
noncomputable def c121 : FCode:=(.seq (.run [.go (.box 69 a0) p2,
.go (.move (.con z0)) p4]) (.seq (.run [.go (.move a1) p5,
.go (.loadN 2 a2) p6,
.go (.move a1) p7,
.go (.call (.con (.func (.func 133) ⟨[]⟩ ⟨[]⟩)) [a6,a7]) p8,
.go (.field1 0 a8) p9,
.go (.bin .sub 3 a5 a9) p10,
.go (.move a10) p4]) .ret))
noncomputable def f121 : FFunc:=.mk c121 u12 [p0,p1] [.tmp p4]
theorem e121 : @compF Try.prog (Gl.none Try.prog) Try.f121 2=f121:=by kernel_rfl
theorem o121 : okF Try.prog Try.f121=true:=by kernel_rfl
theorem g121 : Try.prog.funcs[(121 : Nat)]?=some Try.f121:=by kernel_rfl
noncomputable def c122 : FCode:=(.seq (.run [.go (.box 74 a1) p3,
.go (.move (.con z0)) p4]) (.seq (.seq (.run [.go (.move a0) p6,
.go (.len 0 a6) p7,
.go (.move (.con z0)) p8]) (.block 0 (.loop (.seq (.run [.go (.bin .lss 3 a8 a7) p9]) (.seq (.cond a9 .skip (.exit 0)) (.seq (.block 1 (.seq (.run [.go (.move a8) p10,
.go (.move a10) p5]) (.seq (.draw 6 [.go (.loadN 2 a3) p11,
.go (.move a0) p12,
.go (.move a5) p13,
.go (.indexAddr none 2 a12 a13) p14,
.go (.loadN 2 a14) p15,
.go (.bin .eql 74 a11 a15) p16] [.ok,.ok,.ok,.ok,.ok,.ok]) (.cond a16 (.seq (.run [.go (.move a5) p17,
.go (.move a17) p4]) .ret) .skip)))) (.run [.go (.bin .add 3 a8 (.con (.int .i64 (.ofNat 1)))) p18,
.go (.move a18) p8]))))))) (.seq (.run [.go (.move (.con (.int .i64 (.negSucc 0)))) p4]) .ret)))
noncomputable def f122 : FFunc:=.mk c122 u17 [p0,p1] [.tmp p4]
theorem e122 : @compF Try.prog (Gl.none Try.prog) Try.f122 2=f122:=by kernel_rfl
theorem o122 : okF Try.prog Try.f122=true:=by kernel_rfl
theorem g122 : Try.prog.funcs[(122 : Nat)]?=some Try.f122:=by kernel_rfl
noncomputable def c123 : FCode:=(.seq (.run [.go (.box 84 a0) p2,
.go (.move (.con (.slice none 0 0))) p4]) (.seq (.seq (.run [.go (.move a1) p6]) (.block 0 (.rangeFunc a6 [p7] (rfA Try.f123 0) (rfB Try.f123 0) (.run [.go (.alloc 74 [z0,z0]) p5,
.un (.store 2 a5 a7)]) (.block 1 (.run [.go (.load1 a2) p8,
.go (.loadN 2 a5) p9,
.go (.buildSlice 74 1 [z0,z0] [(0,2,a9)]) p10,
.go (.append 74 2 16 a8 a10) p11,
.un (.store 1 a2 a11)]))))) (.seq (.run [.go (.load1 a2) p12,
.go (.move a12) p4]) .ret)))
noncomputable def f123 : FFunc:=.mk c123 u23 [p0,p1] [.tmp p4]
theorem e123 : @compF Try.prog (Gl.none Try.prog) Try.f123 2=f123:=by kernel_rfl
theorem o123 : okF Try.prog Try.f123=true:=by kernel_rfl
theorem g123 : Try.prog.funcs[(123 : Nat)]?=some Try.f123:=by kernel_rfl
noncomputable def c124 : FCode:=(.seq (.run [.go (.box 69 a0) p2,
.go (.box 69 a1) p3,
.go (.alloc 69 [z0,z0]) p4]) (.seq (.run [.go (.fieldAddr 0 a2) p5,
.go (.load1 a5) p6,
.go (.fieldAddr 0 a3) p7,
.go (.load1 a7) p8,
.go (.mm true [a6,a8]) p9,
.go (.fieldAddr 1 a2) p10,
.go (.load1 a10) p11,
.go (.fieldAddr 1 a3) p12,
.go (.load1 a12) p13,
.go (.mm false [a11,a13]) p14,
.go (.build [z0,z0] [(0,1,a9),(1,1,a14)]) p15,
.un (.store 2 a4 a15)]) .ret))
noncomputable def f124 : FFunc:=.mk c124 u28 [p0,p1] [.many p4 2]
theorem e124 : @compF Try.prog (Gl.none Try.prog) Try.f124 2=f124:=by kernel_rfl
theorem o124 : okF Try.prog Try.f124=true:=by kernel_rfl
theorem g124 : Try.prog.funcs[(124 : Nat)]?=some Try.f124:=by kernel_rfl
noncomputable def c125 : FCode:=(.seq (.run [.go (.box 135 a0) p3,
.go (.box 74 a1) p4,
.go (.alloc 69 [z0,z0]) p6]) (.seq (.seq (.run [.go (.fieldAddr 0 a4) p11,
.go (.load1 a11) p12,
.go (.bin .eql 3 a12 (.con z0)) p13]) (.cond a13 (.seq (.run [.go (.call (.con (.func (.func 85) ⟨[]⟩ ⟨[]⟩)) []) p14,
.un (.store 2 a6 a14)]) .ret) .skip)) (.seq (.run [.go (.fieldAddr 0 a3) p15,
.go (.fieldAddr 3 a15) p16,
.go (.load1 a16) p17,
.go (.fieldAddr 1 a4) p18,
.go (.load1 a18) p19,
.go (.indexAddr none 2 a17 a19) p20,
.go (.loadN 2 a20) p21,
.go (.alloc 69 [z0,z0]) p7,
.un (.store 2 a7 a21)]) (.seq (.seq (.run [.go (.loadN 22 a3) p22,
.go (.loadN 2 a4) p23,
.go (.call (.con (.func (.func 117) ⟨[]⟩ ⟨[]⟩)) [a22,a23]) p24,
.go (.len 0 a24) p25,
.go (.move (.con z0)) p26]) (.block 0 (.loop (.seq (.run [.go (.bin .lss 3 a26 a25) p27]) (.seq (.cond a27 .skip (.exit 0)) (.seq (.block 1 (.seq (.run [.go (.indexAddr none 2 a24 a26) p28,
.go (.loadN 2 a28) p29,
.go (.alloc 74 [z0,z0]) p9,
.un (.store 2 a9 a29)]) (.seq (.run [.go (.loadN 22 a3) p30,
.go (.loadN 2 a9) p31,
.go (.move a2) p32,
.go (.call (.con (.func (.func 137) ⟨[]⟩ ⟨[]⟩)) [a30,a31,a32]) p33,
.go (.alloc 69 [z0,z0]) p10,
.un (.store 2 a10 a33)]) (.seq (.run [.go (.fieldAddr 0 a7) p34,
.go (.load1 a34) p35,
.go (.fieldAddr 0 a10) p36,
.go (.load1 a36) p37,
.go (.bin .add 3 a35 a37) p38,
.go (.fieldAddr 0 a7) p39,
.un (.store 1 a39 a38)]) (.run [.go (.fieldAddr 1 a7) p40,
.go (.load1 a40) p41,
.go (.fieldAddr 1 a10) p42,
.go (.load1 a42) p43,
.go (.bin .add 3 a41 a43) p44,
.go (.fieldAddr 1 a7) p45,
.un (.store 1 a45 a44)]))))) (.run [.go (.bin .add 3 a26 (.con (.int .i64 (.ofNat 1)))) p46,
.go (.move a46) p26]))))))) (.seq (.run [.go (.loadN 2 a7) p47,
.un (.store 2 a6 a47)]) .ret)))))
noncomputable def f125 : FFunc:=.mk c125 u41 [p0,p1,p2] [.many p6 2]
theorem e125 : @compF Try.prog (Gl.none Try.prog) Try.f125 3=f125:=by kernel_rfl
theorem o125 : okF Try.prog Try.f125=true:=by kernel_rfl
theorem g125 : Try.prog.funcs[(125 : Nat)]?=some Try.f125:=by kernel_rfl
noncomputable def c126 : FCode:=(.seq (.run [.go (.alloc 69 [z0,z0]) p0]) (.seq (.run [.go (.build [z0,z0] [(0,1,(.con z0)),(1,1,(.con (.int .i64 (.ofNat 9223372036854775807))))]) p1,
.un (.store 2 a0 a1)]) .ret))
noncomputable def f126 : FFunc:=.mk c126 u4 [] [.many p0 2]
theorem e126 : @compF Try.prog (Gl.none Try.prog) Try.f126 0=f126:=by kernel_rfl
theorem o126 : okF Try.prog Try.f126=true:=by kernel_rfl
theorem g126 : Try.prog.funcs[(126 : Nat)]?=some Try.f126:=by kernel_rfl
noncomputable def c127 : FCode:=(.seq (.run [.go (.box 69 a0) p1,
.go (.move (.con (.bool false))) p2]) (.seq (.run [.go (.fieldAddr 0 a1) p3,
.go (.load1 a3) p4,
.go (.fieldAddr 1 a1) p5,
.go (.load1 a5) p6,
.go (.bin .gtr 3 a4 a6) p7,
.go (.move a7) p2]) .ret))
noncomputable def f127 : FFunc:=.mk c127 u25 [p0] [.tmp p2]
theorem e127 : @compF Try.prog (Gl.none Try.prog) Try.f127 1=f127:=by kernel_rfl
theorem o127 : okF Try.prog Try.f127=true:=by kernel_rfl
theorem g127 : Try.prog.funcs[(127 : Nat)]?=some Try.f127:=by kernel_rfl
noncomputable def c128 : FCode:=(.seq (.run [.go (.box 135 a0) p2,
.go (.box 3 a1) p3,
.go (.move (.con .nilFunc)) p4]) (.seq (.run [.go (.makeFunc 139 [] [a2,a3]) p5,
.go (.move a5) p4]) .ret))
noncomputable def f128 : FFunc:=.mk c128 u5 [p0,p1] [.tmp p4]
theorem e128 : @compF Try.prog (Gl.none Try.prog) Try.f128 2=f128:=by kernel_rfl
theorem o128 : okF Try.prog Try.f128=true:=by kernel_rfl
theorem g128 : Try.prog.funcs[(128 : Nat)]?=some Try.f128:=by kernel_rfl
noncomputable def c133 : FCode:=(.seq (.run [.go (.box 69 a0) p2,
.go (.alloc 69 [z0,z0]) p4]) (.seq (.run [.go (.move a1) p5,
.go (.fieldAddr 0 a2) p6,
.go (.load1 a6) p7,
.go (.bin .mul 3 a5 a7) p8,
.go (.bin .quo 3 a8 (.con (.int .i64 (.ofNat 1000)))) p9,
.go (.move a1) p10,
.go (.fieldAddr 1 a2) p11,
.go (.load1 a11) p12,
.go (.bin .mul 3 a10 a12) p13,
.go (.bin .add 3 a13 (.con (.int .i64 (.ofNat 1000)))) p14,
.go (.bin .sub 3 a14 (.con (.int .i64 (.ofNat 1)))) p15,
.go (.bin .quo 3 a15 (.con (.int .i64 (.ofNat 1000)))) p16,
.go (.build [z0,z0] [(0,1,a9),(1,1,a16)]) p17,
.un (.store 2 a4 a17)]) .ret))
noncomputable def f133 : FFunc:=.mk c133 u32 [p0,p1] [.many p4 2]
theorem e133 : @compF Try.prog (Gl.none Try.prog) Try.f133 2=f133:=by kernel_rfl
theorem o133 : okF Try.prog Try.f133=true:=by kernel_rfl
theorem g133 : Try.prog.funcs[(133 : Nat)]?=some Try.f133:=by kernel_rfl
noncomputable def c134 : FCode:=(.seq (.run [.go (.box 135 a0) p1,
.go (.move (.con (.map none))) p2]) (.seq (.run [.go (.makeMap 74) p6,
.go (.move a6) p3]) (.seq (.seq (.run [.go (.fieldAddr 0 a1) p7,
.go (.fieldAddr 1 a7) p8,
.go (.load1 a8) p9,
.go (.len 0 a9) p10,
.go (.move (.con z0)) p11]) (.block 0 (.loop (.seq (.run [.go (.bin .lss 3 a11 a10) p12]) (.seq (.cond a12 .skip (.exit 0)) (.seq (.block 1 (.seq (.run [.go (.move a11) p13,
.go (.indexAddr none 2 a9 a11) p14,
.go (.loadN 2 a14) p15,
.go (.alloc 69 [z0,z0]) p5,
.go (.move a13) p4,
.un (.store 2 a5 a15)]) (.run [.go (.move a3) p16,
.go (.move a4) p17,
.go (.build [z0,z0] [(0,1,a17),(1,1,(.con (.int .i64 (.negSucc 0))))]) p18,
.go (.loadN 2 a5) p19,
.un (.mapUpdate 74 a16 a18 a19)]))) (.run [.go (.bin .add 3 a11 (.con (.int .i64 (.ofNat 1)))) p20,
.go (.move a20) p11]))))))) (.seq (.run [.go (.move a3) p21,
.go (.move a21) p2]) .ret))))
noncomputable def f134 : FFunc:=.mk c134 u34 [p0] [.tmp p2]
theorem e134 : @compF Try.prog (Gl.none Try.prog) Try.f134 1=f134:=by kernel_rfl
theorem o134 : okF Try.prog Try.f134=true:=by kernel_rfl
theorem g134 : Try.prog.funcs[(134 : Nat)]?=some Try.f134:=by kernel_rfl
noncomputable def c135 : FCode:=(.seq (.run [.go (.box 135 a0) p3,
.go (.box 74 a1) p4,
.go (.move (.con (.bool false))) p6]) (.seq (.draw 11 [.go (.move a2) p7,
.go (.loadN 2 a4) p8,
.go (.loadN 22 a3) p9,
.go (.loadN 2 a4) p10,
.go (.move a2) p11,
.go (.call (.con (.func (.func 125) ⟨[]⟩ ⟨[]⟩)) [a9,a10,a11]) p12,
.go (.loadN 22 a3) p13,
.go (.loadN 2 a4) p14,
.go (.call (.con (.func (.func 144) ⟨[]⟩ ⟨[]⟩)) [a13,a14]) p15,
.go (.call (.con (.func (.func 124) ⟨[]⟩ ⟨[]⟩)) [a12,a15]) p16,
.un (.mapUpdate 74 a7 a8 a16)] [.ok,.rd none (.loadN 2 a4) (some p8) [6,9,10],.ok,.ok,.ok,.ok,.rd none (.loadN 22 a3) (some p13) [0],.rd none (.loadN 2 a4) (some p14) [0],.ok,.ok,.ok]) (.seq (.run [.go (.move a2) p17,
.go (.loadN 2 a4) p18,
.go (.lookup 74 (.agg ⟨[z0,z0]⟩) a17 a18 false) p19,
.go (.call (.con (.func (.func 127) ⟨[]⟩ ⟨[]⟩)) [a19]) p20,
.go (.un .not a20) p21,
.go (.move a21) p6]) .ret)))
noncomputable def f135 : FFunc:=.mk c135 u34 [p0,p1,p2] [.tmp p6]
theorem e135 : @compF Try.prog (Gl.none Try.prog) Try.f135 3=f135:=by kernel_rfl
theorem o135 : okF Try.prog Try.f135=true:=by kernel_rfl
theorem g135 : Try.prog.funcs[(135 : Nat)]?=some Try.f135:=by kernel_rfl
noncomputable def c136 : FCode:=(.seq (.run [.go (.load1 a1) p4,
.go (.len 0 a4) p5,
.go (.bin .sub 3 a5 (.con (.int .i64 (.ofNat 1)))) p6,
.go (.move a6) p3]) (.block 0 (.loop (.seq (.seq (.run [.go (.move a3) p7,
.go (.bin .geq 3 a7 (.con z0)) p8]) (.cond a8 .skip (.exit 0))) (.seq (.block 1 (.seq (.run [.go (.move a0) p11,
.go (.move a3) p12,
.go (.load1 a1) p13,
.go (.move a3) p14,
.go (.indexAddr none 2 a13 a14) p15,
.go (.loadN 2 a15) p16,
.go (.call a11 [a12,a16]) p17,
.go (.un .not a17) p18]) (.cond a18 .ret .skip))) (.run [.go (.move a3) p9,
.go (.bin .sub 3 a9 (.con (.int .i64 (.ofNat 1)))) p10,
.go (.move a10) p3]))))))
noncomputable def f136 : FFunc:=.mk c136 u17 [p0,p1] []
theorem e136 : @compF Try.prog (Gl.none Try.prog) Try.f136 2=f136:=by kernel_rfl
theorem o136 : okF Try.prog Try.f136=true:=by kernel_rfl
theorem g136 : Try.prog.funcs[(136 : Nat)]?=some Try.f136:=by kernel_rfl
noncomputable def c137 : FCode:=(.seq (.run [.go (.box 135 a0) p3,
.go (.box 74 a1) p4,
.go (.alloc 69 [z0,z0]) p6]) (.seq (.draw 24 [.go (.fieldAddr 20 a3) p7,
.go (.fieldAddr 0 a7) p8,
.go (.load1 a8) p9,
.go (.loadN 22 a3) p10,
.go (.loadN 2 a4) p11,
.go (.call (.con (.func (.func 138) ⟨[]⟩ ⟨[]⟩)) [a10,a11]) p12,
.go (.move a2) p13,
.go (.loadN 2 a4) p14,
.go (.lookup 74 (.agg ⟨[z0,z0]⟩) a13 a14 false) p15,
.go (.field1 0 a15) p16,
.go (.call a9 [a12,a16]) p17,
.go (.fieldAddr 20 a3) p18,
.go (.fieldAddr 1 a18) p19,
.go (.load1 a19) p20,
.go (.loadN 22 a3) p21,
.go (.loadN 2 a4) p22,
.go (.call (.con (.func (.func 138) ⟨[]⟩ ⟨[]⟩)) [a21,a22]) p23,
.go (.move a2) p24,
.go (.loadN 2 a4) p25,
.go (.lookup 74 (.agg ⟨[z0,z0]⟩) a24 a25 false) p26,
.go (.field1 1 a26) p27,
.go (.call a20 [a23,a27]) p28,
.go (.build [z0,z0] [(0,1,a17),(1,1,a28)]) p29,
.un (.store 2 a6 a29)] [.ok,.ok,.rd none (.load1 a8) (some p9) [6],.ok,.ok,.ok,.ok,.rd none (.loadN 2 a4) (some p14) [0],.rd none (.lookup 74 (.agg ⟨[z0,z0]⟩) a13 a14 false) (some p15) [0],.ok,.ok,.ok,.ok,.rd none (.load1 a19) (some p20) [0,6,17],.rd none (.loadN 22 a3) (some p21) [0,6],.rd none (.loadN 2 a4) (some p22) [0,6],.ok,.ok,.rd none (.loadN 2 a4) (some p25) [0,6,11],.rd none (.lookup 74 (.agg ⟨[z0,z0]⟩) a24 a25 false) (some p26) [0,6,11],.ok,.ok,.ok,.ok]) .ret))
noncomputable def f137 : FFunc:=.mk c137 u7 [p0,p1,p2] [.many p6 2]
theorem e137 : @compF Try.prog (Gl.none Try.prog) Try.f137 3=f137:=by kernel_rfl
theorem o137 : okF Try.prog Try.f137=true:=by kernel_rfl
theorem g137 : Try.prog.funcs[(137 : Nat)]?=some Try.f137:=by kernel_rfl
noncomputable def c138 : FCode:=(.seq (.run [.go (.box 135 a0) p2,
.go (.box 74 a1) p3,
.go (.alloc 69 [z0,z0]) p4]) (.seq (.run [.go (.fieldAddr 0 a2) p5,
.go (.fieldAddr 2 a5) p6,
.go (.load1 a6) p7,
.go (.fieldAddr 1 a3) p8,
.go (.load1 a8) p9,
.go (.bin .add 3 a9 (.con (.int .i64 (.ofNat 1)))) p10,
.go (.indexAddr none 2 a7 a10) p11,
.go (.loadN 2 a11) p12,
.un (.store 2 a4 a12)]) .ret))
noncomputable def f138 : FFunc:=.mk c138 u23 [p0,p1] [.many p4 2]
theorem e138 : @compF Try.prog (Gl.none Try.prog) Try.f138 2=f138:=by kernel_rfl
theorem o138 : okF Try.prog Try.f138=true:=by kernel_rfl
theorem g138 : Try.prog.funcs[(138 : Nat)]?=some Try.f138:=by kernel_rfl
noncomputable def c139 : FCode:=(.seq (.run [.go (.box 206 a0) p3]) (.seq (.run [.go (.loadN 22 a1) p6,
.go (.call (.con (.func (.func 134) ⟨[]⟩ ⟨[]⟩)) [a6]) p7,
.go (.alloc 138 [(.map none)]) p4,
.un (.store 1 a4 a7)]) (.seq (.run [.go (.alloc 207 [.nilFunc]) p5]) (.seq (.run [.go (.makeFunc 140 [] [a2,a3,a1,a4,a5]) p8,
.un (.store 1 a5 a8)]) (.draw 5 [.go (.load1 a5) p9,
.go (.loadN 22 a1) p10,
.go (.call (.con (.func (.func 74) ⟨[]⟩ ⟨[]⟩)) [a10]) p11,
.go (.call (.con (.func (.func 83) ⟨[]⟩ ⟨[]⟩)) [a11]) p12,
.go (.call a9 [a12,(.con (.slice none 0 0))]) p13] [.rd none (.load1 a5) (some p9) [3,4],.ok,.ok,.ok,.ok])))))
noncomputable def f139 : FFunc:=.mk c139 u6 [p0,p1,p2] []
theorem e139 : @compF Try.prog (Gl.none Try.prog) Try.f139 3=f139:=by kernel_rfl
theorem o139 : okF Try.prog Try.f139=true:=by kernel_rfl
theorem g139 : Try.prog.funcs[(139 : Nat)]?=some Try.f139:=by kernel_rfl
noncomputable def c140 : FCode:=(.seq (.run [.go (.move (.con (.bool false))) p9]) (.seq (.seq (.run [.go (.move a0) p13,
.go (.len 0 a13) p14,
.go (.bin .eql 3 a14 (.con z0)) p15]) (.cond a15 (.seq (.draw 11 [.go (.move a1) p16,
.go (.len 0 a16) p17,
.go (.load1 a2) p18,
.go (.bin .lss 3 a17 a18) p19,
.go (.move a19) p20,
.gd p20 false (.load1 a3) p21,
.gd p20 false (.move a1) p22,
.gd p20 false (.call (.con (.func (.func 141) ⟨[]⟩ ⟨[]⟩)) [a22]) p23,
.gd p20 false (.call a21 [a23]) p24,
.go (.pick a20 (.con (.bool true)) a24) p25,
.go (.move a25) p9] [.ok,.ok,.ok,.ok,.ok,.rd (some (p20,false)) (.load1 a3) (some p21) [8],.ok,.ok,.ok,.ok,.ok]) .ret) .skip)) (.seq (.draw 8 [.go (.move a0) p26,
.go (.indexAddr none 2 a26 (.con z0)) p27,
.go (.loadN 2 a27) p28,
.go (.move a0) p29,
.go (.slice 74 2 a29 (some (.con (.int .i64 (.ofNat 1)))) none) p30,
.go (.alloc 74 [z0,z0]) p10,
.un (.store 2 a10 a28),
.go (.move a30) p11] [.ok,.ok,.rd none (.loadN 2 a27) (some p28) [6],.ok,.rd none (.slice 74 2 a29 (some (.con (.int .i64 (.ofNat 1)))) none) (some p30) [6,7],.ok,.ok,.ok]) (.seq (.seq (.run [.go (.move a1) p31,
.go (.len 0 a31) p32,
.go (.load1 a2) p33,
.go (.bin .lss 3 a32 a33) p34]) (.cond a34 (.seq (.run [.go (.loadN 2 a10) p35,
.go (.call (.con (.func (.func 84) ⟨[]⟩ ⟨[]⟩)) [a4,a35,(.con (.bool true))]) p36]) (.seq (.draw 15 [.go (.loadN 22 a4) p37,
.go (.loadN 2 a10) p38,
.go (.load1 a5) p39,
.go (.call (.con (.func (.func 135) ⟨[]⟩ ⟨[]⟩)) [a37,a38,a39]) p40,
.go (.un .not a40) p41,
.go (.move a41) p42,
.gd p42 false (.load1 a6) p43,
.gd p42 false (.move a11) p44,
.gd p42 false (.move a1) p45,
.gd p42 false (.loadN 2 a10) p46,
.gd p42 false (.buildSlice 74 1 [z0,z0] [(0,2,a46)]) p47,
.gd p42 false (.append 74 2 16 a45 a47) p48,
.gd p42 false (.call a43 [a44,a48]) p49,
.go (.pick a42 (.con (.bool true)) a49) p50,
.go (.move a50) p12] [.ok,.ok,.ok,.ok,.ok,.ok,.rd (some (p42,false)) (.load1 a6) (some p43) [11,12],.ok,.ok,.ok,.ok,.ok,.ok,.ok,.ok]) (.seq (.run [.go (.loadN 2 a10) p51,
.go (.call (.con (.func (.func 84) ⟨[]⟩ ⟨[]⟩)) [a4,a51,(.con (.bool false))]) p52]) (.seq (.run [.go (.move a12) p53,
.go (.un .not a53) p54]) (.cond a54 (.seq (.run [.go (.move (.con (.bool false))) p9]) .ret) .skip))))) .skip)) (.seq (.run [.go (.loadN 22 a4) p55,
.go (.loadN 2 a10) p56,
.go (.load1 a5) p57,
.go (.call (.con (.func (.func 135) ⟨[]⟩ ⟨[]⟩)) [a55,a56,a57]) p58,
.go (.un .not a58) p59,
.go (.move a59) p60,
.gd p60 false (.load1 a6) p61,
.gd p60 false (.move a11) p62,
.gd p60 false (.move a1) p63,
.gd p60 false (.call a61 [a62,a63]) p64,
.go (.pick a60 (.con (.bool true)) a64) p65,
.go (.move a65) p9]) .ret)))))
noncomputable def f140 : FFunc:=.mk c140 u43 [p0,p1,p2,p3,p4,p5,p6] [.tmp p9]
theorem e140 : @compF Try.prog (Gl.none Try.prog) Try.f140 7=f140:=by kernel_rfl
theorem o140 : okF Try.prog Try.f140=true:=by kernel_rfl
theorem g140 : Try.prog.funcs[(140 : Nat)]?=some Try.f140:=by kernel_rfl
noncomputable def c141 : FCode:=(.seq (.run [.go (.move (.con (.slice none 0 0))) p2]) (.seq (.seq (.run [.go (.move a0) p3,
.go (.bin .eql 84 a3 (.con (.slice none 0 0))) p4]) (.cond a4 (.seq (.run [.go (.move (.con (.slice none 0 0))) p2]) .ret) .skip)) (.seq (.run [.go (.buildSlice 74 0 [] []) p5,
.go (.move a0) p6,
.go (.append 74 2 16 a5 a6) p7,
.go (.move a7) p2]) .ret)))
noncomputable def f141 : FFunc:=.mk c141 u25 [p0] [.tmp p2]
theorem e141 : @compF Try.prog (Gl.none Try.prog) Try.f141 1=f141:=by kernel_rfl
theorem o141 : okF Try.prog Try.f141=true:=by kernel_rfl
theorem g141 : Try.prog.funcs[(141 : Nat)]?=some Try.f141:=by kernel_rfl
noncomputable def c144 : FCode:=(.seq (.run [.go (.box 135 a0) p2,
.go (.box 74 a1) p3,
.go (.alloc 69 [z0,z0]) p4]) (.seq (.seq (.draw 8 [.go (.fieldAddr 0 a3) p5,
.go (.load1 a5) p6,
.go (.fieldAddr 1 a3) p7,
.go (.load1 a7) p8,
.go (.fieldAddr 4 a2) p9,
.go (.indexAddr (some 4) 4 a9 a6) p10,
.go (.indexAddr (some 4) 1 a10 a8) p11,
.go (.load1 a11) p12] [.ok,.ok,.ok,.ok,.ok,.ok,.ok,.ok]) (.cond a12 (.seq (.run [.go (.call (.con (.func (.func 126) ⟨[]⟩ ⟨[]⟩)) []) p13,
.un (.store 2 a4 a13)]) .ret) .skip)) (.seq (.draw 12 [.go (.fieldAddr 0 a2) p14,
.go (.fieldAddr 0 a14) p15,
.go (.load1 a15) p16,
.go (.fieldAddr 0 a3) p17,
.go (.load1 a17) p18,
.go (.indexAddr none 1 a16 a18) p19,
.go (.load1 a19) p20,
.go (.fieldAddr 1 a3) p21,
.go (.load1 a21) p22,
.go (.indexAddr none 2 a20 a22) p23,
.go (.loadN 2 a23) p24,
.un (.store 2 a4 a24)] [.ok,.ok,.ok,.ok,.ok,.ok,.ok,.ok,.ok,.ok,.ok,.ok]) .ret)))
noncomputable def f144 : FFunc:=.mk c144 u35 [p0,p1] [.many p4 2]
theorem e144 : @compF Try.prog (Gl.none Try.prog) Try.f144 2=f144:=by kernel_rfl
theorem o144 : okF Try.prog Try.f144=true:=by kernel_rfl
theorem g144 : Try.prog.funcs[(144 : Nat)]?=some Try.f144:=by kernel_rfl
noncomputable def tbl0 : FT:=(.n .bad (.n .bad (.n .bad (.n .bad (.n .bad (.n f31 (.n f63 (.n f127 .e .e) .e) (.n .bad (.n .bad .e .e) .e)) (.n .bad (.n .bad (.n .bad .e .e) .e) (.n .bad .e .e))) (.n .bad (.n .bad (.n .bad (.n f135 .e .e) .e) (.n f103 .e .e)) (.n .bad (.n f87 (.n .bad .e .e) .e) (.n f119 .e .e)))) (.n .bad (.n .bad (.n .bad (.n .bad (.n .bad .e .e) .e) (.n .bad (.n .bad .e .e) .e)) (.n f51 (.n f83 (.n .bad .e .e) .e) (.n f115 .e .e))) (.n .bad (.n .bad (.n f75 (.n f139 .e .e) .e) (.n .bad .e .e)) (.n .bad (.n .bad (.n .bad .e .e) .e) (.n f123 .e .e))))) (.n .bad (.n .bad (.n .bad (.n .bad (.n .bad (.n .bad .e .e) .e) (.n .bad (.n .bad .e .e) .e)) (.n .bad (.n .bad (.n .bad .e .e) .e) (.n .bad .e .e))) (.n .bad (.n .bad (.n f73 (.n f137 .e .e) .e) (.n .bad .e .e)) (.n .bad (.n f89 (.n .bad .e .e) .e) (.n f121 .e .e)))) (.n .bad (.n f21 (.n .bad (.n .bad (.n f133 .e .e) .e) (.n f101 (.n .bad .e .e) .e)) (.n .bad (.n f85 (.n .bad .e .e) .e) (.n f117 .e .e))) (.n .bad (.n .bad (.n .bad (.n f141 .e .e) .e) (.n f109 .e .e)) (.n .bad (.n .bad (.n .bad .e .e) .e) (.n f125 .e .e)))))) (.n .bad (.n .bad (.n .bad (.n .bad (.n .bad (.n .bad (.n f128 .e .e) .e) (.n .bad (.n .bad .e .e) .e)) (.n .bad (.n .bad (.n f144 .e .e) .e) (.n .bad .e .e))) (.n .bad (.n f40 (.n f72 (.n f136 .e .e) .e) (.n f104 .e .e)) (.n .bad (.n f88 (.n .bad .e .e) .e) (.n f120 .e .e)))) (.n .bad (.n f20 (.n .bad (.n .bad (.n .bad .e .e) .e) (.n .bad (.n .bad .e .e) .e)) (.n f52 (.n f84 (.n .bad .e .e) .e) (.n f116 .e .e))) (.n .bad (.n f44 (.n f76 (.n f140 .e .e) .e) (.n .bad .e .e)) (.n .bad (.n .bad (.n .bad .e .e) .e) (.n f124 .e .e))))) (.n .bad (.n .bad (.n .bad (.n .bad (.n .bad (.n .bad .e .e) .e) (.n .bad (.n .bad .e .e) .e)) (.n f50 (.n f82 (.n .bad .e .e) .e) (.n .bad .e .e))) (.n .bad (.n .bad (.n f74 (.n f138 .e .e) .e) (.n .bad .e .e)) (.n .bad (.n .bad (.n .bad .e .e) .e) (.n f122 .e .e)))) (.n .bad (.n .bad (.n .bad (.n .bad (.n f134 .e .e) .e) (.n f102 .e .e)) (.n .bad (.n f86 (.n .bad .e .e) .e) (.n f118 .e .e))) (.n .bad (.n f46 (.n .bad (.n .bad .e .e) .e) (.n .bad .e .e)) (.n f62 (.n .bad (.n .bad .e .e) .e) (.n f126 .e .e)))))))
noncomputable def F0 (n : Nat) : FFunc:=look tbl0 n
def orcs0 (_n : Nat) : Option Bool:=none
theorem ok0 (O : Orc Try.prog) (h : O.O=orcs0) : @FnOk Try.prog (Gl.none Try.prog) O F0:=@fnOk_of Try.prog (Gl.none Try.prog) O _ (by rw[h];exact⟨.inl rfl,⟨.inl rfl,⟨.inl rfl,⟨.inl rfl,⟨.inl rfl,⟨.inr (.inr ⟨rfl,_,_,g31,o31,e31⟩),⟨.inr (.inr ⟨rfl,_,_,g63,o63,e63⟩),⟨.inr (.inr ⟨rfl,_,_,g127,o127,e127⟩),trivial,trivial⟩,trivial⟩,⟨.inl rfl,⟨.inl rfl,trivial,trivial⟩,trivial⟩⟩,⟨.inl rfl,⟨.inl rfl,⟨.inl rfl,trivial,trivial⟩,trivial⟩,⟨.inl rfl,trivial,trivial⟩⟩⟩,⟨.inl rfl,⟨.inl rfl,⟨.inl rfl,⟨.inr (.inr ⟨rfl,_,_,g135,o135,e135⟩),trivial,trivial⟩,trivial⟩,⟨.inr (.inr ⟨rfl,_,_,g103,o103,e103⟩),trivial,trivial⟩⟩,⟨.inl rfl,⟨.inr (.inr ⟨rfl,_,_,g87,o87,e87⟩),⟨.inl rfl,trivial,trivial⟩,trivial⟩,⟨.inr (.inr ⟨rfl,_,_,g119,o119,e119⟩),trivial,trivial⟩⟩⟩⟩,⟨.inl rfl,⟨.inl rfl,⟨.inl rfl,⟨.inl rfl,⟨.inl rfl,trivial,trivial⟩,trivial⟩,⟨.inl rfl,⟨.inl rfl,trivial,trivial⟩,trivial⟩⟩,⟨.inr (.inr ⟨rfl,_,_,g51,o51,e51⟩),⟨.inr (.inr ⟨rfl,_,_,g83,o83,e83⟩),⟨.inl rfl,trivial,trivial⟩,trivial⟩,⟨.inr (.inr ⟨rfl,_,_,g115,o115,e115⟩),trivial,trivial⟩⟩⟩,⟨.inl rfl,⟨.inl rfl,⟨.inr (.inr ⟨rfl,_,_,g75,o75,e75⟩),⟨.inr (.inr ⟨rfl,_,_,g139,o139,e139⟩),trivial,trivial⟩,trivial⟩,⟨.inl rfl,trivial,trivial⟩⟩,⟨.inl rfl,⟨.inl rfl,⟨.inl rfl,trivial,trivial⟩,trivial⟩,⟨.inr (.inr ⟨rfl,_,_,g123,o123,e123⟩),trivial,trivial⟩⟩⟩⟩⟩,⟨.inl rfl,⟨.inl rfl,⟨.inl rfl,⟨.inl rfl,⟨.inl rfl,⟨.inl rfl,trivial,trivial⟩,trivial⟩,⟨.inl rfl,⟨.inl rfl,trivial,trivial⟩,trivial⟩⟩,⟨.inl rfl,⟨.inl rfl,⟨.inl rfl,trivial,trivial⟩,trivial⟩,⟨.inl rfl,trivial,trivial⟩⟩⟩,⟨.inl rfl,⟨.inl rfl,⟨.inr (.inr ⟨rfl,_,_,g73,o73,e73⟩),⟨.inr (.inr ⟨rfl,_,_,g137,o137,e137⟩),trivial,trivial⟩,trivial⟩,⟨.inl rfl,trivial,trivial⟩⟩,⟨.inl rfl,⟨.inr (.inr ⟨rfl,_,_,g89,o89,e89⟩),⟨.inl rfl,trivial,trivial⟩,trivial⟩,⟨.inr (.inr ⟨rfl,_,_,g121,o121,e121⟩),trivial,trivial⟩⟩⟩⟩,⟨.inl rfl,⟨.inr (.inr ⟨rfl,_,_,g21,o21,e21⟩),⟨.inl rfl,⟨.inl rfl,⟨.inr (.inr ⟨rfl,_,_,g133,o133,e133⟩),trivial,trivial⟩,trivial⟩,⟨.inr (.inr ⟨rfl,_,_,g101,o101,e101⟩),⟨.inl rfl,trivial,trivial⟩,trivial⟩⟩,⟨.inl rfl,⟨.inr (.inr ⟨rfl,_,_,g85,o85,e85⟩),⟨.inl rfl,trivial,trivial⟩,trivial⟩,⟨.inr (.inr ⟨rfl,_,_,g117,o117,e117⟩),trivial,trivial⟩⟩⟩,⟨.inl rfl,⟨.inl rfl,⟨.inl rfl,⟨.inr (.inr ⟨rfl,_,_,g141,o141,e141⟩),trivial,trivial⟩,trivial⟩,⟨.inr (.inr ⟨rfl,_,_,g109,o109,e109⟩),trivial,trivial⟩⟩,⟨.inl rfl,⟨.inl rfl,⟨.inl rfl,trivial,trivial⟩,trivial⟩,⟨.inr (.inr ⟨rfl,_,_,g125,o125,e125⟩),trivial,trivial⟩⟩⟩⟩⟩⟩,⟨.inl rfl,⟨.inl rfl,⟨.inl rfl,⟨.inl rfl,⟨.inl rfl,⟨.inl rfl,⟨.inr (.inr ⟨rfl,_,_,g128,o128,e128⟩),trivial,trivial⟩,trivial⟩,⟨.inl rfl,⟨.inl rfl,trivial,trivial⟩,trivial⟩⟩,⟨.inl rfl,⟨.inl rfl,⟨.inr (.inr ⟨rfl,_,_,g144,o144,e144⟩),trivial,trivial⟩,trivial⟩,⟨.inl rfl,trivial,trivial⟩⟩⟩,⟨.inl rfl,⟨.inr (.inr ⟨rfl,_,_,g40,o40,e40⟩),⟨.inr (.inr ⟨rfl,_,_,g72,o72,e72⟩),⟨.inr (.inr ⟨rfl,_,_,g136,o136,e136⟩),trivial,trivial⟩,trivial⟩,⟨.inr (.inr ⟨rfl,_,_,g104,o104,e104⟩),trivial,trivial⟩⟩,⟨.inl rfl,⟨.inr (.inr ⟨rfl,_,_,g88,o88,e88⟩),⟨.inl rfl,trivial,trivial⟩,trivial⟩,⟨.inr (.inr ⟨rfl,_,_,g120,o120,e120⟩),trivial,trivial⟩⟩⟩⟩,⟨.inl rfl,⟨.inr (.inr ⟨rfl,_,_,g20,o20,e20⟩),⟨.inl rfl,⟨.inl rfl,⟨.inl rfl,trivial,trivial⟩,trivial⟩,⟨.inl rfl,⟨.inl rfl,trivial,trivial⟩,trivial⟩⟩,⟨.inr (.inr ⟨rfl,_,_,g52,o52,e52⟩),⟨.inr (.inr ⟨rfl,_,_,g84,o84,e84⟩),⟨.inl rfl,trivial,trivial⟩,trivial⟩,⟨.inr (.inr ⟨rfl,_,_,g116,o116,e116⟩),trivial,trivial⟩⟩⟩,⟨.inl rfl,⟨.inr (.inr ⟨rfl,_,_,g44,o44,e44⟩),⟨.inr (.inr ⟨rfl,_,_,g76,o76,e76⟩),⟨.inr (.inr ⟨rfl,_,_,g140,o140,e140⟩),trivial,trivial⟩,trivial⟩,⟨.inl rfl,trivial,trivial⟩⟩,⟨.inl rfl,⟨.inl rfl,⟨.inl rfl,trivial,trivial⟩,trivial⟩,⟨.inr (.inr ⟨rfl,_,_,g124,o124,e124⟩),trivial,trivial⟩⟩⟩⟩⟩,⟨.inl rfl,⟨.inl rfl,⟨.inl rfl,⟨.inl rfl,⟨.inl rfl,⟨.inl rfl,trivial,trivial⟩,trivial⟩,⟨.inl rfl,⟨.inl rfl,trivial,trivial⟩,trivial⟩⟩,⟨.inr (.inr ⟨rfl,_,_,g50,o50,e50⟩),⟨.inr (.inr ⟨rfl,_,_,g82,o82,e82⟩),⟨.inl rfl,trivial,trivial⟩,trivial⟩,⟨.inl rfl,trivial,trivial⟩⟩⟩,⟨.inl rfl,⟨.inl rfl,⟨.inr (.inr ⟨rfl,_,_,g74,o74,e74⟩),⟨.inr (.inr ⟨rfl,_,_,g138,o138,e138⟩),trivial,trivial⟩,trivial⟩,⟨.inl rfl,trivial,trivial⟩⟩,⟨.inl rfl,⟨.inl rfl,⟨.inl rfl,trivial,trivial⟩,trivial⟩,⟨.inr (.inr ⟨rfl,_,_,g122,o122,e122⟩),trivial,trivial⟩⟩⟩⟩,⟨.inl rfl,⟨.inl rfl,⟨.inl rfl,⟨.inl rfl,⟨.inr (.inr ⟨rfl,_,_,g134,o134,e134⟩),trivial,trivial⟩,trivial⟩,⟨.inr (.inr ⟨rfl,_,_,g102,o102,e102⟩),trivial,trivial⟩⟩,⟨.inl rfl,⟨.inr (.inr ⟨rfl,_,_,g86,o86,e86⟩),⟨.inl rfl,trivial,trivial⟩,trivial⟩,⟨.inr (.inr ⟨rfl,_,_,g118,o118,e118⟩),trivial,trivial⟩⟩⟩,⟨.inl rfl,⟨.inr (.inr ⟨rfl,_,_,g46,o46,e46⟩),⟨.inl rfl,⟨.inl rfl,trivial,trivial⟩,trivial⟩,⟨.inl rfl,trivial,trivial⟩⟩,⟨.inr (.inr ⟨rfl,_,_,g62,o62,e62⟩),⟨.inl rfl,⟨.inl rfl,trivial,trivial⟩,trivial⟩,⟨.inr (.inr ⟨rfl,_,_,g126,o126,e126⟩),trivial,trivial⟩⟩⟩⟩⟩⟩⟩)
noncomputable def tbl1 : FT:=(.n .bad (.n .bad (.n .bad (.n .bad (.n .bad (.n f31 (.n f63 (.n f127 .e .e) .e) (.n .bad (.n .bad .e .e) .e)) (.n .bad (.n .bad (.n .bad .e .e) .e) (.n .bad .e .e))) (.n .bad (.n .bad (.n .bad (.n f135 .e .e) .e) (.n f103 .e .e)) (.n .bad (.n f87 (.n .bad .e .e) .e) (.n f119 .e .e)))) (.n .bad (.n .bad (.n .bad (.n .bad (.n .bad .e .e) .e) (.n .bad (.n .bad .e .e) .e)) (.n f51 (.n f83 (.n .bad .e .e) .e) (.n f115 .e .e))) (.n .bad (.n .bad (.n f75 (.n f139 .e .e) .e) (.n .bad .e .e)) (.n .bad (.n .bad (.n .bad .e .e) .e) (.n f123 .e .e))))) (.n .bad (.n .bad (.n .bad (.n .bad (.n .bad (.n .bad .e .e) .e) (.n .bad (.n .bad .e .e) .e)) (.n .bad (.n .bad (.n .bad .e .e) .e) (.n .bad .e .e))) (.n .bad (.n .bad (.n f73 (.n f137 .e .e) .e) (.n .bad .e .e)) (.n .bad (.n f89 (.n .bad .e .e) .e) (.n f121 .e .e)))) (.n .bad (.n f21 (.n .bad (.n .bad (.n f133 .e .e) .e) (.n f101 (.n .bad .e .e) .e)) (.n .bad (.n f85 (.n .bad .e .e) .e) (.n f117 .e .e))) (.n .bad (.n .bad (.n .bad (.n f141 .e .e) .e) (.n f109 .e .e)) (.n .bad (.n .bad (.n .bad .e .e) .e) (.n f125 .e .e)))))) (.n .bad (.n .bad (.n .bad (.n .bad (.n .bad (.n .bad (.n f128 .e .e) .e) (.n .bad (.n .bad .e .e) .e)) (.n .bad (.n .bad (.n f144 .e .e) .e) (.n .bad .e .e))) (.n .bad (.n f40 (.n f72 (.n f136 .e .e) .e) (.n f104 .e .e)) (.n .bad (.n f88 (.n .bad .e .e) .e) (.n f120 .e .e)))) (.n .bad (.n (.orc true) (.n .bad (.n .bad (.n .bad .e .e) .e) (.n .bad (.n .bad .e .e) .e)) (.n f52 (.n f84 (.n .bad .e .e) .e) (.n f116 .e .e))) (.n .bad (.n f44 (.n f76 (.n f140 .e .e) .e) (.n .bad .e .e)) (.n .bad (.n .bad (.n .bad .e .e) .e) (.n f124 .e .e))))) (.n .bad (.n .bad (.n .bad (.n .bad (.n .bad (.n .bad .e .e) .e) (.n .bad (.n .bad .e .e) .e)) (.n f50 (.n f82 (.n .bad .e .e) .e) (.n .bad .e .e))) (.n .bad (.n .bad (.n f74 (.n f138 .e .e) .e) (.n .bad .e .e)) (.n .bad (.n .bad (.n .bad .e .e) .e) (.n f122 .e .e)))) (.n .bad (.n .bad (.n .bad (.n .bad (.n f134 .e .e) .e) (.n f102 .e .e)) (.n .bad (.n f86 (.n .bad .e .e) .e) (.n f118 .e .e))) (.n .bad (.n f46 (.n .bad (.n .bad .e .e) .e) (.n .bad .e .e)) (.n f62 (.n .bad (.n .bad .e .e) .e) (.n f126 .e .e)))))))
noncomputable def F1 (n : Nat) : FFunc:=look tbl1 n
def orcs1 (_n : Nat) : Option Bool:=if _n=20 then some true else none
theorem ok1 (O : Orc Try.prog) (h : O.O=orcs1) : @FnOk Try.prog (Gl.none Try.prog) O F1:=@fnOk_of Try.prog (Gl.none Try.prog) O _ (by rw[h];exact⟨.inl rfl,⟨.inl rfl,⟨.inl rfl,⟨.inl rfl,⟨.inl rfl,⟨.inr (.inr ⟨rfl,_,_,g31,o31,e31⟩),⟨.inr (.inr ⟨rfl,_,_,g63,o63,e63⟩),⟨.inr (.inr ⟨rfl,_,_,g127,o127,e127⟩),trivial,trivial⟩,trivial⟩,⟨.inl rfl,⟨.inl rfl,trivial,trivial⟩,trivial⟩⟩,⟨.inl rfl,⟨.inl rfl,⟨.inl rfl,trivial,trivial⟩,trivial⟩,⟨.inl rfl,trivial,trivial⟩⟩⟩,⟨.inl rfl,⟨.inl rfl,⟨.inl rfl,⟨.inr (.inr ⟨rfl,_,_,g135,o135,e135⟩),trivial,trivial⟩,trivial⟩,⟨.inr (.inr ⟨rfl,_,_,g103,o103,e103⟩),trivial,trivial⟩⟩,⟨.inl rfl,⟨.inr (.inr ⟨rfl,_,_,g87,o87,e87⟩),⟨.inl rfl,trivial,trivial⟩,trivial⟩,⟨.inr (.inr ⟨rfl,_,_,g119,o119,e119⟩),trivial,trivial⟩⟩⟩⟩,⟨.inl rfl,⟨.inl rfl,⟨.inl rfl,⟨.inl rfl,⟨.inl rfl,trivial,trivial⟩,trivial⟩,⟨.inl rfl,⟨.inl rfl,trivial,trivial⟩,trivial⟩⟩,⟨.inr (.inr ⟨rfl,_,_,g51,o51,e51⟩),⟨.inr (.inr ⟨rfl,_,_,g83,o83,e83⟩),⟨.inl rfl,trivial,trivial⟩,trivial⟩,⟨.inr (.inr ⟨rfl,_,_,g115,o115,e115⟩),trivial,trivial⟩⟩⟩,⟨.inl rfl,⟨.inl rfl,⟨.inr (.inr ⟨rfl,_,_,g75,o75,e75⟩),⟨.inr (.inr ⟨rfl,_,_,g139,o139,e139⟩),trivial,trivial⟩,trivial⟩,⟨.inl rfl,trivial,trivial⟩⟩,⟨.inl rfl,⟨.inl rfl,⟨.inl rfl,trivial,trivial⟩,trivial⟩,⟨.inr (.inr ⟨rfl,_,_,g123,o123,e123⟩),trivial,trivial⟩⟩⟩⟩⟩,⟨.inl rfl,⟨.inl rfl,⟨.inl rfl,⟨.inl rfl,⟨.inl rfl,⟨.inl rfl,trivial,trivial⟩,trivial⟩,⟨.inl rfl,⟨.inl rfl,trivial,trivial⟩,trivial⟩⟩,⟨.inl rfl,⟨.inl rfl,⟨.inl rfl,trivial,trivial⟩,trivial⟩,⟨.inl rfl,trivial,trivial⟩⟩⟩,⟨.inl rfl,⟨.inl rfl,⟨.inr (.inr ⟨rfl,_,_,g73,o73,e73⟩),⟨.inr (.inr ⟨rfl,_,_,g137,o137,e137⟩),trivial,trivial⟩,trivial⟩,⟨.inl rfl,trivial,trivial⟩⟩,⟨.inl rfl,⟨.inr (.inr ⟨rfl,_,_,g89,o89,e89⟩),⟨.inl rfl,trivial,trivial⟩,trivial⟩,⟨.inr (.inr ⟨rfl,_,_,g121,o121,e121⟩),trivial,trivial⟩⟩⟩⟩,⟨.inl rfl,⟨.inr (.inr ⟨rfl,_,_,g21,o21,e21⟩),⟨.inl rfl,⟨.inl rfl,⟨.inr (.inr ⟨rfl,_,_,g133,o133,e133⟩),trivial,trivial⟩,trivial⟩,⟨.inr (.inr ⟨rfl,_,_,g101,o101,e101⟩),⟨.inl rfl,trivial,trivial⟩,trivial⟩⟩,⟨.inl rfl,⟨.inr (.inr ⟨rfl,_,_,g85,o85,e85⟩),⟨.inl rfl,trivial,trivial⟩,trivial⟩,⟨.inr (.inr ⟨rfl,_,_,g117,o117,e117⟩),trivial,trivial⟩⟩⟩,⟨.inl rfl,⟨.inl rfl,⟨.inl rfl,⟨.inr (.inr ⟨rfl,_,_,g141,o141,e141⟩),trivial,trivial⟩,trivial⟩,⟨.inr (.inr ⟨rfl,_,_,g109,o109,e109⟩),trivial,trivial⟩⟩,⟨.inl rfl,⟨.inl rfl,⟨.inl rfl,trivial,trivial⟩,trivial⟩,⟨.inr (.inr ⟨rfl,_,_,g125,o125,e125⟩),trivial,trivial⟩⟩⟩⟩⟩⟩,⟨.inl rfl,⟨.inl rfl,⟨.inl rfl,⟨.inl rfl,⟨.inl rfl,⟨.inl rfl,⟨.inr (.inr ⟨rfl,_,_,g128,o128,e128⟩),trivial,trivial⟩,trivial⟩,⟨.inl rfl,⟨.inl rfl,trivial,trivial⟩,trivial⟩⟩,⟨.inl rfl,⟨.inl rfl,⟨.inr (.inr ⟨rfl,_,_,g144,o144,e144⟩),trivial,trivial⟩,trivial⟩,⟨.inl rfl,trivial,trivial⟩⟩⟩,⟨.inl rfl,⟨.inr (.inr ⟨rfl,_,_,g40,o40,e40⟩),⟨.inr (.inr ⟨rfl,_,_,g72,o72,e72⟩),⟨.inr (.inr ⟨rfl,_,_,g136,o136,e136⟩),trivial,trivial⟩,trivial⟩,⟨.inr (.inr ⟨rfl,_,_,g104,o104,e104⟩),trivial,trivial⟩⟩,⟨.inl rfl,⟨.inr (.inr ⟨rfl,_,_,g88,o88,e88⟩),⟨.inl rfl,trivial,trivial⟩,trivial⟩,⟨.inr (.inr ⟨rfl,_,_,g120,o120,e120⟩),trivial,trivial⟩⟩⟩⟩,⟨.inl rfl,⟨.inr (.inl ⟨_,rfl,rfl⟩),⟨.inl rfl,⟨.inl rfl,⟨.inl rfl,trivial,trivial⟩,trivial⟩,⟨.inl rfl,⟨.inl rfl,trivial,trivial⟩,trivial⟩⟩,⟨.inr (.inr ⟨rfl,_,_,g52,o52,e52⟩),⟨.inr (.inr ⟨rfl,_,_,g84,o84,e84⟩),⟨.inl rfl,trivial,trivial⟩,trivial⟩,⟨.inr (.inr ⟨rfl,_,_,g116,o116,e116⟩),trivial,trivial⟩⟩⟩,⟨.inl rfl,⟨.inr (.inr ⟨rfl,_,_,g44,o44,e44⟩),⟨.inr (.inr ⟨rfl,_,_,g76,o76,e76⟩),⟨.inr (.inr ⟨rfl,_,_,g140,o140,e140⟩),trivial,trivial⟩,trivial⟩,⟨.inl rfl,trivial,trivial⟩⟩,⟨.inl rfl,⟨.inl rfl,⟨.inl rfl,trivial,trivial⟩,trivial⟩,⟨.inr (.inr ⟨rfl,_,_,g124,o124,e124⟩),trivial,trivial⟩⟩⟩⟩⟩,⟨.inl rfl,⟨.inl rfl,⟨.inl rfl,⟨.inl rfl,⟨.inl rfl,⟨.inl rfl,trivial,trivial⟩,trivial⟩,⟨.inl rfl,⟨.inl rfl,trivial,trivial⟩,trivial⟩⟩,⟨.inr (.inr ⟨rfl,_,_,g50,o50,e50⟩),⟨.inr (.inr ⟨rfl,_,_,g82,o82,e82⟩),⟨.inl rfl,trivial,trivial⟩,trivial⟩,⟨.inl rfl,trivial,trivial⟩⟩⟩,⟨.inl rfl,⟨.inl rfl,⟨.inr (.inr ⟨rfl,_,_,g74,o74,e74⟩),⟨.inr (.inr ⟨rfl,_,_,g138,o138,e138⟩),trivial,trivial⟩,trivial⟩,⟨.inl rfl,trivial,trivial⟩⟩,⟨.inl rfl,⟨.inl rfl,⟨.inl rfl,trivial,trivial⟩,trivial⟩,⟨.inr (.inr ⟨rfl,_,_,g122,o122,e122⟩),trivial,trivial⟩⟩⟩⟩,⟨.inl rfl,⟨.inl rfl,⟨.inl rfl,⟨.inl rfl,⟨.inr (.inr ⟨rfl,_,_,g134,o134,e134⟩),trivial,trivial⟩,trivial⟩,⟨.inr (.inr ⟨rfl,_,_,g102,o102,e102⟩),trivial,trivial⟩⟩,⟨.inl rfl,⟨.inr (.inr ⟨rfl,_,_,g86,o86,e86⟩),⟨.inl rfl,trivial,trivial⟩,trivial⟩,⟨.inr (.inr ⟨rfl,_,_,g118,o118,e118⟩),trivial,trivial⟩⟩⟩,⟨.inl rfl,⟨.inr (.inr ⟨rfl,_,_,g46,o46,e46⟩),⟨.inl rfl,⟨.inl rfl,trivial,trivial⟩,trivial⟩,⟨.inl rfl,trivial,trivial⟩⟩,⟨.inr (.inr ⟨rfl,_,_,g62,o62,e62⟩),⟨.inl rfl,⟨.inl rfl,trivial,trivial⟩,trivial⟩,⟨.inr (.inr ⟨rfl,_,_,g126,o126,e126⟩),trivial,trivial⟩⟩⟩⟩⟩⟩⟩)
end Go.Xe.TF
