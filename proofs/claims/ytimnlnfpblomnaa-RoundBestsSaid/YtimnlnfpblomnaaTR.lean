/- The code of the program's functions, their types resolved, as the machine for the kernel runs it: definitions, and for each that it is the program's own. Conditions: none. -/
import Derived.Test.YtimnlnfpblomnaaYk
import Derived.Test.YtimnlnfpblomnaaProg
import Derived.KernelRfl
noncomputable section
namespace Go.Xe.TR
open Go Go.Xe Go.Proofs
set_option maxRecDepth 1000000
abbrev U : Value:=.tuple ⟨[]⟩
def p0 : Pth:=.o
def p1 : Pth:=.l p0
def p2 : Pth:=.r p0
def p3 : Pth:=.l p1
def p4 : Pth:=.r p1
def p5 : Pth:=.l p2
def p6 : Pth:=.r p2
def p7 : Pth:=.l p3
def p8 : Pth:=.r p3
def p9 : Pth:=.l p4
def p10 : Pth:=.r p4
def p11 : Pth:=.l p5
def p12 : Pth:=.r p5
def p13 : Pth:=.l p6
def p14 : Pth:=.r p6
def p15 : Pth:=.l p7
def p16 : Pth:=.r p7
def p17 : Pth:=.l p8
def p18 : Pth:=.r p8
def p19 : Pth:=.l p9
def p20 : Pth:=.r p9
def p21 : Pth:=.l p10
def p22 : Pth:=.r p10
def p23 : Pth:=.l p11
def p24 : Pth:=.r p11
def p25 : Pth:=.l p12
def p26 : Pth:=.r p12
def p27 : Pth:=.l p13
def p28 : Pth:=.r p13
def p29 : Pth:=.l p14
def p30 : Pth:=.r p14
def p31 : Pth:=.l p15
def p32 : Pth:=.r p15
def p33 : Pth:=.l p16
def p34 : Pth:=.r p16
def p35 : Pth:=.l p17
def p36 : Pth:=.r p17
def p37 : Pth:=.l p18
def p38 : Pth:=.r p18
def p39 : Pth:=.l p19
def p40 : Pth:=.r p19
def p41 : Pth:=.l p20
def p42 : Pth:=.r p20
def p43 : Pth:=.l p21
def p44 : Pth:=.r p21
def p45 : Pth:=.l p22
def p46 : Pth:=.r p22
def p47 : Pth:=.l p23
def p48 : Pth:=.r p23
def p49 : Pth:=.l p24
def p50 : Pth:=.r p24
def p51 : Pth:=.l p25
def p52 : Pth:=.r p25
def p53 : Pth:=.l p26
def p54 : Pth:=.r p26
def p55 : Pth:=.l p27
def p56 : Pth:=.r p27
def p57 : Pth:=.l p28
def p58 : Pth:=.r p28
def p59 : Pth:=.l p29
def p60 : Pth:=.r p29
def p61 : Pth:=.l p30
def p62 : Pth:=.r p30
def p63 : Pth:=.l p31
def p64 : Pth:=.r p31
def p65 : Pth:=.l p32
def p66 : Pth:=.r p32
def p67 : Pth:=.l p33
def p68 : Pth:=.r p33
def p69 : Pth:=.l p34
def p70 : Pth:=.r p34
def p71 : Pth:=.l p35
def p72 : Pth:=.r p35
def p73 : Pth:=.l p36
def p74 : Pth:=.r p36
def p75 : Pth:=.l p37
def p76 : Pth:=.r p37
def p77 : Pth:=.l p38
def p78 : Pth:=.r p38
def p79 : Pth:=.l p39
def p80 : Pth:=.r p39
def p81 : Pth:=.l p40
def p82 : Pth:=.r p40
def p83 : Pth:=.l p41
def p84 : Pth:=.r p41
def p85 : Pth:=.l p42
def p86 : Pth:=.r p42
def p87 : Pth:=.l p43
def p88 : Pth:=.r p43
def p89 : Pth:=.l p44
def p90 : Pth:=.r p44
def p91 : Pth:=.l p45
def p92 : Pth:=.r p45
def p93 : Pth:=.l p46
def p94 : Pth:=.r p46
def p95 : Pth:=.l p47
def p96 : Pth:=.r p47
def p97 : Pth:=.l p48
def p98 : Pth:=.r p48
def p99 : Pth:=.l p49
def p100 : Pth:=.r p49
def u0 : TT:=.n U .e .e
def u1 : TT:=.n U u0 u0
def u2 : TT:=.n U u0 .e
def u3 : TT:=.n U u1 u2
def u4 : TT:=.n U u2 u2
def u5 : TT:=.n U u3 u4
def u6 : TT:=.n U u5 u5
def u7 : TT:=.n U u4 u4
def u8 : TT:=.n U u5 u7
def u9 : TT:=.n U u6 u8
def u10 : TT:=.n U u9 u9
def u11 : TT:=.n U u2 u0
def u12 : TT:=.n U u11 u1
def u13 : TT:=.n U u1 u1
def u14 : TT:=.n U u12 u13
def u15 : TT:=.n U u4 u11
def u16 : TT:=.n U u7 u15
def u17 : TT:=.n U u3 u3
def u18 : TT:=.n U u17 u5
def u19 : TT:=.n U u18 u18
def u20 : TT:=.n U u12 u12
def u21 : TT:=.n U u20 u14
def u22 : TT:=.n U u13 u3
def u23 : TT:=.n U u22 u22
def u24 : TT:=.n U u11 u11
def u25 : TT:=.n U u24 u12
def u26 : TT:=.n U u17 u17
def u27 : TT:=.n U u7 u7
def u28 : TT:=.n U u15 u24
def u29 : TT:=.n U u13 u13
def u30 : TT:=.n U u25 u20
def u31 : TT:=.n U u20 u20
def u32 : TT:=.n U u30 u31
def u33 : TT:=.n U u14 u29
def u34 : TT:=.n U u22 u17
def u35 : TT:=.n U u24 u24
def u36 : TT:=.n U u16 u16
def u37 : TT:=.n U u15 u15
def u38 : TT:=.n U u37 u28
def u39 : TT:=.n U u35 u25
def u40 : TT:=.n U u14 u14
def u41 : TT:=.n U u29 u22
def u42 : TT:=.n U u41 u41
def u43 : TT:=.n U u18 u6
def z0 : Value:=.int .i64 (.ofNat 0)
def a0 : FA:=.tmp p0
def a1 : FA:=.tmp p1
def a2 : FA:=.tmp p2
def a3 : FA:=.tmp p3
def a4 : FA:=.tmp p4
def a5 : FA:=.tmp p5
def a6 : FA:=.tmp p6
def a7 : FA:=.tmp p7
def a8 : FA:=.tmp p8
def a9 : FA:=.tmp p9
def a10 : FA:=.tmp p10
def a11 : FA:=.tmp p11
def a12 : FA:=.tmp p12
def a13 : FA:=.tmp p13
def a14 : FA:=.tmp p14
def a15 : FA:=.tmp p15
def a16 : FA:=.tmp p16
def a17 : FA:=.tmp p17
def a18 : FA:=.tmp p18
def a19 : FA:=.tmp p19
def a20 : FA:=.tmp p20
def a21 : FA:=.tmp p21
def a22 : FA:=.tmp p22
def a23 : FA:=.tmp p23
def a24 : FA:=.tmp p24
def a25 : FA:=.tmp p25
def a26 : FA:=.tmp p26
def a27 : FA:=.tmp p27
def a28 : FA:=.tmp p28
def a29 : FA:=.tmp p29
def a30 : FA:=.tmp p30
def a31 : FA:=.tmp p31
def a32 : FA:=.tmp p32
def a33 : FA:=.tmp p33
def a34 : FA:=.tmp p34
def a35 : FA:=.tmp p35
def a36 : FA:=.tmp p36
def a37 : FA:=.tmp p37
def a38 : FA:=.tmp p38
def a39 : FA:=.tmp p39
def a40 : FA:=.tmp p40
def a41 : FA:=.tmp p41
def a42 : FA:=.tmp p42
def a43 : FA:=.tmp p43
def a44 : FA:=.tmp p44
def a45 : FA:=.tmp p45
def a46 : FA:=.tmp p46
def a47 : FA:=.tmp p47
def a48 : FA:=.tmp p48
def a49 : FA:=.tmp p49
def a50 : FA:=.tmp p50
def a51 : FA:=.tmp p51
def a52 : FA:=.tmp p52
def a53 : FA:=.tmp p53
def a54 : FA:=.tmp p54
def a55 : FA:=.tmp p55
def a56 : FA:=.tmp p56
def a57 : FA:=.tmp p57
def a58 : FA:=.tmp p58
def a59 : FA:=.tmp p59
def a60 : FA:=.tmp p60
def a61 : FA:=.tmp p61
def a62 : FA:=.tmp p62
def a63 : FA:=.tmp p63
def a64 : FA:=.tmp p64
def a65 : FA:=.tmp p65
def a66 : FA:=.tmp p66
def a67 : FA:=.tmp p67
def a68 : FA:=.tmp p68
def a69 : FA:=.tmp p69
def a70 : FA:=.tmp p70
def a71 : FA:=.tmp p71
def a72 : FA:=.tmp p72
def a73 : FA:=.tmp p73
def a74 : FA:=.tmp p74
def a75 : FA:=.tmp p75
def a76 : FA:=.tmp p76
def a77 : FA:=.tmp p77
def a78 : FA:=.tmp p78
def a79 : FA:=.tmp p79
def a80 : FA:=.tmp p80
def a81 : FA:=.tmp p81
def a82 : FA:=.tmp p82
def a83 : FA:=.tmp p83
def a84 : FA:=.tmp p84
def a85 : FA:=.tmp p85
def a86 : FA:=.tmp p86
def a87 : FA:=.tmp p87
def a88 : FA:=.tmp p88
def a89 : FA:=.tmp p89
def a90 : FA:=.tmp p90
def a91 : FA:=.tmp p91
def a92 : FA:=.tmp p92
def a93 : FA:=.tmp p93
def a94 : FA:=.tmp p94
def a95 : FA:=.tmp p95
def a96 : FA:=.tmp p96
def a97 : FA:=.tmp p97
def a98 : FA:=.tmp p98
def a99 : FA:=.tmp p99
def a100 : FA:=.tmp p100
def c17 : FCode:=(.seq (.run [.go (.move (.con (.bool false))) p0]) (.seq (.run [.go (.call (.con (.func (.func 45) ⟨[]⟩ ⟨[]⟩)) [(.con (.slice none 0 0))]) p13,
.go (.call (.con (.func (.func 29) ⟨[]⟩ ⟨[]⟩)) [a13]) p14,
.go (.move a14) p12,
.go (.extract a12 0) p15,
.go (.extract a12 1) p16,
.go (.extract a12 2) p17,
.go (.move a15) p1,
.go (.move a16) p2,
.go (.move a17) p3]) (.seq (.run [.go (.call (.con (.func (.func 45) ⟨[]⟩ ⟨[]⟩)) [(.con (.slice none 0 0))]) p19,
.go (.call (.con (.func (.func 30) ⟨[]⟩ ⟨[]⟩)) [a19]) p20,
.go (.move a20) p18,
.go (.extract a18 0) p21,
.go (.extract a18 1) p22,
.go (.move a21) p4,
.go (.move a22) p5]) (.seq (.run [.go (.call (.con (.func (.func 45) ⟨[]⟩ ⟨[]⟩)) [(.con (.slice none 0 0))]) p24,
.go (.call (.con (.func (.func 31) ⟨[]⟩ ⟨[]⟩)) [a24]) p25,
.go (.move a25) p23,
.go (.extract a23 0) p26,
.go (.extract a23 1) p27,
.go (.move a26) p6,
.go (.move a27) p7]) (.seq (.run [.go (.buildSlice 3 3 [z0,z0,z0] [(0,1,(.con (.int .i64 (.ofNat 3)))),(1,1,(.con (.int .i64 (.ofNat 2)))),(2,1,(.con (.int .i64 (.ofNat 2))))]) p29,
.go (.call (.con (.func (.func 37) ⟨[]⟩ ⟨[]⟩)) [a29,(.con (.int .i64 (.ofNat 10)))]) p30,
.go (.move a30) p28,
.go (.extract a28 0) p31,
.go (.extract a28 1) p32,
.go (.move a31) p8,
.go (.move a32) p9]) (.seq (.run [.go (.call (.con (.func (.func 35) ⟨[]⟩ ⟨[]⟩)) [(.con (.int .i64 (.ofNat 5))),(.con (.int .i64 (.ofNat 10)))]) p34,
.go (.move a34) p33,
.go (.extract a33 0) p35,
.go (.extract a33 1) p36,
.go (.alloc 59 [z0,z0]) p10,
.un (.store 2 a10 a35),
.go (.move a36) p11]) (.seq (.draw 65 [.go (.move a3) p37,
.go (.bin .eql 29 a37 (.con z0)) p38,
.go (.move a38) p39,
.gd p39 true (.move a1) p40,
.gd p39 true (.buildSlice 3 2 [z0,z0] [(0,1,(.con (.int .i64 (.ofNat 5)))),(1,1,(.con (.int .i64 (.ofNat 5))))]) p41,
.gd p39 true (.buildSlice 3 2 [z0,z0] [(0,1,(.con (.int .i64 (.ofNat 5)))),(1,1,(.con z0))]) p42,
.gd p39 true (.buildSlice 41 2 [(.slice none 0 0),(.slice none 0 0)] [(0,1,a41),(1,1,a42)]) p43,
.gd p39 true (.call (.con (.func (.func 33) ⟨[]⟩ ⟨[]⟩)) [a40,a43]) p44,
.go (.pick a39 a44 (.con (.bool false))) p45,
.go (.move a45) p46,
.gd p46 true (.move a2) p47,
.gd p46 true (.bin .eql 3 a47 (.con (.int .i64 (.ofNat 6)))) p48,
.go (.pick a46 a48 (.con (.bool false))) p49,
.go (.move a49) p50,
.gd p50 true (.move a5) p51,
.gd p50 true (.bin .eql 29 a51 (.con z0)) p52,
.go (.pick a50 a52 (.con (.bool false))) p53,
.go (.move a53) p54,
.gd p54 true (.move a4) p55,
.gd p54 true (.bin .eql 3 a55 (.con (.int .i64 (.ofNat 4)))) p56,
.go (.pick a54 a56 (.con (.bool false))) p57,
.go (.move a57) p58,
.gd p58 true (.move a7) p59,
.gd p58 true (.bin .eql 29 a59 (.con z0)) p60,
.go (.pick a58 a60 (.con (.bool false))) p61,
.go (.move a61) p62,
.gd p62 true (.move a6) p63,
.gd p62 true (.len 0 a63) p64,
.gd p62 true (.bin .eql 3 a64 (.con (.int .i64 (.ofNat 2)))) p65,
.go (.pick a62 a65 (.con (.bool false))) p66,
.go (.move a66) p67,
.gd p67 true (.move a6) p68,
.gd p67 true (.indexAddr none 1 a68 (.con (.int .i64 (.ofNat 1)))) p69,
.gd p67 true (.load1 a69) p70,
.gd p67 true (.len 0 a70) p71,
.gd p67 true (.bin .eql 3 a71 (.con (.int .i64 (.ofNat 2)))) p72,
.go (.pick a67 a72 (.con (.bool false))) p73,
.go (.move a73) p74,
.gd p74 true (.move a6) p75,
.gd p74 true (.indexAddr none 1 a75 (.con (.int .i64 (.ofNat 1)))) p76,
.gd p74 true (.load1 a76) p77,
.gd p74 true (.indexAddr none 2 a77 (.con z0)) p78,
.gd p74 true (.loadN 2 a78) p79,
.gd p74 true (.call (.con (.func (.func 34) ⟨[]⟩ ⟨[]⟩)) [(.con (.int .i64 (.ofNat 5))),(.con (.int .i64 (.ofNat 10)))]) p80,
.gd p74 true (.bin .eql 59 a79 a80) p81,
.go (.pick a74 a81 (.con (.bool false))) p82,
.go (.move a82) p83,
.gd p83 true (.move a9) p84,
.gd p83 true (.bin .eql 29 a84 (.con z0)) p85,
.go (.pick a83 a85 (.con (.bool false))) p86,
.go (.move a86) p87,
.gd p87 true (.move a8) p88,
.gd p87 true (.buildSlice 3 3 [z0,z0,z0] [(0,1,(.con (.int .i64 (.ofNat 4)))),(1,1,(.con (.int .i64 (.ofNat 3)))),(2,1,(.con (.int .i64 (.ofNat 3))))]) p89,
.gd p87 true (.call (.con (.func (.func 39) ⟨[]⟩ ⟨[]⟩)) [a88,a89]) p90,
.go (.pick a87 a90 (.con (.bool false))) p91,
.go (.move a91) p92,
.gd p92 true (.move a11) p93,
.gd p92 true (.bin .eql 29 a93 (.con z0)) p94,
.go (.pick a92 a94 (.con (.bool false))) p95,
.go (.move a95) p96,
.gd p96 true (.loadN 2 a10) p97,
.gd p96 true (.call (.con (.func (.func 34) ⟨[]⟩ ⟨[]⟩)) [(.con (.int .i64 (.ofNat 6))),(.con (.int .i64 (.ofNat 14)))]) p98,
.gd p96 true (.bin .eql 59 a97 a98) p99,
.go (.pick a96 a99 (.con (.bool false))) p100,
.go (.move a100) p0] [.ok,.ok,.ok,.ok,.nw (some (p39,true)) (some p41) 4 true,.nw (some (p39,true)) (some p42) 5 true,.ok,.ok,.ok,.ok,.ok,.ok,.ok,.ok,.ok,.ok,.ok,.ok,.ok,.ok,.ok,.ok,.ok,.ok,.ok,.ok,.ok,.ok,.ok,.ok,.ok,.ok,.ok,.ok,.ok,.ok,.ok,.ok,.ok,.ok,.rd (some (p74,true)) (.load1 a76) (some p77) [44],.ok,.rd (some (p74,true)) (.loadN 2 a78) (some p79) [44],.ok,.ok,.ok,.ok,.ok,.ok,.ok,.ok,.ok,.ok,.ok,.ok,.ok,.ok,.ok,.ok,.ok,.rd (some (p96,true)) (.loadN 2 a10) (some p97) [62],.ok,.ok,.ok,.ok]) .ret)))))))
def f17 : FFunc:=.mk c17 u10 [] [.tmp p0]
theorem e17 : @compF Try.prog (Gl.none Try.prog) Try.f17 0=f17:=by kernel_rfl
theorem o17 : okF Try.prog Try.f17=true:=by kernel_rfl
theorem g17 : Try.prog.funcs[(17 : Nat)]?=some Try.f17:=by kernel_rfl
def c18 : FCode:=(.seq (.run [.go (.box 33 a0) p1,
.go (.move (.con z0)) p2]) (.seq (.block 0 (.seq (.run [.go (.loadN 3 a1) p4,
.go (.call (.con (.func (.func 46) ⟨[]⟩ ⟨[]⟩)) [a4]) p5,
.go (.un .not a5) p6,
.go (.move a6) p3]) (.cond a3 (.seq (.run [.go (.move (.con (.int .i64 (.ofNat 3)))) p2]) .ret) (.seq (.run [.go (.loadN 3 a1) p8,
.go (.call (.con (.func (.func 47) ⟨[]⟩ ⟨[]⟩)) [a8]) p9,
.go (.un .not a9) p10,
.go (.move a10) p7]) (.cond a7 (.seq (.run [.go (.move (.con (.int .i64 (.ofNat 1)))) p2]) .ret) .skip))))) (.seq (.run [.go (.move (.con z0)) p2]) .ret)))
def f18 : FFunc:=.mk c18 u7 [p0] [.tmp p2]
theorem e18 : @compF Try.prog (Gl.none Try.prog) Try.f18 1=f18:=by kernel_rfl
theorem o18 : okF Try.prog Try.f18=true:=by kernel_rfl
theorem g18 : Try.prog.funcs[(18 : Nat)]?=some Try.f18:=by kernel_rfl
def c29 : FCode:=(.seq (.run [.go (.box 33 a0) p1,
.go (.move (.con (.slice none 0 0))) p2,
.go (.move (.con z0)) p3,
.go (.move (.con z0)) p4]) (.seq (.run [.go (.loadN 3 a1) p8,
.go (.call (.con (.func (.func 56) ⟨[]⟩ ⟨[]⟩)) [a8]) p9,
.go (.move a9) p7,
.go (.extract a7 0) p10,
.go (.extract a7 1) p11,
.go (.extract a7 2) p12,
.go (.alloc 94 [z0,z0,(.slice none 0 0)]) p5,
.un (.store 3 a5 a10),
.go (.move a11) p6,
.go (.move a12) p4]) (.seq (.block 0 (.seq (.run [.go (.move a4) p14,
.go (.bin .neq 29 a14 (.con z0)) p15,
.go (.move a15) p13]) (.cond a13 (.seq (.run [.go (.move a4) p16,
.go (.move (.con (.slice none 0 0))) p2,
.go (.move (.con z0)) p3,
.go (.move a16) p4]) .ret) (.seq (.run [.go (.fieldAddr 0 a5) p18,
.go (.load1 a18) p19,
.go (.bin .eql 3 a19 (.con z0)) p20,
.go (.move a20) p17]) (.cond a17 (.seq (.run [.go (.move (.con (.slice none 0 0))) p2,
.go (.move (.con z0)) p3,
.go (.move (.con (.int .i64 (.ofNat 9)))) p4]) .ret) .skip))))) (.seq (.draw 7 [.go (.fieldAddr 2 a5) p21,
.go (.load1 a21) p22,
.go (.fieldAddr 1 a5) p23,
.go (.load1 a23) p24,
.go (.move a22) p2,
.go (.move a24) p3,
.go (.move (.con z0)) p4] [.ok,.ok,.ok,.ok,.ok,.ok,.ok]) .ret))))
def f29 : FFunc:=.mk c29 u6 [p0] [.tmp p2,.tmp p3,.tmp p4]
theorem e29 : @compF Try.prog (Gl.none Try.prog) Try.f29 1=f29:=by kernel_rfl
theorem o29 : okF Try.prog Try.f29=true:=by kernel_rfl
theorem g29 : Try.prog.funcs[(29 : Nat)]?=some Try.f29:=by kernel_rfl
def c30 : FCode:=(.seq (.run [.go (.box 33 a0) p1,
.go (.move (.con z0)) p2,
.go (.move (.con z0)) p3]) (.seq (.run [.go (.loadN 3 a1) p8,
.go (.call (.con (.func (.func 56) ⟨[]⟩ ⟨[]⟩)) [a8]) p9,
.go (.move a9) p7,
.go (.extract a7 0) p10,
.go (.extract a7 1) p11,
.go (.extract a7 2) p12,
.go (.alloc 94 [z0,z0,(.slice none 0 0)]) p4,
.un (.store 3 a4 a10),
.go (.move a11) p5,
.go (.move a12) p6]) (.seq (.run [.go (.fieldAddr 0 a4) p13,
.go (.load1 a13) p14,
.go (.move a6) p15,
.go (.move a14) p2,
.go (.move a15) p3]) .ret)))
def f30 : FFunc:=.mk c30 u14 [p0] [.tmp p2,.tmp p3]
theorem e30 : @compF Try.prog (Gl.none Try.prog) Try.f30 1=f30:=by kernel_rfl
theorem o30 : okF Try.prog Try.f30=true:=by kernel_rfl
theorem g30 : Try.prog.funcs[(30 : Nat)]?=some Try.f30:=by kernel_rfl
def c31 : FCode:=(.seq (.run [.go (.box 33 a0) p1,
.go (.move (.con (.slice none 0 0))) p2,
.go (.move (.con z0)) p3]) (.seq (.run [.go (.loadN 3 a1) p8,
.go (.call (.con (.func (.func 56) ⟨[]⟩ ⟨[]⟩)) [a8]) p9,
.go (.move a9) p7,
.go (.extract a7 0) p10,
.go (.extract a7 1) p11,
.go (.extract a7 2) p12,
.go (.alloc 94 [z0,z0,(.slice none 0 0)]) p4,
.un (.store 3 a4 a10),
.go (.move a11) p5,
.go (.move a12) p6]) (.seq (.block 0 (.seq (.run [.go (.move a6) p14,
.go (.bin .neq 29 a14 (.con z0)) p15,
.go (.move a15) p13]) (.cond a13 (.seq (.run [.go (.move a6) p16,
.go (.move (.con (.slice none 0 0))) p2,
.go (.move a16) p3]) .ret) (.seq (.run [.go (.fieldAddr 0 a4) p18,
.go (.load1 a18) p19,
.go (.bin .eql 3 a19 (.con z0)) p20,
.go (.move a20) p17]) (.cond a17 (.seq (.run [.go (.move (.con (.slice none 0 0))) p2,
.go (.move (.con (.int .i64 (.ofNat 9)))) p3]) .ret) .skip))))) (.seq (.run [.go (.move a5) p21,
.go (.move a21) p2,
.go (.move (.con z0)) p3]) .ret))))
def f31 : FFunc:=.mk c31 u16 [p0] [.tmp p2,.tmp p3]
theorem e31 : @compF Try.prog (Gl.none Try.prog) Try.f31 1=f31:=by kernel_rfl
theorem o31 : okF Try.prog Try.f31=true:=by kernel_rfl
theorem g31 : Try.prog.funcs[(31 : Nat)]?=some Try.f31:=by kernel_rfl
def c33 : FCode:=(.seq (.run [.go (.move (.con (.bool false))) p4]) (.seq (.seq (.run [.go (.move a0) p7,
.go (.len 0 a7) p8,
.go (.move a1) p9,
.go (.len 0 a9) p10,
.go (.bin .neq 3 a8 a10) p11]) (.cond a11 (.seq (.run [.go (.move (.con (.bool false))) p4]) .ret) .skip)) (.seq (.seq (.run [.go (.move (.con z0)) p5]) (.block 0 (.loop (.seq (.seq (.run [.go (.move a5) p12,
.go (.move a0) p13,
.go (.len 0 a13) p14,
.go (.bin .lss 3 a12 a14) p15]) (.cond a15 .skip (.exit 0))) (.seq (.block 1 (.seq (.seq (.draw 11 [.go (.move a0) p18,
.go (.move a5) p19,
.go (.indexAddr none 1 a18 a19) p20,
.go (.load1 a20) p21,
.go (.len 0 a21) p22,
.go (.move a1) p23,
.go (.move a5) p24,
.go (.indexAddr none 1 a23 a24) p25,
.go (.load1 a25) p26,
.go (.len 0 a26) p27,
.go (.bin .neq 3 a22 a27) p28] [.ok,.ok,.ok,.ok,.ok,.ok,.ok,.ok,.ok,.ok,.ok]) (.cond a28 (.seq (.run [.go (.move (.con (.bool false))) p4]) .ret) .skip)) (.seq (.run [.go (.move (.con z0)) p6]) (.block 2 (.loop (.seq (.seq (.run [.go (.move a6) p29,
.go (.move a0) p30,
.go (.move a5) p31,
.go (.indexAddr none 1 a30 a31) p32,
.go (.load1 a32) p33,
.go (.len 0 a33) p34,
.go (.bin .lss 3 a29 a34) p35]) (.cond a35 .skip (.exit 2))) (.seq (.block 3 (.seq (.draw 15 [.go (.move a0) p38,
.go (.move a5) p39,
.go (.indexAddr none 1 a38 a39) p40,
.go (.load1 a40) p41,
.go (.move a6) p42,
.go (.indexAddr none 1 a41 a42) p43,
.go (.load1 a43) p44,
.go (.move a1) p45,
.go (.move a5) p46,
.go (.indexAddr none 1 a45 a46) p47,
.go (.load1 a47) p48,
.go (.move a6) p49,
.go (.indexAddr none 1 a48 a49) p50,
.go (.load1 a50) p51,
.go (.bin .neq 3 a44 a51) p52] [.ok,.ok,.ok,.ok,.ok,.ok,.ok,.ok,.ok,.ok,.ok,.ok,.ok,.ok,.ok]) (.cond a52 (.seq (.run [.go (.move (.con (.bool false))) p4]) .ret) .skip))) (.run [.go (.move a6) p36,
.go (.bin .add 3 a36 (.con (.int .i64 (.ofNat 1)))) p37,
.go (.move a37) p6])))))))) (.run [.go (.move a5) p16,
.go (.bin .add 3 a16 (.con (.int .i64 (.ofNat 1)))) p17,
.go (.move a17) p5])))))) (.seq (.run [.go (.move (.con (.bool true))) p4]) .ret))))
def f33 : FFunc:=.mk c33 u19 [p0,p1] [.tmp p4]
theorem e33 : @compF Try.prog (Gl.none Try.prog) Try.f33 2=f33:=by kernel_rfl
theorem o33 : okF Try.prog Try.f33=true:=by kernel_rfl
theorem g33 : Try.prog.funcs[(33 : Nat)]?=some Try.f33:=by kernel_rfl
def c34 : FCode:=(.seq (.run [.go (.alloc 59 [z0,z0]) p4]) (.seq (.run [.go (.move a0) p5,
.go (.move a1) p6,
.go (.build [z0,z0] [(0,1,a5),(1,1,a6)]) p7,
.un (.store 2 a4 a7)]) .ret))
def f34 : FFunc:=.mk c34 u12 [p0,p1] [.many p4 2]
theorem e34 : @compF Try.prog (Gl.none Try.prog) Try.f34 2=f34:=by kernel_rfl
theorem o34 : okF Try.prog Try.f34=true:=by kernel_rfl
theorem g34 : Try.prog.funcs[(34 : Nat)]?=some Try.f34:=by kernel_rfl
def c35 : FCode:=(.seq (.run [.go (.alloc 59 [z0,z0]) p4,
.go (.move (.con z0)) p5]) (.seq (.block 0 (.seq (.run [.go (.call (.con (.func (.func 58) ⟨[]⟩ ⟨[]⟩)) []) p7,
.go (.move a0) p8,
.go (.call (.con (.func (.func 59) ⟨[]⟩ ⟨[]⟩)) [a7,a8]) p9,
.go (.un .not a9) p10,
.go (.move a10) p6]) (.cond a6 (.seq (.run [.go (.build [z0,z0] []) p11,
.un (.store 2 a4 a11),
.go (.move (.con (.int .i64 (.ofNat 1)))) p5]) .ret) (.seq (.run [.go (.call (.con (.func (.func 60) ⟨[]⟩ ⟨[]⟩)) []) p13,
.go (.move a1) p14,
.go (.call (.con (.func (.func 59) ⟨[]⟩ ⟨[]⟩)) [a13,a14]) p15,
.go (.un .not a15) p16,
.go (.move a16) p17,
.gd p17 false (.move a1) p18,
.gd p17 false (.move a0) p19,
.gd p17 false (.bin .rem 3 a18 a19) p20,
.gd p17 false (.bin .neq 3 a20 (.con z0)) p21,
.go (.pick a17 (.con (.bool true)) a21) p22,
.go (.move a22) p12]) (.cond a12 (.seq (.run [.go (.build [z0,z0] []) p23,
.un (.store 2 a4 a23),
.go (.move (.con (.int .i64 (.ofNat 2)))) p5]) .ret) .skip))))) (.seq (.run [.go (.move a1) p24,
.go (.move a0) p25,
.go (.bin .sub 3 a24 a25) p26,
.go (.bin .add 3 a26 (.con (.int .i64 (.ofNat 1)))) p27,
.go (.mm true [(.con z0),a27]) p28,
.go (.move a1) p29,
.go (.move a0) p30,
.go (.bin .add 3 a29 a30) p31,
.go (.bin .sub 3 a31 (.con (.int .i64 (.ofNat 1)))) p32,
.go (.build [z0,z0] [(0,1,a28),(1,1,a32)]) p33,
.un (.store 2 a4 a33),
.go (.move (.con z0)) p5]) .ret)))
def f35 : FFunc:=.mk c35 u21 [p0,p1] [.many p4 2,.tmp p5]
theorem e35 : @compF Try.prog (Gl.none Try.prog) Try.f35 2=f35:=by kernel_rfl
theorem o35 : okF Try.prog Try.f35=true:=by kernel_rfl
theorem g35 : Try.prog.funcs[(35 : Nat)]?=some Try.f35:=by kernel_rfl
def c37 : FCode:=(.seq (.run [.go (.move (.con (.slice none 0 0))) p4,
.go (.move (.con z0)) p5]) (.seq (.block 0 (.seq (.run [.go (.move a0) p7,
.go (.len 0 a7) p8,
.go (.bin .gtr 3 a8 (.con (.int .i64 (.ofNat 12)))) p9,
.go (.move a9) p6]) (.cond a6 (.seq (.run [.go (.move (.con (.slice none 0 0))) p4,
.go (.move (.con (.int .i64 (.ofNat 3)))) p5]) .ret) (.seq (.run [.go (.move a0) p11,
.go (.call (.con (.func (.func 62) ⟨[]⟩ ⟨[]⟩)) []) p12,
.go (.makeFunc 59 [a12] []) p13,
.go (.call (.con (.func (.func 61) ⟨[]⟩ ⟨[]⟩)) [a11,a13]) p14,
.go (.un .not a14) p15,
.go (.move a15) p16,
.gd p16 false (.call (.con (.func (.func 63) ⟨[]⟩ ⟨[]⟩)) []) p17,
.gd p16 false (.move a1) p18,
.gd p16 false (.call (.con (.func (.func 59) ⟨[]⟩ ⟨[]⟩)) [a17,a18]) p19,
.gd p16 false (.un .not a19) p20,
.go (.pick a16 (.con (.bool true)) a20) p21,
.go (.move a21) p10]) (.cond a10 (.seq (.run [.go (.move (.con (.slice none 0 0))) p4,
.go (.move (.con (.int .i64 (.ofNat 2)))) p5]) .ret) (.seq (.run [.go (.move a0) p23,
.go (.call (.con (.func (.func 64) ⟨[]⟩ ⟨[]⟩)) [a23]) p24,
.go (.bin .eql 3 a24 (.con z0)) p25,
.go (.move a25) p22]) (.cond a22 (.seq (.run [.go (.move (.con (.slice none 0 0))) p4,
.go (.move (.con (.int .i64 (.ofNat 7)))) p5]) .ret) .skip))))))) (.seq (.run [.go (.move a0) p26,
.go (.move a1) p27,
.go (.call (.con (.func (.func 65) ⟨[]⟩ ⟨[]⟩)) [a26,a27]) p28,
.go (.move a28) p4,
.go (.move (.con z0)) p5]) .ret)))
def f37 : FFunc:=.mk c37 u23 [p0,p1] [.tmp p4,.tmp p5]
theorem e37 : @compF Try.prog (Gl.none Try.prog) Try.f37 2=f37:=by kernel_rfl
theorem o37 : okF Try.prog Try.f37=true:=by kernel_rfl
theorem g37 : Try.prog.funcs[(37 : Nat)]?=some Try.f37:=by kernel_rfl
def c39 : FCode:=(.seq (.run [.go (.move (.con (.bool false))) p4]) (.seq (.run [.go (.move a0) p5,
.go (.buildSlice 41 1 [(.slice none 0 0)] [(0,1,a5)]) p6,
.go (.move a1) p7,
.go (.buildSlice 41 1 [(.slice none 0 0)] [(0,1,a7)]) p8,
.go (.call (.con (.func (.func 33) ⟨[]⟩ ⟨[]⟩)) [a6,a8]) p9,
.go (.move a9) p4]) .ret))
def f39 : FFunc:=.mk c39 u15 [p0,p1] [.tmp p4]
theorem e39 : @compF Try.prog (Gl.none Try.prog) Try.f39 2=f39:=by kernel_rfl
theorem o39 : okF Try.prog Try.f39=true:=by kernel_rfl
theorem g39 : Try.prog.funcs[(39 : Nat)]?=some Try.f39:=by kernel_rfl
def c45 : FCode:=(.seq (.run [.go (.alloc 33 [z0,(.slice none 0 0),(.slice none 0 0)]) p2]) (.seq (.run [.go (.buildSlice 3 2 [z0,z0] [(0,1,(.con (.int .i64 (.ofNat 3)))),(1,1,(.con (.int .i64 (.ofNat 4))))]) p3,
.go (.buildSlice 3 2 [z0,z0] [(0,1,(.con (.int .i64 (.ofNat 6)))),(1,1,(.con (.int .i64 (.ofNat 2))))]) p4,
.go (.buildSlice 41 2 [(.slice none 0 0),(.slice none 0 0)] [(0,1,a3),(1,1,a4)]) p5,
.go (.move a0) p6,
.go (.build [z0,(.slice none 0 0),(.slice none 0 0)] [(0,1,(.con (.int .i64 (.ofNat 5)))),(1,1,a5),(2,1,a6)]) p7,
.un (.store 3 a2 a7)]) .ret))
def f45 : FFunc:=.mk c45 u12 [p0] [.many p2 3]
theorem e45 : @compF Try.prog (Gl.none Try.prog) Try.f45 1=f45:=by kernel_rfl
theorem o45 : okF Try.prog Try.f45=true:=by kernel_rfl
theorem g45 : Try.prog.funcs[(45 : Nat)]?=some Try.f45:=by kernel_rfl
def c46 : FCode:=(.seq (.run [.go (.box 33 a0) p1,
.go (.move (.con (.bool false))) p2]) (.seq (.run [.go (.fieldAddr 1 a1) p3,
.go (.load1 a3) p4,
.go (.len 0 a4) p5,
.go (.bin .leq 3 a5 (.con (.int .i64 (.ofNat 5)))) p6,
.go (.move a6) p7,
.gd p7 true (.fieldAddr 2 a1) p8,
.gd p7 true (.load1 a8) p9,
.gd p7 true (.len 0 a9) p10,
.gd p7 true (.bin .leq 3 a10 (.con (.int .i64 (.ofNat 10)))) p11,
.go (.pick a7 a11 (.con (.bool false))) p12,
.go (.move a12) p13,
.gd p13 true (.fieldAddr 1 a1) p14,
.gd p13 true (.load1 a14) p15,
.gd p13 true (.call (.con (.func (.func 66) ⟨[]⟩ ⟨[]⟩)) [a15,(.con (.func (.func 67) ⟨[]⟩ ⟨[]⟩))]) p16,
.go (.pick a13 a16 (.con (.bool false))) p17,
.go (.move a17) p2]) .ret))
def f46 : FFunc:=.mk c46 u25 [p0] [.tmp p2]
theorem e46 : @compF Try.prog (Gl.none Try.prog) Try.f46 1=f46:=by kernel_rfl
theorem o46 : okF Try.prog Try.f46=true:=by kernel_rfl
theorem g46 : Try.prog.funcs[(46 : Nat)]?=some Try.f46:=by kernel_rfl
def c47 : FCode:=(.seq (.run [.go (.box 33 a0) p1,
.go (.move (.con (.bool false))) p2]) (.seq (.draw 25 [.go (.call (.con (.func (.func 58) ⟨[]⟩ ⟨[]⟩)) []) p3,
.go (.fieldAddr 0 a1) p4,
.go (.load1 a4) p5,
.go (.call (.con (.func (.func 59) ⟨[]⟩ ⟨[]⟩)) [a3,a5]) p6,
.go (.move a6) p7,
.gd p7 true (.loadN 3 a1) p8,
.gd p7 true (.call (.con (.func (.func 68) ⟨[]⟩ ⟨[]⟩)) [a8]) p9,
.gd p7 true (.bin .gtr 3 a9 (.con z0)) p10,
.go (.pick a7 a10 (.con (.bool false))) p11,
.go (.move a11) p12,
.gd p12 true (.fieldAddr 1 a1) p13,
.gd p12 true (.load1 a13) p14,
.gd p12 true (.loadN 3 a1) p15,
.gd p12 true (.call (.con (.func (.func 62) ⟨[]⟩ ⟨[]⟩)) []) p16,
.gd p12 true (.call (.con (.func (.func 69) ⟨[]⟩ ⟨[]⟩)) [a15,a16]) p17,
.gd p12 true (.call (.con (.func (.func 66) ⟨[]⟩ ⟨[]⟩)) [a14,a17]) p18,
.go (.pick a12 a18 (.con (.bool false))) p19,
.go (.move a19) p20,
.gd p20 true (.fieldAddr 2 a1) p21,
.gd p20 true (.load1 a21) p22,
.gd p20 true (.loadN 3 a1) p23,
.gd p20 true (.makeFunc 71 [a23] []) p24,
.gd p20 true (.call (.con (.func (.func 70) ⟨[]⟩ ⟨[]⟩)) [a22,a24]) p25,
.go (.pick a20 a25 (.con (.bool false))) p26,
.go (.move a26) p2] [.ok,.ok,.rd none (.load1 a4) (some p5) [0],.ok,.ok,.ok,.ok,.ok,.ok,.ok,.ok,.rd (some (p12,true)) (.load1 a13) (some p14) [14,15],.rd (some (p12,true)) (.loadN 3 a1) (some p15) [14],.ok,.ok,.ok,.ok,.ok,.ok,.ok,.ok,.ok,.ok,.ok,.ok]) .ret))
def f47 : FFunc:=.mk c47 u26 [p0] [.tmp p2]
theorem e47 : @compF Try.prog (Gl.none Try.prog) Try.f47 1=f47:=by kernel_rfl
theorem o47 : okF Try.prog Try.f47=true:=by kernel_rfl
theorem g47 : Try.prog.funcs[(47 : Nat)]?=some Try.f47:=by kernel_rfl
def c50 : FCode:=(.seq (.run [.go (.box 33 a0) p1,
.go (.alloc 89 [z0,(.slice none 0 0),(.slice none 0 0),(.slice none 0 0),z0,z0,z0,z0]) p2]) (.seq (.draw 5 [.go (.loadN 3 a1) p6,
.go (.call (.con (.func (.func 73) ⟨[]⟩ ⟨[]⟩)) []) p7,
.go (.build [z0,(.slice none 0 0),(.slice none 0 0),(.slice none 0 0),z0,z0,z0,z0] [(0,3,a6),(3,1,a7)]) p8,
.go (.alloc 89 [z0,(.slice none 0 0),(.slice none 0 0),(.slice none 0 0),z0,z0,z0,z0]) p3,
.un (.store 8 a3 a8)] [.rd none (.loadN 3 a1) (some p6) [2],.ok,.ok,.nw none (some p3) 3 true,.ok]) (.seq (.seq (.run [.go (.fieldAddr 1 a1) p9,
.go (.load1 a9) p10,
.go (.len 0 a10) p11,
.go (.move (.con z0)) p12]) (.block 0 (.loop (.seq (.run [.go (.bin .lss 3 a12 a11) p13]) (.seq (.cond a13 .skip (.exit 0)) (.seq (.block 1 (.seq (.run [.go (.indexAddr none 1 a10 a12) p14,
.go (.load1 a14) p15,
.go (.move a15) p5]) (.run [.go (.fieldAddr 4 a3) p16,
.go (.loadN 4 a16) p17,
.go (.move a5) p18,
.go (.call (.con (.func (.func 74) ⟨[]⟩ ⟨[]⟩)) [a17,a18]) p19,
.go (.fieldAddr 4 a3) p20,
.un (.store 4 a20 a19)]))) (.run [.go (.bin .add 3 a12 (.con (.int .i64 (.ofNat 1)))) p21,
.go (.move a21) p12]))))))) (.seq (.run [.go (.loadN 8 a3) p22,
.un (.store 8 a2 a22)]) .ret))))
def f50 : FFunc:=.mk c50 u27 [p0] [.many p2 8]
theorem e50 : @compF Try.prog (Gl.none Try.prog) Try.f50 1=f50:=by kernel_rfl
theorem o50 : okF Try.prog Try.f50=true:=by kernel_rfl
theorem g50 : Try.prog.funcs[(50 : Nat)]?=some Try.f50:=by kernel_rfl
def c56 : FCode:=(.seq (.run [.go (.box 33 a0) p1,
.go (.alloc 94 [z0,z0,(.slice none 0 0)]) p2,
.go (.move (.con (.slice none 0 0))) p3,
.go (.move (.con z0)) p4]) (.seq (.seq (.run [.go (.loadN 3 a1) p6,
.go (.call (.con (.func (.func 18) ⟨[]⟩ ⟨[]⟩)) [a6]) p7,
.go (.move a7) p5]) (.seq (.run [.go (.move a5) p8,
.go (.bin .neq 29 a8 (.con z0)) p9]) (.cond a9 (.seq (.run [.go (.build [z0,z0,(.slice none 0 0)] []) p10,
.go (.move a5) p11,
.un (.store 3 a2 a10),
.go (.move (.con (.slice none 0 0))) p3,
.go (.move a11) p4]) .ret) .skip))) (.seq (.run [.go (.loadN 3 a1) p13,
.go (.call (.con (.func (.func 50) ⟨[]⟩ ⟨[]⟩)) [a13]) p14,
.go (.call (.con (.func (.func 78) ⟨[]⟩ ⟨[]⟩)) [a14]) p15,
.go (.move a15) p12,
.go (.extract a12 0) p16,
.go (.extract a12 1) p17,
.un (.store 3 a2 a16),
.go (.move a17) p3]) (.seq (.run [.go (.loadN 3 a2) p18,
.go (.move a3) p19,
.un (.store 3 a2 a18),
.go (.move a19) p3,
.go (.move (.con z0)) p4]) .ret))))
def f56 : FFunc:=.mk c56 u28 [p0] [.many p2 3,.tmp p3,.tmp p4]
theorem e56 : @compF Try.prog (Gl.none Try.prog) Try.f56 1=f56:=by kernel_rfl
theorem o56 : okF Try.prog Try.f56=true:=by kernel_rfl
theorem g56 : Try.prog.funcs[(56 : Nat)]?=some Try.f56:=by kernel_rfl
def c58 : FCode:=(.seq (.run [.go (.alloc 59 [z0,z0]) p0]) (.seq (.run [.go (.build [z0,z0] [(0,1,(.con (.int .i64 (.ofNat 2)))),(1,1,(.con (.int .i64 (.ofNat 100))))]) p1,
.un (.store 2 a0 a1)]) .ret))
def f58 : FFunc:=.mk c58 u2 [] [.many p0 2]
theorem e58 : @compF Try.prog (Gl.none Try.prog) Try.f58 0=f58:=by kernel_rfl
theorem o58 : okF Try.prog Try.f58=true:=by kernel_rfl
theorem g58 : Try.prog.funcs[(58 : Nat)]?=some Try.f58:=by kernel_rfl
def c59 : FCode:=(.seq (.run [.go (.box 59 a0) p2,
.go (.move (.con (.bool false))) p4]) (.seq (.run [.go (.fieldAddr 0 a2) p5,
.go (.load1 a5) p6,
.go (.move a1) p7,
.go (.bin .leq 3 a6 a7) p8,
.go (.move a8) p9,
.gd p9 true (.move a1) p10,
.gd p9 true (.fieldAddr 1 a2) p11,
.gd p9 true (.load1 a11) p12,
.gd p9 true (.bin .leq 3 a10 a12) p13,
.go (.pick a9 a13 (.con (.bool false))) p14,
.go (.move a14) p4]) .ret))
def f59 : FFunc:=.mk c59 u29 [p0,p1] [.tmp p4]
theorem e59 : @compF Try.prog (Gl.none Try.prog) Try.f59 2=f59:=by kernel_rfl
theorem o59 : okF Try.prog Try.f59=true:=by kernel_rfl
theorem g59 : Try.prog.funcs[(59 : Nat)]?=some Try.f59:=by kernel_rfl
def c60 : FCode:=(.seq (.run [.go (.alloc 59 [z0,z0]) p0]) (.seq (.run [.go (.build [z0,z0] [(0,1,(.con z0)),(1,1,(.con (.int .i64 (.ofNat 10100))))]) p1,
.un (.store 2 a0 a1)]) .ret))
def f60 : FFunc:=.mk c60 u2 [] [.many p0 2]
theorem e60 : @compF Try.prog (Gl.none Try.prog) Try.f60 0=f60:=by kernel_rfl
theorem o60 : okF Try.prog Try.f60=true:=by kernel_rfl
theorem g60 : Try.prog.funcs[(60 : Nat)]?=some Try.f60:=by kernel_rfl
def c61 : FCode:=(.seq (.run [.go (.move (.con (.bool false))) p4]) (.seq (.seq (.run [.go (.move a0) p7,
.go (.len 0 a7) p8,
.go (.move (.con z0)) p9]) (.block 0 (.loop (.seq (.run [.go (.bin .lss 3 a9 a8) p10]) (.seq (.cond a10 .skip (.exit 0)) (.seq (.block 1 (.seq (.run [.go (.indexAddr none 1 a7 a9) p11,
.go (.load1 a11) p12,
.go (.move a12) p6]) (.seq (.run [.go (.move a1) p13,
.go (.move a6) p14,
.go (.call a13 [a14]) p15,
.go (.un .not a15) p16]) (.cond a16 (.seq (.run [.go (.move (.con (.bool false))) p4]) .ret) .skip)))) (.run [.go (.bin .add 3 a9 (.con (.int .i64 (.ofNat 1)))) p17,
.go (.move a17) p9]))))))) (.seq (.run [.go (.move (.con (.bool true))) p4]) .ret)))
def f61 : FFunc:=.mk c61 u25 [p0,p1] [.tmp p4]
theorem e61 : @compF Try.prog (Gl.none Try.prog) Try.f61 2=f61:=by kernel_rfl
theorem o61 : okF Try.prog Try.f61=true:=by kernel_rfl
theorem g61 : Try.prog.funcs[(61 : Nat)]?=some Try.f61:=by kernel_rfl
def c62 : FCode:=(.seq (.run [.go (.alloc 59 [z0,z0]) p0]) (.seq (.run [.go (.build [z0,z0] [(0,1,(.con z0)),(1,1,(.con (.int .i64 (.ofNat 10000))))]) p1,
.un (.store 2 a0 a1)]) .ret))
def f62 : FFunc:=.mk c62 u2 [] [.many p0 2]
theorem e62 : @compF Try.prog (Gl.none Try.prog) Try.f62 0=f62:=by kernel_rfl
theorem o62 : okF Try.prog Try.f62=true:=by kernel_rfl
theorem g62 : Try.prog.funcs[(62 : Nat)]?=some Try.f62:=by kernel_rfl
def c63 : FCode:=(.seq (.run [.go (.alloc 59 [z0,z0]) p0]) (.seq (.run [.go (.build [z0,z0] [(0,1,(.con z0)),(1,1,(.con (.int .i64 (.ofNat 100000))))]) p1,
.un (.store 2 a0 a1)]) .ret))
def f63 : FFunc:=.mk c63 u2 [] [.many p0 2]
theorem e63 : @compF Try.prog (Gl.none Try.prog) Try.f63 0=f63:=by kernel_rfl
theorem o63 : okF Try.prog Try.f63=true:=by kernel_rfl
theorem g63 : Try.prog.funcs[(63 : Nat)]?=some Try.f63:=by kernel_rfl
def c64 : FCode:=(.seq (.run [.go (.move (.con z0)) p2]) (.seq (.run [.go (.move (.con z0)) p3]) (.seq (.seq (.run [.go (.move a0) p6,
.go (.len 0 a6) p7,
.go (.move (.con z0)) p8]) (.block 0 (.loop (.seq (.run [.go (.bin .lss 3 a8 a7) p9]) (.seq (.cond a9 .skip (.exit 0)) (.seq (.block 1 (.seq (.run [.go (.indexAddr none 1 a6 a8) p10,
.go (.load1 a10) p11,
.go (.move a11) p5]) (.run [.go (.move a3) p12,
.go (.move a5) p13,
.go (.bin .add 3 a12 a13) p14,
.go (.move a14) p3]))) (.run [.go (.bin .add 3 a8 (.con (.int .i64 (.ofNat 1)))) p15,
.go (.move a15) p8]))))))) (.seq (.run [.go (.move a3) p16,
.go (.move a16) p2]) .ret))))
def f64 : FFunc:=.mk c64 u20 [p0] [.tmp p2]
theorem e64 : @compF Try.prog (Gl.none Try.prog) Try.f64 1=f64:=by kernel_rfl
theorem o64 : okF Try.prog Try.f64=true:=by kernel_rfl
theorem g64 : Try.prog.funcs[(64 : Nat)]?=some Try.f64:=by kernel_rfl
def c65 : FCode:=(.seq (.run [.go (.move (.con (.slice none 0 0))) p4]) (.seq (.run [.go (.move a0) p13,
.go (.call (.con (.func (.func 64) ⟨[]⟩ ⟨[]⟩)) [a13]) p14,
.go (.move a1) p15,
.go (.move a14) p5,
.go (.move a15) p6]) (.seq (.run [.go (.move (.con (.slice none 0 0))) p7,
.go (.move (.con (.slice none 0 0))) p8]) (.seq (.seq (.run [.go (.move a0) p16,
.go (.len 0 a16) p17,
.go (.move (.con z0)) p18]) (.block 0 (.loop (.seq (.run [.go (.bin .lss 3 a18 a17) p19]) (.seq (.cond a19 .skip (.exit 0)) (.seq (.block 1 (.seq (.run [.go (.indexAddr none 1 a16 a18) p20,
.go (.load1 a20) p21,
.go (.move a21) p10]) (.seq (.run [.go (.move a1) p22,
.go (.move a10) p23,
.go (.bin .mul 3 a22 a23) p24,
.go (.move a5) p25,
.go (.bin .quo 3 a24 a25) p26,
.go (.move a26) p11]) (.seq (.run [.go (.move a6) p27,
.go (.move a11) p28,
.go (.bin .sub 3 a27 a28) p29,
.go (.move a29) p6]) (.seq (.run [.go (.move a7) p30,
.go (.move a11) p31,
.go (.buildSlice 3 1 [z0] [(0,1,a31)]) p32,
.go (.append 3 1 8 a30 a32) p33,
.go (.move a33) p7]) (.run [.go (.move a8) p34,
.go (.move a11) p35,
.go (.bin .add 3 a35 (.con (.int .i64 (.ofNat 1)))) p36,
.go (.move a5) p37,
.go (.bin .mul 3 a36 a37) p38,
.go (.move a1) p39,
.go (.move a10) p40,
.go (.bin .mul 3 a39 a40) p41,
.go (.bin .sub 3 a38 a41) p42,
.go (.buildSlice 3 1 [z0] [(0,1,a42)]) p43,
.go (.append 3 1 8 a34 a43) p44,
.go (.move a44) p8])))))) (.run [.go (.bin .add 3 a18 (.con (.int .i64 (.ofNat 1)))) p45,
.go (.move a45) p18]))))))) (.seq (.seq (.run [.go (.move a6) p46,
.go (.move (.con z0)) p47]) (.block 2 (.loop (.seq (.run [.go (.bin .lss 3 a47 a46) p48]) (.seq (.cond a48 .skip (.exit 2)) (.seq (.block 3 (.seq (.draw 9 [.go (.move a8) p49,
.go (.move a8) p50,
.go (.indexAddr none 1 a50 (.con z0)) p51,
.go (.load1 a51) p52,
.go (.move a8) p53,
.go (.slice 3 1 a53 (some (.con (.int .i64 (.ofNat 1)))) none) p54,
.go (.call (.con (.func (.func 80) ⟨[]⟩ ⟨[]⟩)) [a52,a54]) p55,
.go (.call (.con (.func (.func 79) ⟨[]⟩ ⟨[]⟩)) [a49,a55]) p56,
.go (.move a56) p12] [.ok,.ok,.ok,.ok,.ok,.ok,.ok,.ok,.ok]) (.seq (.run [.go (.move a7) p57,
.go (.move a12) p58,
.go (.indexAddr none 1 a57 a58) p59,
.go (.load1 a59) p60,
.go (.bin .add 3 a60 (.con (.int .i64 (.ofNat 1)))) p61,
.go (.indexAddr none 1 a57 a58) p62,
.un (.store 1 a62 a61)]) (.run [.go (.move a8) p63,
.go (.move a12) p64,
.go (.indexAddr none 1 a63 a64) p65,
.go (.load1 a65) p66,
.go (.move a5) p67,
.go (.bin .add 3 a66 a67) p68,
.go (.indexAddr none 1 a63 a64) p69,
.un (.store 1 a69 a68)])))) (.run [.go (.bin .add 3 a47 (.con (.int .i64 (.ofNat 1)))) p70,
.go (.move a70) p47]))))))) (.seq (.run [.go (.move a7) p71,
.go (.move a71) p4]) .ret))))))
def f65 : FFunc:=.mk c65 u32 [p0,p1] [.tmp p4]
theorem e65 : @compF Try.prog (Gl.none Try.prog) Try.f65 2=f65:=by kernel_rfl
theorem o65 : okF Try.prog Try.f65=true:=by kernel_rfl
theorem g65 : Try.prog.funcs[(65 : Nat)]?=some Try.f65:=by kernel_rfl
def c66 : FCode:=(.seq (.run [.go (.move (.con (.bool false))) p4]) (.seq (.seq (.run [.go (.move a0) p7,
.go (.len 0 a7) p8,
.go (.move (.con z0)) p9]) (.block 0 (.loop (.seq (.run [.go (.bin .lss 3 a9 a8) p10]) (.seq (.cond a10 .skip (.exit 0)) (.seq (.block 1 (.seq (.run [.go (.indexAddr none 1 a7 a9) p11,
.go (.load1 a11) p12,
.go (.move a12) p6]) (.seq (.run [.go (.move a1) p13,
.go (.move a6) p14,
.go (.call a13 [a14]) p15,
.go (.un .not a15) p16]) (.cond a16 (.seq (.run [.go (.move (.con (.bool false))) p4]) .ret) .skip)))) (.run [.go (.bin .add 3 a9 (.con (.int .i64 (.ofNat 1)))) p17,
.go (.move a17) p9]))))))) (.seq (.run [.go (.move (.con (.bool true))) p4]) .ret)))
def f66 : FFunc:=.mk c66 u25 [p0,p1] [.tmp p4]
theorem e66 : @compF Try.prog (Gl.none Try.prog) Try.f66 2=f66:=by kernel_rfl
theorem o66 : okF Try.prog Try.f66=true:=by kernel_rfl
theorem g66 : Try.prog.funcs[(66 : Nat)]?=some Try.f66:=by kernel_rfl
def c67 : FCode:=(.seq (.run [.go (.move (.con (.bool false))) p2]) (.seq (.run [.go (.move a0) p3,
.go (.len 0 a3) p4,
.go (.bin .leq 3 a4 (.con (.int .i64 (.ofNat 4)))) p5,
.go (.move a5) p2]) .ret))
def f67 : FFunc:=.mk c67 u3 [p0] [.tmp p2]
theorem e67 : @compF Try.prog (Gl.none Try.prog) Try.f67 1=f67:=by kernel_rfl
theorem o67 : okF Try.prog Try.f67=true:=by kernel_rfl
theorem g67 : Try.prog.funcs[(67 : Nat)]?=some Try.f67:=by kernel_rfl
def c68 : FCode:=(.seq (.run [.go (.box 33 a0) p1,
.go (.move (.con z0)) p2]) (.seq (.seq (.run [.go (.fieldAddr 1 a1) p3,
.go (.load1 a3) p4,
.go (.len 0 a4) p5,
.go (.bin .eql 3 a5 (.con z0)) p6]) (.cond a6 (.seq (.run [.go (.move (.con z0)) p2]) .ret) .skip)) (.seq (.run [.go (.fieldAddr 1 a1) p7,
.go (.load1 a7) p8,
.go (.indexAddr none 1 a8 (.con z0)) p9,
.go (.load1 a9) p10,
.go (.len 0 a10) p11,
.go (.move a11) p2]) .ret)))
def f68 : FFunc:=.mk c68 u5 [p0] [.tmp p2]
theorem e68 : @compF Try.prog (Gl.none Try.prog) Try.f68 1=f68:=by kernel_rfl
theorem o68 : okF Try.prog Try.f68=true:=by kernel_rfl
theorem g68 : Try.prog.funcs[(68 : Nat)]?=some Try.f68:=by kernel_rfl
def c69 : FCode:=(.seq (.run [.go (.box 33 a0) p2,
.go (.box 59 a1) p3,
.go (.move (.con .nilFunc)) p4]) (.seq (.run [.go (.loadN 2 a3) p6,
.go (.makeFunc 59 [a6] []) p7,
.go (.alloc 100 [.nilFunc]) p5,
.un (.store 1 a5 a7)]) (.seq (.run [.go (.makeFunc 81 [] [a2,a5]) p8,
.go (.move a8) p4]) .ret)))
def f69 : FFunc:=.mk c69 u24 [p0,p1] [.tmp p4]
theorem e69 : @compF Try.prog (Gl.none Try.prog) Try.f69 2=f69:=by kernel_rfl
theorem o69 : okF Try.prog Try.f69=true:=by kernel_rfl
theorem g69 : Try.prog.funcs[(69 : Nat)]?=some Try.f69:=by kernel_rfl
def c70 : FCode:=(.seq (.run [.go (.move (.con (.bool false))) p4]) (.seq (.seq (.run [.go (.move a0) p7,
.go (.len 0 a7) p8,
.go (.move (.con z0)) p9]) (.block 0 (.loop (.seq (.run [.go (.bin .lss 3 a9 a8) p10]) (.seq (.cond a10 .skip (.exit 0)) (.seq (.block 1 (.seq (.run [.go (.indexAddr none 3 a7 a9) p11,
.go (.loadN 3 a11) p12,
.go (.alloc 83 [z0,z0,z0]) p6,
.un (.store 3 a6 a12)]) (.seq (.run [.go (.move a1) p13,
.go (.loadN 3 a6) p14,
.go (.call a13 [a14]) p15,
.go (.un .not a15) p16]) (.cond a16 (.seq (.run [.go (.move (.con (.bool false))) p4]) .ret) .skip)))) (.run [.go (.bin .add 3 a9 (.con (.int .i64 (.ofNat 1)))) p17,
.go (.move a17) p9]))))))) (.seq (.run [.go (.move (.con (.bool true))) p4]) .ret)))
def f70 : FFunc:=.mk c70 u25 [p0,p1] [.tmp p4]
theorem e70 : @compF Try.prog (Gl.none Try.prog) Try.f70 2=f70:=by kernel_rfl
theorem o70 : okF Try.prog Try.f70=true:=by kernel_rfl
theorem g70 : Try.prog.funcs[(70 : Nat)]?=some Try.f70:=by kernel_rfl
def c71 : FCode:=(.seq (.run [.go (.box 33 a0) p2,
.go (.box 83 a1) p3,
.go (.move (.con (.bool false))) p4]) (.seq (.draw 30 [.go (.fieldAddr 0 a3) p5,
.go (.load1 a5) p6,
.go (.bin .leq 3 (.con z0) a6) p7,
.go (.move a7) p8,
.gd p8 true (.fieldAddr 0 a3) p9,
.gd p8 true (.load1 a9) p10,
.gd p8 true (.fieldAddr 1 a2) p11,
.gd p8 true (.load1 a11) p12,
.gd p8 true (.len 0 a12) p13,
.gd p8 true (.bin .lss 3 a10 a13) p14,
.go (.pick a8 a14 (.con (.bool false))) p15,
.go (.move a15) p16,
.gd p16 true (.fieldAddr 1 a3) p17,
.gd p16 true (.load1 a17) p18,
.gd p16 true (.bin .leq 3 (.con z0) a18) p19,
.go (.pick a16 a19 (.con (.bool false))) p20,
.go (.move a20) p21,
.gd p21 true (.fieldAddr 1 a3) p22,
.gd p21 true (.load1 a22) p23,
.gd p21 true (.loadN 3 a2) p24,
.gd p21 true (.call (.con (.func (.func 68) ⟨[]⟩ ⟨[]⟩)) [a24]) p25,
.gd p21 true (.bin .lss 3 a23 a25) p26,
.go (.pick a21 a26 (.con (.bool false))) p27,
.go (.move a27) p28,
.gd p28 true (.call (.con (.func (.func 60) ⟨[]⟩ ⟨[]⟩)) []) p29,
.gd p28 true (.fieldAddr 2 a3) p30,
.gd p28 true (.load1 a30) p31,
.gd p28 true (.call (.con (.func (.func 59) ⟨[]⟩ ⟨[]⟩)) [a29,a31]) p32,
.go (.pick a28 a32 (.con (.bool false))) p33,
.go (.move a33) p4] [.ok,.ok,.ok,.ok,.ok,.ok,.ok,.ok,.ok,.ok,.ok,.ok,.ok,.ok,.ok,.ok,.ok,.ok,.rd (some (p21,true)) (.load1 a22) (some p23) [21],.ok,.ok,.ok,.ok,.ok,.ok,.ok,.rd (some (p28,true)) (.load1 a30) (some p31) [21],.ok,.ok,.ok]) .ret))
def f71 : FFunc:=.mk c71 u21 [p0,p1] [.tmp p4]
theorem e71 : @compF Try.prog (Gl.none Try.prog) Try.f71 2=f71:=by kernel_rfl
theorem o71 : okF Try.prog Try.f71=true:=by kernel_rfl
theorem g71 : Try.prog.funcs[(71 : Nat)]?=some Try.f71:=by kernel_rfl
def c72 : FCode:=(.seq (.run [.go (.move (.con z0)) p4]) (.seq (.run [.go (.move (.con z0)) p5]) (.seq (.seq (.run [.go (.move a0) p8,
.go (.len 0 a8) p9,
.go (.move (.con z0)) p10]) (.block 0 (.loop (.seq (.run [.go (.bin .lss 3 a10 a9) p11]) (.seq (.cond a11 .skip (.exit 0)) (.seq (.block 1 (.seq (.run [.go (.move a10) p12,
.go (.indexAddr none 1 a8 a10) p13,
.go (.load1 a13) p14,
.go (.move a12) p6,
.go (.move a14) p7]) (.draw 16 [.go (.move a5) p15,
.go (.move a7) p16,
.go (.move a1) p17,
.go (.move a6) p18,
.go (.indexAddr none 1 a17 a18) p19,
.go (.load1 a19) p20,
.go (.bin .sub 3 a16 a20) p21,
.go (.move a1) p22,
.go (.move a6) p23,
.go (.indexAddr none 1 a22 a23) p24,
.go (.load1 a24) p25,
.go (.move a7) p26,
.go (.bin .sub 3 a25 a26) p27,
.go (.mm true [a21,a27]) p28,
.go (.bin .add 3 a15 a28) p29,
.go (.move a29) p5] [.ok,.ok,.ok,.ok,.ok,.ok,.ok,.ok,.ok,.ok,.ok,.ok,.ok,.ok,.ok,.ok]))) (.run [.go (.bin .add 3 a10 (.con (.int .i64 (.ofNat 1)))) p30,
.go (.move a30) p10]))))))) (.seq (.run [.go (.move a5) p31,
.go (.move a31) p4]) .ret))))
def f72 : FFunc:=.mk c72 u33 [p0,p1] [.tmp p4]
theorem e72 : @compF Try.prog (Gl.none Try.prog) Try.f72 2=f72:=by kernel_rfl
theorem o72 : okF Try.prog Try.f72=true:=by kernel_rfl
theorem g72 : Try.prog.funcs[(72 : Nat)]?=some Try.f72:=by kernel_rfl
def c73 : FCode:=(.seq (.run [.go (.move (.con (.slice none 0 0))) p0]) (.seq (.run [.go (.build [.nilFunc] [(0,1,(.con (.func (.func 82) ⟨[]⟩ ⟨[]⟩)))]) p1,
.go (.build [.nilFunc] [(0,1,(.con (.func (.func 83) ⟨[]⟩ ⟨[]⟩)))]) p2,
.go (.buildSlice 121 2 [.nilFunc,.nilFunc] [(0,1,a1),(1,1,a2)]) p3,
.go (.move a3) p0]) .ret))
def f73 : FFunc:=.mk c73 u11 [] [.tmp p0]
theorem e73 : @compF Try.prog (Gl.none Try.prog) Try.f73 0=f73:=by kernel_rfl
theorem o73 : okF Try.prog Try.f73=true:=by kernel_rfl
theorem g73 : Try.prog.funcs[(73 : Nat)]?=some Try.f73:=by kernel_rfl
def c74 : FCode:=(.seq (.run [.go (.box 87 a0) p2,
.go (.alloc 87 [z0,z0,z0,z0]) p4]) (.seq (.seq (.run [.go (.move a1) p7,
.go (.len 0 a7) p8,
.go (.move (.con z0)) p9]) (.block 0 (.loop (.seq (.run [.go (.bin .lss 3 a9 a8) p10]) (.seq (.cond a10 .skip (.exit 0)) (.seq (.block 1 (.seq (.run [.go (.move a9) p11,
.go (.indexAddr none 1 a7 a9) p12,
.go (.load1 a12) p13,
.go (.move a11) p5,
.go (.move a13) p6]) (.run [.go (.move a5) p14,
.go (.indexAddr (some 4) 1 a2 a14) p15,
.go (.load1 a15) p16,
.go (.move a6) p17,
.go (.bin .add 3 a16 a17) p18,
.go (.indexAddr (some 4) 1 a2 a14) p19,
.un (.store 1 a19 a18)]))) (.run [.go (.bin .add 3 a9 (.con (.int .i64 (.ofNat 1)))) p20,
.go (.move a20) p9]))))))) (.seq (.run [.go (.loadN 4 a2) p21,
.un (.store 4 a4 a21)]) .ret)))
def f74 : FFunc:=.mk c74 u16 [p0,p1] [.many p4 4]
theorem e74 : @compF Try.prog (Gl.none Try.prog) Try.f74 2=f74:=by kernel_rfl
theorem o74 : okF Try.prog Try.f74=true:=by kernel_rfl
theorem g74 : Try.prog.funcs[(74 : Nat)]?=some Try.f74:=by kernel_rfl
def c75 : FCode:=(.seq (.run [.go (.box 89 a0) p3,
.go (.move (.con (.bool false))) p6]) (.seq (.run [.go (.loadN 8 a3) p7,
.go (.move a2) p8,
.go (.call (.con (.func (.func 85) ⟨[]⟩ ⟨[]⟩)) [a7,a8]) p9,
.go (.move a1) p10,
.go (.call (.con (.func (.func 84) ⟨[]⟩ ⟨[]⟩)) [a9,a10]) p11,
.go (.move a11) p6]) .ret))
def f75 : FFunc:=.mk c75 u5 [p0,p1,p2] [.tmp p6]
theorem e75 : @compF Try.prog (Gl.none Try.prog) Try.f75 3=f75:=by kernel_rfl
theorem o75 : okF Try.prog Try.f75=true:=by kernel_rfl
theorem g75 : Try.prog.funcs[(75 : Nat)]?=some Try.f75:=by kernel_rfl
def c76 : FCode:=(.seq (.run [.go (.box 89 a0) p3,
.go (.move (.con (.bool false))) p6]) (.seq (.draw 19 [.go (.loadN 8 a3) p7,
.go (.move a2) p8,
.go (.call (.con (.func (.func 64) ⟨[]⟩ ⟨[]⟩)) [a8]) p9,
.go (.fieldAddr 0 a3) p10,
.go (.fieldAddr 1 a10) p11,
.go (.load1 a11) p12,
.go (.move a1) p13,
.go (.indexAddr none 1 a12 a13) p14,
.go (.load1 a14) p15,
.go (.call (.con (.func (.func 64) ⟨[]⟩ ⟨[]⟩)) [a15]) p16,
.go (.call (.con (.func (.func 75) ⟨[]⟩ ⟨[]⟩)) [a7,a9,a16]) p17,
.go (.move a17) p18,
.gd p18 true (.fieldAddr 0 a3) p19,
.gd p18 true (.loadN 3 a19) p20,
.gd p18 true (.move a1) p21,
.gd p18 true (.move a2) p22,
.gd p18 true (.call (.con (.func (.func 86) ⟨[]⟩ ⟨[]⟩)) [a20,a21,a22]) p23,
.go (.pick a18 a23 (.con (.bool false))) p24,
.go (.move a24) p6] [.rd none (.loadN 8 a3) (some p7) [3,10],.ok,.ok,.ok,.ok,.rd none (.load1 a11) (some p12) [0],.ok,.ok,.rd none (.load1 a14) (some p15) [0],.ok,.ok,.ok,.ok,.ok,.ok,.ok,.ok,.ok,.ok]) .ret))
def f76 : FFunc:=.mk c76 u6 [p0,p1,p2] [.tmp p6]
theorem e76 : @compF Try.prog (Gl.none Try.prog) Try.f76 3=f76:=by kernel_rfl
theorem o76 : okF Try.prog Try.f76=true:=by kernel_rfl
theorem g76 : Try.prog.funcs[(76 : Nat)]?=some Try.f76:=by kernel_rfl
def c77 : FCode:=(.seq (.run [.go (.box 89 a0) p2,
.go (.box 87 a1) p3,
.go (.move (.con (.bool false))) p4]) (.seq (.seq (.run [.go (.loadN 4 a3) p7,
.go (.move (.con z0)) p8]) (.block 0 (.loop (.seq (.run [.go (.bin .lss 3 a8 (.con (.int .i64 (.ofNat 4)))) p9]) (.seq (.cond a9 .skip (.exit 0)) (.seq (.block 1 (.seq (.run [.go (.move a8) p10,
.go (.index 4 1 true a7 a8) p11,
.go (.move a10) p5,
.go (.move a11) p6]) (.seq (.draw 8 [.go (.loadN 8 a2) p12,
.go (.move a6) p13,
.go (.move a5) p14,
.go (.fieldAddr 4 a2) p15,
.go (.indexAddr (some 4) 1 a15 a14) p16,
.go (.load1 a16) p17,
.go (.call (.con (.func (.func 75) ⟨[]⟩ ⟨[]⟩)) [a12,a13,a17]) p18,
.go (.un .not a18) p19] [.ok,.ok,.ok,.ok,.ok,.ok,.ok,.ok]) (.cond a19 (.seq (.run [.go (.move (.con (.bool false))) p4]) .ret) .skip)))) (.run [.go (.bin .add 3 a8 (.con (.int .i64 (.ofNat 1)))) p20,
.go (.move a20) p8]))))))) (.seq (.draw 8 [.go (.loadN 8 a2) p21,
.go (.sliceSlow 87 a3 none none) p22,
.go (.call (.con (.func (.func 64) ⟨[]⟩ ⟨[]⟩)) [a22]) p23,
.go (.fieldAddr 4 a2) p24,
.go (.sliceSlow 87 a24 none none) p25,
.go (.call (.con (.func (.func 64) ⟨[]⟩ ⟨[]⟩)) [a25]) p26,
.go (.call (.con (.func (.func 75) ⟨[]⟩ ⟨[]⟩)) [a21,a23,a26]) p27,
.go (.move a27) p4] [.rd none (.loadN 8 a2) (some p21) [3,6],.ok,.ok,.ok,.rd none (.sliceSlow 87 a24 none none) (some p25) [0],.ok,.ok,.ok]) .ret)))
def f77 : FFunc:=.mk c77 u34 [p0,p1] [.tmp p4]
theorem e77 : @compF Try.prog (Gl.none Try.prog) Try.f77 2=f77:=by kernel_rfl
theorem o77 : okF Try.prog Try.f77=true:=by kernel_rfl
theorem g77 : Try.prog.funcs[(77 : Nat)]?=some Try.f77:=by kernel_rfl
def c78 : FCode:=(.seq (.run [.go (.box 89 a0) p1,
.go (.alloc 94 [z0,z0,(.slice none 0 0)]) p2,
.go (.alloc 48 [(.slice none 0 0)]) p3]) (.seq (.run [.go (.loadN 8 a1) p6,
.go (.call (.con (.func (.func 87) ⟨[]⟩ ⟨[]⟩)) [a6]) p7,
.un (.store 1 a3 a7)]) (.seq (.run [.go (.makeMap 127) p8,
.go (.alloc 124 [(.map none)]) p4,
.un (.store 1 a4 a8)]) (.seq (.run [.go (.alloc 125 [.nilFunc]) p5]) (.seq (.run [.go (.makeFunc 88 [] [a1,a4,a5,a3]) p9,
.un (.store 1 a5 a9)]) (.seq (.draw 6 [.go (.load1 a5) p10,
.go (.build [z0,z0,z0,z0,z0] []) p11,
.go (.call a10 [a11]) p12,
.go (.load1 a3) p13,
.un (.store 3 a2 a12),
.un (.store 1 a3 a13)] [.ok,.ok,.ok,.rd none (.load1 a3) (some p13) [0,5],.ok,.ok]) .ret))))))
def f78 : FFunc:=.mk c78 u22 [p0] [.many p2 3,.one p3]
theorem e78 : @compF Try.prog (Gl.none Try.prog) Try.f78 1=f78:=by kernel_rfl
theorem o78 : okF Try.prog Try.f78=true:=by kernel_rfl
theorem g78 : Try.prog.funcs[(78 : Nat)]?=some Try.f78:=by kernel_rfl
def c79 : FCode:=(.seq (.run [.go (.move (.con z0)) p4]) (.seq (.seq (.run [.go (.move a0) p6,
.go (.len 0 a6) p7,
.go (.move (.con z0)) p8]) (.block 0 (.loop (.seq (.run [.go (.bin .lss 3 a8 a7) p9]) (.seq (.cond a9 .skip (.exit 0)) (.seq (.block 1 (.seq (.run [.go (.move a8) p10,
.go (.move a10) p5]) (.seq (.run [.go (.move a1) p11,
.go (.move a0) p12,
.go (.move a5) p13,
.go (.indexAddr none 1 a12 a13) p14,
.go (.load1 a14) p15,
.go (.bin .eql 3 a11 a15) p16]) (.cond a16 (.seq (.run [.go (.move a5) p17,
.go (.move a17) p4]) .ret) .skip)))) (.run [.go (.bin .add 3 a8 (.con (.int .i64 (.ofNat 1)))) p18,
.go (.move a18) p8]))))))) (.seq (.run [.go (.move (.con (.int .i64 (.negSucc 0)))) p4]) .ret)))
def f79 : FFunc:=.mk c79 u35 [p0,p1] [.tmp p4]
theorem e79 : @compF Try.prog (Gl.none Try.prog) Try.f79 2=f79:=by kernel_rfl
theorem o79 : okF Try.prog Try.f79=true:=by kernel_rfl
theorem g79 : Try.prog.funcs[(79 : Nat)]?=some Try.f79:=by kernel_rfl
def c80 : FCode:=(.seq (.run [.go (.move (.con z0)) p4]) (.seq (.seq (.run [.go (.move a1) p7,
.go (.len 0 a7) p8,
.go (.move (.con z0)) p9]) (.block 0 (.loop (.seq (.run [.go (.bin .lss 3 a9 a8) p10]) (.seq (.cond a10 .skip (.exit 0)) (.seq (.block 1 (.seq (.run [.go (.indexAddr none 1 a7 a9) p11,
.go (.load1 a11) p12,
.go (.move a12) p6]) (.run [.go (.move a0) p13,
.go (.move a6) p14,
.go (.mm false [a13,a14]) p15,
.go (.move a15) p0]))) (.run [.go (.bin .add 3 a9 (.con (.int .i64 (.ofNat 1)))) p16,
.go (.move a16) p9]))))))) (.seq (.run [.go (.move a0) p17,
.go (.move a17) p4]) .ret)))
def f80 : FFunc:=.mk c80 u25 [p0,p1] [.tmp p4]
theorem e80 : @compF Try.prog (Gl.none Try.prog) Try.f80 2=f80:=by kernel_rfl
theorem o80 : okF Try.prog Try.f80=true:=by kernel_rfl
theorem g80 : Try.prog.funcs[(80 : Nat)]?=some Try.f80:=by kernel_rfl
def c81 : FCode:=(.seq (.run [.go (.move (.con (.bool false))) p4]) (.seq (.run [.go (.move a0) p5,
.go (.len 0 a5) p6,
.go (.loadN 3 a1) p7,
.go (.call (.con (.func (.func 68) ⟨[]⟩ ⟨[]⟩)) [a7]) p8,
.go (.bin .eql 3 a6 a8) p9,
.go (.move a9) p10,
.gd p10 true (.move a0) p11,
.gd p10 true (.load1 a2) p12,
.gd p10 true (.call (.con (.func (.func 61) ⟨[]⟩ ⟨[]⟩)) [a11,a12]) p13,
.go (.pick a10 a13 (.con (.bool false))) p14,
.go (.move a14) p4]) .ret))
def f81 : FFunc:=.mk c81 u29 [p0,p1,p2] [.tmp p4]
theorem e81 : @compF Try.prog (Gl.none Try.prog) Try.f81 3=f81:=by kernel_rfl
theorem o81 : okF Try.prog Try.f81=true:=by kernel_rfl
theorem g81 : Try.prog.funcs[(81 : Nat)]?=some Try.f81:=by kernel_rfl
def c82 : FCode:=(.seq (.run [.go (.box 33 a0) p2,
.go (.move (.con z0)) p4]) (.seq (.run [.go (.move a1) p5,
.go (.move a1) p6,
.go (.fieldAddr 0 a2) p7,
.go (.load1 a7) p8,
.go (.bin .rem 3 a6 a8) p9,
.go (.bin .sub 3 a5 a9) p10,
.go (.move a10) p4]) .ret))
def f82 : FFunc:=.mk c82 u7 [p0,p1] [.tmp p4]
theorem e82 : @compF Try.prog (Gl.none Try.prog) Try.f82 2=f82:=by kernel_rfl
theorem o82 : okF Try.prog Try.f82=true:=by kernel_rfl
theorem g82 : Try.prog.funcs[(82 : Nat)]?=some Try.f82:=by kernel_rfl
def c83 : FCode:=(.seq (.run [.go (.box 33 a0) p2,
.go (.move (.con z0)) p4]) (.seq (.run [.go (.loadN 3 a2) p5,
.go (.move a1) p6,
.go (.fieldAddr 0 a2) p7,
.go (.load1 a7) p8,
.go (.bin .add 3 a6 a8) p9,
.go (.bin .sub 3 a9 (.con (.int .i64 (.ofNat 1)))) p10,
.go (.call (.con (.func (.func 82) ⟨[]⟩ ⟨[]⟩)) [a5,a10]) p11,
.go (.move a11) p4]) .ret))
def f83 : FFunc:=.mk c83 u5 [p0,p1] [.tmp p4]
theorem e83 : @compF Try.prog (Gl.none Try.prog) Try.f83 2=f83:=by kernel_rfl
theorem o83 : okF Try.prog Try.f83=true:=by kernel_rfl
theorem g83 : Try.prog.funcs[(83 : Nat)]?=some Try.f83:=by kernel_rfl
def c84 : FCode:=(.seq (.run [.go (.move (.con (.bool false))) p4]) (.seq (.run [.go (.move a0) p5,
.go (.move a1) p6,
.go (.call (.con (.func (.func 79) ⟨[]⟩ ⟨[]⟩)) [a5,a6]) p7,
.go (.bin .geq 3 a7 (.con z0)) p8,
.go (.move a8) p4]) .ret))
def f84 : FFunc:=.mk c84 u24 [p0,p1] [.tmp p4]
theorem e84 : @compF Try.prog (Gl.none Try.prog) Try.f84 2=f84:=by kernel_rfl
theorem o84 : okF Try.prog Try.f84=true:=by kernel_rfl
theorem g84 : Try.prog.funcs[(84 : Nat)]?=some Try.f84:=by kernel_rfl
def c85 : FCode:=(.seq (.run [.go (.box 89 a0) p2,
.go (.move (.con (.slice none 0 0))) p4]) (.seq (.run [.go (.move (.con (.slice none 0 0))) p5]) (.seq (.seq (.run [.go (.fieldAddr 3 a2) p8,
.go (.load1 a8) p9,
.go (.len 0 a9) p10,
.go (.move (.con z0)) p11]) (.block 0 (.loop (.seq (.run [.go (.bin .lss 3 a11 a10) p12]) (.seq (.cond a12 .skip (.exit 0)) (.seq (.block 1 (.seq (.run [.go (.indexAddr none 1 a9 a11) p13,
.go (.loadN 1 a13) p14,
.go (.alloc 121 [.nilFunc]) p7,
.un (.store 1 a7 a14)]) (.run [.go (.move a5) p15,
.go (.fieldAddr 0 a7) p16,
.go (.load1 a16) p17,
.go (.fieldAddr 0 a2) p18,
.go (.loadN 3 a18) p19,
.go (.move a1) p20,
.go (.call a17 [a19,a20]) p21,
.go (.buildSlice 3 1 [z0] [(0,1,a21)]) p22,
.go (.append 3 1 8 a15 a22) p23,
.go (.move a23) p5]))) (.run [.go (.bin .add 3 a11 (.con (.int .i64 (.ofNat 1)))) p24,
.go (.move a24) p11]))))))) (.seq (.run [.go (.move a5) p25,
.go (.call (.con (.func (.func 93) ⟨[]⟩ ⟨[]⟩)) [a25]) p26,
.go (.move a26) p4]) .ret))))
def f85 : FFunc:=.mk c85 u26 [p0,p1] [.tmp p4]
theorem e85 : @compF Try.prog (Gl.none Try.prog) Try.f85 2=f85:=by kernel_rfl
theorem o85 : okF Try.prog Try.f85=true:=by kernel_rfl
theorem g85 : Try.prog.funcs[(85 : Nat)]?=some Try.f85:=by kernel_rfl
def c86 : FCode:=(.seq (.run [.go (.box 33 a0) p3,
.go (.move (.con (.bool false))) p6]) (.scope (.seq (.run [.go (.move (.con (.bool true))) p7]) (.seq .skip (.seq (.seq (.run [.go (.move a2) p12,
.go (.len 0 a12) p13,
.go (.move (.con z0)) p14]) (.block 0 (.loop (.seq (.run [.go (.bin .lss 3 a14 a13) p15]) (.seq (.cond a15 .skip (.exit 0)) (.seq (.block 1 (.seq (.run [.go (.move a14) p16,
.go (.indexAddr none 1 a12 a14) p17,
.go (.load1 a17) p18,
.go (.move a16) p8,
.go (.move a18) p9]) (.seq (.run [.go (.fieldAddr 2 a3) p19,
.go (.load1 a19) p20,
.go (.len 0 a20) p21,
.go (.move (.con z0)) p22]) (.block 2 (.loop (.seq (.run [.go (.bin .lss 3 a22 a21) p23]) (.seq (.cond a23 .skip (.exit 2)) (.seq (.block 3 (.seq (.run [.go (.indexAddr none 3 a20 a22) p24,
.go (.loadN 3 a24) p25,
.go (.alloc 83 [z0,z0,z0]) p11,
.un (.store 3 a11 a25)]) (.seq (.run [.go (.fieldAddr 0 a11) p26,
.go (.load1 a26) p27,
.go (.move a1) p28,
.go (.bin .eql 3 a27 a28) p29,
.go (.move a29) p30,
.gd p30 true (.fieldAddr 1 a11) p31,
.gd p30 true (.load1 a31) p32,
.gd p30 true (.move a8) p33,
.gd p30 true (.bin .eql 3 a32 a33) p34,
.go (.pick a30 a34 (.con (.bool false))) p35,
.go (.move a35) p36,
.gd p36 true (.fieldAddr 2 a11) p37,
.gd p36 true (.load1 a37) p38,
.gd p36 true (.move a9) p39,
.gd p36 true (.bin .neq 3 a38 a39) p40,
.go (.pick a36 a40 (.con (.bool false))) p41]) (.cond a41 (.seq (.run [.go (.move (.con (.bool false))) p7]) (.exit 0)) .skip)))) (.run [.go (.bin .add 3 a22 (.con (.int .i64 (.ofNat 1)))) p42,
.go (.move a42) p22]))))))))) (.run [.go (.bin .add 3 a14 (.con (.int .i64 (.ofNat 1)))) p43,
.go (.move a43) p14]))))))) (.seq (.run [.go (.move a7) p44,
.go (.move a44) p6]) .ret))))))
def f86 : FFunc:=.mk c86 u36 [p0,p1,p2] [.tmp p6]
theorem e86 : @compF Try.prog (Gl.none Try.prog) Try.f86 3=f86:=by kernel_rfl
theorem o86 : okF Try.prog Try.f86=true:=by kernel_rfl
theorem g86 : Try.prog.funcs[(86 : Nat)]?=some Try.f86:=by kernel_rfl
def c87 : FCode:=(.seq (.run [.go (.box 89 a0) p1,
.go (.move (.con (.slice none 0 0))) p2]) (.seq (.run [.go (.move (.con (.slice none 0 0))) p3]) (.seq (.seq (.run [.go (.fieldAddr 0 a1) p9,
.go (.fieldAddr 1 a9) p10,
.go (.load1 a10) p11,
.go (.len 0 a11) p12,
.go (.move (.con z0)) p13]) (.block 0 (.loop (.seq (.run [.go (.bin .lss 3 a13 a12) p14]) (.seq (.cond a14 .skip (.exit 0)) (.seq (.block 1 (.seq (.run [.go (.indexAddr none 1 a11 a13) p15,
.go (.load1 a15) p16,
.go (.move a16) p5]) (.seq (.run [.go (.move (.con (.slice none 0 0))) p6]) (.seq (.seq (.run [.go (.move a5) p17,
.go (.len 0 a17) p18,
.go (.move (.con z0)) p19]) (.block 2 (.loop (.seq (.run [.go (.bin .lss 3 a19 a18) p20]) (.seq (.cond a20 .skip (.exit 2)) (.seq (.block 3 (.seq (.run [.go (.indexAddr none 1 a17 a19) p21,
.go (.load1 a21) p22,
.go (.move a22) p8]) (.draw 13 [.go (.move a6) p23,
.go (.fieldAddr 0 a1) p24,
.go (.loadN 3 a24) p25,
.go (.move a8) p26,
.go (.call (.con (.func (.func 83) ⟨[]⟩ ⟨[]⟩)) [a25,a26]) p27,
.go (.fieldAddr 0 a1) p28,
.go (.loadN 3 a28) p29,
.go (.move a8) p30,
.go (.call (.con (.func (.func 82) ⟨[]⟩ ⟨[]⟩)) [a29,a30]) p31,
.go (.build [z0,z0] [(0,1,a27),(1,1,a31)]) p32,
.go (.buildSlice 59 1 [z0,z0] [(0,2,a32)]) p33,
.go (.append 59 2 16 a23 a33) p34,
.go (.move a34) p6] [.ok,.ok,.ok,.ok,.ok,.ok,.rd none (.loadN 3 a28) (some p29) [0],.ok,.ok,.ok,.ok,.ok,.ok]))) (.run [.go (.bin .add 3 a19 (.con (.int .i64 (.ofNat 1)))) p35,
.go (.move a35) p19]))))))) (.run [.go (.move a3) p36,
.go (.move a6) p37,
.go (.buildSlice 56 1 [(.slice none 0 0)] [(0,1,a37)]) p38,
.go (.append 56 1 24 a36 a38) p39,
.go (.move a39) p3]))))) (.run [.go (.bin .add 3 a13 (.con (.int .i64 (.ofNat 1)))) p40,
.go (.move a40) p13]))))))) (.seq (.run [.go (.move a3) p41,
.go (.move a41) p2]) .ret))))
def f87 : FFunc:=.mk c87 u38 [p0] [.tmp p2]
theorem e87 : @compF Try.prog (Gl.none Try.prog) Try.f87 1=f87:=by kernel_rfl
theorem o87 : okF Try.prog Try.f87=true:=by kernel_rfl
theorem g87 : Try.prog.funcs[(87 : Nat)]?=some Try.f87:=by kernel_rfl
def c88 : FCode:=(.seq (.run [.go (.box 127 a0) p5,
.go (.alloc 94 [z0,z0,(.slice none 0 0)]) p6]) (.seq (.seq (.run [.go (.fieldAddr 0 a5) p12,
.go (.load1 a12) p13,
.go (.fieldAddr 0 a1) p14,
.go (.fieldAddr 1 a14) p15,
.go (.load1 a15) p16,
.go (.len 0 a16) p17,
.go (.bin .eql 3 a13 a17) p18]) (.cond a18 (.seq (.run [.go (.loadN 8 a1) p19,
.go (.loadN 5 a5) p20,
.go (.call (.con (.func (.func 89) ⟨[]⟩ ⟨[]⟩)) [a19,a20]) p21,
.un (.store 3 a6 a21)]) .ret) .skip)) (.seq (.seq (.run [.go (.load1 a2) p23,
.go (.loadN 5 a5) p24,
.go (.lookup 127 (.agg ⟨[z0,z0,(.slice none 0 0)]⟩) a23 a24 true) p25,
.go (.move a25) p22,
.go (.extract a22 0) p26,
.go (.extract a22 1) p27,
.go (.alloc 94 [z0,z0,(.slice none 0 0)]) p7,
.un (.store 3 a7 a26),
.go (.move a27) p8]) (.seq (.run [.go (.move a8) p28]) (.cond a28 (.seq (.run [.go (.loadN 3 a7) p29,
.un (.store 3 a6 a29)]) .ret) .skip))) (.seq (.run [.go (.alloc 94 [z0,z0,(.slice none 0 0)]) p9]) (.seq (.seq (.run [.go (.loadN 8 a1) p30,
.go (.fieldAddr 0 a5) p31,
.go (.load1 a31) p32,
.go (.call (.con (.func (.func 90) ⟨[]⟩ ⟨[]⟩)) [a30,a32]) p33]) (.block 0 (.rangeFunc a33 [p34] (rfA Try.f88 0) (rfB Try.f88 0) (.run [.go (.move a34) p10]) (.block 1 (.seq (.draw 12 [.go (.load1 a3) p35,
.go (.fieldAddr 0 a5) p36,
.go (.load1 a36) p37,
.go (.bin .add 3 a37 (.con (.int .i64 (.ofNat 1)))) p38,
.go (.fieldAddr 1 a5) p39,
.go (.loadN 4 a39) p40,
.go (.move a10) p41,
.go (.call (.con (.func (.func 74) ⟨[]⟩ ⟨[]⟩)) [a40,a41]) p42,
.go (.build [z0,z0,z0,z0,z0] [(0,1,a38),(1,4,a42)]) p43,
.go (.call a35 [a43]) p44,
.go (.alloc 94 [z0,z0,(.slice none 0 0)]) p11,
.un (.store 3 a11 a44)] [.rd none (.load1 a3) (some p35) [8],.ok,.rd none (.load1 a36) (some p37) [8],.ok,.ok,.ok,.ok,.ok,.ok,.ok,.nw none (some p11) 10 true,.ok]) (.seq (.run [.go (.fieldAddr 0 a11) p45,
.go (.load1 a45) p46,
.go (.bin .gtr 3 a46 (.con z0)) p47]) (.cond a47 (.seq (.draw 14 [.go (.loadN 3 a9) p48,
.go (.move a10) p49,
.go (.fieldAddr 0 a1) p50,
.go (.fieldAddr 1 a50) p51,
.go (.load1 a51) p52,
.go (.fieldAddr 0 a5) p53,
.go (.load1 a53) p54,
.go (.indexAddr none 1 a52 a54) p55,
.go (.load1 a55) p56,
.go (.move a10) p57,
.go (.call (.con (.func (.func 72) ⟨[]⟩ ⟨[]⟩)) [a56,a57]) p58,
.go (.loadN 3 a11) p59,
.go (.call (.con (.func (.func 91) ⟨[]⟩ ⟨[]⟩)) [a48,a49,a58,a59]) p60,
.un (.store 3 a9 a60)] [.rd none (.loadN 3 a9) (some p48) [11],.ok,.ok,.ok,.ok,.ok,.ok,.ok,.ok,.ok,.ok,.rd none (.loadN 3 a11) (some p59) [0],.ok,.ok]) (.run [.go (.load1 a4) p61,
.go (.fieldAddr 0 a5) p62,
.go (.load1 a62) p63,
.go (.indexAddr none 1 a61 a63) p64,
.go (.load1 a64) p65,
.go (.move a10) p66,
.go (.call (.con (.func (.func 92) ⟨[]⟩ ⟨[]⟩)) [a65,a66]) p67])) .skip))))))) (.seq (.run [.go (.load1 a2) p68,
.go (.loadN 5 a5) p69,
.go (.loadN 3 a9) p70,
.un (.mapUpdate 127 a68 a69 a70)]) (.seq (.run [.go (.loadN 3 a9) p71,
.un (.store 3 a6 a71)]) .ret)))))))
def f88 : FFunc:=.mk c88 u32 [p0,p1,p2,p3,p4] [.many p6 3]
theorem e88 : @compF Try.prog (Gl.none Try.prog) Try.f88 5=f88:=by kernel_rfl
theorem o88 : okF Try.prog Try.f88=true:=by kernel_rfl
theorem g88 : Try.prog.funcs[(88 : Nat)]?=some Try.f88:=by kernel_rfl
def c89 : FCode:=(.seq (.run [.go (.box 89 a0) p2,
.go (.box 127 a1) p3,
.go (.alloc 94 [z0,z0,(.slice none 0 0)]) p4]) (.seq (.seq (.run [.go (.loadN 8 a2) p5,
.go (.fieldAddr 1 a3) p6,
.go (.loadN 4 a6) p7,
.go (.call (.con (.func (.func 77) ⟨[]⟩ ⟨[]⟩)) [a5,a7]) p8,
.go (.un .not a8) p9]) (.cond a9 (.seq (.run [.go (.build [z0,z0,(.slice none 0 0)] []) p10,
.un (.store 3 a4 a10)]) .ret) .skip)) (.seq (.run [.go (.build [z0,z0,(.slice none 0 0)] [(0,1,(.con (.int .i64 (.ofNat 1))))]) p11,
.un (.store 3 a4 a11)]) .ret)))
def f89 : FFunc:=.mk c89 u5 [p0,p1] [.many p4 3]
theorem e89 : @compF Try.prog (Gl.none Try.prog) Try.f89 2=f89:=by kernel_rfl
theorem o89 : okF Try.prog Try.f89=true:=by kernel_rfl
theorem g89 : Try.prog.funcs[(89 : Nat)]?=some Try.f89:=by kernel_rfl
def c90 : FCode:=(.seq (.run [.go (.box 89 a0) p2,
.go (.box 3 a1) p3,
.go (.move (.con .nilFunc)) p4]) (.seq (.run [.go (.makeFunc 94 [] [a2,a3]) p5,
.go (.move a5) p4]) .ret))
def f90 : FFunc:=.mk c90 u3 [p0,p1] [.tmp p4]
theorem e90 : @compF Try.prog (Gl.none Try.prog) Try.f90 2=f90:=by kernel_rfl
theorem o90 : okF Try.prog Try.f90=true:=by kernel_rfl
theorem g90 : Try.prog.funcs[(90 : Nat)]?=some Try.f90:=by kernel_rfl
def c91 : FCode:=(.seq (.run [.go (.box 94 a0) p4,
.go (.box 94 a3) p7,
.go (.alloc 94 [z0,z0,(.slice none 0 0)]) p8]) (.seq (.seq (.run [.go (.move a2) p10,
.go (.fieldAddr 1 a7) p11,
.go (.load1 a11) p12,
.go (.bin .add 3 a10 a12) p13,
.go (.move a13) p9]) (.seq (.run [.go (.fieldAddr 0 a4) p14,
.go (.load1 a14) p15,
.go (.bin .eql 3 a15 (.con z0)) p16,
.go (.move a16) p17,
.gd p17 false (.move a9) p18,
.gd p17 false (.fieldAddr 1 a4) p19,
.gd p17 false (.load1 a19) p20,
.gd p17 false (.bin .lss 3 a18 a20) p21,
.go (.pick a17 (.con (.bool true)) a21) p22]) (.cond a22 (.seq (.run [.go (.move a9) p23,
.go (.fieldAddr 1 a4) p24,
.un (.store 1 a24 a23)]) (.run [.go (.move a1) p25,
.go (.buildSlice 41 1 [(.slice none 0 0)] [(0,1,a25)]) p26,
.go (.fieldAddr 2 a7) p27,
.go (.load1 a27) p28,
.go (.append 41 1 24 a26 a28) p29,
.go (.fieldAddr 2 a4) p30,
.un (.store 1 a30 a29)])) .skip))) (.seq (.run [.go (.fieldAddr 0 a4) p31,
.go (.load1 a31) p32,
.go (.fieldAddr 0 a7) p33,
.go (.load1 a33) p34,
.go (.bin .add 3 a32 a34) p35,
.go (.fieldAddr 0 a4) p36,
.un (.store 1 a36 a35)]) (.seq (.run [.go (.loadN 3 a4) p37,
.un (.store 3 a8 a37)]) .ret))))
def f91 : FFunc:=.mk c91 u39 [p0,p1,p2,p3] [.many p8 3]
theorem e91 : @compF Try.prog (Gl.none Try.prog) Try.f91 4=f91:=by kernel_rfl
theorem o91 : okF Try.prog Try.f91=true:=by kernel_rfl
theorem g91 : Try.prog.funcs[(91 : Nat)]?=some Try.f91:=by kernel_rfl
def c92 : FCode:=(.seq (.run [.go (.move a1) p6,
.go (.len 0 a6) p7,
.go (.move (.con z0)) p8]) (.block 0 (.loop (.seq (.run [.go (.bin .lss 3 a8 a7) p9]) (.seq (.cond a9 .skip (.exit 0)) (.seq (.block 1 (.seq (.run [.go (.move a8) p10,
.go (.indexAddr none 1 a6 a8) p11,
.go (.load1 a11) p12,
.go (.move a10) p4,
.go (.move a12) p5]) (.draw 20 [.go (.move a0) p13,
.go (.move a4) p14,
.go (.move a0) p15,
.go (.move a4) p16,
.go (.indexAddr none 2 a15 a16) p17,
.go (.fieldAddr 0 a17) p18,
.go (.load1 a18) p19,
.go (.move a5) p20,
.go (.buildSlice 3 1 [z0] [(0,1,a20)]) p21,
.go (.call (.con (.func (.func 80) ⟨[]⟩ ⟨[]⟩)) [a19,a21]) p22,
.go (.move a0) p23,
.go (.move a4) p24,
.go (.indexAddr none 2 a23 a24) p25,
.go (.fieldAddr 1 a25) p26,
.go (.load1 a26) p27,
.go (.move a5) p28,
.go (.mm true [a27,a28]) p29,
.go (.build [z0,z0] [(0,1,a22),(1,1,a29)]) p30,
.go (.indexAddr none 2 a13 a14) p31,
.un (.store 2 a31 a30)] [.ok,.ok,.ok,.ok,.ok,.ok,.rd none (.load1 a18) (some p19) [9],.ok,.ok,.ok,.ok,.ok,.ok,.ok,.rd none (.load1 a26) (some p27) [0,9],.ok,.rd none (.mm true [a27,a28]) (some p29) [0,9],.ok,.ok,.ok]))) (.run [.go (.bin .add 3 a8 (.con (.int .i64 (.ofNat 1)))) p32,
.go (.move a32) p8])))))))
def f92 : FFunc:=.mk c92 u40 [p0,p1] []
theorem e92 : @compF Try.prog (Gl.none Try.prog) Try.f92 2=f92:=by kernel_rfl
theorem o92 : okF Try.prog Try.f92=true:=by kernel_rfl
theorem g92 : Try.prog.funcs[(92 : Nat)]?=some Try.f92:=by kernel_rfl
def c93 : FCode:=(.seq (.run [.go (.move (.con (.slice none 0 0))) p2]) (.seq (.seq (.run [.go (.move a0) p6,
.go (.len 0 a6) p7,
.go (.bin .lss 3 a7 (.con (.int .i64 (.ofNat 2)))) p8]) (.cond a8 (.seq (.run [.go (.move a0) p9,
.go (.move a9) p2]) .ret) .skip)) (.seq (.seq (.run [.go (.move (.con (.int .i64 (.ofNat 1)))) p3]) (.block 0 (.loop (.seq (.seq (.run [.go (.move a3) p10,
.go (.move a0) p11,
.go (.len 0 a11) p12,
.go (.bin .lss 3 a10 a12) p13]) (.cond a13 .skip (.exit 0))) (.seq (.block 1 (.seq (.draw 10 [.go (.move a0) p16,
.go (.move a3) p17,
.go (.indexAddr none 1 a16 a17) p18,
.go (.load1 a18) p19,
.go (.move a0) p20,
.go (.move a3) p21,
.go (.bin .sub 3 a21 (.con (.int .i64 (.ofNat 1)))) p22,
.go (.indexAddr none 1 a20 a22) p23,
.go (.load1 a23) p24,
.go (.bin .eql 3 a19 a24) p25] [.ok,.ok,.ok,.ok,.ok,.ok,.ok,.ok,.ok,.ok]) (.cond a25 (.seq (.run [.go (.move a0) p26,
.go (.move a3) p27,
.go (.slice 3 1 a26 (some a27) none) p28,
.go (.move a28) p4]) (.seq (.seq (.run [.go (.move (.con (.int .i64 (.ofNat 1)))) p5]) (.block 2 (.loop (.seq (.seq (.run [.go (.move a5) p29,
.go (.move a4) p30,
.go (.len 0 a30) p31,
.go (.bin .lss 3 a29 a31) p32]) (.cond a32 .skip (.exit 2))) (.seq (.block 3 (.seq (.draw 10 [.go (.move a4) p35,
.go (.move a5) p36,
.go (.indexAddr none 1 a35 a36) p37,
.go (.load1 a37) p38,
.go (.move a4) p39,
.go (.move a5) p40,
.go (.bin .sub 3 a40 (.con (.int .i64 (.ofNat 1)))) p41,
.go (.indexAddr none 1 a39 a41) p42,
.go (.load1 a42) p43,
.go (.bin .neq 3 a38 a43) p44] [.ok,.ok,.ok,.ok,.ok,.ok,.ok,.ok,.ok,.ok]) (.cond a44 (.seq (.run [.go (.move a0) p45,
.go (.move a3) p46,
.go (.move a4) p47,
.go (.move a5) p48,
.go (.indexAddr none 1 a47 a48) p49,
.go (.load1 a49) p50,
.go (.indexAddr none 1 a45 a46) p51,
.un (.store 1 a51 a50)]) (.run [.go (.move a3) p52,
.go (.bin .add 3 a52 (.con (.int .i64 (.ofNat 1)))) p53,
.go (.move a53) p3])) .skip))) (.run [.go (.move a5) p33,
.go (.bin .add 3 a33 (.con (.int .i64 (.ofNat 1)))) p34,
.go (.move a34) p5])))))) (.seq (.run [.go (.move a0) p54,
.go (.move a3) p55,
.go (.slice 3 1 a54 (some a55) none) p56,
.un (.clear 1 [z0] a56)]) (.seq (.run [.go (.move a0) p57,
.go (.move a3) p58,
.go (.slice 3 1 a57 none (some a58)) p59,
.go (.move a59) p2]) .ret)))) .skip))) (.run [.go (.move a3) p14,
.go (.bin .add 3 a14 (.con (.int .i64 (.ofNat 1)))) p15,
.go (.move a15) p3])))))) (.seq (.run [.go (.move a0) p60,
.go (.move a60) p2]) .ret))))
def f93 : FFunc:=.mk c93 u42 [p0] [.tmp p2]
theorem e93 : @compF Try.prog (Gl.none Try.prog) Try.f93 1=f93:=by kernel_rfl
theorem o93 : okF Try.prog Try.f93=true:=by kernel_rfl
theorem g93 : Try.prog.funcs[(93 : Nat)]?=some Try.f93:=by kernel_rfl
def c94 : FCode:=(.seq (.run [.go (.box 104 a0) p3]) (.seq (.run [.go (.alloc 104 [.nilFunc]) p4]) (.seq (.run [.go (.makeFunc 95 [] [a1,a2,a3,a4]) p5,
.un (.store 1 a4 a5)]) (.run [.go (.load1 a4) p6,
.go (.call a6 [(.con (.slice none 0 0))]) p7]))))
def f94 : FFunc:=.mk c94 u12 [p0,p1,p2] []
theorem e94 : @compF Try.prog (Gl.none Try.prog) Try.f94 3=f94:=by kernel_rfl
theorem o94 : okF Try.prog Try.f94=true:=by kernel_rfl
theorem g94 : Try.prog.funcs[(94 : Nat)]?=some Try.f94:=by kernel_rfl
def c95 : FCode:=(.seq (.run [.go (.move (.con (.bool false))) p6]) (.seq (.run [.go (.move a0) p10,
.go (.len 0 a10) p11,
.go (.move a11) p7]) (.seq (.seq (.run [.go (.move a7) p12,
.go (.fieldAddr 0 a1) p13,
.go (.loadN 3 a13) p14,
.go (.call (.con (.func (.func 68) ⟨[]⟩ ⟨[]⟩)) [a14]) p15,
.go (.bin .eql 3 a12 a15) p16]) (.cond a16 (.seq (.draw 12 [.go (.loadN 8 a1) p17,
.go (.load1 a2) p18,
.go (.move a0) p19,
.go (.call (.con (.func (.func 76) ⟨[]⟩ ⟨[]⟩)) [a17,a18,a19]) p20,
.go (.un .not a20) p21,
.go (.move a21) p22,
.gd p22 false (.load1 a3) p23,
.gd p22 false (.move a0) p24,
.gd p22 false (.call (.con (.func (.func 96) ⟨[]⟩ ⟨[]⟩)) [a24]) p25,
.gd p22 false (.call a23 [a25]) p26,
.go (.pick a22 (.con (.bool true)) a26) p27,
.go (.move a27) p6] [.ok,.ok,.ok,.ok,.ok,.ok,.rd (some (p22,false)) (.load1 a3) (some p23) [9],.ok,.ok,.ok,.ok,.ok]) .ret) .skip)) (.seq (.seq (.draw 13 [.go (.loadN 8 a1) p28,
.go (.fieldAddr 0 a1) p29,
.go (.fieldAddr 1 a29) p30,
.go (.load1 a30) p31,
.go (.load1 a2) p32,
.go (.indexAddr none 1 a31 a32) p33,
.go (.load1 a33) p34,
.go (.move a7) p35,
.go (.indexAddr none 1 a34 a35) p36,
.go (.load1 a36) p37,
.go (.call (.con (.func (.func 85) ⟨[]⟩ ⟨[]⟩)) [a28,a37]) p38,
.go (.len 0 a38) p39,
.go (.move (.con z0)) p40] [.ok,.ok,.ok,.ok,.ok,.ok,.ok,.ok,.ok,.ok,.ok,.ok,.ok]) (.block 0 (.loop (.seq (.run [.go (.bin .lss 3 a40 a39) p41]) (.seq (.cond a41 .skip (.exit 0)) (.seq (.block 1 (.seq (.run [.go (.indexAddr none 1 a38 a40) p42,
.go (.load1 a42) p43,
.go (.move a43) p9]) (.seq (.draw 7 [.go (.load1 a4) p44,
.go (.move a0) p45,
.go (.move a9) p46,
.go (.buildSlice 3 1 [z0] [(0,1,a46)]) p47,
.go (.append 3 1 8 a45 a47) p48,
.go (.call a44 [a48]) p49,
.go (.un .not a49) p50] [.rd none (.load1 a4) (some p44) [4,5],.ok,.ok,.ok,.ok,.ok,.ok]) (.cond a50 (.seq (.run [.go (.move (.con (.bool false))) p6]) .ret) .skip)))) (.run [.go (.bin .add 3 a40 (.con (.int .i64 (.ofNat 1)))) p51,
.go (.move a51) p40]))))))) (.seq (.run [.go (.move (.con (.bool true))) p6]) .ret)))))
def f95 : FFunc:=.mk c95 u43 [p0,p1,p2,p3,p4] [.tmp p6]
theorem e95 : @compF Try.prog (Gl.none Try.prog) Try.f95 5=f95:=by kernel_rfl
theorem o95 : okF Try.prog Try.f95=true:=by kernel_rfl
theorem g95 : Try.prog.funcs[(95 : Nat)]?=some Try.f95:=by kernel_rfl
def c96 : FCode:=(.seq (.run [.go (.move (.con (.slice none 0 0))) p2]) (.seq (.seq (.run [.go (.move a0) p3,
.go (.bin .eql 41 a3 (.con (.slice none 0 0))) p4]) (.cond a4 (.seq (.run [.go (.move (.con (.slice none 0 0))) p2]) .ret) .skip)) (.seq (.run [.go (.buildSlice 3 0 [] []) p5,
.go (.move a0) p6,
.go (.append 3 1 8 a5 a6) p7,
.go (.move a7) p2]) .ret)))
def f96 : FFunc:=.mk c96 u12 [p0] [.tmp p2]
theorem e96 : @compF Try.prog (Gl.none Try.prog) Try.f96 1=f96:=by kernel_rfl
theorem o96 : okF Try.prog Try.f96=true:=by kernel_rfl
theorem g96 : Try.prog.funcs[(96 : Nat)]?=some Try.f96:=by kernel_rfl
def tbl0 : FT:=(.n .bad (.n .bad (.n .bad (.n .bad (.n .bad (.n f31 (.n f63 .e .e) (.n f95 .e .e)) (.n f47 (.n f79 .e .e) (.n .bad .e .e))) (.n .bad (.n f39 (.n f71 .e .e) (.n .bad .e .e)) (.n .bad (.n f87 .e .e) .e))) (.n .bad (.n .bad (.n f35 (.n f67 .e .e) (.n .bad .e .e)) (.n .bad (.n f83 .e .e) .e)) (.n .bad (.n .bad (.n f75 .e .e) (.n .bad .e .e)) (.n f59 (.n f91 .e .e) .e)))) (.n .bad (.n .bad (.n f17 (.n f33 (.n f65 .e .e) (.n .bad .e .e)) (.n .bad (.n f81 .e .e) (.n .bad .e .e))) (.n .bad (.n .bad (.n f73 .e .e) (.n .bad .e .e)) (.n .bad (.n f89 .e .e) .e))) (.n .bad (.n .bad (.n f37 (.n f69 .e .e) (.n .bad .e .e)) (.n .bad (.n f85 .e .e) .e)) (.n f29 (.n f45 (.n f77 .e .e) (.n .bad .e .e)) (.n f61 (.n f93 .e .e) .e))))) (.n .bad (.n .bad (.n .bad (.n .bad (.n .bad (.n f64 .e .e) (.n f96 .e .e)) (.n .bad (.n f80 .e .e) (.n .bad .e .e))) (.n .bad (.n .bad (.n f72 .e .e) (.n .bad .e .e)) (.n f56 (.n f88 .e .e) .e))) (.n .bad (.n .bad (.n .bad (.n f68 .e .e) (.n .bad .e .e)) (.n .bad (.n f84 .e .e) .e)) (.n .bad (.n .bad (.n f76 .e .e) (.n .bad .e .e)) (.n f60 (.n f92 .e .e) .e)))) (.n .bad (.n .bad (.n f18 (.n f34 (.n f66 .e .e) (.n .bad .e .e)) (.n f50 (.n f82 .e .e) .e)) (.n .bad (.n .bad (.n f74 .e .e) (.n .bad .e .e)) (.n f58 (.n f90 .e .e) .e))) (.n .bad (.n .bad (.n .bad (.n f70 .e .e) (.n .bad .e .e)) (.n .bad (.n f86 .e .e) .e)) (.n f30 (.n f46 (.n f78 .e .e) (.n .bad .e .e)) (.n f62 (.n f94 .e .e) .e))))))
def F0 (n : Nat) : FFunc:=look tbl0 n
def orcs0 (_n : Nat) : Option Bool:=none
theorem ok0 (O : Orc Try.prog) (h : O.O=orcs0) : @FnOk Try.prog (Gl.none Try.prog) O F0:=@fnOk_of Try.prog (Gl.none Try.prog) O _ (by rw[h];exact⟨.inl rfl,⟨.inl rfl,⟨.inl rfl,⟨.inl rfl,⟨.inl rfl,⟨.inr (.inr ⟨rfl,_,_,g31,o31,e31⟩),⟨.inr (.inr ⟨rfl,_,_,g63,o63,e63⟩),trivial,trivial⟩,⟨.inr (.inr ⟨rfl,_,_,g95,o95,e95⟩),trivial,trivial⟩⟩,⟨.inr (.inr ⟨rfl,_,_,g47,o47,e47⟩),⟨.inr (.inr ⟨rfl,_,_,g79,o79,e79⟩),trivial,trivial⟩,⟨.inl rfl,trivial,trivial⟩⟩⟩,⟨.inl rfl,⟨.inr (.inr ⟨rfl,_,_,g39,o39,e39⟩),⟨.inr (.inr ⟨rfl,_,_,g71,o71,e71⟩),trivial,trivial⟩,⟨.inl rfl,trivial,trivial⟩⟩,⟨.inl rfl,⟨.inr (.inr ⟨rfl,_,_,g87,o87,e87⟩),trivial,trivial⟩,trivial⟩⟩⟩,⟨.inl rfl,⟨.inl rfl,⟨.inr (.inr ⟨rfl,_,_,g35,o35,e35⟩),⟨.inr (.inr ⟨rfl,_,_,g67,o67,e67⟩),trivial,trivial⟩,⟨.inl rfl,trivial,trivial⟩⟩,⟨.inl rfl,⟨.inr (.inr ⟨rfl,_,_,g83,o83,e83⟩),trivial,trivial⟩,trivial⟩⟩,⟨.inl rfl,⟨.inl rfl,⟨.inr (.inr ⟨rfl,_,_,g75,o75,e75⟩),trivial,trivial⟩,⟨.inl rfl,trivial,trivial⟩⟩,⟨.inr (.inr ⟨rfl,_,_,g59,o59,e59⟩),⟨.inr (.inr ⟨rfl,_,_,g91,o91,e91⟩),trivial,trivial⟩,trivial⟩⟩⟩⟩,⟨.inl rfl,⟨.inl rfl,⟨.inr (.inr ⟨rfl,_,_,g17,o17,e17⟩),⟨.inr (.inr ⟨rfl,_,_,g33,o33,e33⟩),⟨.inr (.inr ⟨rfl,_,_,g65,o65,e65⟩),trivial,trivial⟩,⟨.inl rfl,trivial,trivial⟩⟩,⟨.inl rfl,⟨.inr (.inr ⟨rfl,_,_,g81,o81,e81⟩),trivial,trivial⟩,⟨.inl rfl,trivial,trivial⟩⟩⟩,⟨.inl rfl,⟨.inl rfl,⟨.inr (.inr ⟨rfl,_,_,g73,o73,e73⟩),trivial,trivial⟩,⟨.inl rfl,trivial,trivial⟩⟩,⟨.inl rfl,⟨.inr (.inr ⟨rfl,_,_,g89,o89,e89⟩),trivial,trivial⟩,trivial⟩⟩⟩,⟨.inl rfl,⟨.inl rfl,⟨.inr (.inr ⟨rfl,_,_,g37,o37,e37⟩),⟨.inr (.inr ⟨rfl,_,_,g69,o69,e69⟩),trivial,trivial⟩,⟨.inl rfl,trivial,trivial⟩⟩,⟨.inl rfl,⟨.inr (.inr ⟨rfl,_,_,g85,o85,e85⟩),trivial,trivial⟩,trivial⟩⟩,⟨.inr (.inr ⟨rfl,_,_,g29,o29,e29⟩),⟨.inr (.inr ⟨rfl,_,_,g45,o45,e45⟩),⟨.inr (.inr ⟨rfl,_,_,g77,o77,e77⟩),trivial,trivial⟩,⟨.inl rfl,trivial,trivial⟩⟩,⟨.inr (.inr ⟨rfl,_,_,g61,o61,e61⟩),⟨.inr (.inr ⟨rfl,_,_,g93,o93,e93⟩),trivial,trivial⟩,trivial⟩⟩⟩⟩⟩,⟨.inl rfl,⟨.inl rfl,⟨.inl rfl,⟨.inl rfl,⟨.inl rfl,⟨.inr (.inr ⟨rfl,_,_,g64,o64,e64⟩),trivial,trivial⟩,⟨.inr (.inr ⟨rfl,_,_,g96,o96,e96⟩),trivial,trivial⟩⟩,⟨.inl rfl,⟨.inr (.inr ⟨rfl,_,_,g80,o80,e80⟩),trivial,trivial⟩,⟨.inl rfl,trivial,trivial⟩⟩⟩,⟨.inl rfl,⟨.inl rfl,⟨.inr (.inr ⟨rfl,_,_,g72,o72,e72⟩),trivial,trivial⟩,⟨.inl rfl,trivial,trivial⟩⟩,⟨.inr (.inr ⟨rfl,_,_,g56,o56,e56⟩),⟨.inr (.inr ⟨rfl,_,_,g88,o88,e88⟩),trivial,trivial⟩,trivial⟩⟩⟩,⟨.inl rfl,⟨.inl rfl,⟨.inl rfl,⟨.inr (.inr ⟨rfl,_,_,g68,o68,e68⟩),trivial,trivial⟩,⟨.inl rfl,trivial,trivial⟩⟩,⟨.inl rfl,⟨.inr (.inr ⟨rfl,_,_,g84,o84,e84⟩),trivial,trivial⟩,trivial⟩⟩,⟨.inl rfl,⟨.inl rfl,⟨.inr (.inr ⟨rfl,_,_,g76,o76,e76⟩),trivial,trivial⟩,⟨.inl rfl,trivial,trivial⟩⟩,⟨.inr (.inr ⟨rfl,_,_,g60,o60,e60⟩),⟨.inr (.inr ⟨rfl,_,_,g92,o92,e92⟩),trivial,trivial⟩,trivial⟩⟩⟩⟩,⟨.inl rfl,⟨.inl rfl,⟨.inr (.inr ⟨rfl,_,_,g18,o18,e18⟩),⟨.inr (.inr ⟨rfl,_,_,g34,o34,e34⟩),⟨.inr (.inr ⟨rfl,_,_,g66,o66,e66⟩),trivial,trivial⟩,⟨.inl rfl,trivial,trivial⟩⟩,⟨.inr (.inr ⟨rfl,_,_,g50,o50,e50⟩),⟨.inr (.inr ⟨rfl,_,_,g82,o82,e82⟩),trivial,trivial⟩,trivial⟩⟩,⟨.inl rfl,⟨.inl rfl,⟨.inr (.inr ⟨rfl,_,_,g74,o74,e74⟩),trivial,trivial⟩,⟨.inl rfl,trivial,trivial⟩⟩,⟨.inr (.inr ⟨rfl,_,_,g58,o58,e58⟩),⟨.inr (.inr ⟨rfl,_,_,g90,o90,e90⟩),trivial,trivial⟩,trivial⟩⟩⟩,⟨.inl rfl,⟨.inl rfl,⟨.inl rfl,⟨.inr (.inr ⟨rfl,_,_,g70,o70,e70⟩),trivial,trivial⟩,⟨.inl rfl,trivial,trivial⟩⟩,⟨.inl rfl,⟨.inr (.inr ⟨rfl,_,_,g86,o86,e86⟩),trivial,trivial⟩,trivial⟩⟩,⟨.inr (.inr ⟨rfl,_,_,g30,o30,e30⟩),⟨.inr (.inr ⟨rfl,_,_,g46,o46,e46⟩),⟨.inr (.inr ⟨rfl,_,_,g78,o78,e78⟩),trivial,trivial⟩,⟨.inl rfl,trivial,trivial⟩⟩,⟨.inr (.inr ⟨rfl,_,_,g62,o62,e62⟩),⟨.inr (.inr ⟨rfl,_,_,g94,o94,e94⟩),trivial,trivial⟩,trivial⟩⟩⟩⟩⟩⟩)
def orcs1 (_n : Nat) : Option Bool:=if _n=17 then some true else none
end Go.Xe.TR
end
