/- The code of the program's functions, their types resolved, as the machine for the kernel runs it: definitions, and for each that it is the program's own. Conditions: none. -/
import Derived.Test.YtelfbgmhleneiaaYk
import Derived.Test.YtelfbgmhleneiaaProg
import Derived.KernelRfl
namespace Go.Xe.TV
open Go Go.Xe Go.Proofs
set_option maxRecDepth 1000000
abbrev U : Value:=.tuple ⟨[]⟩
def p0 : Pth:=.o
def p1 : Pth:=.l p0
def p2 : Pth:=.r p0
def p3 : Pth:=.l p1
def p4 : Pth:=.r p1
def p5 : Pth:=.l p2
def p6 : Pth:=.r p2
def p7 : Pth:=.l p3
def p8 : Pth:=.r p3
def p9 : Pth:=.l p4
def p10 : Pth:=.r p4
def p11 : Pth:=.l p5
def p12 : Pth:=.r p5
def p13 : Pth:=.l p6
def p14 : Pth:=.r p6
def p15 : Pth:=.l p7
def p16 : Pth:=.r p7
def p17 : Pth:=.l p8
def p18 : Pth:=.r p8
def p19 : Pth:=.l p9
def p20 : Pth:=.r p9
def p21 : Pth:=.l p10
def p22 : Pth:=.r p10
def p23 : Pth:=.l p11
def p24 : Pth:=.r p11
def p25 : Pth:=.l p12
def p26 : Pth:=.r p12
def p27 : Pth:=.l p13
def p28 : Pth:=.r p13
def p29 : Pth:=.l p14
def p30 : Pth:=.r p14
def p31 : Pth:=.l p15
def p32 : Pth:=.r p15
def p33 : Pth:=.l p16
def p34 : Pth:=.r p16
def p35 : Pth:=.l p17
def p36 : Pth:=.r p17
def p37 : Pth:=.l p18
def p38 : Pth:=.r p18
def p39 : Pth:=.l p19
def p40 : Pth:=.r p19
def p41 : Pth:=.l p20
def p42 : Pth:=.r p20
def p43 : Pth:=.l p21
def p44 : Pth:=.r p21
def p45 : Pth:=.l p22
def p46 : Pth:=.r p22
def p47 : Pth:=.l p23
def p48 : Pth:=.r p23
def p49 : Pth:=.l p24
def p50 : Pth:=.r p24
def p51 : Pth:=.l p25
def p52 : Pth:=.r p25
def p53 : Pth:=.l p26
def p54 : Pth:=.r p26
def p55 : Pth:=.l p27
def p56 : Pth:=.r p27
def p57 : Pth:=.l p28
def p58 : Pth:=.r p28
def p59 : Pth:=.l p29
def p60 : Pth:=.r p29
def p61 : Pth:=.l p30
def p62 : Pth:=.r p30
def p63 : Pth:=.l p31
def p64 : Pth:=.r p31
def p65 : Pth:=.l p32
def p66 : Pth:=.r p32
def p67 : Pth:=.l p33
def p68 : Pth:=.r p33
def p69 : Pth:=.l p34
def p70 : Pth:=.r p34
def p71 : Pth:=.l p35
def p72 : Pth:=.r p35
def p73 : Pth:=.l p36
def p74 : Pth:=.r p36
def p75 : Pth:=.l p37
def p76 : Pth:=.r p37
def p77 : Pth:=.l p38
def p78 : Pth:=.r p38
def p79 : Pth:=.l p39
def p80 : Pth:=.r p39
def p81 : Pth:=.l p40
def p82 : Pth:=.r p40
def p83 : Pth:=.l p41
def p84 : Pth:=.r p41
def p85 : Pth:=.l p42
def p86 : Pth:=.r p42
def p87 : Pth:=.l p43
def p88 : Pth:=.r p43
def p89 : Pth:=.l p44
def p90 : Pth:=.r p44
def p91 : Pth:=.l p45
def p92 : Pth:=.r p45
def p93 : Pth:=.l p46
def p94 : Pth:=.r p46
def p95 : Pth:=.l p47
def p96 : Pth:=.r p47
def p97 : Pth:=.l p48
def p98 : Pth:=.r p48
def p99 : Pth:=.l p49
def p100 : Pth:=.r p49
def p101 : Pth:=.l p50
def p102 : Pth:=.r p50
def p103 : Pth:=.l p51
def p104 : Pth:=.r p51
def u0 : TT:=.n U .e .e
def u1 : TT:=.n U u0 u0
def u2 : TT:=.n U u0 .e
def u3 : TT:=.n U u1 u2
def u4 : TT:=.n U u3 u3
def u5 : TT:=.n U u2 u2
def u6 : TT:=.n U u3 u5
def u7 : TT:=.n U u4 u6
def u8 : TT:=.n U u6 u6
def u9 : TT:=.n U u7 u8
def u10 : TT:=.n U u9 u9
def u11 : TT:=.n U u1 u1
def u12 : TT:=.n U u11 u3
def u13 : TT:=.n U u12 u4
def u14 : TT:=.n U u2 u0
def u15 : TT:=.n U u14 u14
def u16 : TT:=.n U u14 u1
def u17 : TT:=.n U u15 u16
def u18 : TT:=.n U u16 u16
def u19 : TT:=.n U u17 u18
def u20 : TT:=.n U u5 u14
def u21 : TT:=.n U u20 u20
def u22 : TT:=.n U u18 u18
def u23 : TT:=.n U u4 u4
def u24 : TT:=.n U u20 u15
def u25 : TT:=.n U u16 u11
def u26 : TT:=.n U u11 u11
def u27 : TT:=.n U u13 u23
def u28 : TT:=.n U u12 u12
def u29 : TT:=.n U u17 u17
def u30 : TT:=.n U u29 u19
def u31 : TT:=.n U u15 u15
def u32 : TT:=.n U u24 u31
def u33 : TT:=.n U u26 u12
def u34 : TT:=.n U u21 u24
def z0 : Value:=.int .i64 (.ofNat 0)
def a0 : FA:=.tmp p0
def a1 : FA:=.tmp p1
def a2 : FA:=.tmp p2
def a3 : FA:=.tmp p3
def a4 : FA:=.tmp p4
def a5 : FA:=.tmp p5
def a6 : FA:=.tmp p6
def a7 : FA:=.tmp p7
def a8 : FA:=.tmp p8
def a9 : FA:=.tmp p9
def a10 : FA:=.tmp p10
def a11 : FA:=.tmp p11
def a12 : FA:=.tmp p12
def a13 : FA:=.tmp p13
def a14 : FA:=.tmp p14
def a15 : FA:=.tmp p15
def a16 : FA:=.tmp p16
def a17 : FA:=.tmp p17
def a18 : FA:=.tmp p18
def a19 : FA:=.tmp p19
def a20 : FA:=.tmp p20
def a21 : FA:=.tmp p21
def a22 : FA:=.tmp p22
def a23 : FA:=.tmp p23
def a24 : FA:=.tmp p24
def a25 : FA:=.tmp p25
def a26 : FA:=.tmp p26
def a27 : FA:=.tmp p27
def a28 : FA:=.tmp p28
def a29 : FA:=.tmp p29
def a30 : FA:=.tmp p30
def a31 : FA:=.tmp p31
def a32 : FA:=.tmp p32
def a33 : FA:=.tmp p33
def a34 : FA:=.tmp p34
def a35 : FA:=.tmp p35
def a36 : FA:=.tmp p36
def a37 : FA:=.tmp p37
def a38 : FA:=.tmp p38
def a39 : FA:=.tmp p39
def a40 : FA:=.tmp p40
def a41 : FA:=.tmp p41
def a42 : FA:=.tmp p42
def a43 : FA:=.tmp p43
def a44 : FA:=.tmp p44
def a45 : FA:=.tmp p45
def a46 : FA:=.tmp p46
def a47 : FA:=.tmp p47
def a48 : FA:=.tmp p48
def a49 : FA:=.tmp p49
def a50 : FA:=.tmp p50
def a51 : FA:=.tmp p51
def a52 : FA:=.tmp p52
def a53 : FA:=.tmp p53
def a54 : FA:=.tmp p54
def a55 : FA:=.tmp p55
def a56 : FA:=.tmp p56
def a57 : FA:=.tmp p57
def a58 : FA:=.tmp p58
def a59 : FA:=.tmp p59
def a60 : FA:=.tmp p60
def a61 : FA:=.tmp p61
def a62 : FA:=.tmp p62
def a63 : FA:=.tmp p63
def a64 : FA:=.tmp p64
def a65 : FA:=.tmp p65
def a66 : FA:=.tmp p66
def a67 : FA:=.tmp p67
def a68 : FA:=.tmp p68
def a69 : FA:=.tmp p69
def a70 : FA:=.tmp p70
def a71 : FA:=.tmp p71
def a72 : FA:=.tmp p72
def a73 : FA:=.tmp p73
def a74 : FA:=.tmp p74
def a75 : FA:=.tmp p75
def a76 : FA:=.tmp p76
def a77 : FA:=.tmp p77
def a78 : FA:=.tmp p78
def a79 : FA:=.tmp p79
def a80 : FA:=.tmp p80
def a81 : FA:=.tmp p81
def a82 : FA:=.tmp p82
def a83 : FA:=.tmp p83
def a84 : FA:=.tmp p84
def a85 : FA:=.tmp p85
def a86 : FA:=.tmp p86
def a87 : FA:=.tmp p87
def a88 : FA:=.tmp p88
def a89 : FA:=.tmp p89
def a90 : FA:=.tmp p90
def a91 : FA:=.tmp p91
def a92 : FA:=.tmp p92
def a93 : FA:=.tmp p93
def a94 : FA:=.tmp p94
def a95 : FA:=.tmp p95
def a96 : FA:=.tmp p96
def a97 : FA:=.tmp p97
def a98 : FA:=.tmp p98
def a99 : FA:=.tmp p99
def a100 : FA:=.tmp p100
def a101 : FA:=.tmp p101
def a102 : FA:=.tmp p102
def a103 : FA:=.tmp p103
def a104 : FA:=.tmp p104
noncomputable def c20 : FCode:=(.seq (.run [.go (.move (.con (.bool false))) p0]) (.seq (.run [.go (.call (.con (.func (.func 45) ⟨[]⟩ ⟨[]⟩)) [(.con (.int .u8 (.ofNat 2)))]) p13,
.go (.call (.con (.func (.func 46) ⟨[]⟩ ⟨[]⟩)) []) p14,
.go (.call (.con (.func (.func 23) ⟨[]⟩ ⟨[]⟩)) [a13,a14]) p15,
.go (.move a15) p12,
.go (.extract a12 0) p16,
.go (.extract a12 1) p17,
.go (.move a16) p1,
.go (.move a17) p2]) (.seq (.run [.go (.call (.con (.func (.func 45) ⟨[]⟩ ⟨[]⟩)) [(.con (.int .u8 (.ofNat 3)))]) p19,
.go (.call (.con (.func (.func 46) ⟨[]⟩ ⟨[]⟩)) []) p20,
.go (.call (.con (.func (.func 23) ⟨[]⟩ ⟨[]⟩)) [a19,a20]) p21,
.go (.move a21) p18,
.go (.extract a18 0) p22,
.go (.extract a18 1) p23,
.go (.move a22) p3,
.go (.move a23) p4]) (.seq (.run [.go (.call (.con (.func (.func 45) ⟨[]⟩ ⟨[]⟩)) [(.con (.int .u8 (.ofNat 2)))]) p25,
.go (.call (.con (.func (.func 46) ⟨[]⟩ ⟨[]⟩)) []) p26,
.go (.call (.con (.func (.func 31) ⟨[]⟩ ⟨[]⟩)) [a25,a26]) p27,
.go (.move a27) p24,
.go (.extract a24 0) p28,
.go (.extract a24 1) p29,
.go (.move a28) p5,
.go (.move a29) p6]) (.seq (.run [.go (.call (.con (.func (.func 45) ⟨[]⟩ ⟨[]⟩)) [(.con (.int .u8 (.ofNat 2)))]) p31,
.go (.call (.con (.func (.func 47) ⟨[]⟩ ⟨[]⟩)) [(.con (.int .i64 (.ofNat 52))),(.con (.int .i64 (.ofNat 54)))]) p32,
.go (.call (.con (.func (.func 47) ⟨[]⟩ ⟨[]⟩)) [(.con (.int .i64 (.ofNat 24))),(.con (.int .i64 (.ofNat 24)))]) p33,
.go (.call (.con (.func (.func 47) ⟨[]⟩ ⟨[]⟩)) [(.con (.int .i64 (.ofNat 22))),(.con (.int .i64 (.ofNat 24)))]) p34,
.go (.buildSlice 49 3 [z0,z0,z0,z0,z0,z0] [(0,2,a32),(2,2,a33),(4,2,a34)]) p35,
.go (.call (.con (.func (.func 40) ⟨[]⟩ ⟨[]⟩)) [a31,a35]) p36,
.go (.move a36) p30,
.go (.extract a30 0) p37,
.go (.extract a30 1) p38,
.go (.move a37) p7,
.go (.move a38) p8]) (.seq (.run [.go (.call (.con (.func (.func 45) ⟨[]⟩ ⟨[]⟩)) [(.con (.int .u8 (.ofNat 2)))]) p40,
.go (.call (.con (.func (.func 46) ⟨[]⟩ ⟨[]⟩)) []) p41,
.go (.call (.con (.func (.func 43) ⟨[]⟩ ⟨[]⟩)) [a40,a41]) p42,
.go (.move a42) p39,
.go (.extract a39 0) p43,
.go (.extract a39 1) p44,
.go (.extract a39 2) p45,
.go (.move a43) p9,
.go (.move a44) p10,
.go (.move a45) p11]) (.seq (.draw 60 [.go (.move a2) p46,
.go (.bin .eql 26 a46 (.con z0)) p47,
.go (.move a47) p48,
.gd p48 true (.move a1) p49,
.gd p48 true (.buildSlice 3 3 [z0,z0,z0] [(0,1,(.con (.int .i64 (.ofNat 4)))),(1,1,(.con (.int .i64 (.ofNat 2)))),(2,1,(.con (.int .i64 (.ofNat 1))))]) p50,
.gd p48 true (.call (.con (.func (.func 28) ⟨[]⟩ ⟨[]⟩)) [a49,a50]) p51,
.go (.pick a48 a51 (.con (.bool false))) p52,
.go (.move a52) p53,
.gd p53 true (.move a4) p54,
.gd p53 true (.bin .eql 26 a54 (.con z0)) p55,
.go (.pick a53 a55 (.con (.bool false))) p56,
.go (.move a56) p57,
.gd p57 true (.move a3) p58,
.gd p57 true (.buildSlice 3 3 [z0,z0,z0] [(0,1,(.con (.int .i64 (.ofNat 3)))),(1,1,(.con (.int .i64 (.ofNat 2)))),(2,1,(.con (.int .i64 (.ofNat 2))))]) p59,
.gd p57 true (.call (.con (.func (.func 28) ⟨[]⟩ ⟨[]⟩)) [a58,a59]) p60,
.go (.pick a57 a60 (.con (.bool false))) p61,
.go (.move a61) p62,
.gd p62 true (.move a6) p63,
.gd p62 true (.bin .eql 26 a63 (.con z0)) p64,
.go (.pick a62 a64 (.con (.bool false))) p65,
.go (.move a65) p66,
.gd p66 true (.move a5) p67,
.gd p66 true (.bin .eql 3 a67 (.con (.int .i64 (.ofNat 2)))) p68,
.go (.pick a66 a68 (.con (.bool false))) p69,
.go (.move a69) p70,
.gd p70 true (.move a8) p71,
.gd p70 true (.bin .eql 26 a71 (.con z0)) p72,
.go (.pick a70 a72 (.con (.bool false))) p73,
.go (.move a73) p74,
.gd p74 true (.move a7) p75,
.gd p74 true (.len 0 a75) p76,
.gd p74 true (.bin .eql 3 a76 (.con (.int .i64 (.ofNat 3)))) p77,
.go (.pick a74 a77 (.con (.bool false))) p78,
.go (.move a78) p79,
.gd p79 true (.move a7) p80,
.gd p79 true (.indexAddr none 2 a80 (.con z0)) p81,
.gd p79 true (.loadN 2 a81) p82,
.gd p79 true (.call (.con (.func (.func 47) ⟨[]⟩ ⟨[]⟩)) [(.con (.int .i64 (.ofNat 4))),(.con (.int .i64 (.ofNat 4)))]) p83,
.gd p79 true (.bin .eql 49 a82 a83) p84,
.go (.pick a79 a84 (.con (.bool false))) p85,
.go (.move a85) p86,
.gd p86 true (.move a7) p87,
.gd p86 true (.indexAddr none 2 a87 (.con (.int .i64 (.ofNat 2)))) p88,
.gd p86 true (.loadN 2 a88) p89,
.gd p86 true (.call (.con (.func (.func 47) ⟨[]⟩ ⟨[]⟩)) [(.con (.int .i64 (.ofNat 1))),(.con (.int .i64 (.ofNat 2)))]) p90,
.gd p86 true (.bin .eql 49 a89 a90) p91,
.go (.pick a86 a91 (.con (.bool false))) p92,
.go (.move a92) p93,
.gd p93 true (.move a11) p94,
.gd p93 true (.bin .eql 26 a94 (.con z0)) p95,
.go (.pick a93 a95 (.con (.bool false))) p96,
.go (.move a96) p97,
.gd p97 true (.move a9) p98,
.gd p97 true (.bin .eql 3 a98 (.con (.int .i64 (.ofNat 1)))) p99,
.go (.pick a97 a99 (.con (.bool false))) p100,
.go (.move a100) p101,
.gd p101 true (.move a10) p102,
.gd p101 true (.bin .eql 3 a102 (.con (.int .i64 (.negSucc 0)))) p103,
.go (.pick a101 a103 (.con (.bool false))) p104,
.go (.move a104) p0] [.ok,.ok,.ok,.ok,.ok,.ok,.ok,.ok,.ok,.ok,.ok,.ok,.ok,.ok,.ok,.ok,.ok,.ok,.ok,.ok,.ok,.ok,.ok,.ok,.ok,.ok,.ok,.ok,.ok,.ok,.ok,.ok,.ok,.ok,.ok,.ok,.rd (some (p79,true)) (.loadN 2 a81) (some p82) [38],.ok,.ok,.ok,.ok,.ok,.ok,.rd (some (p86,true)) (.loadN 2 a88) (some p89) [45],.ok,.ok,.ok,.ok,.ok,.ok,.ok,.ok,.ok,.ok,.ok,.ok,.ok,.ok,.ok,.ok]) .ret)))))))
noncomputable def f20 : FFunc:=.mk c20 u10 [] [.tmp p0]
theorem e20 : @compF Try.prog (Gl.none Try.prog) Try.f20 0=f20:=by kernel_rfl
theorem o20 : okF Try.prog Try.f20=true:=by kernel_rfl
theorem g20 : Try.prog.funcs[(20 : Nat)]?=some Try.f20:=by kernel_rfl
noncomputable def c23 : FCode:=(.seq (.run [.go (.box 28 a0) p2,
.go (.move (.con (.slice none 0 0))) p4,
.go (.move (.con z0)) p5]) (.seq (.seq (.run [.go (.loadN 3 a2) p9,
.go (.move a1) p10,
.go (.call (.con (.func (.func 54) ⟨[]⟩ ⟨[]⟩)) [a9,a10]) p11,
.go (.move a11) p6]) (.seq (.run [.go (.move a6) p12,
.go (.bin .neq 26 a12 (.con z0)) p13]) (.cond a13 (.seq (.run [.go (.move a6) p14,
.go (.move (.con (.slice none 0 0))) p4,
.go (.move a14) p5]) .ret) .skip))) (.seq (.run [.go (.loadN 3 a2) p16,
.go (.move a1) p17,
.go (.call (.con (.func (.func 55) ⟨[]⟩ ⟨[]⟩)) [a16,a17]) p18,
.go (.call (.con (.func (.func 56) ⟨[]⟩ ⟨[]⟩)) [a18]) p19,
.go (.move a19) p15,
.go (.extract a15 0) p20,
.go (.extract a15 1) p21,
.go (.alloc 78 [z0,z0,z0,z0,z0,z0,z0,z0]) p7,
.un (.store 8 a7 a20),
.go (.move a21) p8]) (.seq (.seq (.run [.go (.move a8) p22,
.go (.bin .neq 26 a22 (.con z0)) p23]) (.cond a23 (.seq (.run [.go (.move a8) p24,
.go (.move (.con (.slice none 0 0))) p4,
.go (.move a24) p5]) .ret) .skip)) (.seq (.run [.go (.move a1) p25,
.go (.len 0 a25) p26,
.go (.sliceSlow 78 a7 none (some a26)) p27,
.go (.move a27) p4,
.go (.move (.con z0)) p5]) .ret)))))
noncomputable def f23 : FFunc:=.mk c23 u13 [p0,p1] [.tmp p4,.tmp p5]
theorem e23 : @compF Try.prog (Gl.none Try.prog) Try.f23 2=f23:=by kernel_rfl
theorem o23 : okF Try.prog Try.f23=true:=by kernel_rfl
theorem g23 : Try.prog.funcs[(23 : Nat)]?=some Try.f23:=by kernel_rfl
noncomputable def c28 : FCode:=(.seq (.run [.go (.move (.con (.bool false))) p4]) (.seq (.seq (.run [.go (.move a0) p6,
.go (.len 0 a6) p7,
.go (.move a1) p8,
.go (.len 0 a8) p9,
.go (.bin .neq 3 a7 a9) p10]) (.cond a10 (.seq (.run [.go (.move (.con (.bool false))) p4]) .ret) .skip)) (.seq (.seq (.run [.go (.move (.con z0)) p5]) (.block 0 (.loop (.seq (.seq (.run [.go (.move a5) p11,
.go (.move a0) p12,
.go (.len 0 a12) p13,
.go (.bin .lss 3 a11 a13) p14]) (.cond a14 .skip (.exit 0))) (.seq (.block 1 (.seq (.draw 9 [.go (.move a0) p17,
.go (.move a5) p18,
.go (.indexAddr none 1 a17 a18) p19,
.go (.load1 a19) p20,
.go (.move a1) p21,
.go (.move a5) p22,
.go (.indexAddr none 1 a21 a22) p23,
.go (.load1 a23) p24,
.go (.bin .neq 3 a20 a24) p25] [.ok,.ok,.ok,.ok,.ok,.ok,.ok,.ok,.ok]) (.cond a25 (.seq (.run [.go (.move (.con (.bool false))) p4]) .ret) .skip))) (.run [.go (.move a5) p15,
.go (.bin .add 3 a15 (.con (.int .i64 (.ofNat 1)))) p16,
.go (.move a16) p5])))))) (.seq (.run [.go (.move (.con (.bool true))) p4]) .ret))))
noncomputable def f28 : FFunc:=.mk c28 u7 [p0,p1] [.tmp p4]
theorem e28 : @compF Try.prog (Gl.none Try.prog) Try.f28 2=f28:=by kernel_rfl
theorem o28 : okF Try.prog Try.f28=true:=by kernel_rfl
theorem g28 : Try.prog.funcs[(28 : Nat)]?=some Try.f28:=by kernel_rfl
noncomputable def c31 : FCode:=(.seq (.run [.go (.box 28 a0) p2,
.go (.move (.con z0)) p4,
.go (.move (.con z0)) p5]) (.seq (.run [.go (.loadN 3 a2) p9,
.go (.move a1) p10,
.go (.call (.con (.func (.func 54) ⟨[]⟩ ⟨[]⟩)) [a9,a10]) p11,
.go (.move a11) p6]) (.seq (.block 0 (.seq (.run [.go (.move a6) p13,
.go (.bin .neq 26 a13 (.con z0)) p14,
.go (.move a14) p12]) (.cond a12 (.seq (.run [.go (.move a6) p15,
.go (.move (.con z0)) p4,
.go (.move a15) p5]) .ret) (.seq (.run [.go (.fieldAddr 0 a2) p17,
.go (.load1 a17) p18,
.go (.bin .eql 5 a18 (.con (.int .u8 (.ofNat 5)))) p19,
.go (.move a19) p16]) (.cond a16 (.seq (.run [.go (.move (.con z0)) p4,
.go (.move (.con (.int .i64 (.ofNat 8)))) p5]) .ret) .skip))))) (.seq (.run [.go (.loadN 3 a2) p21,
.go (.move a1) p22,
.go (.call (.con (.func (.func 55) ⟨[]⟩ ⟨[]⟩)) [a21,a22]) p23,
.go (.call (.con (.func (.func 63) ⟨[]⟩ ⟨[]⟩)) [a23]) p24,
.go (.move a24) p20,
.go (.extract a20 0) p25,
.go (.extract a20 1) p26,
.go (.extract a20 2) p27,
.go (.alloc 78 [z0,z0,z0,z0,z0,z0,z0,z0]) p7,
.go (.alloc 78 [z0,z0,z0,z0,z0,z0,z0,z0]) p8,
.un (.store 8 a7 a25),
.un (.store 8 a8 a26),
.go (.move a27) p6]) (.seq (.seq (.run [.go (.move a6) p28,
.go (.bin .neq 26 a28 (.con z0)) p29]) (.cond a29 (.seq (.run [.go (.move a6) p30,
.go (.move (.con z0)) p4,
.go (.move a30) p5]) .ret) .skip)) (.seq (.run [.go (.loadN 8 a7) p31,
.go (.loadN 8 a8) p32,
.go (.call (.con (.func (.func 64) ⟨[]⟩ ⟨[]⟩)) [a31,a32]) p33,
.go (.extract a33 0) p34,
.go (.extract a33 1) p35,
.go (.move a34) p4,
.go (.move a35) p5]) .ret))))))
noncomputable def f31 : FFunc:=.mk c31 u19 [p0,p1] [.tmp p4,.tmp p5]
theorem e31 : @compF Try.prog (Gl.none Try.prog) Try.f31 2=f31:=by kernel_rfl
theorem o31 : okF Try.prog Try.f31=true:=by kernel_rfl
theorem g31 : Try.prog.funcs[(31 : Nat)]?=some Try.f31:=by kernel_rfl
noncomputable def c40 : FCode:=(.seq (.run [.go (.box 28 a0) p2,
.go (.move (.con (.slice none 0 0))) p4,
.go (.move (.con z0)) p5]) (.seq (.run [.go (.loadN 3 a2) p7,
.go (.move a1) p8,
.go (.call (.con (.func (.func 66) ⟨[]⟩ ⟨[]⟩)) [a7,a8,(.con (.func (.func 67) ⟨[]⟩ ⟨[]⟩))]) p9,
.go (.move a9) p6]) (.seq (.block 0 (.seq (.run [.go (.move a6) p11,
.go (.bin .neq 26 a11 (.con z0)) p12,
.go (.move a12) p10]) (.cond a10 (.seq (.run [.go (.move a6) p13,
.go (.move (.con (.slice none 0 0))) p4,
.go (.move a13) p5]) .ret) (.seq (.run [.go (.fieldAddr 0 a2) p15,
.go (.load1 a15) p16,
.go (.bin .eql 5 a16 (.con (.int .u8 (.ofNat 5)))) p17,
.go (.move a17) p14]) (.cond a14 (.seq (.run [.go (.move (.con (.slice none 0 0))) p4,
.go (.move (.con (.int .i64 (.ofNat 8)))) p5]) .ret) .skip))))) (.seq (.run [.go (.loadN 3 a2) p18,
.go (.move a1) p19,
.go (.call (.con (.func (.func 68) ⟨[]⟩ ⟨[]⟩)) [a18,a19]) p20,
.go (.move a20) p4,
.go (.move (.con z0)) p5]) .ret))))
noncomputable def f40 : FFunc:=.mk c40 u21 [p0,p1] [.tmp p4,.tmp p5]
theorem e40 : @compF Try.prog (Gl.none Try.prog) Try.f40 2=f40:=by kernel_rfl
theorem o40 : okF Try.prog Try.f40=true:=by kernel_rfl
theorem g40 : Try.prog.funcs[(40 : Nat)]?=some Try.f40:=by kernel_rfl
noncomputable def c43 : FCode:=(.seq (.run [.go (.box 28 a0) p2,
.go (.move (.con z0)) p4,
.go (.move (.con z0)) p5,
.go (.move (.con z0)) p6]) (.seq (.seq (.run [.go (.loadN 3 a2) p10,
.go (.move a1) p11,
.go (.call (.con (.func (.func 54) ⟨[]⟩ ⟨[]⟩)) [a10,a11]) p12,
.go (.move a12) p7]) (.seq (.run [.go (.move a7) p13,
.go (.bin .neq 26 a13 (.con z0)) p14]) (.cond a14 (.seq (.run [.go (.move a7) p15,
.go (.move (.con z0)) p4,
.go (.move (.con z0)) p5,
.go (.move a15) p6]) .ret) .skip))) (.seq (.run [.go (.loadN 3 a2) p16,
.go (.move a1) p17,
.go (.call (.con (.func (.func 55) ⟨[]⟩ ⟨[]⟩)) [a16,a17]) p18,
.go (.alloc 83 [(.int .u8 (.ofNat 0)),z0,z0,z0,z0,z0,z0,z0,z0,z0,z0,z0,z0,z0,z0,z0,z0,z0,z0,z0,.nilFunc,.nilFunc]) p8,
.un (.store 22 a8 a18)]) (.seq (.run [.go (.loadN 22 a8) p20,
.go (.call (.con (.func (.func 56) ⟨[]⟩ ⟨[]⟩)) [a20]) p21,
.go (.move a21) p19,
.go (.extract a19 0) p22,
.go (.extract a19 1) p23,
.go (.alloc 78 [z0,z0,z0,z0,z0,z0,z0,z0]) p9,
.un (.store 8 a9 a22),
.go (.move a23) p6]) (.seq (.seq (.run [.go (.move a6) p24,
.go (.bin .neq 26 a24 (.con z0)) p25]) (.cond a25 (.seq (.run [.go (.move a6) p26,
.go (.move (.con z0)) p4,
.go (.move (.con z0)) p5,
.go (.move a26) p6]) .ret) .skip)) (.seq (.run [.go (.loadN 22 a8) p27,
.go (.loadN 8 a9) p28,
.go (.move a1) p29,
.go (.len 0 a29) p30,
.go (.call (.con (.func (.func 72) ⟨[]⟩ ⟨[]⟩)) [a27,a28,a30]) p31,
.go (.extract a31 0) p32,
.go (.extract a31 1) p33,
.go (.extract a31 2) p34,
.go (.move a32) p4,
.go (.move a33) p5,
.go (.move a34) p6]) .ret))))))
noncomputable def f43 : FFunc:=.mk c43 u22 [p0,p1] [.tmp p4,.tmp p5,.tmp p6]
theorem e43 : @compF Try.prog (Gl.none Try.prog) Try.f43 2=f43:=by kernel_rfl
theorem o43 : okF Try.prog Try.f43=true:=by kernel_rfl
theorem g43 : Try.prog.funcs[(43 : Nat)]?=some Try.f43:=by kernel_rfl
noncomputable def c45 : FCode:=(.seq (.run [.go (.alloc 28 [(.int .u8 (.ofNat 0)),z0,z0]) p2]) (.seq (.run [.go (.move a0) p3,
.go (.build [(.int .u8 (.ofNat 0)),z0,z0] [(0,1,a3),(1,1,(.con (.int .i64 (.ofNat 7))))]) p4,
.un (.store 3 a2 a4)]) .ret))
noncomputable def f45 : FFunc:=.mk c45 u5 [p0] [.many p2 3]
theorem e45 : @compF Try.prog (Gl.none Try.prog) Try.f45 1=f45:=by kernel_rfl
theorem o45 : okF Try.prog Try.f45=true:=by kernel_rfl
theorem g45 : Try.prog.funcs[(45 : Nat)]?=some Try.f45:=by kernel_rfl
noncomputable def c46 : FCode:=(.seq (.run [.go (.move (.con (.slice none 0 0))) p0]) (.seq (.run [.go (.buildSlice 3 3 [z0,z0,z0] [(0,1,(.con (.int .i64 (.ofNat 53)))),(1,1,(.con (.int .i64 (.ofNat 24)))),(2,1,(.con (.int .i64 (.ofNat 23))))]) p1,
.go (.move a1) p0]) .ret))
noncomputable def f46 : FFunc:=.mk c46 u2 [] [.tmp p0]
theorem e46 : @compF Try.prog (Gl.none Try.prog) Try.f46 0=f46:=by kernel_rfl
theorem o46 : okF Try.prog Try.f46=true:=by kernel_rfl
theorem g46 : Try.prog.funcs[(46 : Nat)]?=some Try.f46:=by kernel_rfl
noncomputable def c47 : FCode:=(.seq (.run [.go (.alloc 49 [z0,z0]) p4]) (.seq (.run [.go (.move a0) p5,
.go (.move a1) p6,
.go (.build [z0,z0] [(0,1,a5),(1,1,a6)]) p7,
.un (.store 2 a4 a7)]) .ret))
noncomputable def f47 : FFunc:=.mk c47 u16 [p0,p1] [.many p4 2]
theorem e47 : @compF Try.prog (Gl.none Try.prog) Try.f47 2=f47:=by kernel_rfl
theorem o47 : okF Try.prog Try.f47=true:=by kernel_rfl
theorem g47 : Try.prog.funcs[(47 : Nat)]?=some Try.f47:=by kernel_rfl
noncomputable def c53 : FCode:=(.seq (.run [.go (.box 28 a0) p1,
.go (.move (.con (.bool false))) p2]) (.seq (.draw 25 [.go (.fieldAddr 0 a1) p3,
.go (.load1 a3) p4,
.go (.bin .leq 5 (.con (.int .u8 (.ofNat 1))) a4) p5,
.go (.move a5) p6,
.gd p6 true (.fieldAddr 0 a1) p7,
.gd p6 true (.load1 a7) p8,
.gd p6 true (.bin .leq 5 a8 (.con (.int .u8 (.ofNat 5)))) p9,
.go (.pick a6 a9 (.con (.bool false))) p10,
.go (.move a10) p11,
.gd p11 true (.fieldAddr 1 a1) p12,
.gd p11 true (.load1 a12) p13,
.gd p11 true (.bin .leq 3 (.con z0) a13) p14,
.go (.pick a11 a14 (.con (.bool false))) p15,
.go (.move a15) p16,
.gd p16 true (.fieldAddr 1 a1) p17,
.gd p16 true (.load1 a17) p18,
.gd p16 true (.bin .leq 3 a18 (.con (.int .i64 (.ofNat 60)))) p19,
.go (.pick a16 a19 (.con (.bool false))) p20,
.go (.move a20) p21,
.gd p21 true (.call (.con (.func (.func 73) ⟨[]⟩ ⟨[]⟩)) []) p22,
.gd p21 true (.fieldAddr 2 a1) p23,
.gd p21 true (.load1 a23) p24,
.gd p21 true (.call (.con (.func (.func 60) ⟨[]⟩ ⟨[]⟩)) [a22,a24]) p25,
.go (.pick a21 a25 (.con (.bool false))) p26,
.go (.move a26) p2] [.ok,.ok,.ok,.ok,.ok,.ok,.ok,.ok,.ok,.ok,.ok,.ok,.ok,.ok,.ok,.ok,.ok,.ok,.ok,.ok,.ok,.rd (some (p21,true)) (.load1 a23) (some p24) [0],.ok,.ok,.ok]) .ret))
noncomputable def f53 : FFunc:=.mk c53 u23 [p0] [.tmp p2]
theorem e53 : @compF Try.prog (Gl.none Try.prog) Try.f53 1=f53:=by kernel_rfl
theorem o53 : okF Try.prog Try.f53=true:=by kernel_rfl
theorem g53 : Try.prog.funcs[(53 : Nat)]?=some Try.f53:=by kernel_rfl
noncomputable def c54 : FCode:=(.seq (.run [.go (.box 28 a0) p2,
.go (.move (.con z0)) p4]) (.seq (.draw 6 [.go (.loadN 3 a2) p5,
.go (.move a1) p6,
.go (.call (.con (.func (.func 73) ⟨[]⟩ ⟨[]⟩)) []) p7,
.go (.makeFunc 60 [a7] []) p8,
.go (.call (.con (.func (.func 74) ⟨[]⟩ ⟨[]⟩)) [a5,a6,a8]) p9,
.go (.move a9) p4] [.rd none (.loadN 3 a2) (some p5) [3],.ok,.ok,.ok,.ok,.ok]) .ret))
noncomputable def f54 : FFunc:=.mk c54 u20 [p0,p1] [.tmp p4]
theorem e54 : @compF Try.prog (Gl.none Try.prog) Try.f54 2=f54:=by kernel_rfl
theorem o54 : okF Try.prog Try.f54=true:=by kernel_rfl
theorem g54 : Try.prog.funcs[(54 : Nat)]?=some Try.f54:=by kernel_rfl
noncomputable def c55 : FCode:=(.seq (.run [.go (.box 28 a0) p2,
.go (.alloc 83 [(.int .u8 (.ofNat 0)),z0,z0,z0,z0,z0,z0,z0,z0,z0,z0,z0,z0,z0,z0,z0,z0,z0,z0,z0,.nilFunc,.nilFunc]) p4]) (.seq (.draw 10 [.go (.loadN 3 a2) p6,
.go (.move a1) p7,
.go (.call (.con (.func (.func 62) ⟨[]⟩ ⟨[]⟩)) [a7]) p8,
.go (.call (.con (.func (.func 75) ⟨[]⟩ ⟨[]⟩)) []) p9,
.go (.fieldAddr 0 a2) p10,
.go (.load1 a10) p11,
.go (.lookup 5 .nilFunc a9 a11 false) p12,
.go (.build [(.int .u8 (.ofNat 0)),z0,z0,z0,z0,z0,z0,z0,z0,z0,z0,z0,z0,z0,z0,z0,z0,z0,z0,z0,.nilFunc,.nilFunc] [(0,3,a6),(3,8,a8),(20,1,a12),(21,1,(.con (.func (.func 76) ⟨[]⟩ ⟨[]⟩)))]) p13,
.go (.alloc 83 [(.int .u8 (.ofNat 0)),z0,z0,z0,z0,z0,z0,z0,z0,z0,z0,z0,z0,z0,z0,z0,z0,z0,z0,z0,.nilFunc,.nilFunc]) p5,
.un (.store 22 a5 a13)] [.rd none (.loadN 3 a2) (some p6) [3,4],.ok,.ok,.ok,.ok,.rd none (.load1 a10) (some p11) [0,3],.ok,.ok,.nw none (some p5) 8 true,.ok]) (.seq (.seq (.run [.go (.fieldAddr 0 a2) p14,
.go (.load1 a14) p15,
.go (.bin .eql 5 a15 (.con (.int .u8 (.ofNat 5)))) p16]) (.cond a16 (.run [.go (.fieldAddr 21 a5) p17,
.un (.store 1 a17 (.con (.func (.func 77) ⟨[]⟩ ⟨[]⟩)))]) .skip)) (.seq (.run [.go (.loadN 22 a5) p18,
.go (.call (.con (.func (.func 78) ⟨[]⟩ ⟨[]⟩)) [a18]) p19,
.un (.store 22 a4 a19)]) .ret))))
noncomputable def f55 : FFunc:=.mk c55 u24 [p0,p1] [.many p4 22]
theorem e55 : @compF Try.prog (Gl.none Try.prog) Try.f55 2=f55:=by kernel_rfl
theorem o55 : okF Try.prog Try.f55=true:=by kernel_rfl
theorem g55 : Try.prog.funcs[(55 : Nat)]?=some Try.f55:=by kernel_rfl
noncomputable def c56 : FCode:=(.seq (.run [.go (.box 83 a0) p1,
.go (.alloc 78 [z0,z0,z0,z0,z0,z0,z0,z0]) p2,
.go (.move (.con z0)) p3]) (.seq (.run [.go (.loadN 22 a1) p7,
.go (.call (.con (.func (.func 79) ⟨[]⟩ ⟨[]⟩)) [a7]) p8,
.go (.move a8) p6,
.go (.extract a6 0) p9,
.go (.extract a6 1) p10,
.go (.alloc 78 [z0,z0,z0,z0,z0,z0,z0,z0]) p4,
.go (.alloc 78 [z0,z0,z0,z0,z0,z0,z0,z0]) p5,
.un (.store 8 a4 a9),
.un (.store 8 a5 a10)]) (.seq (.seq (.run [.go (.loadN 8 a4) p11,
.go (.loadN 8 a5) p12,
.go (.bin .neq 78 a11 a12) p13]) (.cond a13 (.seq (.run [.go (.build [z0,z0,z0,z0,z0,z0,z0,z0] []) p14,
.un (.store 8 a2 a14),
.go (.move (.con (.int .i64 (.ofNat 10)))) p3]) .ret) .skip)) (.seq (.run [.go (.loadN 8 a4) p15,
.un (.store 8 a2 a15),
.go (.move (.con z0)) p3]) .ret))))
noncomputable def f56 : FFunc:=.mk c56 u25 [p0] [.many p2 8,.tmp p3]
theorem e56 : @compF Try.prog (Gl.none Try.prog) Try.f56 1=f56:=by kernel_rfl
theorem o56 : okF Try.prog Try.f56=true:=by kernel_rfl
theorem g56 : Try.prog.funcs[(56 : Nat)]?=some Try.f56:=by kernel_rfl
noncomputable def c58 : FCode:=(.seq (.run [.go (.move (.con (.bool false))) p4]) (.seq (.seq (.run [.go (.move a0) p7,
.go (.len 0 a7) p8,
.go (.move (.con z0)) p9]) (.block 0 (.loop (.seq (.run [.go (.bin .lss 3 a9 a8) p10]) (.seq (.cond a10 .skip (.exit 0)) (.seq (.block 1 (.seq (.run [.go (.indexAddr none 1 a7 a9) p11,
.go (.load1 a11) p12,
.go (.move a12) p6]) (.seq (.run [.go (.move a1) p13,
.go (.move a6) p14,
.go (.call a13 [a14]) p15,
.go (.un .not a15) p16]) (.cond a16 (.seq (.run [.go (.move (.con (.bool false))) p4]) .ret) .skip)))) (.run [.go (.bin .add 3 a9 (.con (.int .i64 (.ofNat 1)))) p17,
.go (.move a17) p9]))))))) (.seq (.run [.go (.move (.con (.bool true))) p4]) .ret)))
noncomputable def f58 : FFunc:=.mk c58 u17 [p0,p1] [.tmp p4]
theorem e58 : @compF Try.prog (Gl.none Try.prog) Try.f58 2=f58:=by kernel_rfl
theorem o58 : okF Try.prog Try.f58=true:=by kernel_rfl
theorem g58 : Try.prog.funcs[(58 : Nat)]?=some Try.f58:=by kernel_rfl
noncomputable def c60 : FCode:=(.seq (.run [.go (.box 49 a0) p2,
.go (.move (.con (.bool false))) p4]) (.seq (.run [.go (.fieldAddr 0 a2) p5,
.go (.load1 a5) p6,
.go (.move a1) p7,
.go (.bin .leq 3 a6 a7) p8,
.go (.move a8) p9,
.gd p9 true (.move a1) p10,
.gd p9 true (.fieldAddr 1 a2) p11,
.gd p9 true (.load1 a11) p12,
.gd p9 true (.bin .leq 3 a10 a12) p13,
.go (.pick a9 a13 (.con (.bool false))) p14,
.go (.move a14) p4]) .ret))
noncomputable def f60 : FFunc:=.mk c60 u26 [p0,p1] [.tmp p4]
theorem e60 : @compF Try.prog (Gl.none Try.prog) Try.f60 2=f60:=by kernel_rfl
theorem o60 : okF Try.prog Try.f60=true:=by kernel_rfl
theorem g60 : Try.prog.funcs[(60 : Nat)]?=some Try.f60:=by kernel_rfl
noncomputable def c61 : FCode:=(.seq (.run [.go (.box 83 a0) p2,
.go (.box 78 a1) p3,
.go (.move (.con (.bool false))) p4,
.go (.move (.con (.bool false))) p5]) (.seq (.seq (.run [.go (.loadN 22 a2) p11,
.go (.loadN 8 a3) p12,
.go (.call (.con (.func (.func 80) ⟨[]⟩ ⟨[]⟩)) [a11,a12]) p13,
.go (.move a13) p6]) (.seq (.run [.go (.move a6) p14,
.go (.un .not a14) p15,
.go (.move a15) p16,
.gd p16 false (.loadN 22 a2) p17,
.gd p16 false (.call (.con (.func (.func 81) ⟨[]⟩ ⟨[]⟩)) [a17]) p18,
.gd p16 false (.bin .eql 3 a18 (.con z0)) p19,
.go (.pick a16 (.con (.bool true)) a19) p20]) (.cond a20 (.seq (.run [.go (.move a6) p21,
.go (.move a6) p22,
.go (.move a21) p4,
.go (.move a22) p5]) .ret) .skip))) (.seq (.run [.go (.call (.con (.func (.func 82) ⟨[]⟩ ⟨[]⟩)) [(.con z0),(.con (.int .i64 (.ofNat 1)))]) p23,
.go (.call (.con (.func (.func 83) ⟨[]⟩ ⟨[]⟩)) [(.con (.int .i64 (.ofNat 10000)))]) p24,
.go (.build [z0,z0] [(0,1,a24),(1,1,(.con z0))]) p25,
.go (.alloc 115 [z0,z0]) p7,
.go (.alloc 115 [z0,z0]) p8,
.un (.store 2 a7 a23),
.un (.store 2 a8 a25)]) (.seq (.seq (.run [.go (.loadN 22 a2) p26,
.go (.loadN 8 a3) p27,
.go (.call (.con (.func (.func 84) ⟨[]⟩ ⟨[]⟩)) [a26,a27]) p28]) (.block 0 (.rangeFunc a28 [p29,p30] (rfA Try.f61 0) (rfB Try.f61 0) (.seq (.run [.go (.move a29) p9]) (.run [.go (.alloc 115 [z0,z0]) p10,
.un (.store 2 a10 a30)])) (.block 1 (.seq (.run [.go (.loadN 2 a7) p31,
.go (.loadN 2 a10) p32,
.go (.call (.con (.func (.func 85) ⟨[]⟩ ⟨[]⟩)) [a31,a32]) p33,
.un (.store 2 a7 a33)]) (.seq (.run [.go (.move a9) p34,
.go (.indexAddr (some 8) 1 a3 a34) p35,
.go (.load1 a35) p36,
.go (.bin .gtr 3 a36 (.con z0)) p37]) (.cond a37 (.draw 12 [.go (.loadN 2 a8) p38,
.go (.fieldAddr 21 a2) p39,
.go (.load1 a39) p40,
.go (.loadN 22 a2) p41,
.go (.move a9) p42,
.go (.move a9) p43,
.go (.indexAddr (some 8) 1 a3 a43) p44,
.go (.load1 a44) p45,
.go (.bin .sub 3 a45 (.con (.int .i64 (.ofNat 1)))) p46,
.go (.call a40 [a41,a42,a46]) p47,
.go (.call (.con (.func (.func 86) ⟨[]⟩ ⟨[]⟩)) [a38,a47]) p48,
.un (.store 2 a8 a48)] [.rd none (.loadN 2 a8) (some p38) [10],.ok,.ok,.ok,.ok,.ok,.ok,.ok,.ok,.ok,.ok,.ok]) .skip))))))) (.seq (.draw 9 [.go (.loadN 2 a8) p49,
.go (.loadN 2 a7) p50,
.go (.call (.con (.func (.func 87) ⟨[]⟩ ⟨[]⟩)) [a49,a50]) p51,
.go (.un .not a51) p52,
.go (.loadN 2 a7) p53,
.go (.loadN 2 a8) p54,
.go (.call (.con (.func (.func 87) ⟨[]⟩ ⟨[]⟩)) [a53,a54]) p55,
.go (.move a52) p4,
.go (.move a55) p5] [.ok,.ok,.ok,.ok,.rd none (.loadN 2 a7) (some p53) [0],.rd none (.loadN 2 a8) (some p54) [0],.ok,.ok,.ok]) .ret)))))
noncomputable def f61 : FFunc:=.mk c61 u27 [p0,p1] [.tmp p4,.tmp p5]
theorem e61 : @compF Try.prog (Gl.none Try.prog) Try.f61 2=f61:=by kernel_rfl
theorem o61 : okF Try.prog Try.f61=true:=by kernel_rfl
theorem g61 : Try.prog.funcs[(61 : Nat)]?=some Try.f61:=by kernel_rfl
noncomputable def c62 : FCode:=(.seq (.run [.go (.alloc 78 [z0,z0,z0,z0,z0,z0,z0,z0]) p2]) (.seq (.run [.go (.alloc 78 [z0,z0,z0,z0,z0,z0,z0,z0]) p3]) (.seq (.run [.go (.sliceSlow 78 a3 none none) p4,
.go (.move a0) p5,
.go (.copy 1 a4 a5) p6]) (.seq (.run [.go (.loadN 8 a3) p7,
.un (.store 8 a2 a7)]) .ret))))
noncomputable def f62 : FFunc:=.mk c62 u16 [p0] [.many p2 8]
theorem e62 : @compF Try.prog (Gl.none Try.prog) Try.f62 1=f62:=by kernel_rfl
theorem o62 : okF Try.prog Try.f62=true:=by kernel_rfl
theorem g62 : Try.prog.funcs[(62 : Nat)]?=some Try.f62:=by kernel_rfl
noncomputable def c63 : FCode:=(.seq (.run [.go (.box 83 a0) p1,
.go (.alloc 78 [z0,z0,z0,z0,z0,z0,z0,z0]) p2,
.go (.alloc 78 [z0,z0,z0,z0,z0,z0,z0,z0]) p3,
.go (.move (.con z0)) p4]) (.seq (.run [.go (.loadN 22 a1) p6,
.go (.call (.con (.func (.func 56) ⟨[]⟩ ⟨[]⟩)) [a6]) p7,
.go (.move a7) p5,
.go (.extract a5 0) p8,
.go (.extract a5 1) p9,
.un (.store 8 a2 a8),
.go (.move a9) p4]) (.seq (.seq (.run [.go (.move a4) p10,
.go (.bin .neq 26 a10 (.con z0)) p11]) (.cond a11 (.seq (.run [.go (.build [z0,z0,z0,z0,z0,z0,z0,z0] []) p12,
.go (.build [z0,z0,z0,z0,z0,z0,z0,z0] []) p13,
.go (.move a4) p14,
.un (.store 8 a2 a12),
.un (.store 8 a3 a13),
.go (.move a14) p4]) .ret) .skip)) (.seq (.run [.go (.fieldAddr 0 a1) p15,
.go (.fieldAddr 1 a15) p16,
.go (.load1 a16) p17,
.go (.bin .add 3 a17 (.con (.int .i64 (.ofNat 1)))) p18,
.go (.fieldAddr 0 a1) p19,
.go (.fieldAddr 1 a19) p20,
.un (.store 1 a20 a18)]) (.seq (.run [.go (.loadN 22 a1) p22,
.go (.call (.con (.func (.func 56) ⟨[]⟩ ⟨[]⟩)) [a22]) p23,
.go (.move a23) p21,
.go (.extract a21 0) p24,
.go (.extract a21 1) p25,
.un (.store 8 a3 a24),
.go (.move a25) p4]) (.seq (.draw 6 [.go (.loadN 8 a2) p26,
.go (.loadN 8 a3) p27,
.go (.move a4) p28,
.un (.store 8 a2 a26),
.un (.store 8 a3 a27),
.go (.move a28) p4] [.ok,.rd none (.loadN 8 a3) (some p27) [4],.ok,.ok,.ok,.ok]) .ret))))))
noncomputable def f63 : FFunc:=.mk c63 u28 [p0] [.many p2 8,.many p3 8,.tmp p4]
theorem e63 : @compF Try.prog (Gl.none Try.prog) Try.f63 1=f63:=by kernel_rfl
theorem o63 : okF Try.prog Try.f63=true:=by kernel_rfl
theorem g63 : Try.prog.funcs[(63 : Nat)]?=some Try.f63:=by kernel_rfl
noncomputable def c64 : FCode:=(.seq (.run [.go (.box 78 a0) p2,
.go (.box 78 a1) p3,
.go (.move (.con z0)) p4,
.go (.move (.con z0)) p5]) (.seq (.seq (.run [.go (.loadN 8 a2) p8,
.go (.move (.con z0)) p9]) (.block 0 (.loop (.seq (.run [.go (.bin .lss 3 a9 (.con (.int .i64 (.ofNat 8)))) p10]) (.seq (.cond a10 .skip (.exit 0)) (.seq (.block 1 (.seq (.run [.go (.move a9) p11,
.go (.index 8 1 true a8 a9) p12,
.go (.move a11) p6,
.go (.move a12) p7]) (.seq (.run [.go (.move a7) p13,
.go (.move a6) p14,
.go (.indexAddr (some 8) 1 a3 a14) p15,
.go (.load1 a15) p16,
.go (.bin .lss 3 a13 a16) p17]) (.cond a17 (.seq (.run [.go (.move a6) p18,
.go (.move a18) p4,
.go (.move (.con z0)) p5]) .ret) .skip)))) (.run [.go (.bin .add 3 a9 (.con (.int .i64 (.ofNat 1)))) p19,
.go (.move a19) p9]))))))) (.seq (.run [.go (.move (.con z0)) p4,
.go (.move (.con (.int .i64 (.ofNat 7)))) p5]) .ret)))
noncomputable def f64 : FFunc:=.mk c64 u24 [p0,p1] [.tmp p4,.tmp p5]
theorem e64 : @compF Try.prog (Gl.none Try.prog) Try.f64 2=f64:=by kernel_rfl
theorem o64 : okF Try.prog Try.f64=true:=by kernel_rfl
theorem g64 : Try.prog.funcs[(64 : Nat)]?=some Try.f64:=by kernel_rfl
noncomputable def c65 : FCode:=(.seq (.run [.go (.box 83 a0) p2,
.go (.move (.con z0)) p4,
.go (.move (.con z0)) p5]) (.seq (.seq (.run [.go (.move a1) p7,
.go (.fieldAddr 11 a2) p8,
.go (.indexAddr (some 8) 1 a8 a7) p9,
.go (.load1 a9) p10,
.go (.bin .eql 3 a10 (.con z0)) p11]) (.cond a11 (.seq (.run [.go (.move (.con z0)) p4,
.go (.move (.con z0)) p5]) .ret) .skip)) (.seq (.draw 9 [.go (.move a1) p12,
.go (.fieldAddr 11 a2) p13,
.go (.indexAddr (some 8) 1 a13 a12) p14,
.go (.load1 a14) p15,
.go (.fieldAddr 0 a2) p16,
.go (.fieldAddr 1 a16) p17,
.go (.load1 a17) p18,
.go (.bin .mul 3 a15 a18) p19,
.go (.move a19) p6] [.ok,.ok,.ok,.ok,.ok,.ok,.ok,.ok,.ok]) (.seq (.draw 10 [.go (.move a6) p20,
.go (.fieldAddr 19 a2) p21,
.go (.load1 a21) p22,
.go (.bin .quo 3 a20 a22) p23,
.go (.move a6) p24,
.go (.fieldAddr 19 a2) p25,
.go (.load1 a25) p26,
.go (.bin .rem 3 a24 a26) p27,
.go (.move a23) p4,
.go (.move a27) p5] [.ok,.ok,.ok,.ok,.ok,.ok,.ok,.ok,.ok,.ok]) .ret))))
noncomputable def f65 : FFunc:=.mk c65 u13 [p0,p1] [.tmp p4,.tmp p5]
theorem e65 : @compF Try.prog (Gl.none Try.prog) Try.f65 2=f65:=by kernel_rfl
theorem o65 : okF Try.prog Try.f65=true:=by kernel_rfl
theorem g65 : Try.prog.funcs[(65 : Nat)]?=some Try.f65:=by kernel_rfl
noncomputable def c66 : FCode:=(.seq (.run [.go (.box 28 a0) p3,
.go (.move (.con z0)) p6]) (.seq (.block 0 (.seq (.run [.go (.loadN 3 a3) p8,
.go (.call (.con (.func (.func 53) ⟨[]⟩ ⟨[]⟩)) [a8]) p9,
.go (.un .not a9) p10,
.go (.move a10) p7]) (.cond a7 (.seq (.run [.go (.move (.con (.int .i64 (.ofNat 1)))) p6]) .ret) (.seq (.run [.go (.move a1) p12,
.go (.len 0 a12) p13,
.go (.bin .gtr 3 a13 (.con (.int .i64 (.ofNat 8)))) p14,
.go (.move a14) p11]) (.cond a11 (.seq (.run [.go (.move (.con (.int .i64 (.ofNat 3)))) p6]) .ret) (.seq (.run [.go (.move a1) p16,
.go (.move a2) p17,
.go (.call (.con (.func (.func 88) ⟨[]⟩ ⟨[]⟩)) [a16,a17]) p18,
.go (.un .not a18) p19,
.go (.move a19) p15]) (.cond a15 (.seq (.run [.go (.move (.con (.int .i64 (.ofNat 2)))) p6]) .ret) .skip))))))) (.seq (.run [.go (.move (.con z0)) p6]) .ret)))
noncomputable def f66 : FFunc:=.mk c66 u24 [p0,p1,p2] [.tmp p6]
theorem e66 : @compF Try.prog (Gl.none Try.prog) Try.f66 3=f66:=by kernel_rfl
theorem o66 : okF Try.prog Try.f66=true:=by kernel_rfl
theorem g66 : Try.prog.funcs[(66 : Nat)]?=some Try.f66:=by kernel_rfl
noncomputable def c67 : FCode:=(.seq (.run [.go (.box 49 a0) p1,
.go (.move (.con (.bool false))) p2]) (.seq (.draw 18 [.go (.fieldAddr 0 a1) p3,
.go (.load1 a3) p4,
.go (.fieldAddr 1 a1) p5,
.go (.load1 a5) p6,
.go (.bin .leq 3 a4 a6) p7,
.go (.move a7) p8,
.gd p8 true (.call (.con (.func (.func 73) ⟨[]⟩ ⟨[]⟩)) []) p9,
.gd p8 true (.fieldAddr 0 a1) p10,
.gd p8 true (.load1 a10) p11,
.gd p8 true (.call (.con (.func (.func 60) ⟨[]⟩ ⟨[]⟩)) [a9,a11]) p12,
.go (.pick a8 a12 (.con (.bool false))) p13,
.go (.move a13) p14,
.gd p14 true (.call (.con (.func (.func 73) ⟨[]⟩ ⟨[]⟩)) []) p15,
.gd p14 true (.fieldAddr 1 a1) p16,
.gd p14 true (.load1 a16) p17,
.gd p14 true (.call (.con (.func (.func 60) ⟨[]⟩ ⟨[]⟩)) [a15,a17]) p18,
.go (.pick a14 a18 (.con (.bool false))) p19,
.go (.move a19) p2] [.ok,.ok,.ok,.ok,.ok,.ok,.ok,.ok,.rd (some (p8,true)) (.load1 a10) (some p11) [0],.ok,.ok,.ok,.ok,.ok,.rd (some (p14,true)) (.load1 a16) (some p17) [10],.ok,.ok,.ok]) .ret))
noncomputable def f67 : FFunc:=.mk c67 u24 [p0] [.tmp p2]
theorem e67 : @compF Try.prog (Gl.none Try.prog) Try.f67 1=f67:=by kernel_rfl
theorem o67 : okF Try.prog Try.f67=true:=by kernel_rfl
theorem g67 : Try.prog.funcs[(67 : Nat)]?=some Try.f67:=by kernel_rfl
noncomputable def c68 : FCode:=(.seq (.run [.go (.box 28 a0) p2,
.go (.move (.con (.slice none 0 0))) p4]) (.seq (.run [.go (.move (.con (.slice none 0 0))) p5,
.go (.move (.con (.slice none 0 0))) p6]) (.seq (.seq (.run [.go (.move a1) p16,
.go (.len 0 a16) p17,
.go (.move (.con z0)) p18]) (.block 0 (.loop (.seq (.run [.go (.bin .lss 3 a18 a17) p19]) (.seq (.cond a19 .skip (.exit 0)) (.seq (.block 1 (.seq (.run [.go (.indexAddr none 2 a16 a18) p20,
.go (.loadN 2 a20) p21,
.go (.alloc 49 [z0,z0]) p8,
.un (.store 2 a8 a21)]) (.seq (.run [.go (.move a5) p22,
.go (.fieldAddr 0 a8) p23,
.go (.load1 a23) p24,
.go (.buildSlice 3 1 [z0] [(0,1,a24)]) p25,
.go (.append 3 1 8 a22 a25) p26,
.go (.move a26) p5]) (.run [.go (.move a6) p27,
.go (.fieldAddr 1 a8) p28,
.go (.load1 a28) p29,
.go (.buildSlice 3 1 [z0] [(0,1,a29)]) p30,
.go (.append 3 1 8 a27 a30) p31,
.go (.move a31) p6])))) (.run [.go (.bin .add 3 a18 (.con (.int .i64 (.ofNat 1)))) p32,
.go (.move a32) p18]))))))) (.seq (.run [.go (.move (.con (.slice none 0 0))) p9]) (.seq (.seq (.run [.go (.move a1) p33,
.go (.len 0 a33) p34,
.go (.move (.con z0)) p35]) (.block 2 (.loop (.seq (.run [.go (.bin .lss 3 a35 a34) p36]) (.seq (.cond a36 .skip (.exit 2)) (.seq (.block 3 (.seq (.run [.go (.move a35) p37,
.go (.indexAddr none 2 a33 a35) p38,
.go (.loadN 2 a38) p39,
.go (.alloc 49 [z0,z0]) p11,
.go (.move a37) p10,
.un (.store 2 a11 a39)]) (.seq (.draw 15 [.go (.loadN 3 a2) p41,
.go (.move a6) p42,
.go (.move a10) p43,
.go (.fieldAddr 0 a11) p44,
.go (.load1 a44) p45,
.go (.call (.con (.func (.func 89) ⟨[]⟩ ⟨[]⟩)) [a42,a43,a45]) p46,
.go (.call (.con (.func (.func 55) ⟨[]⟩ ⟨[]⟩)) [a41,a46]) p47,
.go (.call (.con (.func (.func 79) ⟨[]⟩ ⟨[]⟩)) [a47]) p48,
.go (.move a48) p40,
.go (.extract a40 0) p49,
.go (.extract a40 1) p50,
.go (.alloc 78 [z0,z0,z0,z0,z0,z0,z0,z0]) p12,
.go (.alloc 78 [z0,z0,z0,z0,z0,z0,z0,z0]) p13,
.un (.store 8 a12 a49),
.un (.store 8 a13 a50)] [.rd none (.loadN 3 a2) (some p41) [6],.ok,.ok,.ok,.ok,.ok,.ok,.ok,.ok,.ok,.ok,.nw none (some p12) 11 true,.nw none (some p13) 12 true,.ok,.ok]) (.seq (.draw 15 [.go (.loadN 3 a2) p52,
.go (.move a5) p53,
.go (.move a10) p54,
.go (.fieldAddr 1 a11) p55,
.go (.load1 a55) p56,
.go (.call (.con (.func (.func 89) ⟨[]⟩ ⟨[]⟩)) [a53,a54,a56]) p57,
.go (.call (.con (.func (.func 55) ⟨[]⟩ ⟨[]⟩)) [a52,a57]) p58,
.go (.call (.con (.func (.func 79) ⟨[]⟩ ⟨[]⟩)) [a58]) p59,
.go (.move a59) p51,
.go (.extract a51 0) p60,
.go (.extract a51 1) p61,
.go (.alloc 78 [z0,z0,z0,z0,z0,z0,z0,z0]) p14,
.go (.alloc 78 [z0,z0,z0,z0,z0,z0,z0,z0]) p15,
.un (.store 8 a14 a60),
.un (.store 8 a15 a61)] [.rd none (.loadN 3 a2) (some p52) [6],.ok,.ok,.ok,.ok,.ok,.ok,.ok,.ok,.ok,.ok,.nw none (some p14) 11 true,.nw none (some p15) 12 true,.ok,.ok]) (.draw 11 [.go (.move a9) p62,
.go (.move a10) p63,
.go (.indexAddr (some 8) 1 a12 a63) p64,
.go (.load1 a64) p65,
.go (.move a10) p66,
.go (.indexAddr (some 8) 1 a15 a66) p67,
.go (.load1 a67) p68,
.go (.build [z0,z0] [(0,1,a65),(1,1,a68)]) p69,
.go (.buildSlice 49 1 [z0,z0] [(0,2,a69)]) p70,
.go (.append 49 2 16 a62 a70) p71,
.go (.move a71) p9] [.ok,.ok,.ok,.ok,.ok,.ok,.ok,.ok,.ok,.ok,.ok]))))) (.run [.go (.bin .add 3 a35 (.con (.int .i64 (.ofNat 1)))) p72,
.go (.move a72) p35]))))))) (.seq (.run [.go (.move a9) p73,
.go (.move a73) p4]) .ret))))))
noncomputable def f68 : FFunc:=.mk c68 u30 [p0,p1] [.tmp p4]
theorem e68 : @compF Try.prog (Gl.none Try.prog) Try.f68 2=f68:=by kernel_rfl
theorem o68 : okF Try.prog Try.f68=true:=by kernel_rfl
theorem g68 : Try.prog.funcs[(68 : Nat)]?=some Try.f68:=by kernel_rfl
noncomputable def c72 : FCode:=(.seq (.run [.go (.box 83 a0) p3,
.go (.box 78 a1) p4,
.go (.move (.con z0)) p6,
.go (.move (.con z0)) p7,
.go (.move (.con z0)) p8]) (.scope (.seq (.run [.go (.move (.con (.int .i64 (.ofNat 9)))) p8]) (.seq .skip (.seq (.seq (.run [.go (.move (.con (.int .i64 (.ofNat 1)))) p9]) (.block 0 (.loop (.seq (.seq (.run [.go (.move a9) p13,
.go (.bin .leq 3 a13 (.con (.int .i64 (.ofNat 10000)))) p14]) (.cond a14 .skip (.exit 0))) (.seq (.block 1 (.seq (.run [.go (.move (.con z0)) p10]) (.block 2 (.loop (.seq (.seq (.run [.go (.move a10) p17,
.go (.move a2) p18,
.go (.bin .lss 3 a17 a18) p19]) (.cond a19 .skip (.exit 2))) (.seq (.block 3 (.seq (.run [.go (.move a9) p22,
.go (.move a9) p23,
.go (.un .neg a23) p24,
.go (.build [z0,z0] [(0,1,a22),(1,1,a24)]) p25,
.go (.move (.con z0)) p26]) (.block 4 (.loop (.seq (.run [.go (.bin .lss 3 a26 (.con (.int .i64 (.ofNat 2)))) p27]) (.seq (.cond a27 .skip (.exit 4)) (.seq (.block 5 (.seq (.run [.go (.index 2 1 true a25 a26) p28,
.go (.move a28) p12]) (.seq (.run [.go (.loadN 22 a3) p29,
.go (.move a10) p30,
.go (.move a12) p31,
.go (.loadN 8 a4) p32,
.go (.call (.con (.func (.func 90) ⟨[]⟩ ⟨[]⟩)) [a29,a30,a31,a32]) p33]) (.cond a33 (.seq (.run [.go (.move a10) p34,
.go (.move a12) p35,
.go (.move a34) p6,
.go (.move a35) p7,
.go (.move (.con z0)) p8]) (.exit 0)) .skip)))) (.run [.go (.bin .add 3 a26 (.con (.int .i64 (.ofNat 1)))) p36,
.go (.move a36) p26])))))))) (.run [.go (.move a10) p20,
.go (.bin .add 3 a20 (.con (.int .i64 (.ofNat 1)))) p21,
.go (.move a21) p10]))))))) (.run [.go (.move a9) p15,
.go (.bin .add 3 a15 (.con (.int .i64 (.ofNat 1)))) p16,
.go (.move a16) p9])))))) (.seq (.run [.go (.move a6) p37,
.go (.move a7) p38,
.go (.move a8) p39,
.go (.move a37) p6,
.go (.move a38) p7,
.go (.move a39) p8]) .ret))))))
noncomputable def f72 : FFunc:=.mk c72 u32 [p0,p1,p2] [.tmp p6,.tmp p7,.tmp p8]
theorem e72 : @compF Try.prog (Gl.none Try.prog) Try.f72 3=f72:=by kernel_rfl
theorem o72 : okF Try.prog Try.f72=true:=by kernel_rfl
theorem g72 : Try.prog.funcs[(72 : Nat)]?=some Try.f72:=by kernel_rfl
noncomputable def c73 : FCode:=(.seq (.run [.go (.alloc 49 [z0,z0]) p0]) (.seq (.run [.go (.build [z0,z0] [(0,1,(.con z0)),(1,1,(.con (.int .i64 (.ofNat 10000))))]) p1,
.un (.store 2 a0 a1)]) .ret))
noncomputable def f73 : FFunc:=.mk c73 u2 [] [.many p0 2]
theorem e73 : @compF Try.prog (Gl.none Try.prog) Try.f73 0=f73:=by kernel_rfl
theorem o73 : okF Try.prog Try.f73=true:=by kernel_rfl
theorem g73 : Try.prog.funcs[(73 : Nat)]?=some Try.f73:=by kernel_rfl
noncomputable def c74 : FCode:=(.seq (.run [.go (.box 28 a0) p3,
.go (.move (.con z0)) p6]) (.seq (.block 0 (.seq (.run [.go (.loadN 3 a3) p8,
.go (.call (.con (.func (.func 53) ⟨[]⟩ ⟨[]⟩)) [a8]) p9,
.go (.un .not a9) p10,
.go (.move a10) p7]) (.cond a7 (.seq (.run [.go (.move (.con (.int .i64 (.ofNat 1)))) p6]) .ret) (.seq (.run [.go (.move a1) p12,
.go (.len 0 a12) p13,
.go (.bin .gtr 3 a13 (.con (.int .i64 (.ofNat 8)))) p14,
.go (.move a14) p11]) (.cond a11 (.seq (.run [.go (.move (.con (.int .i64 (.ofNat 3)))) p6]) .ret) (.seq (.run [.go (.move a1) p16,
.go (.move a2) p17,
.go (.call (.con (.func (.func 58) ⟨[]⟩ ⟨[]⟩)) [a16,a17]) p18,
.go (.un .not a18) p19,
.go (.move a19) p15]) (.cond a15 (.seq (.run [.go (.move (.con (.int .i64 (.ofNat 2)))) p6]) .ret) .skip))))))) (.seq (.run [.go (.move (.con z0)) p6]) .ret)))
noncomputable def f74 : FFunc:=.mk c74 u24 [p0,p1,p2] [.tmp p6]
theorem e74 : @compF Try.prog (Gl.none Try.prog) Try.f74 3=f74:=by kernel_rfl
theorem o74 : okF Try.prog Try.f74=true:=by kernel_rfl
theorem g74 : Try.prog.funcs[(74 : Nat)]?=some Try.f74:=by kernel_rfl
noncomputable def c75 : FCode:=(.seq (.run [.go (.move (.con (.map none))) p0]) (.seq (.run [.go (.makeMap 5) p1,
.un (.mapUpdate 5 a1 (.con (.int .u8 (.ofNat 1))) (.con (.func (.func 91) ⟨[]⟩ ⟨[]⟩))),
.un (.mapUpdate 5 a1 (.con (.int .u8 (.ofNat 2))) (.con (.func (.func 92) ⟨[]⟩ ⟨[]⟩))),
.un (.mapUpdate 5 a1 (.con (.int .u8 (.ofNat 3))) (.con (.func (.func 93) ⟨[]⟩ ⟨[]⟩))),
.un (.mapUpdate 5 a1 (.con (.int .u8 (.ofNat 4))) (.con (.func (.func 94) ⟨[]⟩ ⟨[]⟩))),
.go (.move a1) p2,
.go (.move a2) p0]) .ret))
noncomputable def f75 : FFunc:=.mk c75 u1 [] [.tmp p0]
theorem e75 : @compF Try.prog (Gl.none Try.prog) Try.f75 0=f75:=by kernel_rfl
theorem o75 : okF Try.prog Try.f75=true:=by kernel_rfl
theorem g75 : Try.prog.funcs[(75 : Nat)]?=some Try.f75:=by kernel_rfl
noncomputable def c76 : FCode:=(.seq (.run [.go (.box 83 a0) p3,
.go (.alloc 115 [z0,z0]) p6]) (.seq (.draw 11 [.go (.move a1) p7,
.go (.fieldAddr 11 a3) p8,
.go (.indexAddr (some 8) 1 a8 a7) p9,
.go (.load1 a9) p10,
.go (.call (.con (.func (.func 83) ⟨[]⟩ ⟨[]⟩)) [a10]) p11,
.go (.fieldAddr 20 a3) p12,
.go (.load1 a12) p13,
.go (.move a2) p14,
.go (.call a13 [a14]) p15,
.go (.call (.con (.func (.func 82) ⟨[]⟩ ⟨[]⟩)) [a11,a15]) p16,
.un (.store 2 a6 a16)] [.ok,.ok,.ok,.ok,.ok,.ok,.rd none (.load1 a12) (some p13) [0],.ok,.ok,.ok,.ok]) .ret))
noncomputable def f76 : FFunc:=.mk c76 u18 [p0,p1,p2] [.many p6 2]
theorem e76 : @compF Try.prog (Gl.none Try.prog) Try.f76 3=f76:=by kernel_rfl
theorem o76 : okF Try.prog Try.f76=true:=by kernel_rfl
theorem g76 : Try.prog.funcs[(76 : Nat)]?=some Try.f76:=by kernel_rfl
noncomputable def c77 : FCode:=(.seq (.run [.go (.box 83 a0) p3,
.go (.alloc 115 [z0,z0]) p6]) (.seq (.run [.go (.loadN 22 a3) p10,
.go (.move a1) p11,
.go (.call (.con (.func (.func 65) ⟨[]⟩ ⟨[]⟩)) [a10,a11]) p12,
.go (.move a12) p9,
.go (.extract a9 0) p13,
.go (.extract a9 1) p14,
.go (.move a13) p7,
.go (.move a14) p8]) (.seq (.block 0 (.seq (.run [.go (.move a2) p16,
.go (.move a7) p17,
.go (.bin .lss 3 a16 a17) p18,
.go (.move a18) p15]) (.cond a15 (.seq (.run [.go (.build [z0,z0] [(0,1,(.con (.int .i64 (.ofNat 1)))),(1,1,(.con z0))]) p19,
.un (.store 2 a6 a19)]) .ret) (.seq (.run [.go (.move a2) p21,
.go (.move a7) p22,
.go (.bin .eql 3 a21 a22) p23,
.go (.move a23) p20]) (.cond a20 (.seq (.run [.go (.move a8) p24,
.go (.fieldAddr 19 a3) p25,
.go (.load1 a25) p26,
.go (.call (.con (.func (.func 82) ⟨[]⟩ ⟨[]⟩)) [a24,a26]) p27,
.un (.store 2 a6 a27)]) .ret) .skip))))) (.seq (.run [.go (.call (.con (.func (.func 82) ⟨[]⟩ ⟨[]⟩)) [(.con z0),(.con (.int .i64 (.ofNat 1)))]) p28,
.un (.store 2 a6 a28)]) .ret))))
noncomputable def f77 : FFunc:=.mk c77 u28 [p0,p1,p2] [.many p6 2]
theorem e77 : @compF Try.prog (Gl.none Try.prog) Try.f77 3=f77:=by kernel_rfl
theorem o77 : okF Try.prog Try.f77=true:=by kernel_rfl
theorem g77 : Try.prog.funcs[(77 : Nat)]?=some Try.f77:=by kernel_rfl
noncomputable def c78 : FCode:=(.seq (.run [.go (.box 83 a0) p1,
.go (.alloc 83 [(.int .u8 (.ofNat 0)),z0,z0,z0,z0,z0,z0,z0,z0,z0,z0,z0,z0,z0,z0,z0,z0,z0,z0,z0,.nilFunc,.nilFunc]) p2]) (.seq (.run [.go (.fieldAddr 0 a1) p6,
.go (.loadN 3 a6) p7,
.go (.makeFunc 95 [a7] []) p8,
.go (.move a8) p3]) (.seq (.run [.go (.build [z0,z0,z0,z0,z0,z0,z0,z0] []) p9,
.go (.fieldAddr 11 a1) p10,
.un (.store 8 a10 a9)]) (.seq (.seq (.run [.go (.fieldAddr 3 a1) p11,
.go (.loadN 8 a11) p12,
.go (.move (.con z0)) p13]) (.block 0 (.loop (.seq (.run [.go (.bin .lss 3 a13 (.con (.int .i64 (.ofNat 8)))) p14]) (.seq (.cond a14 .skip (.exit 0)) (.seq (.block 1 (.seq (.run [.go (.move a13) p15,
.go (.index 8 1 true a12 a13) p16,
.go (.move a15) p4,
.go (.move a16) p5]) (.seq (.run [.go (.move a3) p17,
.go (.move a5) p18,
.go (.call a17 [a18]) p19]) (.cond a19 (.run [.go (.move a4) p20,
.go (.move a5) p21,
.go (.fieldAddr 11 a1) p22,
.go (.indexAddr (some 8) 1 a22 a20) p23,
.un (.store 1 a23 a21)]) .skip)))) (.run [.go (.bin .add 3 a13 (.con (.int .i64 (.ofNat 1)))) p24,
.go (.move a24) p13]))))))) (.seq (.run [.go (.fieldAddr 11 a1) p25,
.go (.sliceSlow 78 a25 none none) p26,
.go (.call (.con (.func (.func 96) ⟨[]⟩ ⟨[]⟩)) [a26]) p27,
.go (.fieldAddr 19 a1) p28,
.un (.store 1 a28 a27)]) (.seq (.run [.go (.loadN 22 a1) p29,
.un (.store 22 a2 a29)]) .ret))))))
noncomputable def f78 : FFunc:=.mk c78 u33 [p0] [.many p2 22]
theorem e78 : @compF Try.prog (Gl.none Try.prog) Try.f78 1=f78:=by kernel_rfl
theorem o78 : okF Try.prog Try.f78=true:=by kernel_rfl
theorem g78 : Try.prog.funcs[(78 : Nat)]?=some Try.f78:=by kernel_rfl
noncomputable def c79 : FCode:=(.seq (.run [.go (.box 83 a0) p1,
.go (.alloc 78 [z0,z0,z0,z0,z0,z0,z0,z0]) p2,
.go (.alloc 78 [z0,z0,z0,z0,z0,z0,z0,z0]) p3]) (.seq (.run [.go (.alloc 126 [.nilFunc]) p4]) (.seq (.run [.go (.makeFunc 97 [] [a1,a2,a3,a4]) p5,
.un (.store 1 a4 a5)]) (.seq (.run [.go (.load1 a4) p6,
.go (.fieldAddr 0 a1) p7,
.go (.fieldAddr 1 a7) p8,
.go (.load1 a8) p9,
.go (.call a6 [a9]) p10]) (.seq (.draw 4 [.go (.loadN 8 a2) p11,
.go (.loadN 8 a3) p12,
.un (.store 8 a2 a11),
.un (.store 8 a3 a12)] [.ok,.rd none (.loadN 8 a3) (some p12) [3],.ok,.ok]) .ret)))))
noncomputable def f79 : FFunc:=.mk c79 u4 [p0] [.many p2 8,.many p3 8]
theorem e79 : @compF Try.prog (Gl.none Try.prog) Try.f79 1=f79:=by kernel_rfl
theorem o79 : okF Try.prog Try.f79=true:=by kernel_rfl
theorem g79 : Try.prog.funcs[(79 : Nat)]?=some Try.f79:=by kernel_rfl
noncomputable def c80 : FCode:=(.seq (.run [.go (.box 83 a0) p2,
.go (.box 78 a1) p3,
.go (.move (.con (.bool false))) p4]) (.seq (.seq (.run [.go (.loadN 8 a3) p7,
.go (.move (.con z0)) p8]) (.block 0 (.loop (.seq (.run [.go (.bin .lss 3 a8 (.con (.int .i64 (.ofNat 8)))) p9]) (.seq (.cond a9 .skip (.exit 0)) (.seq (.block 1 (.seq (.run [.go (.move a8) p10,
.go (.index 8 1 true a7 a8) p11,
.go (.move a10) p5,
.go (.move a11) p6]) (.seq (.run [.go (.move a6) p12,
.go (.bin .gtr 3 a12 (.con z0)) p13,
.go (.move a13) p14,
.gd p14 true (.move a5) p15,
.gd p14 true (.fieldAddr 11 a2) p16,
.gd p14 true (.indexAddr (some 8) 1 a16 a15) p17,
.gd p14 true (.load1 a17) p18,
.gd p14 true (.bin .eql 3 a18 (.con z0)) p19,
.go (.pick a14 a19 (.con (.bool false))) p20]) (.cond a20 (.seq (.run [.go (.move (.con (.bool false))) p4]) .ret) .skip)))) (.run [.go (.bin .add 3 a8 (.con (.int .i64 (.ofNat 1)))) p21,
.go (.move a21) p8]))))))) (.seq (.draw 6 [.go (.sliceSlow 78 a3 none none) p22,
.go (.call (.con (.func (.func 96) ⟨[]⟩ ⟨[]⟩)) [a22]) p23,
.go (.loadN 22 a2) p24,
.go (.call (.con (.func (.func 81) ⟨[]⟩ ⟨[]⟩)) [a24]) p25,
.go (.bin .eql 3 a23 a25) p26,
.go (.move a26) p4] [.ok,.ok,.rd none (.loadN 22 a2) (some p24) [0],.ok,.ok,.ok]) .ret)))
noncomputable def f80 : FFunc:=.mk c80 u23 [p0,p1] [.tmp p4]
theorem e80 : @compF Try.prog (Gl.none Try.prog) Try.f80 2=f80:=by kernel_rfl
theorem o80 : okF Try.prog Try.f80=true:=by kernel_rfl
theorem g80 : Try.prog.funcs[(80 : Nat)]?=some Try.f80:=by kernel_rfl
noncomputable def c81 : FCode:=(.seq (.run [.go (.box 83 a0) p1,
.go (.move (.con z0)) p2]) (.seq (.seq (.run [.go (.fieldAddr 19 a1) p3,
.go (.load1 a3) p4,
.go (.bin .eql 3 a4 (.con z0)) p5]) (.cond a5 (.seq (.run [.go (.move (.con z0)) p2]) .ret) .skip)) (.seq (.run [.go (.fieldAddr 0 a1) p6,
.go (.fieldAddr 1 a6) p7,
.go (.load1 a7) p8,
.go (.move a8) p2]) .ret)))
noncomputable def f81 : FFunc:=.mk c81 u15 [p0] [.tmp p2]
theorem e81 : @compF Try.prog (Gl.none Try.prog) Try.f81 1=f81:=by kernel_rfl
theorem o81 : okF Try.prog Try.f81=true:=by kernel_rfl
theorem g81 : Try.prog.funcs[(81 : Nat)]?=some Try.f81:=by kernel_rfl
noncomputable def c82 : FCode:=(.seq (.run [.go (.alloc 115 [z0,z0]) p4]) (.seq (.seq (.run [.go (.move a1) p7,
.go (.bin .eql 3 a7 (.con z0)) p8]) (.cond a8 (.seq (.run [.go (.move a0) p9,
.go (.build [z0,z0] [(0,1,a9),(1,1,(.con z0))]) p10,
.un (.store 2 a4 a10)]) .ret) .skip)) (.seq (.run [.go (.move a0) p11,
.go (.move a1) p12,
.go (.move a11) p5,
.go (.move a12) p6]) (.seq (.block 0 (.loop (.seq (.seq (.run [.go (.move a6) p13,
.go (.bin .neq 3 a13 (.con z0)) p14]) (.cond a14 .skip (.exit 0))) (.block 1 (.draw 6 [.go (.move a6) p15,
.go (.move a5) p16,
.go (.move a6) p17,
.go (.bin .rem 3 a16 a17) p18,
.go (.move a15) p5,
.go (.move a18) p6] [.ok,.ok,.ok,.ok,.ok,.ok]))))) (.seq (.draw 8 [.go (.move a0) p19,
.go (.move a5) p20,
.go (.bin .quo 3 a19 a20) p21,
.go (.move a1) p22,
.go (.move a5) p23,
.go (.bin .quo 3 a22 a23) p24,
.go (.build [z0,z0] [(0,1,a21),(1,1,a24)]) p25,
.un (.store 2 a4 a25)] [.ok,.ok,.ok,.ok,.ok,.ok,.ok,.ok]) .ret)))))
noncomputable def f82 : FFunc:=.mk c82 u7 [p0,p1] [.many p4 2]
theorem e82 : @compF Try.prog (Gl.none Try.prog) Try.f82 2=f82:=by kernel_rfl
theorem o82 : okF Try.prog Try.f82=true:=by kernel_rfl
theorem g82 : Try.prog.funcs[(82 : Nat)]?=some Try.f82:=by kernel_rfl
noncomputable def c83 : FCode:=(.seq (.run [.go (.move (.con z0)) p2]) (.seq (.run [.go (.move a0) p3,
.go (.move a0) p4,
.go (.bin .mul 3 a3 a4) p5,
.go (.move a5) p2]) .ret))
noncomputable def f83 : FFunc:=.mk c83 u3 [p0] [.tmp p2]
theorem e83 : @compF Try.prog (Gl.none Try.prog) Try.f83 1=f83:=by kernel_rfl
theorem o83 : okF Try.prog Try.f83=true:=by kernel_rfl
theorem g83 : Try.prog.funcs[(83 : Nat)]?=some Try.f83:=by kernel_rfl
noncomputable def c84 : FCode:=(.seq (.run [.go (.box 83 a0) p2,
.go (.box 78 a1) p3,
.go (.move (.con .nilFunc)) p4]) (.seq (.run [.go (.makeFunc 99 [] [a2,a3]) p5,
.go (.move a5) p4]) .ret))
noncomputable def f84 : FFunc:=.mk c84 u3 [p0,p1] [.tmp p4]
theorem e84 : @compF Try.prog (Gl.none Try.prog) Try.f84 2=f84:=by kernel_rfl
theorem o84 : okF Try.prog Try.f84=true:=by kernel_rfl
theorem g84 : Try.prog.funcs[(84 : Nat)]?=some Try.f84:=by kernel_rfl
noncomputable def c85 : FCode:=(.seq (.run [.go (.box 115 a0) p2,
.go (.box 115 a1) p3,
.go (.alloc 115 [z0,z0]) p4]) (.seq (.seq (.run [.go (.loadN 2 a2) p5,
.go (.loadN 2 a3) p6,
.go (.call (.con (.func (.func 87) ⟨[]⟩ ⟨[]⟩)) [a5,a6]) p7]) (.cond a7 (.seq (.run [.go (.loadN 2 a3) p8,
.un (.store 2 a4 a8)]) .ret) .skip)) (.seq (.run [.go (.loadN 2 a2) p9,
.un (.store 2 a4 a9)]) .ret)))
noncomputable def f85 : FFunc:=.mk c85 u20 [p0,p1] [.many p4 2]
theorem e85 : @compF Try.prog (Gl.none Try.prog) Try.f85 2=f85:=by kernel_rfl
theorem o85 : okF Try.prog Try.f85=true:=by kernel_rfl
theorem g85 : Try.prog.funcs[(85 : Nat)]?=some Try.f85:=by kernel_rfl
noncomputable def c86 : FCode:=(.seq (.run [.go (.box 115 a0) p2,
.go (.box 115 a1) p3,
.go (.alloc 115 [z0,z0]) p4]) (.seq (.seq (.run [.go (.loadN 2 a2) p5,
.go (.loadN 2 a3) p6,
.go (.call (.con (.func (.func 87) ⟨[]⟩ ⟨[]⟩)) [a5,a6]) p7]) (.cond a7 (.seq (.run [.go (.loadN 2 a2) p8,
.un (.store 2 a4 a8)]) .ret) .skip)) (.seq (.run [.go (.loadN 2 a3) p9,
.un (.store 2 a4 a9)]) .ret)))
noncomputable def f86 : FFunc:=.mk c86 u20 [p0,p1] [.many p4 2]
theorem e86 : @compF Try.prog (Gl.none Try.prog) Try.f86 2=f86:=by kernel_rfl
theorem o86 : okF Try.prog Try.f86=true:=by kernel_rfl
theorem g86 : Try.prog.funcs[(86 : Nat)]?=some Try.f86:=by kernel_rfl
noncomputable def c87 : FCode:=(.seq (.run [.go (.box 115 a0) p2,
.go (.box 115 a1) p3,
.go (.move (.con (.bool false))) p4]) (.seq (.seq (.run [.go (.fieldAddr 1 a2) p5,
.go (.load1 a5) p6,
.go (.bin .eql 3 a6 (.con z0)) p7,
.go (.move a7) p8,
.gd p8 true (.fieldAddr 1 a3) p9,
.gd p8 true (.load1 a9) p10,
.gd p8 true (.bin .eql 3 a10 (.con z0)) p11,
.go (.pick a8 a11 (.con (.bool false))) p12]) (.cond a12 (.seq (.run [.go (.fieldAddr 0 a2) p13,
.go (.load1 a13) p14,
.go (.fieldAddr 0 a3) p15,
.go (.load1 a15) p16,
.go (.bin .lss 3 a14 a16) p17,
.go (.move a17) p4]) .ret) .skip)) (.seq (.run [.go (.fieldAddr 0 a2) p18,
.go (.load1 a18) p19,
.go (.fieldAddr 1 a3) p20,
.go (.load1 a20) p21,
.go (.bin .mul 3 a19 a21) p22,
.go (.fieldAddr 0 a3) p23,
.go (.load1 a23) p24,
.go (.fieldAddr 1 a2) p25,
.go (.load1 a25) p26,
.go (.bin .mul 3 a24 a26) p27,
.go (.bin .lss 3 a22 a27) p28,
.go (.move a28) p4]) .ret)))
noncomputable def f87 : FFunc:=.mk c87 u28 [p0,p1] [.tmp p4]
theorem e87 : @compF Try.prog (Gl.none Try.prog) Try.f87 2=f87:=by kernel_rfl
theorem o87 : okF Try.prog Try.f87=true:=by kernel_rfl
theorem g87 : Try.prog.funcs[(87 : Nat)]?=some Try.f87:=by kernel_rfl
noncomputable def c88 : FCode:=(.seq (.run [.go (.move (.con (.bool false))) p4]) (.seq (.seq (.run [.go (.move a0) p7,
.go (.len 0 a7) p8,
.go (.move (.con z0)) p9]) (.block 0 (.loop (.seq (.run [.go (.bin .lss 3 a9 a8) p10]) (.seq (.cond a10 .skip (.exit 0)) (.seq (.block 1 (.seq (.run [.go (.indexAddr none 2 a7 a9) p11,
.go (.loadN 2 a11) p12,
.go (.alloc 49 [z0,z0]) p6,
.un (.store 2 a6 a12)]) (.seq (.run [.go (.move a1) p13,
.go (.loadN 2 a6) p14,
.go (.call a13 [a14]) p15,
.go (.un .not a15) p16]) (.cond a16 (.seq (.run [.go (.move (.con (.bool false))) p4]) .ret) .skip)))) (.run [.go (.bin .add 3 a9 (.con (.int .i64 (.ofNat 1)))) p17,
.go (.move a17) p9]))))))) (.seq (.run [.go (.move (.con (.bool true))) p4]) .ret)))
noncomputable def f88 : FFunc:=.mk c88 u17 [p0,p1] [.tmp p4]
theorem e88 : @compF Try.prog (Gl.none Try.prog) Try.f88 2=f88:=by kernel_rfl
theorem o88 : okF Try.prog Try.f88=true:=by kernel_rfl
theorem g88 : Try.prog.funcs[(88 : Nat)]?=some Try.f88:=by kernel_rfl
noncomputable def c89 : FCode:=(.seq (.run [.go (.move (.con (.slice none 0 0))) p6]) (.seq (.run [.go (.move a0) p7,
.go (.call (.con (.func (.func 100) ⟨[]⟩ ⟨[]⟩)) [a7]) p8,
.go (.move a8) p0]) (.seq (.run [.go (.move a0) p9,
.go (.move a1) p10,
.go (.move a2) p11,
.go (.indexAddr none 1 a9 a10) p12,
.un (.store 1 a12 a11)]) (.seq (.run [.go (.move a0) p13,
.go (.move a13) p6]) .ret))))
noncomputable def f89 : FFunc:=.mk c89 u12 [p0,p1,p2] [.tmp p6]
theorem e89 : @compF Try.prog (Gl.none Try.prog) Try.f89 3=f89:=by kernel_rfl
theorem o89 : okF Try.prog Try.f89=true:=by kernel_rfl
theorem g89 : Try.prog.funcs[(89 : Nat)]?=some Try.f89:=by kernel_rfl
noncomputable def c90 : FCode:=(.seq (.run [.go (.box 83 a0) p4,
.go (.box 78 a3) p7,
.go (.move (.con (.bool false))) p8]) (.seq (.run [.go (.move a1) p11,
.go (.fieldAddr 3 a4) p12,
.go (.indexAddr (some 8) 1 a12 a11) p13,
.go (.load1 a13) p14,
.go (.move a2) p15,
.go (.bin .add 3 a14 a15) p16,
.go (.fieldAddr 3 a4) p17,
.go (.indexAddr (some 8) 1 a17 a11) p18,
.un (.store 1 a18 a16)]) (.seq (.seq (.draw 7 [.go (.call (.con (.func (.func 73) ⟨[]⟩ ⟨[]⟩)) []) p19,
.go (.move a1) p20,
.go (.fieldAddr 3 a4) p21,
.go (.indexAddr (some 8) 1 a21 a20) p22,
.go (.load1 a22) p23,
.go (.call (.con (.func (.func 60) ⟨[]⟩ ⟨[]⟩)) [a19,a23]) p24,
.go (.un .not a24) p25] [.ok,.ok,.ok,.ok,.rd none (.load1 a22) (some p23) [0],.ok,.ok]) (.cond a25 (.seq (.run [.go (.move (.con (.bool false))) p8]) .ret) .skip)) (.seq (.draw 9 [.go (.loadN 22 a4) p27,
.go (.call (.con (.func (.func 78) ⟨[]⟩ ⟨[]⟩)) [a27]) p28,
.go (.loadN 8 a7) p29,
.go (.call (.con (.func (.func 61) ⟨[]⟩ ⟨[]⟩)) [a28,a29]) p30,
.go (.move a30) p26,
.go (.extract a26 0) p31,
.go (.extract a26 1) p32,
.go (.move a31) p9,
.go (.move a32) p10] [.ok,.ok,.rd none (.loadN 8 a7) (some p29) [0],.ok,.ok,.ok,.ok,.ok,.ok]) (.seq (.run [.go (.move a10) p33,
.go (.un .not a33) p34,
.go (.move a34) p8]) .ret)))))
noncomputable def f90 : FFunc:=.mk c90 u22 [p0,p1,p2,p3] [.tmp p8]
theorem e90 : @compF Try.prog (Gl.none Try.prog) Try.f90 4=f90:=by kernel_rfl
theorem o90 : okF Try.prog Try.f90=true:=by kernel_rfl
theorem g90 : Try.prog.funcs[(90 : Nat)]?=some Try.f90:=by kernel_rfl
noncomputable def c91 : FCode:=(.seq (.run [.go (.move (.con z0)) p2]) (.seq (.run [.go (.move a0) p3,
.go (.call (.con (.func (.func 83) ⟨[]⟩ ⟨[]⟩)) [a3]) p4,
.go (.move a4) p2]) .ret))
noncomputable def f91 : FFunc:=.mk c91 u5 [p0] [.tmp p2]
theorem e91 : @compF Try.prog (Gl.none Try.prog) Try.f91 1=f91:=by kernel_rfl
theorem o91 : okF Try.prog Try.f91=true:=by kernel_rfl
theorem g91 : Try.prog.funcs[(91 : Nat)]?=some Try.f91:=by kernel_rfl
noncomputable def c92 : FCode:=(.seq (.run [.go (.move (.con z0)) p2]) (.seq (.run [.go (.move a0) p3,
.go (.bin .add 3 a3 (.con (.int .i64 (.ofNat 1)))) p4,
.go (.call (.con (.func (.func 83) ⟨[]⟩ ⟨[]⟩)) [a4]) p5,
.go (.move a5) p2]) .ret))
noncomputable def f92 : FFunc:=.mk c92 u3 [p0] [.tmp p2]
theorem e92 : @compF Try.prog (Gl.none Try.prog) Try.f92 1=f92:=by kernel_rfl
theorem o92 : okF Try.prog Try.f92=true:=by kernel_rfl
theorem g92 : Try.prog.funcs[(92 : Nat)]?=some Try.f92:=by kernel_rfl
noncomputable def c93 : FCode:=(.seq (.run [.go (.move (.con z0)) p2]) (.seq (.run [.go (.move a0) p3,
.go (.bin .mul 3 (.con (.int .i64 (.ofNat 2))) a3) p4,
.go (.bin .add 3 a4 (.con (.int .i64 (.ofNat 1)))) p5,
.go (.call (.con (.func (.func 83) ⟨[]⟩ ⟨[]⟩)) [a5]) p6,
.go (.move a6) p2]) .ret))
noncomputable def f93 : FFunc:=.mk c93 u11 [p0] [.tmp p2]
theorem e93 : @compF Try.prog (Gl.none Try.prog) Try.f93 1=f93:=by kernel_rfl
theorem o93 : okF Try.prog Try.f93=true:=by kernel_rfl
theorem g93 : Try.prog.funcs[(93 : Nat)]?=some Try.f93:=by kernel_rfl
noncomputable def c94 : FCode:=(.seq (.run [.go (.move (.con z0)) p2]) (.seq (.run [.go (.move a0) p3,
.go (.move a0) p4,
.go (.bin .add 3 a4 (.con (.int .i64 (.ofNat 1)))) p5,
.go (.bin .mul 3 a3 a5) p6,
.go (.move a6) p2]) .ret))
noncomputable def f94 : FFunc:=.mk c94 u11 [p0] [.tmp p2]
theorem e94 : @compF Try.prog (Gl.none Try.prog) Try.f94 1=f94:=by kernel_rfl
theorem o94 : okF Try.prog Try.f94=true:=by kernel_rfl
theorem g94 : Try.prog.funcs[(94 : Nat)]?=some Try.f94:=by kernel_rfl
noncomputable def c95 : FCode:=(.seq (.run [.go (.box 28 a0) p2,
.go (.move (.con (.bool false))) p4]) (.seq (.run [.go (.move a1) p5,
.go (.fieldAddr 2 a2) p6,
.go (.load1 a6) p7,
.go (.mm true [(.con (.int .i64 (.ofNat 1))),a7]) p8,
.go (.bin .geq 3 a5 a8) p9,
.go (.move a9) p4]) .ret))
noncomputable def f95 : FFunc:=.mk c95 u20 [p0,p1] [.tmp p4]
theorem e95 : @compF Try.prog (Gl.none Try.prog) Try.f95 2=f95:=by kernel_rfl
theorem o95 : okF Try.prog Try.f95=true:=by kernel_rfl
theorem g95 : Try.prog.funcs[(95 : Nat)]?=some Try.f95:=by kernel_rfl
noncomputable def c96 : FCode:=(.seq (.run [.go (.move (.con z0)) p2]) (.seq (.run [.go (.move (.con z0)) p3]) (.seq (.seq (.run [.go (.move a0) p6,
.go (.len 0 a6) p7,
.go (.move (.con z0)) p8]) (.block 0 (.loop (.seq (.run [.go (.bin .lss 3 a8 a7) p9]) (.seq (.cond a9 .skip (.exit 0)) (.seq (.block 1 (.seq (.run [.go (.indexAddr none 1 a6 a8) p10,
.go (.load1 a10) p11,
.go (.move a11) p5]) (.run [.go (.move a3) p12,
.go (.move a5) p13,
.go (.bin .add 3 a12 a13) p14,
.go (.move a14) p3]))) (.run [.go (.bin .add 3 a8 (.con (.int .i64 (.ofNat 1)))) p15,
.go (.move a15) p8]))))))) (.seq (.run [.go (.move a3) p16,
.go (.move a16) p2]) .ret))))
noncomputable def f96 : FFunc:=.mk c96 u18 [p0] [.tmp p2]
theorem e96 : @compF Try.prog (Gl.none Try.prog) Try.f96 1=f96:=by kernel_rfl
theorem o96 : okF Try.prog Try.f96=true:=by kernel_rfl
theorem g96 : Try.prog.funcs[(96 : Nat)]?=some Try.f96:=by kernel_rfl
noncomputable def c97 : FCode:=(.seq (.run [.go (.loadN 22 a1) p9,
.go (.loadN 8 a2) p10,
.go (.call (.con (.func (.func 98) ⟨[]⟩ ⟨[]⟩)) [a9,a10]) p11,
.go (.move a11) p6]) (.seq (.seq (.run [.go (.move a0) p12,
.go (.bin .eql 3 a12 (.con z0)) p13,
.go (.move a13) p14,
.gd p14 false (.move a6) p15,
.gd p14 false (.len 0 a15) p16,
.gd p14 false (.bin .eql 3 a16 (.con z0)) p17,
.go (.pick a14 (.con (.bool true)) a17) p18]) (.cond a18 .ret .skip)) (.seq (.seq (.run [.go (.move a6) p19,
.go (.len 0 a19) p20,
.go (.move (.con z0)) p21]) (.block 0 (.loop (.seq (.run [.go (.bin .lss 3 a21 a20) p22]) (.seq (.cond a22 .skip (.exit 0)) (.seq (.block 1 (.seq (.run [.go (.indexAddr none 1 a19 a21) p23,
.go (.load1 a23) p24,
.go (.move a24) p8]) (.run [.go (.move a8) p25,
.go (.indexAddr (some 8) 1 a3 a25) p26,
.go (.load1 a26) p27,
.go (.bin .add 3 a27 (.con (.int .i64 (.ofNat 1)))) p28,
.go (.indexAddr (some 8) 1 a3 a25) p29,
.un (.store 1 a29 a28)]))) (.run [.go (.bin .add 3 a21 (.con (.int .i64 (.ofNat 1)))) p30,
.go (.move a30) p21]))))))) (.seq (.run [.go (.move a6) p31,
.go (.len 0 a31) p32,
.go (.move a0) p33,
.go (.bin .leq 3 a32 a33) p34]) (.cond a34 (.seq (.run [.go (.loadN 8 a3) p35,
.un (.store 8 a2 a35)]) (.run [.go (.load1 a4) p36,
.go (.move a0) p37,
.go (.move a6) p38,
.go (.len 0 a38) p39,
.go (.bin .sub 3 a37 a39) p40,
.go (.call a36 [a40]) p41])) .skip)))))
noncomputable def f97 : FFunc:=.mk c97 u34 [p0,p1,p2,p3,p4] []
theorem e97 : @compF Try.prog (Gl.none Try.prog) Try.f97 5=f97:=by kernel_rfl
theorem o97 : okF Try.prog Try.f97=true:=by kernel_rfl
theorem g97 : Try.prog.funcs[(97 : Nat)]?=some Try.f97:=by kernel_rfl
noncomputable def c98 : FCode:=(.seq (.run [.go (.box 83 a0) p2,
.go (.box 78 a1) p3,
.go (.move (.con (.slice none 0 0))) p4]) (.seq (.run [.go (.alloc 115 [z0,z0]) p5]) (.seq (.run [.go (.alloc 24 [(.slice none 0 0)]) p6]) (.seq (.seq (.run [.go (.loadN 22 a2) p9,
.go (.loadN 8 a3) p10,
.go (.call (.con (.func (.func 84) ⟨[]⟩ ⟨[]⟩)) [a9,a10]) p11]) (.block 0 (.rangeFunc a11 [p12,p13] (rfA Try.f98 0) (rfB Try.f98 0) (.seq (.run [.go (.move a12) p7]) (.run [.go (.alloc 115 [z0,z0]) p8,
.un (.store 2 a8 a13)])) (.block 1 (.block 2 (.seq (.run [.go (.load1 a6) p15,
.go (.len 0 a15) p16,
.go (.bin .eql 3 a16 (.con z0)) p17,
.go (.move a17) p18,
.gd p18 false (.loadN 2 a5) p19,
.gd p18 false (.loadN 2 a8) p20,
.gd p18 false (.call (.con (.func (.func 87) ⟨[]⟩ ⟨[]⟩)) [a19,a20]) p21,
.go (.pick a18 (.con (.bool true)) a21) p22,
.go (.move a22) p14]) (.cond a14 (.run [.go (.loadN 2 a8) p23,
.go (.move a7) p24,
.go (.buildSlice 3 1 [z0] [(0,1,a24)]) p25,
.un (.store 2 a5 a23),
.un (.store 1 a6 a25)]) (.seq (.run [.go (.loadN 2 a8) p27,
.go (.loadN 2 a5) p28,
.go (.bin .eql 115 a27 a28) p29,
.go (.move a29) p26]) (.cond a26 (.run [.go (.load1 a6) p30,
.go (.move a7) p31,
.go (.buildSlice 3 1 [z0] [(0,1,a31)]) p32,
.go (.append 3 1 8 a30 a32) p33,
.un (.store 1 a6 a33)]) .skip))))))))) (.seq (.run [.go (.load1 a6) p34,
.go (.move a34) p4]) .ret)))))
noncomputable def f98 : FFunc:=.mk c98 u22 [p0,p1] [.tmp p4]
theorem e98 : @compF Try.prog (Gl.none Try.prog) Try.f98 2=f98:=by kernel_rfl
theorem o98 : okF Try.prog Try.f98=true:=by kernel_rfl
theorem g98 : Try.prog.funcs[(98 : Nat)]?=some Try.f98:=by kernel_rfl
noncomputable def c99 : FCode:=(.seq (.run [.go (.fieldAddr 11 a1) p6,
.go (.loadN 8 a6) p7,
.go (.move (.con z0)) p8]) (.block 0 (.loop (.seq (.run [.go (.bin .lss 3 a8 (.con (.int .i64 (.ofNat 8)))) p9]) (.seq (.cond a9 .skip (.exit 0)) (.seq (.block 1 (.seq (.run [.go (.move a8) p10,
.go (.index 8 1 true a7 a8) p11,
.go (.move a10) p4,
.go (.move a11) p5]) (.seq (.draw 16 [.go (.move a5) p12,
.go (.bin .gtr 3 a12 (.con z0)) p13,
.go (.move a13) p14,
.gd p14 true (.move a0) p15,
.gd p14 true (.move a4) p16,
.gd p14 true (.fieldAddr 21 a1) p17,
.gd p14 true (.load1 a17) p18,
.gd p14 true (.loadN 22 a1) p19,
.gd p14 true (.move a4) p20,
.gd p14 true (.move a4) p21,
.gd p14 true (.indexAddr (some 8) 1 a2 a21) p22,
.gd p14 true (.load1 a22) p23,
.gd p14 true (.call a18 [a19,a20,a23]) p24,
.gd p14 true (.call a15 [a16,a24]) p25,
.gd p14 true (.un .not a25) p26,
.go (.pick a14 a26 (.con (.bool false))) p27] [.ok,.ok,.ok,.ok,.ok,.ok,.ok,.ok,.ok,.ok,.ok,.ok,.ok,.ok,.ok,.ok]) (.cond a27 .ret .skip)))) (.run [.go (.bin .add 3 a8 (.con (.int .i64 (.ofNat 1)))) p28,
.go (.move a28) p8])))))))
noncomputable def f99 : FFunc:=.mk c99 u28 [p0,p1,p2] []
theorem e99 : @compF Try.prog (Gl.none Try.prog) Try.f99 3=f99:=by kernel_rfl
theorem o99 : okF Try.prog Try.f99=true:=by kernel_rfl
theorem g99 : Try.prog.funcs[(99 : Nat)]?=some Try.f99:=by kernel_rfl
noncomputable def c100 : FCode:=(.seq (.run [.go (.move (.con (.slice none 0 0))) p2]) (.seq (.seq (.run [.go (.move a0) p3,
.go (.bin .eql 24 a3 (.con (.slice none 0 0))) p4]) (.cond a4 (.seq (.run [.go (.move (.con (.slice none 0 0))) p2]) .ret) .skip)) (.seq (.run [.go (.buildSlice 3 0 [] []) p5,
.go (.move a0) p6,
.go (.append 3 1 8 a5 a6) p7,
.go (.move a7) p2]) .ret)))
noncomputable def f100 : FFunc:=.mk c100 u16 [p0] [.tmp p2]
theorem e100 : @compF Try.prog (Gl.none Try.prog) Try.f100 1=f100:=by kernel_rfl
theorem o100 : okF Try.prog Try.f100=true:=by kernel_rfl
theorem g100 : Try.prog.funcs[(100 : Nat)]?=some Try.f100:=by kernel_rfl
noncomputable def tbl0 : FT:=(.n .bad (.n .bad (.n .bad (.n .bad (.n .bad (.n f31 (.n f63 .e .e) (.n f95 .e .e)) (.n f47 (.n f79 .e .e) (.n .bad .e .e))) (.n f23 (.n .bad (.n .bad .e .e) (.n .bad .e .e)) (.n f55 (.n f87 .e .e) .e))) (.n .bad (.n .bad (.n .bad (.n f67 .e .e) (.n f99 .e .e)) (.n .bad (.n f83 .e .e) (.n .bad .e .e))) (.n .bad (.n f43 (.n f75 .e .e) (.n .bad .e .e)) (.n .bad (.n f91 .e .e) .e)))) (.n .bad (.n .bad (.n .bad (.n .bad (.n f65 .e .e) (.n f97 .e .e)) (.n .bad (.n f81 .e .e) (.n .bad .e .e))) (.n .bad (.n .bad (.n f73 .e .e) (.n .bad .e .e)) (.n .bad (.n f89 .e .e) .e))) (.n .bad (.n .bad (.n .bad (.n .bad .e .e) (.n .bad .e .e)) (.n f53 (.n f85 .e .e) (.n .bad .e .e))) (.n .bad (.n f45 (.n f77 .e .e) (.n .bad .e .e)) (.n f61 (.n f93 .e .e) .e))))) (.n .bad (.n .bad (.n .bad (.n .bad (.n .bad (.n f64 .e .e) (.n f96 .e .e)) (.n .bad (.n f80 .e .e) (.n .bad .e .e))) (.n .bad (.n f40 (.n f72 .e .e) (.n .bad .e .e)) (.n f56 (.n f88 .e .e) .e))) (.n .bad (.n f20 (.n .bad (.n f68 .e .e) (.n f100 .e .e)) (.n .bad (.n f84 .e .e) (.n .bad .e .e))) (.n f28 (.n .bad (.n f76 .e .e) (.n .bad .e .e)) (.n f60 (.n f92 .e .e) .e)))) (.n .bad (.n .bad (.n .bad (.n .bad (.n f66 .e .e) (.n f98 .e .e)) (.n .bad (.n f82 .e .e) (.n .bad .e .e))) (.n .bad (.n .bad (.n f74 .e .e) (.n .bad .e .e)) (.n f58 (.n f90 .e .e) .e))) (.n .bad (.n .bad (.n .bad (.n .bad .e .e) (.n .bad .e .e)) (.n f54 (.n f86 .e .e) .e)) (.n .bad (.n f46 (.n f78 .e .e) (.n .bad .e .e)) (.n f62 (.n f94 .e .e) .e))))))
noncomputable def F0 (n : Nat) : FFunc:=look tbl0 n
def orcs0 (_n : Nat) : Option Bool:=none
theorem ok0 (O : Orc Try.prog) (h : O.O=orcs0) : @FnOk Try.prog (Gl.none Try.prog) O F0:=@fnOk_of Try.prog (Gl.none Try.prog) O _ (by rw[h];exact⟨.inl rfl,⟨.inl rfl,⟨.inl rfl,⟨.inl rfl,⟨.inl rfl,⟨.inr (.inr ⟨rfl,_,_,g31,o31,e31⟩),⟨.inr (.inr ⟨rfl,_,_,g63,o63,e63⟩),trivial,trivial⟩,⟨.inr (.inr ⟨rfl,_,_,g95,o95,e95⟩),trivial,trivial⟩⟩,⟨.inr (.inr ⟨rfl,_,_,g47,o47,e47⟩),⟨.inr (.inr ⟨rfl,_,_,g79,o79,e79⟩),trivial,trivial⟩,⟨.inl rfl,trivial,trivial⟩⟩⟩,⟨.inr (.inr ⟨rfl,_,_,g23,o23,e23⟩),⟨.inl rfl,⟨.inl rfl,trivial,trivial⟩,⟨.inl rfl,trivial,trivial⟩⟩,⟨.inr (.inr ⟨rfl,_,_,g55,o55,e55⟩),⟨.inr (.inr ⟨rfl,_,_,g87,o87,e87⟩),trivial,trivial⟩,trivial⟩⟩⟩,⟨.inl rfl,⟨.inl rfl,⟨.inl rfl,⟨.inr (.inr ⟨rfl,_,_,g67,o67,e67⟩),trivial,trivial⟩,⟨.inr (.inr ⟨rfl,_,_,g99,o99,e99⟩),trivial,trivial⟩⟩,⟨.inl rfl,⟨.inr (.inr ⟨rfl,_,_,g83,o83,e83⟩),trivial,trivial⟩,⟨.inl rfl,trivial,trivial⟩⟩⟩,⟨.inl rfl,⟨.inr (.inr ⟨rfl,_,_,g43,o43,e43⟩),⟨.inr (.inr ⟨rfl,_,_,g75,o75,e75⟩),trivial,trivial⟩,⟨.inl rfl,trivial,trivial⟩⟩,⟨.inl rfl,⟨.inr (.inr ⟨rfl,_,_,g91,o91,e91⟩),trivial,trivial⟩,trivial⟩⟩⟩⟩,⟨.inl rfl,⟨.inl rfl,⟨.inl rfl,⟨.inl rfl,⟨.inr (.inr ⟨rfl,_,_,g65,o65,e65⟩),trivial,trivial⟩,⟨.inr (.inr ⟨rfl,_,_,g97,o97,e97⟩),trivial,trivial⟩⟩,⟨.inl rfl,⟨.inr (.inr ⟨rfl,_,_,g81,o81,e81⟩),trivial,trivial⟩,⟨.inl rfl,trivial,trivial⟩⟩⟩,⟨.inl rfl,⟨.inl rfl,⟨.inr (.inr ⟨rfl,_,_,g73,o73,e73⟩),trivial,trivial⟩,⟨.inl rfl,trivial,trivial⟩⟩,⟨.inl rfl,⟨.inr (.inr ⟨rfl,_,_,g89,o89,e89⟩),trivial,trivial⟩,trivial⟩⟩⟩,⟨.inl rfl,⟨.inl rfl,⟨.inl rfl,⟨.inl rfl,trivial,trivial⟩,⟨.inl rfl,trivial,trivial⟩⟩,⟨.inr (.inr ⟨rfl,_,_,g53,o53,e53⟩),⟨.inr (.inr ⟨rfl,_,_,g85,o85,e85⟩),trivial,trivial⟩,⟨.inl rfl,trivial,trivial⟩⟩⟩,⟨.inl rfl,⟨.inr (.inr ⟨rfl,_,_,g45,o45,e45⟩),⟨.inr (.inr ⟨rfl,_,_,g77,o77,e77⟩),trivial,trivial⟩,⟨.inl rfl,trivial,trivial⟩⟩,⟨.inr (.inr ⟨rfl,_,_,g61,o61,e61⟩),⟨.inr (.inr ⟨rfl,_,_,g93,o93,e93⟩),trivial,trivial⟩,trivial⟩⟩⟩⟩⟩,⟨.inl rfl,⟨.inl rfl,⟨.inl rfl,⟨.inl rfl,⟨.inl rfl,⟨.inr (.inr ⟨rfl,_,_,g64,o64,e64⟩),trivial,trivial⟩,⟨.inr (.inr ⟨rfl,_,_,g96,o96,e96⟩),trivial,trivial⟩⟩,⟨.inl rfl,⟨.inr (.inr ⟨rfl,_,_,g80,o80,e80⟩),trivial,trivial⟩,⟨.inl rfl,trivial,trivial⟩⟩⟩,⟨.inl rfl,⟨.inr (.inr ⟨rfl,_,_,g40,o40,e40⟩),⟨.inr (.inr ⟨rfl,_,_,g72,o72,e72⟩),trivial,trivial⟩,⟨.inl rfl,trivial,trivial⟩⟩,⟨.inr (.inr ⟨rfl,_,_,g56,o56,e56⟩),⟨.inr (.inr ⟨rfl,_,_,g88,o88,e88⟩),trivial,trivial⟩,trivial⟩⟩⟩,⟨.inl rfl,⟨.inr (.inr ⟨rfl,_,_,g20,o20,e20⟩),⟨.inl rfl,⟨.inr (.inr ⟨rfl,_,_,g68,o68,e68⟩),trivial,trivial⟩,⟨.inr (.inr ⟨rfl,_,_,g100,o100,e100⟩),trivial,trivial⟩⟩,⟨.inl rfl,⟨.inr (.inr ⟨rfl,_,_,g84,o84,e84⟩),trivial,trivial⟩,⟨.inl rfl,trivial,trivial⟩⟩⟩,⟨.inr (.inr ⟨rfl,_,_,g28,o28,e28⟩),⟨.inl rfl,⟨.inr (.inr ⟨rfl,_,_,g76,o76,e76⟩),trivial,trivial⟩,⟨.inl rfl,trivial,trivial⟩⟩,⟨.inr (.inr ⟨rfl,_,_,g60,o60,e60⟩),⟨.inr (.inr ⟨rfl,_,_,g92,o92,e92⟩),trivial,trivial⟩,trivial⟩⟩⟩⟩,⟨.inl rfl,⟨.inl rfl,⟨.inl rfl,⟨.inl rfl,⟨.inr (.inr ⟨rfl,_,_,g66,o66,e66⟩),trivial,trivial⟩,⟨.inr (.inr ⟨rfl,_,_,g98,o98,e98⟩),trivial,trivial⟩⟩,⟨.inl rfl,⟨.inr (.inr ⟨rfl,_,_,g82,o82,e82⟩),trivial,trivial⟩,⟨.inl rfl,trivial,trivial⟩⟩⟩,⟨.inl rfl,⟨.inl rfl,⟨.inr (.inr ⟨rfl,_,_,g74,o74,e74⟩),trivial,trivial⟩,⟨.inl rfl,trivial,trivial⟩⟩,⟨.inr (.inr ⟨rfl,_,_,g58,o58,e58⟩),⟨.inr (.inr ⟨rfl,_,_,g90,o90,e90⟩),trivial,trivial⟩,trivial⟩⟩⟩,⟨.inl rfl,⟨.inl rfl,⟨.inl rfl,⟨.inl rfl,trivial,trivial⟩,⟨.inl rfl,trivial,trivial⟩⟩,⟨.inr (.inr ⟨rfl,_,_,g54,o54,e54⟩),⟨.inr (.inr ⟨rfl,_,_,g86,o86,e86⟩),trivial,trivial⟩,trivial⟩⟩,⟨.inl rfl,⟨.inr (.inr ⟨rfl,_,_,g46,o46,e46⟩),⟨.inr (.inr ⟨rfl,_,_,g78,o78,e78⟩),trivial,trivial⟩,⟨.inl rfl,trivial,trivial⟩⟩,⟨.inr (.inr ⟨rfl,_,_,g62,o62,e62⟩),⟨.inr (.inr ⟨rfl,_,_,g94,o94,e94⟩),trivial,trivial⟩,trivial⟩⟩⟩⟩⟩⟩)
noncomputable def tbl1 : FT:=(.n .bad (.n .bad (.n .bad (.n .bad (.n .bad (.n f31 (.n f63 .e .e) (.n f95 .e .e)) (.n f47 (.n f79 .e .e) (.n .bad .e .e))) (.n f23 (.n .bad (.n .bad .e .e) (.n .bad .e .e)) (.n f55 (.n f87 .e .e) .e))) (.n .bad (.n .bad (.n .bad (.n f67 .e .e) (.n f99 .e .e)) (.n .bad (.n f83 .e .e) (.n .bad .e .e))) (.n .bad (.n f43 (.n f75 .e .e) (.n .bad .e .e)) (.n .bad (.n f91 .e .e) .e)))) (.n .bad (.n .bad (.n .bad (.n .bad (.n f65 .e .e) (.n f97 .e .e)) (.n .bad (.n f81 .e .e) (.n .bad .e .e))) (.n .bad (.n .bad (.n f73 .e .e) (.n .bad .e .e)) (.n .bad (.n f89 .e .e) .e))) (.n .bad (.n .bad (.n .bad (.n .bad .e .e) (.n .bad .e .e)) (.n f53 (.n f85 .e .e) (.n .bad .e .e))) (.n .bad (.n f45 (.n f77 .e .e) (.n .bad .e .e)) (.n f61 (.n f93 .e .e) .e))))) (.n .bad (.n .bad (.n .bad (.n .bad (.n .bad (.n f64 .e .e) (.n f96 .e .e)) (.n .bad (.n f80 .e .e) (.n .bad .e .e))) (.n .bad (.n f40 (.n f72 .e .e) (.n .bad .e .e)) (.n f56 (.n f88 .e .e) .e))) (.n .bad (.n (.orc true) (.n .bad (.n f68 .e .e) (.n f100 .e .e)) (.n .bad (.n f84 .e .e) (.n .bad .e .e))) (.n f28 (.n .bad (.n f76 .e .e) (.n .bad .e .e)) (.n f60 (.n f92 .e .e) .e)))) (.n .bad (.n .bad (.n .bad (.n .bad (.n f66 .e .e) (.n f98 .e .e)) (.n .bad (.n f82 .e .e) (.n .bad .e .e))) (.n .bad (.n .bad (.n f74 .e .e) (.n .bad .e .e)) (.n f58 (.n f90 .e .e) .e))) (.n .bad (.n .bad (.n .bad (.n .bad .e .e) (.n .bad .e .e)) (.n f54 (.n f86 .e .e) .e)) (.n .bad (.n f46 (.n f78 .e .e) (.n .bad .e .e)) (.n f62 (.n f94 .e .e) .e))))))
noncomputable def F1 (n : Nat) : FFunc:=look tbl1 n
def orcs1 (_n : Nat) : Option Bool:=if _n=20 then some true else none
theorem ok1 (O : Orc Try.prog) (h : O.O=orcs1) : @FnOk Try.prog (Gl.none Try.prog) O F1:=@fnOk_of Try.prog (Gl.none Try.prog) O _ (by rw[h];exact⟨.inl rfl,⟨.inl rfl,⟨.inl rfl,⟨.inl rfl,⟨.inl rfl,⟨.inr (.inr ⟨rfl,_,_,g31,o31,e31⟩),⟨.inr (.inr ⟨rfl,_,_,g63,o63,e63⟩),trivial,trivial⟩,⟨.inr (.inr ⟨rfl,_,_,g95,o95,e95⟩),trivial,trivial⟩⟩,⟨.inr (.inr ⟨rfl,_,_,g47,o47,e47⟩),⟨.inr (.inr ⟨rfl,_,_,g79,o79,e79⟩),trivial,trivial⟩,⟨.inl rfl,trivial,trivial⟩⟩⟩,⟨.inr (.inr ⟨rfl,_,_,g23,o23,e23⟩),⟨.inl rfl,⟨.inl rfl,trivial,trivial⟩,⟨.inl rfl,trivial,trivial⟩⟩,⟨.inr (.inr ⟨rfl,_,_,g55,o55,e55⟩),⟨.inr (.inr ⟨rfl,_,_,g87,o87,e87⟩),trivial,trivial⟩,trivial⟩⟩⟩,⟨.inl rfl,⟨.inl rfl,⟨.inl rfl,⟨.inr (.inr ⟨rfl,_,_,g67,o67,e67⟩),trivial,trivial⟩,⟨.inr (.inr ⟨rfl,_,_,g99,o99,e99⟩),trivial,trivial⟩⟩,⟨.inl rfl,⟨.inr (.inr ⟨rfl,_,_,g83,o83,e83⟩),trivial,trivial⟩,⟨.inl rfl,trivial,trivial⟩⟩⟩,⟨.inl rfl,⟨.inr (.inr ⟨rfl,_,_,g43,o43,e43⟩),⟨.inr (.inr ⟨rfl,_,_,g75,o75,e75⟩),trivial,trivial⟩,⟨.inl rfl,trivial,trivial⟩⟩,⟨.inl rfl,⟨.inr (.inr ⟨rfl,_,_,g91,o91,e91⟩),trivial,trivial⟩,trivial⟩⟩⟩⟩,⟨.inl rfl,⟨.inl rfl,⟨.inl rfl,⟨.inl rfl,⟨.inr (.inr ⟨rfl,_,_,g65,o65,e65⟩),trivial,trivial⟩,⟨.inr (.inr ⟨rfl,_,_,g97,o97,e97⟩),trivial,trivial⟩⟩,⟨.inl rfl,⟨.inr (.inr ⟨rfl,_,_,g81,o81,e81⟩),trivial,trivial⟩,⟨.inl rfl,trivial,trivial⟩⟩⟩,⟨.inl rfl,⟨.inl rfl,⟨.inr (.inr ⟨rfl,_,_,g73,o73,e73⟩),trivial,trivial⟩,⟨.inl rfl,trivial,trivial⟩⟩,⟨.inl rfl,⟨.inr (.inr ⟨rfl,_,_,g89,o89,e89⟩),trivial,trivial⟩,trivial⟩⟩⟩,⟨.inl rfl,⟨.inl rfl,⟨.inl rfl,⟨.inl rfl,trivial,trivial⟩,⟨.inl rfl,trivial,trivial⟩⟩,⟨.inr (.inr ⟨rfl,_,_,g53,o53,e53⟩),⟨.inr (.inr ⟨rfl,_,_,g85,o85,e85⟩),trivial,trivial⟩,⟨.inl rfl,trivial,trivial⟩⟩⟩,⟨.inl rfl,⟨.inr (.inr ⟨rfl,_,_,g45,o45,e45⟩),⟨.inr (.inr ⟨rfl,_,_,g77,o77,e77⟩),trivial,trivial⟩,⟨.inl rfl,trivial,trivial⟩⟩,⟨.inr (.inr ⟨rfl,_,_,g61,o61,e61⟩),⟨.inr (.inr ⟨rfl,_,_,g93,o93,e93⟩),trivial,trivial⟩,trivial⟩⟩⟩⟩⟩,⟨.inl rfl,⟨.inl rfl,⟨.inl rfl,⟨.inl rfl,⟨.inl rfl,⟨.inr (.inr ⟨rfl,_,_,g64,o64,e64⟩),trivial,trivial⟩,⟨.inr (.inr ⟨rfl,_,_,g96,o96,e96⟩),trivial,trivial⟩⟩,⟨.inl rfl,⟨.inr (.inr ⟨rfl,_,_,g80,o80,e80⟩),trivial,trivial⟩,⟨.inl rfl,trivial,trivial⟩⟩⟩,⟨.inl rfl,⟨.inr (.inr ⟨rfl,_,_,g40,o40,e40⟩),⟨.inr (.inr ⟨rfl,_,_,g72,o72,e72⟩),trivial,trivial⟩,⟨.inl rfl,trivial,trivial⟩⟩,⟨.inr (.inr ⟨rfl,_,_,g56,o56,e56⟩),⟨.inr (.inr ⟨rfl,_,_,g88,o88,e88⟩),trivial,trivial⟩,trivial⟩⟩⟩,⟨.inl rfl,⟨.inr (.inl ⟨_,rfl,rfl⟩),⟨.inl rfl,⟨.inr (.inr ⟨rfl,_,_,g68,o68,e68⟩),trivial,trivial⟩,⟨.inr (.inr ⟨rfl,_,_,g100,o100,e100⟩),trivial,trivial⟩⟩,⟨.inl rfl,⟨.inr (.inr ⟨rfl,_,_,g84,o84,e84⟩),trivial,trivial⟩,⟨.inl rfl,trivial,trivial⟩⟩⟩,⟨.inr (.inr ⟨rfl,_,_,g28,o28,e28⟩),⟨.inl rfl,⟨.inr (.inr ⟨rfl,_,_,g76,o76,e76⟩),trivial,trivial⟩,⟨.inl rfl,trivial,trivial⟩⟩,⟨.inr (.inr ⟨rfl,_,_,g60,o60,e60⟩),⟨.inr (.inr ⟨rfl,_,_,g92,o92,e92⟩),trivial,trivial⟩,trivial⟩⟩⟩⟩,⟨.inl rfl,⟨.inl rfl,⟨.inl rfl,⟨.inl rfl,⟨.inr (.inr ⟨rfl,_,_,g66,o66,e66⟩),trivial,trivial⟩,⟨.inr (.inr ⟨rfl,_,_,g98,o98,e98⟩),trivial,trivial⟩⟩,⟨.inl rfl,⟨.inr (.inr ⟨rfl,_,_,g82,o82,e82⟩),trivial,trivial⟩,⟨.inl rfl,trivial,trivial⟩⟩⟩,⟨.inl rfl,⟨.inl rfl,⟨.inr (.inr ⟨rfl,_,_,g74,o74,e74⟩),trivial,trivial⟩,⟨.inl rfl,trivial,trivial⟩⟩,⟨.inr (.inr ⟨rfl,_,_,g58,o58,e58⟩),⟨.inr (.inr ⟨rfl,_,_,g90,o90,e90⟩),trivial,trivial⟩,trivial⟩⟩⟩,⟨.inl rfl,⟨.inl rfl,⟨.inl rfl,⟨.inl rfl,trivial,trivial⟩,⟨.inl rfl,trivial,trivial⟩⟩,⟨.inr (.inr ⟨rfl,_,_,g54,o54,e54⟩),⟨.inr (.inr ⟨rfl,_,_,g86,o86,e86⟩),trivial,trivial⟩,trivial⟩⟩,⟨.inl rfl,⟨.inr (.inr ⟨rfl,_,_,g46,o46,e46⟩),⟨.inr (.inr ⟨rfl,_,_,g78,o78,e78⟩),trivial,trivial⟩,⟨.inl rfl,trivial,trivial⟩⟩,⟨.inr (.inr ⟨rfl,_,_,g62,o62,e62⟩),⟨.inr (.inr ⟨rfl,_,_,g94,o94,e94⟩),trivial,trivial⟩,trivial⟩⟩⟩⟩⟩⟩)
end Go.Xe.TV
