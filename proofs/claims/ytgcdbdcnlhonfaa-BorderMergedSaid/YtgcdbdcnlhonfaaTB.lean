/- The code of the program's functions, their types resolved, as the machine for the kernel runs it: definitions, and for each that it is the program's own. Conditions: none. -/
import Derived.Test.YtgcdbdcnlhonfaaYk
import Derived.Test.YtgcdbdcnlhonfaaProg
import Derived.KernelRfl
namespace Go.Xe.TB
open Go Go.Xe Go.Proofs
set_option maxRecDepth 1000000
abbrev U : Value:=.tuple ⟨[]⟩
def p0 : Pth:=.o
def p1 : Pth:=.l p0
def p2 : Pth:=.r p0
def p3 : Pth:=.l p1
def p4 : Pth:=.r p1
def p5 : Pth:=.l p2
def p6 : Pth:=.r p2
def p7 : Pth:=.l p3
def p8 : Pth:=.r p3
def p9 : Pth:=.l p4
def p10 : Pth:=.r p4
def p11 : Pth:=.l p5
def p12 : Pth:=.r p5
def p13 : Pth:=.l p6
def p14 : Pth:=.r p6
def p15 : Pth:=.l p7
def p16 : Pth:=.r p7
def p17 : Pth:=.l p8
def p18 : Pth:=.r p8
def p19 : Pth:=.l p9
def p20 : Pth:=.r p9
def p21 : Pth:=.l p10
def p22 : Pth:=.r p10
def p23 : Pth:=.l p11
def p24 : Pth:=.r p11
def p25 : Pth:=.l p12
def p26 : Pth:=.r p12
def p27 : Pth:=.l p13
def p28 : Pth:=.r p13
def p29 : Pth:=.l p14
def p30 : Pth:=.r p14
def p31 : Pth:=.l p15
def p32 : Pth:=.r p15
def p33 : Pth:=.l p16
def p34 : Pth:=.r p16
def p35 : Pth:=.l p17
def p36 : Pth:=.r p17
def p37 : Pth:=.l p18
def p38 : Pth:=.r p18
def p39 : Pth:=.l p19
def p40 : Pth:=.r p19
def p41 : Pth:=.l p20
def p42 : Pth:=.r p20
def p43 : Pth:=.l p21
def p44 : Pth:=.r p21
def p45 : Pth:=.l p22
def p46 : Pth:=.r p22
def p47 : Pth:=.l p23
def p48 : Pth:=.r p23
def p49 : Pth:=.l p24
def p50 : Pth:=.r p24
def p51 : Pth:=.l p25
def p52 : Pth:=.r p25
def p53 : Pth:=.l p26
def p54 : Pth:=.r p26
def p55 : Pth:=.l p27
def p56 : Pth:=.r p27
def p57 : Pth:=.l p28
def p58 : Pth:=.r p28
def p59 : Pth:=.l p29
def p60 : Pth:=.r p29
def p61 : Pth:=.l p30
def p62 : Pth:=.r p30
def p63 : Pth:=.l p31
def p64 : Pth:=.r p31
def p65 : Pth:=.l p32
def p66 : Pth:=.r p32
def p67 : Pth:=.l p33
def p68 : Pth:=.r p33
def p69 : Pth:=.l p34
def p70 : Pth:=.r p34
def p71 : Pth:=.l p35
def p72 : Pth:=.r p35
def p73 : Pth:=.l p36
def p74 : Pth:=.r p36
def p75 : Pth:=.l p37
def p76 : Pth:=.r p37
def p77 : Pth:=.l p38
def p78 : Pth:=.r p38
def p79 : Pth:=.l p39
def p80 : Pth:=.r p39
def p81 : Pth:=.l p40
def p82 : Pth:=.r p40
def p83 : Pth:=.l p41
def p84 : Pth:=.r p41
def p85 : Pth:=.l p42
def p86 : Pth:=.r p42
def p87 : Pth:=.l p43
def p88 : Pth:=.r p43
def p89 : Pth:=.l p44
def p90 : Pth:=.r p44
def p91 : Pth:=.l p45
def u0 : TT:=.n U .e .e
def u1 : TT:=.n U u0 .e
def u2 : TT:=.n U u1 u1
def u3 : TT:=.n U u2 u2
def u4 : TT:=.n U u1 u0
def u5 : TT:=.n U u2 u4
def u6 : TT:=.n U u3 u5
def u7 : TT:=.n U u6 u6
def u8 : TT:=.n U u7 u7
def u9 : TT:=.n U u4 u4
def u10 : TT:=.n U u9 u9
def u11 : TT:=.n U u0 u0
def u12 : TT:=.n U u11 u1
def u13 : TT:=.n U u12 u12
def u14 : TT:=.n U u12 u2
def u15 : TT:=.n U u13 u14
def u16 : TT:=.n U u4 u11
def u17 : TT:=.n U u11 u11
def u18 : TT:=.n U u16 u17
def u19 : TT:=.n U u5 u5
def u20 : TT:=.n U u19 u19
def u21 : TT:=.n U u17 u17
def u22 : TT:=.n U u18 u21
def u23 : TT:=.n U u17 u12
def u24 : TT:=.n U u23 u23
def u25 : TT:=.n U u14 u3
def u26 : TT:=.n U u25 u25
def u27 : TT:=.n U u3 u3
def u28 : TT:=.n U u27 u6
def u29 : TT:=.n U u28 u7
def u30 : TT:=.n U u16 u16
def u31 : TT:=.n U u30 u18
def u32 : TT:=.n U u21 u23
def u33 : TT:=.n U u9 u16
def u34 : TT:=.n U u33 u30
def u35 : TT:=.n U u14 u14
def u36 : TT:=.n U u30 u30
def u37 : TT:=.n U u34 u36
def u38 : TT:=.n U u13 u13
def u39 : TT:=.n U u23 u13
def u40 : TT:=.n U u39 u38
def u41 : TT:=.n U u21 u21
def u42 : TT:=.n U u41 u32
def z0 : Value:=.int .i64 (.ofNat 0)
def a0 : FA:=.tmp p0
def a1 : FA:=.tmp p1
def a2 : FA:=.tmp p2
def a3 : FA:=.tmp p3
def a4 : FA:=.tmp p4
def a5 : FA:=.tmp p5
def a6 : FA:=.tmp p6
def a7 : FA:=.tmp p7
def a8 : FA:=.tmp p8
def a9 : FA:=.tmp p9
def a10 : FA:=.tmp p10
def a11 : FA:=.tmp p11
def a12 : FA:=.tmp p12
def a13 : FA:=.tmp p13
def a14 : FA:=.tmp p14
def a15 : FA:=.tmp p15
def a16 : FA:=.tmp p16
def a17 : FA:=.tmp p17
def a18 : FA:=.tmp p18
def a19 : FA:=.tmp p19
def a20 : FA:=.tmp p20
def a21 : FA:=.tmp p21
def a22 : FA:=.tmp p22
def a23 : FA:=.tmp p23
def a24 : FA:=.tmp p24
def a25 : FA:=.tmp p25
def a26 : FA:=.tmp p26
def a27 : FA:=.tmp p27
def a28 : FA:=.tmp p28
def a29 : FA:=.tmp p29
def a30 : FA:=.tmp p30
def a31 : FA:=.tmp p31
def a32 : FA:=.tmp p32
def a33 : FA:=.tmp p33
def a34 : FA:=.tmp p34
def a35 : FA:=.tmp p35
def a36 : FA:=.tmp p36
def a37 : FA:=.tmp p37
def a38 : FA:=.tmp p38
def a39 : FA:=.tmp p39
def a40 : FA:=.tmp p40
def a41 : FA:=.tmp p41
def a42 : FA:=.tmp p42
def a43 : FA:=.tmp p43
def a44 : FA:=.tmp p44
def a45 : FA:=.tmp p45
def a46 : FA:=.tmp p46
def a47 : FA:=.tmp p47
def a48 : FA:=.tmp p48
def a49 : FA:=.tmp p49
def a50 : FA:=.tmp p50
def a51 : FA:=.tmp p51
def a52 : FA:=.tmp p52
def a53 : FA:=.tmp p53
def a54 : FA:=.tmp p54
def a55 : FA:=.tmp p55
def a56 : FA:=.tmp p56
def a57 : FA:=.tmp p57
def a58 : FA:=.tmp p58
def a59 : FA:=.tmp p59
def a60 : FA:=.tmp p60
def a61 : FA:=.tmp p61
def a62 : FA:=.tmp p62
def a63 : FA:=.tmp p63
def a64 : FA:=.tmp p64
def a65 : FA:=.tmp p65
def a66 : FA:=.tmp p66
def a67 : FA:=.tmp p67
def a68 : FA:=.tmp p68
def a69 : FA:=.tmp p69
def a70 : FA:=.tmp p70
def a71 : FA:=.tmp p71
def a72 : FA:=.tmp p72
def a73 : FA:=.tmp p73
def a74 : FA:=.tmp p74
def a75 : FA:=.tmp p75
def a76 : FA:=.tmp p76
def a77 : FA:=.tmp p77
def a78 : FA:=.tmp p78
def a79 : FA:=.tmp p79
def a80 : FA:=.tmp p80
def a81 : FA:=.tmp p81
def a82 : FA:=.tmp p82
def a83 : FA:=.tmp p83
def a84 : FA:=.tmp p84
def a85 : FA:=.tmp p85
def a86 : FA:=.tmp p86
def a87 : FA:=.tmp p87
def a88 : FA:=.tmp p88
def a89 : FA:=.tmp p89
def a90 : FA:=.tmp p90
def a91 : FA:=.tmp p91
noncomputable def c17 : FCode:=(.seq (.run [.go (.move (.con (.bool false))) p0]) (.seq (.run [.go (.call (.con (.func (.func 47) ⟨[]⟩ ⟨[]⟩)) []) p12,
.go (.call (.con (.func (.func 20) ⟨[]⟩ ⟨[]⟩)) [a12]) p13,
.go (.move a13) p11,
.go (.extract a11 0) p14,
.go (.extract a11 1) p15,
.go (.extract a11 2) p16,
.go (.move a14) p1,
.go (.move a15) p2,
.go (.move a16) p3]) (.seq (.run [.go (.call (.con (.func (.func 47) ⟨[]⟩ ⟨[]⟩)) []) p18,
.go (.call (.con (.func (.func 27) ⟨[]⟩ ⟨[]⟩)) [a18]) p19,
.go (.move a19) p17,
.go (.extract a17 0) p20,
.go (.extract a17 1) p21,
.go (.move a20) p4,
.go (.move a21) p5]) (.seq (.run [.go (.call (.con (.func (.func 47) ⟨[]⟩ ⟨[]⟩)) []) p23,
.go (.call (.con (.func (.func 36) ⟨[]⟩ ⟨[]⟩)) [a23]) p24,
.go (.move a24) p22,
.go (.extract a22 0) p25,
.go (.extract a22 1) p26,
.go (.move a25) p6,
.go (.move a26) p7]) (.seq (.run [.go (.call (.con (.func (.func 47) ⟨[]⟩ ⟨[]⟩)) []) p28,
.go (.call (.con (.func (.func 48) ⟨[]⟩ ⟨[]⟩)) [(.con (.int .i64 (.ofNat 30))),(.con (.int .i64 (.ofNat 130)))]) p29,
.go (.call (.con (.func (.func 39) ⟨[]⟩ ⟨[]⟩)) [a28,a29]) p30,
.go (.move a30) p27,
.go (.extract a27 0) p31,
.go (.extract a27 1) p32,
.go (.extract a27 2) p33,
.go (.move a31) p8,
.go (.move a32) p9,
.go (.move a33) p10]) (.seq (.draw 58 [.go (.move a3) p34,
.go (.bin .eql 29 a34 (.con z0)) p35,
.go (.move a35) p36,
.gd p36 true (.move a1) p37,
.gd p36 true (.buildSlice 3 4 [z0,z0,z0,z0] [(0,1,(.con (.int .i64 (.ofNat 60)))),(1,1,(.con (.int .i64 (.ofNat 40)))),(2,1,(.con (.int .i64 (.ofNat 50)))),(3,1,(.con (.int .i64 (.ofNat 10))))]) p38,
.gd p36 true (.call (.con (.func (.func 23) ⟨[]⟩ ⟨[]⟩)) [a37,a38]) p39,
.go (.pick a36 a39 (.con (.bool false))) p40,
.go (.move a40) p41,
.gd p41 true (.move a2) p42,
.gd p41 true (.buildSlice 3 2 [z0,z0] [(0,1,(.con (.int .i64 (.ofNat 70)))),(1,1,(.con (.int .i64 (.ofNat 90))))]) p43,
.gd p41 true (.call (.con (.func (.func 23) ⟨[]⟩ ⟨[]⟩)) [a42,a43]) p44,
.go (.pick a41 a44 (.con (.bool false))) p45,
.go (.move a45) p46,
.gd p46 true (.move a5) p47,
.gd p46 true (.bin .eql 29 a47 (.con z0)) p48,
.go (.pick a46 a48 (.con (.bool false))) p49,
.go (.move a49) p50,
.gd p50 true (.move a4) p51,
.gd p50 true (.len 0 a51) p52,
.gd p50 true (.bin .eql 3 a52 (.con (.int .i64 (.ofNat 2)))) p53,
.go (.pick a50 a53 (.con (.bool false))) p54,
.go (.move a54) p55,
.gd p55 true (.move a4) p56,
.gd p55 true (.indexAddr none 2 a56 (.con z0)) p57,
.gd p55 true (.loadN 2 a57) p58,
.gd p55 true (.call (.con (.func (.func 48) ⟨[]⟩ ⟨[]⟩)) [(.con (.int .i64 (.ofNat 50))),(.con (.int .i64 (.ofNat 100)))]) p59,
.gd p55 true (.bin .eql 62 a58 a59) p60,
.go (.pick a55 a60 (.con (.bool false))) p61,
.go (.move a61) p62,
.gd p62 true (.move a4) p63,
.gd p62 true (.indexAddr none 2 a63 (.con (.int .i64 (.ofNat 1)))) p64,
.gd p62 true (.loadN 2 a64) p65,
.gd p62 true (.call (.con (.func (.func 48) ⟨[]⟩ ⟨[]⟩)) [(.con (.int .i64 (.ofNat 60))),(.con (.int .i64 (.ofNat 110)))]) p66,
.gd p62 true (.bin .eql 62 a65 a66) p67,
.go (.pick a62 a67 (.con (.bool false))) p68,
.go (.move a68) p69,
.gd p69 true (.move a7) p70,
.gd p69 true (.bin .eql 29 a70 (.con z0)) p71,
.go (.pick a69 a71 (.con (.bool false))) p72,
.go (.move a72) p73,
.gd p73 true (.move a6) p74,
.gd p73 true (.buildSlice 3 2 [z0,z0] [(0,1,(.con (.int .i64 (.ofNat 30)))),(1,1,(.con (.int .i64 (.ofNat 30))))]) p75,
.gd p73 true (.call (.con (.func (.func 23) ⟨[]⟩ ⟨[]⟩)) [a74,a75]) p76,
.go (.pick a73 a76 (.con (.bool false))) p77,
.go (.move a77) p78,
.gd p78 true (.move a10) p79,
.gd p78 true (.bin .eql 29 a79 (.con z0)) p80,
.go (.pick a78 a80 (.con (.bool false))) p81,
.go (.move a81) p82,
.gd p82 true (.move a8) p83,
.gd p82 true (.buildSlice 3 4 [z0,z0,z0,z0] [(0,1,(.con z0)),(1,1,(.con (.int .i64 (.ofNat 1)))),(2,1,(.con (.int .i64 (.ofNat 1)))),(3,1,(.con (.int .i64 (.ofNat 1))))]) p84,
.gd p82 true (.call (.con (.func (.func 23) ⟨[]⟩ ⟨[]⟩)) [a83,a84]) p85,
.go (.pick a82 a85 (.con (.bool false))) p86,
.go (.move a86) p87,
.gd p87 true (.move a9) p88,
.gd p87 true (.bin .eql 3 a88 (.con (.int .i64 (.ofNat 1)))) p89,
.go (.pick a87 a89 (.con (.bool false))) p90,
.go (.move a90) p0] [.ok,.ok,.ok,.ok,.ok,.ok,.ok,.ok,.ok,.ok,.ok,.ok,.ok,.ok,.ok,.ok,.ok,.ok,.ok,.ok,.ok,.ok,.ok,.ok,.rd (some (p55,true)) (.loadN 2 a57) (some p58) [26],.ok,.ok,.ok,.ok,.ok,.ok,.rd (some (p62,true)) (.loadN 2 a64) (some p65) [33],.ok,.ok,.ok,.ok,.ok,.ok,.ok,.ok,.ok,.ok,.ok,.ok,.ok,.ok,.ok,.ok,.ok,.ok,.ok,.ok,.ok,.ok,.ok,.ok,.ok,.ok]) .ret))))))
noncomputable def f17 : FFunc:=.mk c17 u8 [] [.tmp p0]
theorem e17 : @compF Try.prog (Gl.none Try.prog) Try.f17 0=f17:=by kernel_rfl
theorem o17 : okF Try.prog Try.f17=true:=by kernel_rfl
theorem g17 : Try.prog.funcs[(17 : Nat)]?=some Try.f17:=by kernel_rfl
noncomputable def c18 : FCode:=(.seq (.run [.go (.box 34 a0) p1,
.go (.move (.con z0)) p2]) (.seq (.block 0 (.seq (.run [.go (.loadN 4 a1) p4,
.go (.call (.con (.func (.func 55) ⟨[]⟩ ⟨[]⟩)) [a4]) p5,
.go (.un .not a5) p6,
.go (.move a6) p3]) (.cond a3 (.seq (.run [.go (.move (.con (.int .i64 (.ofNat 3)))) p2]) .ret) (.seq (.run [.go (.loadN 4 a1) p8,
.go (.call (.con (.func (.func 56) ⟨[]⟩ ⟨[]⟩)) [a8]) p9,
.go (.un .not a9) p10,
.go (.move a10) p7]) (.cond a7 (.seq (.run [.go (.move (.con (.int .i64 (.ofNat 1)))) p2]) .ret) .skip))))) (.seq (.run [.go (.move (.con z0)) p2]) .ret)))
noncomputable def f18 : FFunc:=.mk c18 u3 [p0] [.tmp p2]
theorem e18 : @compF Try.prog (Gl.none Try.prog) Try.f18 1=f18:=by kernel_rfl
theorem o18 : okF Try.prog Try.f18=true:=by kernel_rfl
theorem g18 : Try.prog.funcs[(18 : Nat)]?=some Try.f18:=by kernel_rfl
noncomputable def c20 : FCode:=(.seq (.run [.go (.box 34 a0) p1,
.go (.move (.con (.slice none 0 0))) p2,
.go (.move (.con (.slice none 0 0))) p3,
.go (.move (.con z0)) p4]) (.seq (.seq (.run [.go (.loadN 4 a1) p6,
.go (.call (.con (.func (.func 18) ⟨[]⟩ ⟨[]⟩)) [a6]) p7,
.go (.move a7) p5]) (.seq (.run [.go (.move a5) p8,
.go (.bin .neq 29 a8 (.con z0)) p9]) (.cond a9 (.seq (.run [.go (.move a5) p10,
.go (.move (.con (.slice none 0 0))) p2,
.go (.move (.con (.slice none 0 0))) p3,
.go (.move a10) p4]) .ret) .skip))) (.seq (.run [.go (.loadN 4 a1) p12,
.go (.call (.con (.func (.func 57) ⟨[]⟩ ⟨[]⟩)) [a12]) p13,
.go (.call (.con (.func (.func 58) ⟨[]⟩ ⟨[]⟩)) [a13]) p14,
.go (.move a14) p11,
.go (.extract a11 0) p15,
.go (.extract a11 1) p16,
.go (.move a15) p2,
.go (.move a16) p3]) (.seq (.run [.go (.move a2) p17,
.go (.move a3) p18,
.go (.move a17) p2,
.go (.move a18) p3,
.go (.move (.con z0)) p4]) .ret))))
noncomputable def f20 : FFunc:=.mk c20 u10 [p0] [.tmp p2,.tmp p3,.tmp p4]
theorem e20 : @compF Try.prog (Gl.none Try.prog) Try.f20 1=f20:=by kernel_rfl
theorem o20 : okF Try.prog Try.f20=true:=by kernel_rfl
theorem g20 : Try.prog.funcs[(20 : Nat)]?=some Try.f20:=by kernel_rfl
noncomputable def c23 : FCode:=(.seq (.run [.go (.move (.con (.bool false))) p4]) (.seq (.seq (.run [.go (.move a0) p6,
.go (.len 0 a6) p7,
.go (.move a1) p8,
.go (.len 0 a8) p9,
.go (.bin .neq 3 a7 a9) p10]) (.cond a10 (.seq (.run [.go (.move (.con (.bool false))) p4]) .ret) .skip)) (.seq (.seq (.run [.go (.move (.con z0)) p5]) (.block 0 (.loop (.seq (.seq (.run [.go (.move a5) p11,
.go (.move a0) p12,
.go (.len 0 a12) p13,
.go (.bin .lss 3 a11 a13) p14]) (.cond a14 .skip (.exit 0))) (.seq (.block 1 (.seq (.draw 9 [.go (.move a0) p17,
.go (.move a5) p18,
.go (.indexAddr none 1 a17 a18) p19,
.go (.load1 a19) p20,
.go (.move a1) p21,
.go (.move a5) p22,
.go (.indexAddr none 1 a21 a22) p23,
.go (.load1 a23) p24,
.go (.bin .neq 3 a20 a24) p25] [.ok,.ok,.ok,.ok,.ok,.ok,.ok,.ok,.ok]) (.cond a25 (.seq (.run [.go (.move (.con (.bool false))) p4]) .ret) .skip))) (.run [.go (.move a5) p15,
.go (.bin .add 3 a15 (.con (.int .i64 (.ofNat 1)))) p16,
.go (.move a16) p5])))))) (.seq (.run [.go (.move (.con (.bool true))) p4]) .ret))))
noncomputable def f23 : FFunc:=.mk c23 u15 [p0,p1] [.tmp p4]
theorem e23 : @compF Try.prog (Gl.none Try.prog) Try.f23 2=f23:=by kernel_rfl
theorem o23 : okF Try.prog Try.f23=true:=by kernel_rfl
theorem g23 : Try.prog.funcs[(23 : Nat)]?=some Try.f23:=by kernel_rfl
noncomputable def c27 : FCode:=(.seq (.run [.go (.box 34 a0) p1,
.go (.move (.con (.slice none 0 0))) p2,
.go (.move (.con z0)) p3]) (.seq (.run [.go (.loadN 4 a1) p7,
.go (.call (.con (.func (.func 61) ⟨[]⟩ ⟨[]⟩)) [a7]) p8,
.go (.move a8) p6,
.go (.extract a6 0) p9,
.go (.extract a6 1) p10,
.go (.alloc 96 [(.slice none 0 0),z0,(.slice none 0 0),(.slice none 0 0),z0,z0,z0,z0,z0,z0,z0,z0,z0,z0,z0,z0,z0,z0,z0,z0,(.map none)]) p4,
.un (.store 21 a4 a9),
.go (.move a10) p5]) (.seq (.seq (.run [.go (.move a5) p11,
.go (.bin .neq 29 a11 (.con z0)) p12]) (.cond a12 (.seq (.run [.go (.move a5) p13,
.go (.move (.con (.slice none 0 0))) p2,
.go (.move a13) p3]) .ret) .skip)) (.seq (.run [.go (.loadN 21 a4) p14,
.go (.call (.con (.func (.func 63) ⟨[]⟩ ⟨[]⟩)) [a14]) p15,
.go (.move a15) p2,
.go (.move (.con z0)) p3]) .ret))))
noncomputable def f27 : FFunc:=.mk c27 u18 [p0] [.tmp p2,.tmp p3]
theorem e27 : @compF Try.prog (Gl.none Try.prog) Try.f27 1=f27:=by kernel_rfl
theorem o27 : okF Try.prog Try.f27=true:=by kernel_rfl
theorem g27 : Try.prog.funcs[(27 : Nat)]?=some Try.f27:=by kernel_rfl
noncomputable def c36 : FCode:=(.seq (.run [.go (.box 34 a0) p1,
.go (.move (.con (.slice none 0 0))) p2,
.go (.move (.con z0)) p3]) (.seq (.run [.go (.loadN 4 a1) p12,
.go (.call (.con (.func (.func 61) ⟨[]⟩ ⟨[]⟩)) [a12]) p13,
.go (.move a13) p11,
.go (.extract a11 0) p14,
.go (.extract a11 1) p15,
.go (.alloc 96 [(.slice none 0 0),z0,(.slice none 0 0),(.slice none 0 0),z0,z0,z0,z0,z0,z0,z0,z0,z0,z0,z0,z0,z0,z0,z0,z0,(.map none)]) p4,
.un (.store 21 a4 a14),
.go (.move a15) p5]) (.seq (.seq (.run [.go (.move a5) p16,
.go (.bin .neq 29 a16 (.con z0)) p17]) (.cond a17 (.seq (.run [.go (.move a5) p18,
.go (.move (.con (.slice none 0 0))) p2,
.go (.move a18) p3]) .ret) .skip)) (.seq (.run [.go (.loadN 21 a4) p20,
.go (.call (.con (.func (.func 58) ⟨[]⟩ ⟨[]⟩)) [a20]) p21,
.go (.move a21) p19,
.go (.extract a19 0) p22,
.go (.extract a19 1) p23,
.go (.move a22) p6,
.go (.move a23) p7]) (.seq (.run [.go (.move (.con (.slice none 0 0))) p8]) (.seq (.seq (.run [.go (.loadN 21 a4) p24,
.go (.call (.con (.func (.func 63) ⟨[]⟩ ⟨[]⟩)) [a24]) p25,
.go (.len 0 a25) p26,
.go (.move (.con z0)) p27]) (.block 0 (.loop (.seq (.run [.go (.bin .lss 3 a27 a26) p28]) (.seq (.cond a28 .skip (.exit 0)) (.seq (.block 1 (.seq (.run [.go (.move a27) p29,
.go (.indexAddr none 2 a25 a27) p30,
.go (.loadN 2 a30) p31,
.go (.alloc 62 [z0,z0]) p10,
.go (.move a29) p9,
.un (.store 2 a10 a31)]) (.draw 10 [.go (.move a8) p32,
.go (.loadN 2 a10) p33,
.go (.move a7) p34,
.go (.move a9) p35,
.go (.indexAddr none 1 a34 a35) p36,
.go (.load1 a36) p37,
.go (.call (.con (.func (.func 66) ⟨[]⟩ ⟨[]⟩)) [a33,a37]) p38,
.go (.buildSlice 3 1 [z0] [(0,1,a38)]) p39,
.go (.append 3 1 8 a32 a39) p40,
.go (.move a40) p8] [.ok,.ok,.ok,.ok,.ok,.ok,.ok,.ok,.ok,.ok]))) (.run [.go (.bin .add 3 a27 (.con (.int .i64 (.ofNat 1)))) p41,
.go (.move a41) p27]))))))) (.seq (.run [.go (.move a8) p42,
.go (.move a42) p2,
.go (.move (.con z0)) p3]) .ret)))))))
noncomputable def f36 : FFunc:=.mk c36 u20 [p0] [.tmp p2,.tmp p3]
theorem e36 : @compF Try.prog (Gl.none Try.prog) Try.f36 1=f36:=by kernel_rfl
theorem o36 : okF Try.prog Try.f36=true:=by kernel_rfl
theorem g36 : Try.prog.funcs[(36 : Nat)]?=some Try.f36:=by kernel_rfl
noncomputable def c39 : FCode:=(.seq (.run [.go (.box 34 a0) p2,
.go (.box 62 a1) p3,
.go (.move (.con (.slice none 0 0))) p4,
.go (.move (.con z0)) p5,
.go (.move (.con z0)) p6]) (.seq (.seq (.run [.go (.loadN 4 a2) p9,
.go (.call (.con (.func (.func 18) ⟨[]⟩ ⟨[]⟩)) [a9]) p10,
.go (.move a10) p7]) (.seq (.run [.go (.move a7) p11,
.go (.bin .neq 29 a11 (.con z0)) p12]) (.cond a12 (.seq (.run [.go (.move a7) p13,
.go (.move (.con (.slice none 0 0))) p4,
.go (.move (.con z0)) p5,
.go (.move a13) p6]) .ret) .skip))) (.seq (.seq (.draw 4 [.go (.loadN 2 a3) p14,
.go (.call (.con (.func (.func 70) ⟨[]⟩ ⟨[]⟩)) []) p15,
.go (.call (.con (.func (.func 69) ⟨[]⟩ ⟨[]⟩)) [a14,a15]) p16,
.go (.un .not a16) p17] [.rd none (.loadN 2 a3) (some p14) [2],.ok,.ok,.ok]) (.cond a17 (.seq (.run [.go (.move (.con (.slice none 0 0))) p4,
.go (.move (.con z0)) p5,
.go (.move (.con (.int .i64 (.ofNat 2)))) p6]) .ret) .skip)) (.seq (.run [.go (.loadN 4 a2) p19,
.go (.call (.con (.func (.func 61) ⟨[]⟩ ⟨[]⟩)) [a19]) p20,
.go (.move a20) p18,
.go (.extract a18 0) p21,
.go (.extract a18 1) p22,
.go (.alloc 96 [(.slice none 0 0),z0,(.slice none 0 0),(.slice none 0 0),z0,z0,z0,z0,z0,z0,z0,z0,z0,z0,z0,z0,z0,z0,z0,z0,(.map none)]) p8,
.un (.store 21 a8 a21),
.go (.move a22) p6]) (.seq (.seq (.run [.go (.move a6) p23,
.go (.bin .neq 29 a23 (.con z0)) p24]) (.cond a24 (.seq (.run [.go (.move a6) p25,
.go (.move (.con (.slice none 0 0))) p4,
.go (.move (.con z0)) p5,
.go (.move a25) p6]) .ret) .skip)) (.seq (.run [.go (.loadN 21 a8) p26,
.go (.loadN 2 a3) p27,
.go (.call (.con (.func (.func 71) ⟨[]⟩ ⟨[]⟩)) [a26,a27]) p28,
.go (.extract a28 0) p29,
.go (.extract a28 1) p30,
.go (.extract a28 2) p31,
.go (.move a29) p4,
.go (.move a30) p5,
.go (.move a31) p6]) .ret))))))
noncomputable def f39 : FFunc:=.mk c39 u22 [p0,p1] [.tmp p4,.tmp p5,.tmp p6]
theorem e39 : @compF Try.prog (Gl.none Try.prog) Try.f39 2=f39:=by kernel_rfl
theorem o39 : okF Try.prog Try.f39=true:=by kernel_rfl
theorem g39 : Try.prog.funcs[(39 : Nat)]?=some Try.f39:=by kernel_rfl
noncomputable def c47 : FCode:=(.seq (.run [.go (.alloc 34 [(.slice none 0 0),z0,(.slice none 0 0),(.slice none 0 0)]) p0]) (.seq (.run [.go (.buildSlice 3 2 [z0,z0] [(0,1,(.con (.int .i64 (.ofNat 100)))),(1,1,(.con (.int .i64 (.ofNat 60))))]) p1,
.go (.call (.con (.func (.func 48) ⟨[]⟩ ⟨[]⟩)) [(.con (.int .i64 (.ofNat 40))),(.con (.int .i64 (.ofNat 70)))]) p2,
.go (.build [z0,z0,z0,z0,z0] [(2,1,(.con (.int .i64 (.ofNat 3)))),(3,2,a2)]) p3,
.go (.call (.con (.func (.func 48) ⟨[]⟩ ⟨[]⟩)) [(.con (.int .i64 (.ofNat 30))),(.con (.int .i64 (.ofNat 50)))]) p4,
.go (.build [z0,z0,z0,z0,z0] [(1,1,(.con (.int .i64 (.ofNat 1)))),(2,1,(.con (.int .i64 (.ofNat 2)))),(3,2,a4)]) p5,
.go (.call (.con (.func (.func 48) ⟨[]⟩ ⟨[]⟩)) [(.con (.int .i64 (.ofNat 20))),(.con (.int .i64 (.ofNat 60)))]) p6,
.go (.build [z0,z0,z0,z0,z0] [(0,1,(.con (.int .i64 (.ofNat 1)))),(1,1,(.con (.int .i64 (.ofNat 1)))),(2,1,(.con (.int .i64 (.ofNat 5)))),(3,2,a6)]) p7,
.go (.call (.con (.func (.func 48) ⟨[]⟩ ⟨[]⟩)) [(.con z0),(.con (.int .i64 (.ofNat 30)))]) p8,
.go (.build [z0,z0,z0,z0,z0] [(0,1,(.con (.int .i64 (.ofNat 1)))),(2,1,(.con (.int .i64 (.ofNat 1)))),(3,2,a8)]) p9,
.go (.buildSlice 74 4 [z0,z0,z0,z0,z0,z0,z0,z0,z0,z0,z0,z0,z0,z0,z0,z0,z0,z0,z0,z0] [(0,5,a3),(5,5,a5),(10,5,a7),(15,5,a9)]) p10,
.go (.build [z0,z0] [(0,1,(.con z0)),(1,1,(.con (.int .i64 (.ofNat 1))))]) p11,
.go (.build [z0,z0] [(0,1,(.con (.int .i64 (.ofNat 1)))),(1,1,(.con (.int .i64 (.ofNat 2))))]) p12,
.go (.build [z0,z0] [(0,1,(.con (.int .i64 (.ofNat 2)))),(1,1,(.con (.int .i64 (.ofNat 3))))]) p13,
.go (.buildSlice 76 3 [z0,z0,z0,z0,z0,z0] [(0,2,a11),(2,2,a12),(4,2,a13)]) p14,
.go (.build [(.slice none 0 0),z0,(.slice none 0 0),(.slice none 0 0)] [(0,1,a1),(1,1,(.con (.int .i64 (.ofNat 2)))),(2,1,a10),(3,1,a14)]) p15,
.un (.store 4 a0 a15)]) .ret))
noncomputable def f47 : FFunc:=.mk c47 u18 [] [.many p0 4]
theorem e47 : @compF Try.prog (Gl.none Try.prog) Try.f47 0=f47:=by kernel_rfl
theorem o47 : okF Try.prog Try.f47=true:=by kernel_rfl
theorem g47 : Try.prog.funcs[(47 : Nat)]?=some Try.f47:=by kernel_rfl
noncomputable def c48 : FCode:=(.seq (.run [.go (.alloc 62 [z0,z0]) p4]) (.seq (.run [.go (.move a0) p5,
.go (.move a1) p6,
.go (.build [z0,z0] [(0,1,a5),(1,1,a6)]) p7,
.un (.store 2 a4 a7)]) .ret))
noncomputable def f48 : FFunc:=.mk c48 u16 [p0,p1] [.many p4 2]
theorem e48 : @compF Try.prog (Gl.none Try.prog) Try.f48 2=f48:=by kernel_rfl
theorem o48 : okF Try.prog Try.f48=true:=by kernel_rfl
theorem g48 : Try.prog.funcs[(48 : Nat)]?=some Try.f48:=by kernel_rfl
noncomputable def c54 : FCode:=(.seq (.run [.go (.move (.con (.slice none 0 0))) p4,
.go (.move (.con z0)) p5]) (.seq (.block 0 (.seq (.run [.go (.move a0) p7,
.go (.len 0 a7) p8,
.go (.bin .gtr 3 a8 (.con (.int .i64 (.ofNat 12)))) p9,
.go (.move a9) p6]) (.cond a6 (.seq (.run [.go (.move (.con (.slice none 0 0))) p4,
.go (.move (.con (.int .i64 (.ofNat 3)))) p5]) .ret) (.seq (.run [.go (.move a0) p11,
.go (.call (.con (.func (.func 79) ⟨[]⟩ ⟨[]⟩)) []) p12,
.go (.makeFunc 80 [a12] []) p13,
.go (.call (.con (.func (.func 78) ⟨[]⟩ ⟨[]⟩)) [a11,a13]) p14,
.go (.un .not a14) p15,
.go (.move a15) p16,
.gd p16 false (.call (.con (.func (.func 81) ⟨[]⟩ ⟨[]⟩)) []) p17,
.gd p16 false (.move a1) p18,
.gd p16 false (.call (.con (.func (.func 80) ⟨[]⟩ ⟨[]⟩)) [a17,a18]) p19,
.gd p16 false (.un .not a19) p20,
.go (.pick a16 (.con (.bool true)) a20) p21,
.go (.move a21) p10]) (.cond a10 (.seq (.run [.go (.move (.con (.slice none 0 0))) p4,
.go (.move (.con (.int .i64 (.ofNat 2)))) p5]) .ret) (.seq (.run [.go (.move a0) p23,
.go (.call (.con (.func (.func 82) ⟨[]⟩ ⟨[]⟩)) [a23]) p24,
.go (.bin .eql 3 a24 (.con z0)) p25,
.go (.move a25) p22]) (.cond a22 (.seq (.run [.go (.move (.con (.slice none 0 0))) p4,
.go (.move (.con (.int .i64 (.ofNat 7)))) p5]) .ret) .skip))))))) (.seq (.run [.go (.move a0) p26,
.go (.move a1) p27,
.go (.call (.con (.func (.func 83) ⟨[]⟩ ⟨[]⟩)) [a26,a27]) p28,
.go (.move a28) p4,
.go (.move (.con z0)) p5]) .ret)))
noncomputable def f54 : FFunc:=.mk c54 u24 [p0,p1] [.tmp p4,.tmp p5]
theorem e54 : @compF Try.prog (Gl.none Try.prog) Try.f54 2=f54:=by kernel_rfl
theorem o54 : okF Try.prog Try.f54=true:=by kernel_rfl
theorem g54 : Try.prog.funcs[(54 : Nat)]?=some Try.f54:=by kernel_rfl
noncomputable def c55 : FCode:=(.seq (.run [.go (.box 34 a0) p1,
.go (.move (.con (.bool false))) p2]) (.seq (.run [.go (.fieldAddr 0 a1) p3,
.go (.load1 a3) p4,
.go (.len 0 a4) p5,
.go (.bin .leq 3 a5 (.con (.int .i64 (.ofNat 4)))) p6,
.go (.move a6) p7,
.gd p7 true (.fieldAddr 2 a1) p8,
.gd p7 true (.load1 a8) p9,
.gd p7 true (.len 0 a9) p10,
.gd p7 true (.bin .leq 3 a10 (.con (.int .i64 (.ofNat 8)))) p11,
.go (.pick a7 a11 (.con (.bool false))) p12,
.go (.move a12) p13,
.gd p13 true (.fieldAddr 3 a1) p14,
.gd p13 true (.load1 a14) p15,
.gd p13 true (.len 0 a15) p16,
.gd p13 true (.bin .leq 3 a16 (.con (.int .i64 (.ofNat 20)))) p17,
.go (.pick a13 a17 (.con (.bool false))) p18,
.go (.move a18) p2]) .ret))
noncomputable def f55 : FFunc:=.mk c55 u10 [p0] [.tmp p2]
theorem e55 : @compF Try.prog (Gl.none Try.prog) Try.f55 1=f55:=by kernel_rfl
theorem o55 : okF Try.prog Try.f55=true:=by kernel_rfl
theorem g55 : Try.prog.funcs[(55 : Nat)]?=some Try.f55:=by kernel_rfl
noncomputable def c56 : FCode:=(.seq (.run [.go (.box 34 a0) p1,
.go (.move (.con (.bool false))) p2]) (.seq (.draw 43 [.go (.call (.con (.func (.func 84) ⟨[]⟩ ⟨[]⟩)) []) p3,
.go (.fieldAddr 0 a1) p4,
.go (.load1 a4) p5,
.go (.len 0 a5) p6,
.go (.call (.con (.func (.func 85) ⟨[]⟩ ⟨[]⟩)) [a3,a6]) p7,
.go (.move a7) p8,
.gd p8 true (.fieldAddr 0 a1) p9,
.gd p8 true (.load1 a9) p10,
.gd p8 true (.call (.con (.func (.func 87) ⟨[]⟩ ⟨[]⟩)) []) p11,
.gd p8 true (.makeFunc 85 [a11] []) p12,
.gd p8 true (.call (.con (.func (.func 86) ⟨[]⟩ ⟨[]⟩)) [a10,a12]) p13,
.go (.pick a8 a13 (.con (.bool false))) p14,
.go (.move a14) p15,
.gd p15 true (.call (.con (.func (.func 84) ⟨[]⟩ ⟨[]⟩)) []) p16,
.gd p15 true (.fieldAddr 1 a1) p17,
.gd p15 true (.load1 a17) p18,
.gd p15 true (.call (.con (.func (.func 85) ⟨[]⟩ ⟨[]⟩)) [a16,a18]) p19,
.go (.pick a15 a19 (.con (.bool false))) p20,
.go (.move a20) p21,
.gd p21 true (.fieldAddr 2 a1) p22,
.gd p21 true (.load1 a22) p23,
.gd p21 true (.len 0 a23) p24,
.gd p21 true (.bin .gtr 3 a24 (.con z0)) p25,
.go (.pick a21 a25 (.con (.bool false))) p26,
.go (.move a26) p27,
.gd p27 true (.fieldAddr 2 a1) p28,
.gd p27 true (.load1 a28) p29,
.gd p27 true (.loadN 4 a1) p30,
.gd p27 true (.makeFunc 89 [a30] []) p31,
.gd p27 true (.call (.con (.func (.func 88) ⟨[]⟩ ⟨[]⟩)) [a29,a31]) p32,
.go (.pick a27 a32 (.con (.bool false))) p33,
.go (.move a33) p34,
.gd p34 true (.fieldAddr 3 a1) p35,
.gd p34 true (.load1 a35) p36,
.gd p34 true (.loadN 4 a1) p37,
.gd p34 true (.makeFunc 91 [a37] []) p38,
.gd p34 true (.call (.con (.func (.func 90) ⟨[]⟩ ⟨[]⟩)) [a36,a38]) p39,
.go (.pick a34 a39 (.con (.bool false))) p40,
.go (.move a40) p41,
.gd p41 true (.loadN 4 a1) p42,
.gd p41 true (.call (.con (.func (.func 92) ⟨[]⟩ ⟨[]⟩)) [a42]) p43,
.go (.pick a41 a43 (.con (.bool false))) p44,
.go (.move a44) p2] [.ok,.ok,.rd none (.load1 a4) (some p5) [0],.rd none (.len 0 a5) (some p6) [0],.ok,.ok,.ok,.rd (some (p8,true)) (.load1 a9) (some p10) [9],.ok,.ok,.ok,.ok,.ok,.ok,.ok,.rd (some (p15,true)) (.load1 a17) (some p18) [11],.ok,.ok,.ok,.ok,.ok,.ok,.ok,.ok,.ok,.ok,.ok,.ok,.ok,.ok,.ok,.ok,.ok,.ok,.ok,.ok,.ok,.ok,.ok,.ok,.ok,.ok,.ok]) .ret))
noncomputable def f56 : FFunc:=.mk c56 u7 [p0] [.tmp p2]
theorem e56 : @compF Try.prog (Gl.none Try.prog) Try.f56 1=f56:=by kernel_rfl
theorem o56 : okF Try.prog Try.f56=true:=by kernel_rfl
theorem g56 : Try.prog.funcs[(56 : Nat)]?=some Try.f56:=by kernel_rfl
noncomputable def c57 : FCode:=(.seq (.run [.go (.box 34 a0) p1,
.go (.alloc 96 [(.slice none 0 0),z0,(.slice none 0 0),(.slice none 0 0),z0,z0,z0,z0,z0,z0,z0,z0,z0,z0,z0,z0,z0,z0,z0,z0,(.map none)]) p2]) (.seq (.run [.go (.loadN 4 a1) p8,
.go (.makeMap 76) p9,
.go (.build [(.slice none 0 0),z0,(.slice none 0 0),(.slice none 0 0),z0,z0,z0,z0,z0,z0,z0,z0,z0,z0,z0,z0,z0,z0,z0,z0,(.map none)] [(0,4,a8),(20,1,a9)]) p10,
.go (.alloc 96 [(.slice none 0 0),z0,(.slice none 0 0),(.slice none 0 0),z0,z0,z0,z0,z0,z0,z0,z0,z0,z0,z0,z0,z0,z0,z0,z0,(.map none)]) p3,
.un (.store 21 a3 a10)]) (.seq (.seq (.run [.go (.fieldAddr 2 a1) p11,
.go (.load1 a11) p12,
.go (.len 0 a12) p13,
.go (.move (.con z0)) p14]) (.block 0 (.loop (.seq (.run [.go (.bin .lss 3 a14 a13) p15]) (.seq (.cond a15 .skip (.exit 0)) (.seq (.block 1 (.seq (.run [.go (.move a14) p16,
.go (.indexAddr none 5 a12 a14) p17,
.go (.loadN 5 a17) p18,
.go (.alloc 74 [z0,z0,z0,z0,z0]) p5,
.go (.move a16) p4,
.un (.store 5 a5 a18)]) (.seq (.run [.go (.move a4) p19,
.go (.fieldAddr 0 a5) p20,
.go (.load1 a20) p21,
.go (.fieldAddr 4 a3) p22,
.go (.indexAddr (some 8) 1 a22 a19) p23,
.un (.store 1 a23 a21)]) (.run [.go (.move a4) p24,
.go (.fieldAddr 1 a5) p25,
.go (.load1 a25) p26,
.go (.fieldAddr 12 a3) p27,
.go (.indexAddr (some 8) 1 a27 a24) p28,
.un (.store 1 a28 a26)])))) (.run [.go (.bin .add 3 a14 (.con (.int .i64 (.ofNat 1)))) p29,
.go (.move a29) p14]))))))) (.seq (.seq (.run [.go (.fieldAddr 3 a1) p30,
.go (.load1 a30) p31,
.go (.len 0 a31) p32,
.go (.move (.con z0)) p33]) (.block 2 (.loop (.seq (.run [.go (.bin .lss 3 a33 a32) p34]) (.seq (.cond a34 .skip (.exit 2)) (.seq (.block 3 (.seq (.run [.go (.indexAddr none 2 a31 a33) p35,
.go (.loadN 2 a35) p36,
.go (.alloc 76 [z0,z0]) p7,
.un (.store 2 a7 a36)]) (.seq (.run [.go (.fieldAddr 20 a3) p37,
.go (.load1 a37) p38,
.go (.loadN 2 a7) p39,
.un (.mapUpdate 76 a38 a39 (.con (.bool true)))]) (.run [.go (.fieldAddr 20 a3) p40,
.go (.load1 a40) p41,
.go (.fieldAddr 1 a7) p42,
.go (.load1 a42) p43,
.go (.fieldAddr 0 a7) p44,
.go (.load1 a44) p45,
.go (.build [z0,z0] [(0,1,a43),(1,1,a45)]) p46,
.un (.mapUpdate 76 a41 a46 (.con (.bool true)))])))) (.run [.go (.bin .add 3 a33 (.con (.int .i64 (.ofNat 1)))) p47,
.go (.move a47) p33]))))))) (.seq (.run [.go (.loadN 21 a3) p48,
.un (.store 21 a2 a48)]) .ret)))))
noncomputable def f57 : FFunc:=.mk c57 u26 [p0] [.many p2 21]
theorem e57 : @compF Try.prog (Gl.none Try.prog) Try.f57 1=f57:=by kernel_rfl
theorem o57 : okF Try.prog Try.f57=true:=by kernel_rfl
theorem g57 : Try.prog.funcs[(57 : Nat)]?=some Try.f57:=by kernel_rfl
noncomputable def c58 : FCode:=(.seq (.run [.go (.box 96 a0) p1,
.go (.move (.con (.slice none 0 0))) p2,
.go (.move (.con (.slice none 0 0))) p3]) (.seq (.draw 11 [.go (.fieldAddr 0 a1) p14,
.go (.fieldAddr 2 a14) p15,
.go (.load1 a15) p16,
.go (.len 0 a16) p17,
.go (.fieldAddr 0 a1) p19,
.go (.fieldAddr 1 a19) p20,
.go (.load1 a20) p21,
.go (.makeSlice 3 1 8 [z0] a17 a17) p18,
.go (.makeSlice 3 1 8 [z0] a21 a21) p22,
.go (.move a18) p2,
.go (.move a22) p3] [.ok,.ok,.ok,.ok,.nw none (some p18) 7 true,.ok,.ok,.ok,.nw none (some p22) 8 true,.nw none (some p2) 9 false,.nw none (some p3) 10 false]) (.seq (.seq (.run [.go (.fieldAddr 0 a1) p23,
.go (.fieldAddr 0 a23) p24,
.go (.load1 a24) p25,
.go (.len 0 a25) p26,
.go (.move (.con z0)) p27]) (.block 0 (.loop (.seq (.run [.go (.bin .lss 3 a27 a26) p28]) (.seq (.cond a28 .skip (.exit 0)) (.seq (.block 1 (.seq (.run [.go (.move a27) p29,
.go (.indexAddr none 1 a25 a27) p30,
.go (.load1 a30) p31,
.go (.move a29) p4,
.go (.move a31) p5]) (.seq (.run [.go (.loadN 21 a1) p32,
.go (.fieldAddr 4 a1) p33,
.go (.loadN 8 a33) p34,
.go (.move a4) p35,
.go (.call (.con (.func (.func 94) ⟨[]⟩ ⟨[]⟩)) [a32,a34,a35]) p36,
.go (.call (.con (.func (.func 93) ⟨[]⟩ ⟨[]⟩)) [a36]) p37,
.go (.move a37) p6]) (.seq (.run [.go (.move (.con (.slice none 0 0))) p7]) (.seq (.seq (.run [.go (.move a6) p38,
.go (.len 0 a38) p39,
.go (.move (.con z0)) p40]) (.block 2 (.loop (.seq (.run [.go (.bin .lss 3 a40 a39) p41]) (.seq (.cond a41 .skip (.exit 2)) (.seq (.block 3 (.seq (.run [.go (.indexAddr none 1 a38 a40) p42,
.go (.load1 a42) p43,
.go (.move a43) p9]) (.run [.go (.move a7) p44,
.go (.fieldAddr 0 a1) p45,
.go (.fieldAddr 2 a45) p46,
.go (.load1 a46) p47,
.go (.move a9) p48,
.go (.indexAddr none 5 a47 a48) p49,
.go (.fieldAddr 2 a49) p50,
.go (.load1 a50) p51,
.go (.buildSlice 3 1 [z0] [(0,1,a51)]) p52,
.go (.append 3 1 8 a44 a52) p53,
.go (.move a53) p7]))) (.run [.go (.bin .add 3 a40 (.con (.int .i64 (.ofNat 1)))) p54,
.go (.move a54) p40]))))))) (.seq (.run [.go (.move a7) p56,
.go (.move a5) p57,
.go (.call (.con (.func (.func 54) ⟨[]⟩ ⟨[]⟩)) [a56,a57]) p58,
.go (.move a58) p55,
.go (.extract a55 0) p59,
.go (.extract a55 1) p60,
.go (.move a59) p10,
.go (.move a60) p11]) (.seq (.run [.go (.move a10) p61,
.go (.len 0 a61) p62,
.go (.move (.con z0)) p63]) (.block 4 (.loop (.seq (.run [.go (.bin .lss 3 a63 a62) p64]) (.seq (.cond a64 .skip (.exit 4)) (.seq (.block 5 (.seq (.run [.go (.move a63) p65,
.go (.indexAddr none 1 a61 a63) p66,
.go (.load1 a66) p67,
.go (.move a65) p12,
.go (.move a67) p13]) (.seq (.run [.go (.move a2) p68,
.go (.move a6) p69,
.go (.move a12) p70,
.go (.indexAddr none 1 a69 a70) p71,
.go (.load1 a71) p72,
.go (.move a13) p73,
.go (.indexAddr none 1 a68 a72) p74,
.un (.store 1 a74 a73)]) (.run [.go (.move a3) p75,
.go (.move a6) p76,
.go (.move a12) p77,
.go (.indexAddr none 1 a76 a77) p78,
.go (.load1 a78) p79,
.go (.fieldAddr 12 a1) p80,
.go (.indexAddr (some 8) 1 a80 a79) p81,
.go (.load1 a81) p82,
.go (.indexAddr none 1 a75 a82) p83,
.go (.load1 a83) p84,
.go (.move a13) p85,
.go (.bin .add 3 a84 a85) p86,
.go (.indexAddr none 1 a75 a82) p87,
.un (.store 1 a87 a86)])))) (.run [.go (.bin .add 3 a63 (.con (.int .i64 (.ofNat 1)))) p88,
.go (.move a88) p63]))))))))))))) (.run [.go (.bin .add 3 a27 (.con (.int .i64 (.ofNat 1)))) p89,
.go (.move a89) p27]))))))) (.seq (.run [.go (.move a2) p90,
.go (.move a3) p91,
.go (.move a90) p2,
.go (.move a91) p3]) .ret))))
noncomputable def f58 : FFunc:=.mk c58 u29 [p0] [.tmp p2,.tmp p3]
theorem e58 : @compF Try.prog (Gl.none Try.prog) Try.f58 1=f58:=by kernel_rfl
theorem o58 : okF Try.prog Try.f58=true:=by kernel_rfl
theorem g58 : Try.prog.funcs[(58 : Nat)]?=some Try.f58:=by kernel_rfl
noncomputable def c61 : FCode:=(.seq (.run [.go (.box 34 a0) p1,
.go (.alloc 96 [(.slice none 0 0),z0,(.slice none 0 0),(.slice none 0 0),z0,z0,z0,z0,z0,z0,z0,z0,z0,z0,z0,z0,z0,z0,z0,z0,(.map none)]) p2,
.go (.move (.con z0)) p3]) (.seq (.seq (.run [.go (.loadN 4 a1) p8,
.go (.call (.con (.func (.func 18) ⟨[]⟩ ⟨[]⟩)) [a8]) p9,
.go (.move a9) p4]) (.seq (.run [.go (.move a4) p10,
.go (.bin .neq 29 a10 (.con z0)) p11]) (.cond a11 (.seq (.run [.go (.build [(.slice none 0 0),z0,(.slice none 0 0),(.slice none 0 0),z0,z0,z0,z0,z0,z0,z0,z0,z0,z0,z0,z0,z0,z0,z0,z0,(.map none)] []) p12,
.go (.move a4) p13,
.un (.store 21 a2 a12),
.go (.move a13) p3]) .ret) .skip))) (.seq (.run [.go (.loadN 4 a1) p14,
.go (.call (.con (.func (.func 57) ⟨[]⟩ ⟨[]⟩)) [a14]) p15,
.go (.alloc 96 [(.slice none 0 0),z0,(.slice none 0 0),(.slice none 0 0),z0,z0,z0,z0,z0,z0,z0,z0,z0,z0,z0,z0,z0,z0,z0,z0,(.map none)]) p5,
.un (.store 21 a5 a15)]) (.seq (.seq (.run [.go (.fieldAddr 0 a5) p16,
.go (.fieldAddr 0 a16) p17,
.go (.load1 a17) p18,
.go (.len 0 a18) p19,
.go (.move (.con z0)) p20]) (.block 0 (.loop (.seq (.run [.go (.bin .lss 3 a20 a19) p21]) (.seq (.cond a21 .skip (.exit 0)) (.seq (.block 1 (.seq (.run [.go (.move a20) p22,
.go (.indexAddr none 1 a18 a20) p23,
.go (.load1 a23) p24,
.go (.move a22) p6,
.go (.move a24) p7]) (.seq (.run [.go (.loadN 21 a5) p25,
.go (.move a6) p26,
.go (.call (.con (.func (.func 95) ⟨[]⟩ ⟨[]⟩)) [a25,a26]) p27,
.go (.move a7) p28,
.go (.call (.con (.func (.func 85) ⟨[]⟩ ⟨[]⟩)) [a27,a28]) p29,
.go (.un .not a29) p30]) (.cond a30 (.seq (.run [.go (.build [(.slice none 0 0),z0,(.slice none 0 0),(.slice none 0 0),z0,z0,z0,z0,z0,z0,z0,z0,z0,z0,z0,z0,z0,z0,z0,z0,(.map none)] []) p31,
.un (.store 21 a2 a31),
.go (.move (.con (.int .i64 (.ofNat 9)))) p3]) .ret) .skip)))) (.run [.go (.bin .add 3 a20 (.con (.int .i64 (.ofNat 1)))) p32,
.go (.move a32) p20]))))))) (.seq (.run [.go (.loadN 21 a5) p33,
.un (.store 21 a2 a33),
.go (.move (.con z0)) p3]) .ret)))))
noncomputable def f61 : FFunc:=.mk c61 u31 [p0] [.many p2 21,.tmp p3]
theorem e61 : @compF Try.prog (Gl.none Try.prog) Try.f61 1=f61:=by kernel_rfl
theorem o61 : okF Try.prog Try.f61=true:=by kernel_rfl
theorem g61 : Try.prog.funcs[(61 : Nat)]?=some Try.f61:=by kernel_rfl
noncomputable def c63 : FCode:=(.seq (.run [.go (.box 96 a0) p1,
.go (.move (.con (.slice none 0 0))) p2]) (.seq (.run [.go (.move (.con (.slice none 0 0))) p3]) (.seq (.seq (.run [.go (.fieldAddr 0 a1) p5,
.go (.fieldAddr 1 a5) p6,
.go (.load1 a6) p7,
.go (.move (.con z0)) p8]) (.block 0 (.loop (.seq (.run [.go (.bin .lss 3 a8 a7) p9]) (.seq (.cond a9 .skip (.exit 0)) (.seq (.block 1 (.seq (.run [.go (.move a8) p10,
.go (.move a10) p4]) (.run [.go (.move a3) p11,
.go (.loadN 21 a1) p12,
.go (.move a4) p13,
.go (.call (.con (.func (.func 98) ⟨[]⟩ ⟨[]⟩)) [a12,a13]) p14,
.go (.buildSlice 62 1 [z0,z0] [(0,2,a14)]) p15,
.go (.append 62 2 16 a11 a15) p16,
.go (.move a16) p3]))) (.run [.go (.bin .add 3 a8 (.con (.int .i64 (.ofNat 1)))) p17,
.go (.move a17) p8]))))))) (.seq (.run [.go (.move a3) p18,
.go (.move a18) p2]) .ret))))
noncomputable def f63 : FFunc:=.mk c63 u10 [p0] [.tmp p2]
theorem e63 : @compF Try.prog (Gl.none Try.prog) Try.f63 1=f63:=by kernel_rfl
theorem o63 : okF Try.prog Try.f63=true:=by kernel_rfl
theorem g63 : Try.prog.funcs[(63 : Nat)]?=some Try.f63:=by kernel_rfl
noncomputable def c66 : FCode:=(.seq (.run [.go (.box 62 a0) p2,
.go (.move (.con z0)) p4]) (.seq (.run [.go (.move (.con z0)) p5]) (.seq (.seq (.run [.go (.call (.con (.func (.func 100) ⟨[]⟩ ⟨[]⟩)) []) p8,
.go (.len 0 a8) p9,
.go (.move (.con z0)) p10]) (.block 0 (.loop (.seq (.run [.go (.bin .lss 3 a10 a9) p11]) (.seq (.cond a11 .skip (.exit 0)) (.seq (.block 1 (.seq (.run [.go (.indexAddr none 1 a8 a10) p12,
.go (.loadN 1 a12) p13,
.go (.alloc 133 [.nilFunc]) p7,
.un (.store 1 a7 a13)]) (.draw 15 [.go (.move a5) p14,
.go (.fieldAddr 0 a7) p15,
.go (.load1 a15) p16,
.go (.loadN 2 a2) p17,
.go (.call a16 [a17]) p18,
.go (.move a1) p19,
.go (.bin .sub 3 a18 a19) p20,
.go (.move a1) p21,
.go (.fieldAddr 0 a7) p22,
.go (.load1 a22) p23,
.go (.loadN 2 a2) p24,
.go (.call a23 [a24]) p25,
.go (.bin .sub 3 a21 a25) p26,
.go (.mm true [a14,a20,a26]) p27,
.go (.move a27) p5] [.ok,.ok,.ok,.ok,.ok,.ok,.ok,.ok,.ok,.rd none (.load1 a22) (some p23) [0],.rd none (.loadN 2 a2) (some p24) [0],.ok,.ok,.ok,.ok]))) (.run [.go (.bin .add 3 a10 (.con (.int .i64 (.ofNat 1)))) p28,
.go (.move a28) p10]))))))) (.seq (.run [.go (.move a5) p29,
.go (.move a29) p4]) .ret))))
noncomputable def f66 : FFunc:=.mk c66 u32 [p0,p1] [.tmp p4]
theorem e66 : @compF Try.prog (Gl.none Try.prog) Try.f66 2=f66:=by kernel_rfl
theorem o66 : okF Try.prog Try.f66=true:=by kernel_rfl
theorem g66 : Try.prog.funcs[(66 : Nat)]?=some Try.f66:=by kernel_rfl
noncomputable def c67 : FCode:=(.seq (.run [.go (.box 96 a0) p2,
.go (.box 3 a1) p3,
.go (.move (.con (.bool false))) p4]) (.seq (.run [.go (.alloc 107 [(.bool false),(.bool false),(.bool false),(.bool false),(.bool false),(.bool false),(.bool false),(.bool false)]) p5]) (.seq (.run [.go (.alloc 134 [.nilFunc]) p6]) (.seq (.run [.go (.makeFunc 101 [] [a5,a2,a3,a6]) p10,
.un (.store 1 a6 a10)]) (.seq (.run [.go (.alloc 4 [(.bool false)]) p7,
.go (.alloc 4 [(.bool false)]) p8,
.un (.store 1 a7 (.con (.bool false))),
.un (.store 1 a8 (.con (.bool true)))]) (.seq (.seq (.run [.go (.loadN 21 a2) p11,
.go (.fieldAddr 12 a2) p12,
.go (.loadN 8 a12) p13,
.go (.load1 a3) p14,
.go (.call (.con (.func (.func 94) ⟨[]⟩ ⟨[]⟩)) [a11,a13,a14]) p15]) (.block 0 (.rangeFunc a15 [p16] (rfA Try.f67 0) (rfB Try.f67 0) (.run [.go (.move a16) p9]) (.block 1 (.seq (.seq (.run [.go (.load1 a7) p17,
.go (.un .not a17) p18]) (.cond a18 (.seq (.run [.un (.store 1 a7 (.con (.bool true)))]) (.run [.go (.load1 a6) p19,
.go (.move a9) p20,
.go (.call a19 [a20]) p21])) .skip)) (.run [.go (.load1 a8) p22,
.go (.move a22) p23,
.gd p23 true (.move a9) p24,
.gd p23 true (.indexAddr (some 8) 1 a5 a24) p25,
.gd p23 true (.load1 a25) p26,
.go (.pick a23 a26 (.con (.bool false))) p27,
.un (.store 1 a8 a27)])))))) (.seq (.run [.go (.load1 a7) p28,
.go (.move a28) p29,
.gd p29 true (.load1 a8) p30,
.go (.pick a29 a30 (.con (.bool false))) p31,
.go (.move a31) p4]) .ret)))))))
noncomputable def f67 : FFunc:=.mk c67 u22 [p0,p1] [.tmp p4]
theorem e67 : @compF Try.prog (Gl.none Try.prog) Try.f67 2=f67:=by kernel_rfl
theorem o67 : okF Try.prog Try.f67=true:=by kernel_rfl
theorem g67 : Try.prog.funcs[(67 : Nat)]?=some Try.f67:=by kernel_rfl
noncomputable def c69 : FCode:=(.seq (.run [.go (.box 62 a0) p2,
.go (.box 62 a1) p3,
.go (.move (.con (.bool false))) p4]) (.seq (.run [.go (.fieldAddr 0 a2) p5,
.go (.load1 a5) p6,
.go (.fieldAddr 1 a2) p7,
.go (.load1 a7) p8,
.go (.bin .leq 3 a6 a8) p9,
.go (.move a9) p10,
.gd p10 true (.call (.con (.func (.func 100) ⟨[]⟩ ⟨[]⟩)) []) p11,
.gd p10 true (.makeFunc 103 [] [a3,a2]) p12,
.gd p10 true (.call (.con (.func (.func 102) ⟨[]⟩ ⟨[]⟩)) [a11,a12]) p13,
.go (.pick a10 a13 (.con (.bool false))) p14,
.go (.move a14) p4]) .ret))
noncomputable def f69 : FFunc:=.mk c69 u21 [p0,p1] [.tmp p4]
theorem e69 : @compF Try.prog (Gl.none Try.prog) Try.f69 2=f69:=by kernel_rfl
theorem o69 : okF Try.prog Try.f69=true:=by kernel_rfl
theorem g69 : Try.prog.funcs[(69 : Nat)]?=some Try.f69:=by kernel_rfl
noncomputable def c70 : FCode:=(.seq (.run [.go (.alloc 62 [z0,z0]) p0]) (.seq (.run [.go (.build [z0,z0] [(0,1,(.con z0)),(1,1,(.con (.int .i64 (.ofNat 40000))))]) p1,
.un (.store 2 a0 a1)]) .ret))
noncomputable def f70 : FFunc:=.mk c70 u1 [] [.many p0 2]
theorem e70 : @compF Try.prog (Gl.none Try.prog) Try.f70 0=f70:=by kernel_rfl
theorem o70 : okF Try.prog Try.f70=true:=by kernel_rfl
theorem g70 : Try.prog.funcs[(70 : Nat)]?=some Try.f70:=by kernel_rfl
noncomputable def c71 : FCode:=(.seq (.run [.go (.box 96 a0) p2,
.go (.box 62 a1) p3,
.go (.alloc 22 [(.slice none 0 0)]) p4,
.go (.alloc 3 [z0]) p5,
.go (.alloc 29 [z0]) p6]) (.scope (.seq (.run [.un (.store 1 a6 (.con (.int .i64 (.ofNat 7))))]) (.seq .skip (.seq (.seq (.run [.go (.fieldAddr 0 a2) p9,
.go (.fieldAddr 2 a9) p10,
.go (.load1 a10) p11,
.go (.len 0 a11) p12,
.go (.bin .add 3 a12 (.con (.int .i64 (.ofNat 1)))) p13,
.go (.move (.con z0)) p14]) (.block 0 (.loop (.seq (.run [.go (.bin .lss 3 a14 a13) p15]) (.seq (.cond a15 .skip (.exit 0)) (.seq (.block 1 (.seq (.run [.go (.move a14) p16,
.go (.alloc 3 [z0]) p7,
.un (.store 1 a7 a16)]) (.seq (.run [.go (.loadN 21 a2) p17,
.go (.load1 a7) p18,
.go (.call (.con (.func (.func 104) ⟨[]⟩ ⟨[]⟩)) [a17,a18]) p19]) (.block 2 (.rangeFunc a19 [p20] (rfA Try.f71 0) (rfB Try.f71 0) (.run [.go (.alloc 93 [z0,z0,z0,z0,z0,z0,z0,z0]) p8,
.un (.store 8 a8 a20)]) (.block 3 (.seq (.run [.go (.loadN 8 a8) p21,
.go (.fieldAddr 12 a2) p22,
.un (.store 8 a22 a21)]) (.seq (.run [.go (.loadN 21 a2) p23,
.go (.loadN 2 a3) p24,
.go (.call (.con (.func (.func 75) ⟨[]⟩ ⟨[]⟩)) [a23,a24]) p25]) (.cond a25 (.seq (.draw 9 [.go (.fieldAddr 0 a2) p26,
.go (.fieldAddr 2 a26) p27,
.go (.load1 a27) p28,
.go (.len 0 a28) p29,
.go (.sliceSlow 93 a8 none (some a29)) p30,
.go (.load1 a7) p31,
.un (.store 1 a4 a30),
.un (.store 1 a5 a31),
.un (.store 1 a6 (.con z0))] [.ok,.ok,.ok,.ok,.ok,.rd none (.load1 a7) (some p31) [7],.ok,.ok,.ok]) (.exit 0)) .skip))))))))) (.run [.go (.bin .add 3 a14 (.con (.int .i64 (.ofNat 1)))) p32,
.go (.move a32) p14]))))))) (.seq (.draw 6 [.go (.load1 a4) p33,
.go (.load1 a5) p34,
.go (.load1 a6) p35,
.un (.store 1 a4 a33),
.un (.store 1 a5 a34),
.un (.store 1 a6 a35)] [.ok,.rd none (.load1 a5) (some p34) [4],.rd none (.load1 a6) (some p35) [4,5],.ok,.ok,.ok]) .ret))))))
noncomputable def f71 : FFunc:=.mk c71 u34 [p0,p1] [.one p4,.one p5,.one p6]
theorem e71 : @compF Try.prog (Gl.none Try.prog) Try.f71 2=f71:=by kernel_rfl
theorem o71 : okF Try.prog Try.f71=true:=by kernel_rfl
theorem g71 : Try.prog.funcs[(71 : Nat)]?=some Try.f71:=by kernel_rfl
noncomputable def c75 : FCode:=(.seq (.run [.go (.box 96 a0) p2,
.go (.box 62 a1) p3,
.go (.move (.con (.bool false))) p4]) (.seq (.seq (.run [.go (.fieldAddr 0 a2) p6,
.go (.fieldAddr 1 a6) p7,
.go (.load1 a7) p8,
.go (.move (.con z0)) p9]) (.block 0 (.loop (.seq (.run [.go (.bin .lss 3 a9 a8) p10]) (.seq (.cond a10 .skip (.exit 0)) (.seq (.block 1 (.seq (.run [.go (.move a9) p11,
.go (.move a11) p5]) (.seq (.draw 12 [.go (.loadN 21 a2) p12,
.go (.move a5) p13,
.go (.call (.con (.func (.func 98) ⟨[]⟩ ⟨[]⟩)) [a12,a13]) p14,
.go (.loadN 2 a3) p15,
.go (.call (.con (.func (.func 69) ⟨[]⟩ ⟨[]⟩)) [a14,a15]) p16,
.go (.un .not a16) p17,
.go (.move a17) p18,
.gd p18 false (.loadN 21 a2) p19,
.gd p18 false (.move a5) p20,
.gd p18 false (.call (.con (.func (.func 67) ⟨[]⟩ ⟨[]⟩)) [a19,a20]) p21,
.gd p18 false (.un .not a21) p22,
.go (.pick a18 (.con (.bool true)) a22) p23] [.ok,.ok,.ok,.rd none (.loadN 2 a3) (some p15) [0],.ok,.ok,.ok,.ok,.ok,.ok,.ok,.ok]) (.cond a23 (.seq (.run [.go (.move (.con (.bool false))) p4]) .ret) .skip)))) (.run [.go (.bin .add 3 a9 (.con (.int .i64 (.ofNat 1)))) p24,
.go (.move a24) p9]))))))) (.seq (.run [.go (.move (.con (.bool true))) p4]) .ret)))
noncomputable def f75 : FFunc:=.mk c75 u35 [p0,p1] [.tmp p4]
theorem e75 : @compF Try.prog (Gl.none Try.prog) Try.f75 2=f75:=by kernel_rfl
theorem o75 : okF Try.prog Try.f75=true:=by kernel_rfl
theorem g75 : Try.prog.funcs[(75 : Nat)]?=some Try.f75:=by kernel_rfl
noncomputable def c78 : FCode:=(.seq (.run [.go (.move (.con (.bool false))) p4]) (.seq (.seq (.run [.go (.move a0) p7,
.go (.len 0 a7) p8,
.go (.move (.con z0)) p9]) (.block 0 (.loop (.seq (.run [.go (.bin .lss 3 a9 a8) p10]) (.seq (.cond a10 .skip (.exit 0)) (.seq (.block 1 (.seq (.run [.go (.indexAddr none 1 a7 a9) p11,
.go (.load1 a11) p12,
.go (.move a12) p6]) (.seq (.run [.go (.move a1) p13,
.go (.move a6) p14,
.go (.call a13 [a14]) p15,
.go (.un .not a15) p16]) (.cond a16 (.seq (.run [.go (.move (.con (.bool false))) p4]) .ret) .skip)))) (.run [.go (.bin .add 3 a9 (.con (.int .i64 (.ofNat 1)))) p17,
.go (.move a17) p9]))))))) (.seq (.run [.go (.move (.con (.bool true))) p4]) .ret)))
noncomputable def f78 : FFunc:=.mk c78 u33 [p0,p1] [.tmp p4]
theorem e78 : @compF Try.prog (Gl.none Try.prog) Try.f78 2=f78:=by kernel_rfl
theorem o78 : okF Try.prog Try.f78=true:=by kernel_rfl
theorem g78 : Try.prog.funcs[(78 : Nat)]?=some Try.f78:=by kernel_rfl
noncomputable def c79 : FCode:=(.seq (.run [.go (.alloc 116 [z0,z0]) p0]) (.seq (.run [.go (.build [z0,z0] [(0,1,(.con z0)),(1,1,(.con (.int .i64 (.ofNat 10000))))]) p1,
.un (.store 2 a0 a1)]) .ret))
noncomputable def f79 : FFunc:=.mk c79 u1 [] [.many p0 2]
theorem e79 : @compF Try.prog (Gl.none Try.prog) Try.f79 0=f79:=by kernel_rfl
theorem o79 : okF Try.prog Try.f79=true:=by kernel_rfl
theorem g79 : Try.prog.funcs[(79 : Nat)]?=some Try.f79:=by kernel_rfl
noncomputable def c80 : FCode:=(.seq (.run [.go (.box 116 a0) p2,
.go (.move (.con (.bool false))) p4]) (.seq (.run [.go (.fieldAddr 0 a2) p5,
.go (.load1 a5) p6,
.go (.move a1) p7,
.go (.bin .leq 3 a6 a7) p8,
.go (.move a8) p9,
.gd p9 true (.move a1) p10,
.gd p9 true (.fieldAddr 1 a2) p11,
.gd p9 true (.load1 a11) p12,
.gd p9 true (.bin .leq 3 a10 a12) p13,
.go (.pick a9 a13 (.con (.bool false))) p14,
.go (.move a14) p4]) .ret))
noncomputable def f80 : FFunc:=.mk c80 u21 [p0,p1] [.tmp p4]
theorem e80 : @compF Try.prog (Gl.none Try.prog) Try.f80 2=f80:=by kernel_rfl
theorem o80 : okF Try.prog Try.f80=true:=by kernel_rfl
theorem g80 : Try.prog.funcs[(80 : Nat)]?=some Try.f80:=by kernel_rfl
noncomputable def c81 : FCode:=(.seq (.run [.go (.alloc 116 [z0,z0]) p0]) (.seq (.run [.go (.build [z0,z0] [(0,1,(.con z0)),(1,1,(.con (.int .i64 (.ofNat 100000))))]) p1,
.un (.store 2 a0 a1)]) .ret))
noncomputable def f81 : FFunc:=.mk c81 u1 [] [.many p0 2]
theorem e81 : @compF Try.prog (Gl.none Try.prog) Try.f81 0=f81:=by kernel_rfl
theorem o81 : okF Try.prog Try.f81=true:=by kernel_rfl
theorem g81 : Try.prog.funcs[(81 : Nat)]?=some Try.f81:=by kernel_rfl
noncomputable def c82 : FCode:=(.seq (.run [.go (.move (.con z0)) p2]) (.seq (.run [.go (.move (.con z0)) p3]) (.seq (.seq (.run [.go (.move a0) p6,
.go (.len 0 a6) p7,
.go (.move (.con z0)) p8]) (.block 0 (.loop (.seq (.run [.go (.bin .lss 3 a8 a7) p9]) (.seq (.cond a9 .skip (.exit 0)) (.seq (.block 1 (.seq (.run [.go (.indexAddr none 1 a6 a8) p10,
.go (.load1 a10) p11,
.go (.move a11) p5]) (.run [.go (.move a3) p12,
.go (.move a5) p13,
.go (.bin .add 3 a12 a13) p14,
.go (.move a14) p3]))) (.run [.go (.bin .add 3 a8 (.con (.int .i64 (.ofNat 1)))) p15,
.go (.move a15) p8]))))))) (.seq (.run [.go (.move a3) p16,
.go (.move a16) p2]) .ret))))
noncomputable def f82 : FFunc:=.mk c82 u30 [p0] [.tmp p2]
theorem e82 : @compF Try.prog (Gl.none Try.prog) Try.f82 1=f82:=by kernel_rfl
theorem o82 : okF Try.prog Try.f82=true:=by kernel_rfl
theorem g82 : Try.prog.funcs[(82 : Nat)]?=some Try.f82:=by kernel_rfl
noncomputable def c83 : FCode:=(.seq (.run [.go (.move (.con (.slice none 0 0))) p4]) (.seq (.run [.go (.move a0) p13,
.go (.call (.con (.func (.func 82) ⟨[]⟩ ⟨[]⟩)) [a13]) p14,
.go (.move a1) p15,
.go (.move a14) p5,
.go (.move a15) p6]) (.seq (.run [.go (.move (.con (.slice none 0 0))) p7,
.go (.move (.con (.slice none 0 0))) p8]) (.seq (.seq (.run [.go (.move a0) p16,
.go (.len 0 a16) p17,
.go (.move (.con z0)) p18]) (.block 0 (.loop (.seq (.run [.go (.bin .lss 3 a18 a17) p19]) (.seq (.cond a19 .skip (.exit 0)) (.seq (.block 1 (.seq (.run [.go (.indexAddr none 1 a16 a18) p20,
.go (.load1 a20) p21,
.go (.move a21) p10]) (.seq (.run [.go (.move a1) p22,
.go (.move a10) p23,
.go (.bin .mul 3 a22 a23) p24,
.go (.move a5) p25,
.go (.bin .quo 3 a24 a25) p26,
.go (.move a26) p11]) (.seq (.run [.go (.move a6) p27,
.go (.move a11) p28,
.go (.bin .sub 3 a27 a28) p29,
.go (.move a29) p6]) (.seq (.run [.go (.move a7) p30,
.go (.move a11) p31,
.go (.buildSlice 3 1 [z0] [(0,1,a31)]) p32,
.go (.append 3 1 8 a30 a32) p33,
.go (.move a33) p7]) (.run [.go (.move a8) p34,
.go (.move a11) p35,
.go (.bin .add 3 a35 (.con (.int .i64 (.ofNat 1)))) p36,
.go (.move a5) p37,
.go (.bin .mul 3 a36 a37) p38,
.go (.move a1) p39,
.go (.move a10) p40,
.go (.bin .mul 3 a39 a40) p41,
.go (.bin .sub 3 a38 a41) p42,
.go (.buildSlice 3 1 [z0] [(0,1,a42)]) p43,
.go (.append 3 1 8 a34 a43) p44,
.go (.move a44) p8])))))) (.run [.go (.bin .add 3 a18 (.con (.int .i64 (.ofNat 1)))) p45,
.go (.move a45) p18]))))))) (.seq (.seq (.run [.go (.move a6) p46,
.go (.move (.con z0)) p47]) (.block 2 (.loop (.seq (.run [.go (.bin .lss 3 a47 a46) p48]) (.seq (.cond a48 .skip (.exit 2)) (.seq (.block 3 (.seq (.draw 9 [.go (.move a8) p49,
.go (.move a8) p50,
.go (.indexAddr none 1 a50 (.con z0)) p51,
.go (.load1 a51) p52,
.go (.move a8) p53,
.go (.slice 3 1 a53 (some (.con (.int .i64 (.ofNat 1)))) none) p54,
.go (.call (.con (.func (.func 107) ⟨[]⟩ ⟨[]⟩)) [a52,a54]) p55,
.go (.call (.con (.func (.func 106) ⟨[]⟩ ⟨[]⟩)) [a49,a55]) p56,
.go (.move a56) p12] [.ok,.ok,.ok,.ok,.ok,.ok,.ok,.ok,.ok]) (.seq (.run [.go (.move a7) p57,
.go (.move a12) p58,
.go (.indexAddr none 1 a57 a58) p59,
.go (.load1 a59) p60,
.go (.bin .add 3 a60 (.con (.int .i64 (.ofNat 1)))) p61,
.go (.indexAddr none 1 a57 a58) p62,
.un (.store 1 a62 a61)]) (.run [.go (.move a8) p63,
.go (.move a12) p64,
.go (.indexAddr none 1 a63 a64) p65,
.go (.load1 a65) p66,
.go (.move a5) p67,
.go (.bin .add 3 a66 a67) p68,
.go (.indexAddr none 1 a63 a64) p69,
.un (.store 1 a69 a68)])))) (.run [.go (.bin .add 3 a47 (.con (.int .i64 (.ofNat 1)))) p70,
.go (.move a70) p47]))))))) (.seq (.run [.go (.move a7) p71,
.go (.move a71) p4]) .ret))))))
noncomputable def f83 : FFunc:=.mk c83 u37 [p0,p1] [.tmp p4]
theorem e83 : @compF Try.prog (Gl.none Try.prog) Try.f83 2=f83:=by kernel_rfl
theorem o83 : okF Try.prog Try.f83=true:=by kernel_rfl
theorem g83 : Try.prog.funcs[(83 : Nat)]?=some Try.f83:=by kernel_rfl
noncomputable def c84 : FCode:=(.seq (.run [.go (.alloc 62 [z0,z0]) p0]) (.seq (.run [.go (.build [z0,z0] [(0,1,(.con (.int .i64 (.ofNat 1)))),(1,1,(.con (.int .i64 (.ofNat 4))))]) p1,
.un (.store 2 a0 a1)]) .ret))
noncomputable def f84 : FFunc:=.mk c84 u1 [] [.many p0 2]
theorem e84 : @compF Try.prog (Gl.none Try.prog) Try.f84 0=f84:=by kernel_rfl
theorem o84 : okF Try.prog Try.f84=true:=by kernel_rfl
theorem g84 : Try.prog.funcs[(84 : Nat)]?=some Try.f84:=by kernel_rfl
noncomputable def c85 : FCode:=(.seq (.run [.go (.box 62 a0) p2,
.go (.move (.con (.bool false))) p4]) (.seq (.run [.go (.fieldAddr 0 a2) p5,
.go (.load1 a5) p6,
.go (.move a1) p7,
.go (.bin .leq 3 a6 a7) p8,
.go (.move a8) p9,
.gd p9 true (.move a1) p10,
.gd p9 true (.fieldAddr 1 a2) p11,
.gd p9 true (.load1 a11) p12,
.gd p9 true (.bin .leq 3 a10 a12) p13,
.go (.pick a9 a13 (.con (.bool false))) p14,
.go (.move a14) p4]) .ret))
noncomputable def f85 : FFunc:=.mk c85 u21 [p0,p1] [.tmp p4]
theorem e85 : @compF Try.prog (Gl.none Try.prog) Try.f85 2=f85:=by kernel_rfl
theorem o85 : okF Try.prog Try.f85=true:=by kernel_rfl
theorem g85 : Try.prog.funcs[(85 : Nat)]?=some Try.f85:=by kernel_rfl
noncomputable def c86 : FCode:=(.seq (.run [.go (.move (.con (.bool false))) p4]) (.seq (.seq (.run [.go (.move a0) p7,
.go (.len 0 a7) p8,
.go (.move (.con z0)) p9]) (.block 0 (.loop (.seq (.run [.go (.bin .lss 3 a9 a8) p10]) (.seq (.cond a10 .skip (.exit 0)) (.seq (.block 1 (.seq (.run [.go (.indexAddr none 1 a7 a9) p11,
.go (.load1 a11) p12,
.go (.move a12) p6]) (.seq (.run [.go (.move a1) p13,
.go (.move a6) p14,
.go (.call a13 [a14]) p15,
.go (.un .not a15) p16]) (.cond a16 (.seq (.run [.go (.move (.con (.bool false))) p4]) .ret) .skip)))) (.run [.go (.bin .add 3 a9 (.con (.int .i64 (.ofNat 1)))) p17,
.go (.move a17) p9]))))))) (.seq (.run [.go (.move (.con (.bool true))) p4]) .ret)))
noncomputable def f86 : FFunc:=.mk c86 u33 [p0,p1] [.tmp p4]
theorem e86 : @compF Try.prog (Gl.none Try.prog) Try.f86 2=f86:=by kernel_rfl
theorem o86 : okF Try.prog Try.f86=true:=by kernel_rfl
theorem g86 : Try.prog.funcs[(86 : Nat)]?=some Try.f86:=by kernel_rfl
noncomputable def c87 : FCode:=(.seq (.run [.go (.alloc 62 [z0,z0]) p0]) (.seq (.run [.go (.build [z0,z0] [(0,1,(.con z0)),(1,1,(.con (.int .i64 (.ofNat 10000))))]) p1,
.un (.store 2 a0 a1)]) .ret))
noncomputable def f87 : FFunc:=.mk c87 u1 [] [.many p0 2]
theorem e87 : @compF Try.prog (Gl.none Try.prog) Try.f87 0=f87:=by kernel_rfl
theorem o87 : okF Try.prog Try.f87=true:=by kernel_rfl
theorem g87 : Try.prog.funcs[(87 : Nat)]?=some Try.f87:=by kernel_rfl
noncomputable def c88 : FCode:=(.seq (.run [.go (.move (.con (.bool false))) p4]) (.seq (.seq (.run [.go (.move a0) p7,
.go (.len 0 a7) p8,
.go (.move (.con z0)) p9]) (.block 0 (.loop (.seq (.run [.go (.bin .lss 3 a9 a8) p10]) (.seq (.cond a10 .skip (.exit 0)) (.seq (.block 1 (.seq (.run [.go (.indexAddr none 5 a7 a9) p11,
.go (.loadN 5 a11) p12,
.go (.alloc 74 [z0,z0,z0,z0,z0]) p6,
.un (.store 5 a6 a12)]) (.seq (.run [.go (.move a1) p13,
.go (.loadN 5 a6) p14,
.go (.call a13 [a14]) p15,
.go (.un .not a15) p16]) (.cond a16 (.seq (.run [.go (.move (.con (.bool false))) p4]) .ret) .skip)))) (.run [.go (.bin .add 3 a9 (.con (.int .i64 (.ofNat 1)))) p17,
.go (.move a17) p9]))))))) (.seq (.run [.go (.move (.con (.bool true))) p4]) .ret)))
noncomputable def f88 : FFunc:=.mk c88 u33 [p0,p1] [.tmp p4]
theorem e88 : @compF Try.prog (Gl.none Try.prog) Try.f88 2=f88:=by kernel_rfl
theorem o88 : okF Try.prog Try.f88=true:=by kernel_rfl
theorem g88 : Try.prog.funcs[(88 : Nat)]?=some Try.f88:=by kernel_rfl
noncomputable def c89 : FCode:=(.seq (.run [.go (.box 34 a0) p2,
.go (.box 74 a1) p3,
.go (.move (.con (.bool false))) p4]) (.seq (.draw 23 [.go (.loadN 4 a2) p5,
.go (.fieldAddr 0 a3) p6,
.go (.load1 a6) p7,
.go (.call (.con (.func (.func 108) ⟨[]⟩ ⟨[]⟩)) [a5,a7]) p8,
.go (.move a8) p9,
.gd p9 true (.loadN 4 a2) p10,
.gd p9 true (.fieldAddr 1 a3) p11,
.gd p9 true (.load1 a11) p12,
.gd p9 true (.call (.con (.func (.func 105) ⟨[]⟩ ⟨[]⟩)) [a10,a12]) p13,
.go (.pick a9 a13 (.con (.bool false))) p14,
.go (.move a14) p15,
.gd p15 true (.call (.con (.func (.func 109) ⟨[]⟩ ⟨[]⟩)) []) p16,
.gd p15 true (.fieldAddr 2 a3) p17,
.gd p15 true (.load1 a17) p18,
.gd p15 true (.call (.con (.func (.func 85) ⟨[]⟩ ⟨[]⟩)) [a16,a18]) p19,
.go (.pick a15 a19 (.con (.bool false))) p20,
.go (.move a20) p21,
.gd p21 true (.fieldAddr 3 a3) p22,
.gd p21 true (.loadN 2 a22) p23,
.gd p21 true (.call (.con (.func (.func 87) ⟨[]⟩ ⟨[]⟩)) []) p24,
.gd p21 true (.call (.con (.func (.func 69) ⟨[]⟩ ⟨[]⟩)) [a23,a24]) p25,
.go (.pick a21 a25 (.con (.bool false))) p26,
.go (.move a26) p4] [.ok,.ok,.ok,.ok,.ok,.ok,.ok,.ok,.ok,.ok,.ok,.ok,.ok,.rd (some (p15,true)) (.load1 a17) (some p18) [9],.ok,.ok,.ok,.ok,.rd (some (p21,true)) (.loadN 2 a22) (some p23) [20],.ok,.ok,.ok,.ok]) .ret))
noncomputable def f89 : FFunc:=.mk c89 u38 [p0,p1] [.tmp p4]
theorem e89 : @compF Try.prog (Gl.none Try.prog) Try.f89 2=f89:=by kernel_rfl
theorem o89 : okF Try.prog Try.f89=true:=by kernel_rfl
theorem g89 : Try.prog.funcs[(89 : Nat)]?=some Try.f89:=by kernel_rfl
noncomputable def c90 : FCode:=(.seq (.run [.go (.move (.con (.bool false))) p4]) (.seq (.seq (.run [.go (.move a0) p7,
.go (.len 0 a7) p8,
.go (.move (.con z0)) p9]) (.block 0 (.loop (.seq (.run [.go (.bin .lss 3 a9 a8) p10]) (.seq (.cond a10 .skip (.exit 0)) (.seq (.block 1 (.seq (.run [.go (.indexAddr none 2 a7 a9) p11,
.go (.loadN 2 a11) p12,
.go (.alloc 76 [z0,z0]) p6,
.un (.store 2 a6 a12)]) (.seq (.run [.go (.move a1) p13,
.go (.loadN 2 a6) p14,
.go (.call a13 [a14]) p15,
.go (.un .not a15) p16]) (.cond a16 (.seq (.run [.go (.move (.con (.bool false))) p4]) .ret) .skip)))) (.run [.go (.bin .add 3 a9 (.con (.int .i64 (.ofNat 1)))) p17,
.go (.move a17) p9]))))))) (.seq (.run [.go (.move (.con (.bool true))) p4]) .ret)))
noncomputable def f90 : FFunc:=.mk c90 u33 [p0,p1] [.tmp p4]
theorem e90 : @compF Try.prog (Gl.none Try.prog) Try.f90 2=f90:=by kernel_rfl
theorem o90 : okF Try.prog Try.f90=true:=by kernel_rfl
theorem g90 : Try.prog.funcs[(90 : Nat)]?=some Try.f90:=by kernel_rfl
noncomputable def c91 : FCode:=(.seq (.run [.go (.box 34 a0) p2,
.go (.box 76 a1) p3,
.go (.move (.con (.bool false))) p4]) (.seq (.run [.go (.loadN 4 a2) p6,
.go (.makeFunc 110 [a6] []) p7,
.go (.move a7) p5]) (.seq (.run [.go (.move a5) p8,
.go (.fieldAddr 0 a3) p9,
.go (.load1 a9) p10,
.go (.call a8 [a10]) p11,
.go (.move a11) p12,
.gd p12 true (.move a5) p13,
.gd p12 true (.fieldAddr 1 a3) p14,
.gd p12 true (.load1 a14) p15,
.gd p12 true (.call a13 [a15]) p16,
.go (.pick a12 a16 (.con (.bool false))) p17,
.go (.move a17) p18,
.gd p18 true (.fieldAddr 0 a3) p19,
.gd p18 true (.load1 a19) p20,
.gd p18 true (.fieldAddr 1 a3) p21,
.gd p18 true (.load1 a21) p22,
.gd p18 true (.bin .neq 3 a20 a22) p23,
.go (.pick a18 a23 (.con (.bool false))) p24,
.go (.move a24) p4]) .ret)))
noncomputable def f91 : FFunc:=.mk c91 u35 [p0,p1] [.tmp p4]
theorem e91 : @compF Try.prog (Gl.none Try.prog) Try.f91 2=f91:=by kernel_rfl
theorem o91 : okF Try.prog Try.f91=true:=by kernel_rfl
theorem g91 : Try.prog.funcs[(91 : Nat)]?=some Try.f91:=by kernel_rfl
noncomputable def c92 : FCode:=(.seq (.run [.go (.box 34 a0) p1,
.go (.move (.con (.bool false))) p2]) (.seq (.run [.go (.alloc 128 [z0,z0,z0,z0]) p3]) (.seq (.seq (.run [.go (.fieldAddr 2 a1) p6,
.go (.load1 a6) p7,
.go (.len 0 a7) p8,
.go (.move (.con z0)) p9]) (.block 0 (.loop (.seq (.run [.go (.bin .lss 3 a9 a8) p10]) (.seq (.cond a10 .skip (.exit 0)) (.seq (.block 1 (.seq (.run [.go (.indexAddr none 5 a7 a9) p11,
.go (.loadN 5 a11) p12,
.go (.alloc 74 [z0,z0,z0,z0,z0]) p5,
.un (.store 5 a5 a12)]) (.draw 9 [.go (.fieldAddr 0 a5) p13,
.go (.load1 a13) p14,
.go (.indexAddr (some 4) 1 a3 a14) p15,
.go (.load1 a15) p16,
.go (.fieldAddr 2 a5) p17,
.go (.load1 a17) p18,
.go (.bin .add 3 a16 a18) p19,
.go (.indexAddr (some 4) 1 a3 a14) p20,
.un (.store 1 a20 a19)] [.ok,.ok,.ok,.ok,.ok,.ok,.ok,.ok,.ok]))) (.run [.go (.bin .add 3 a9 (.con (.int .i64 (.ofNat 1)))) p21,
.go (.move a21) p9]))))))) (.seq (.run [.go (.fieldAddr 0 a1) p22,
.go (.load1 a22) p23,
.go (.len 0 a23) p24,
.go (.sliceSlow 128 a3 none (some a24)) p25,
.go (.call (.con (.func (.func 86) ⟨[]⟩ ⟨[]⟩)) [a25,(.con (.func (.func 111) ⟨[]⟩ ⟨[]⟩))]) p26,
.go (.move a26) p2]) .ret))))
noncomputable def f92 : FFunc:=.mk c92 u38 [p0] [.tmp p2]
theorem e92 : @compF Try.prog (Gl.none Try.prog) Try.f92 1=f92:=by kernel_rfl
theorem o92 : okF Try.prog Try.f92=true:=by kernel_rfl
theorem g92 : Try.prog.funcs[(92 : Nat)]?=some Try.f92:=by kernel_rfl
noncomputable def c93 : FCode:=(.seq (.run [.go (.move (.con (.slice none 0 0))) p2]) (.seq (.run [.go (.move a0) p3,
.go (.call (.con (.func (.func 112) ⟨[]⟩ ⟨[]⟩)) [(.con (.slice none 0 0)),a3]) p4,
.go (.move a4) p2]) .ret))
noncomputable def f93 : FFunc:=.mk c93 u2 [p0] [.tmp p2]
theorem e93 : @compF Try.prog (Gl.none Try.prog) Try.f93 1=f93:=by kernel_rfl
theorem o93 : okF Try.prog Try.f93=true:=by kernel_rfl
theorem g93 : Try.prog.funcs[(93 : Nat)]?=some Try.f93:=by kernel_rfl
noncomputable def c94 : FCode:=(.seq (.run [.go (.box 96 a0) p3,
.go (.box 93 a1) p4,
.go (.box 3 a2) p5,
.go (.move (.con .nilFunc)) p6]) (.seq (.run [.go (.makeFunc 113 [] [a3,a4,a5]) p7,
.go (.move a7) p6]) .ret))
noncomputable def f94 : FFunc:=.mk c94 u16 [p0,p1,p2] [.tmp p6]
theorem e94 : @compF Try.prog (Gl.none Try.prog) Try.f94 3=f94:=by kernel_rfl
theorem o94 : okF Try.prog Try.f94=true:=by kernel_rfl
theorem g94 : Try.prog.funcs[(94 : Nat)]?=some Try.f94:=by kernel_rfl
noncomputable def c95 : FCode:=(.seq (.run [.go (.box 96 a0) p2,
.go (.alloc 62 [z0,z0]) p4]) (.seq (.run [.go (.alloc 62 [z0,z0]) p5]) (.seq (.seq (.run [.go (.loadN 21 a2) p7,
.go (.fieldAddr 4 a2) p8,
.go (.loadN 8 a8) p9,
.go (.move a1) p10,
.go (.call (.con (.func (.func 94) ⟨[]⟩ ⟨[]⟩)) [a7,a9,a10]) p11]) (.block 0 (.rangeFunc a11 [p12] (rfA Try.f95 0) (rfB Try.f95 0) (.run [.go (.move a12) p6]) (.block 1 (.draw 10 [.go (.loadN 2 a5) p13,
.go (.fieldAddr 0 a2) p14,
.go (.fieldAddr 2 a14) p15,
.go (.load1 a15) p16,
.go (.move a6) p17,
.go (.indexAddr none 5 a16 a17) p18,
.go (.fieldAddr 3 a18) p19,
.go (.loadN 2 a19) p20,
.go (.call (.con (.func (.func 114) ⟨[]⟩ ⟨[]⟩)) [a13,a20]) p21,
.un (.store 2 a5 a21)] [.ok,.ok,.ok,.ok,.ok,.ok,.ok,.ok,.ok,.ok]))))) (.seq (.run [.go (.loadN 2 a5) p22,
.un (.store 2 a4 a22)]) .ret))))
noncomputable def f95 : FFunc:=.mk c95 u27 [p0,p1] [.many p4 2]
theorem e95 : @compF Try.prog (Gl.none Try.prog) Try.f95 2=f95:=by kernel_rfl
theorem o95 : okF Try.prog Try.f95=true:=by kernel_rfl
theorem g95 : Try.prog.funcs[(95 : Nat)]?=some Try.f95:=by kernel_rfl
noncomputable def c96 : FCode:=(.seq (.run [.go (.box 96 a0) p3,
.go (.box 106 a2) p5,
.go (.alloc 62 [z0,z0]) p6]) (.seq (.run [.go (.alloc 62 [z0,z0]) p7,
.go (.alloc 62 [z0,z0]) p8]) (.seq (.seq (.run [.go (.loadN 21 a3) p12,
.go (.fieldAddr 4 a3) p13,
.go (.loadN 8 a13) p14,
.go (.move a1) p15,
.go (.call (.con (.func (.func 94) ⟨[]⟩ ⟨[]⟩)) [a12,a14,a15]) p16]) (.block 0 (.rangeFunc a16 [p17] (rfA Try.f96 0) (rfB Try.f96 0) (.run [.go (.move a17) p9]) (.block 1 (.seq (.run [.go (.fieldAddr 0 a3) p18,
.go (.fieldAddr 2 a18) p19,
.go (.load1 a19) p20,
.go (.move a9) p21,
.go (.indexAddr none 5 a20 a21) p22,
.go (.fieldAddr 3 a22) p23,
.go (.loadN 2 a23) p24,
.go (.alloc 62 [z0,z0]) p10,
.un (.store 2 a10 a24)]) (.seq (.run [.go (.load1 a5) p25,
.go (.move a9) p26,
.go (.call a25 [a26]) p27]) (.cond a27 (.run [.go (.loadN 2 a7) p28,
.go (.loadN 2 a10) p29,
.go (.call (.con (.func (.func 114) ⟨[]⟩ ⟨[]⟩)) [a28,a29]) p30,
.un (.store 2 a7 a30)]) (.run [.go (.loadN 2 a8) p31,
.go (.loadN 2 a10) p32,
.go (.call (.con (.func (.func 114) ⟨[]⟩ ⟨[]⟩)) [a31,a32]) p33,
.un (.store 2 a8 a33)])))))))) (.seq (.run [.go (.fieldAddr 0 a3) p34,
.go (.fieldAddr 0 a34) p35,
.go (.load1 a35) p36,
.go (.move a1) p37,
.go (.indexAddr none 1 a36 a37) p38,
.go (.load1 a38) p39,
.go (.move a39) p11]) (.seq (.draw 17 [.go (.fieldAddr 0 a7) p40,
.go (.load1 a40) p41,
.go (.move a11) p42,
.go (.fieldAddr 1 a8) p43,
.go (.load1 a43) p44,
.go (.bin .sub 3 a42 a44) p45,
.go (.mm true [a41,a45]) p46,
.go (.fieldAddr 1 a7) p47,
.go (.load1 a47) p48,
.go (.move a11) p49,
.go (.fieldAddr 0 a8) p50,
.go (.load1 a50) p51,
.go (.bin .sub 3 a49 a51) p52,
.go (.buildSlice 3 1 [z0] [(0,1,a52)]) p53,
.go (.call (.con (.func (.func 115) ⟨[]⟩ ⟨[]⟩)) [a48,a53]) p54,
.go (.build [z0,z0] [(0,1,a46),(1,1,a54)]) p55,
.un (.store 2 a6 a55)] [.ok,.rd none (.load1 a40) (some p41) [14,15],.ok,.ok,.rd none (.load1 a43) (some p44) [14,15],.ok,.rd none (.mm true [a41,a45]) (some p46) [14,15],.ok,.rd none (.load1 a47) (some p48) [14],.ok,.ok,.ok,.ok,.ok,.ok,.ok,.ok]) .ret)))))
noncomputable def f96 : FFunc:=.mk c96 u40 [p0,p1,p2] [.many p6 2]
theorem e96 : @compF Try.prog (Gl.none Try.prog) Try.f96 3=f96:=by kernel_rfl
theorem o96 : okF Try.prog Try.f96=true:=by kernel_rfl
theorem g96 : Try.prog.funcs[(96 : Nat)]?=some Try.f96:=by kernel_rfl
noncomputable def c98 : FCode:=(.seq (.run [.go (.box 96 a0) p2,
.go (.box 3 a1) p3,
.go (.alloc 62 [z0,z0]) p4]) (.seq (.run [.go (.alloc 62 [z0,z0]) p5]) (.seq (.seq (.run [.go (.fieldAddr 0 a2) p7,
.go (.fieldAddr 0 a7) p8,
.go (.load1 a8) p9,
.go (.len 0 a9) p10,
.go (.move (.con z0)) p11]) (.block 0 (.loop (.seq (.run [.go (.bin .lss 3 a11 a10) p12]) (.seq (.cond a12 .skip (.exit 0)) (.seq (.block 1 (.seq (.run [.go (.move a11) p13,
.go (.move a13) p6]) (.draw 7 [.go (.loadN 2 a5) p14,
.go (.loadN 21 a2) p15,
.go (.move a6) p16,
.go (.makeFunc 116 [] [a2,a3]) p17,
.go (.call (.con (.func (.func 96) ⟨[]⟩ ⟨[]⟩)) [a15,a16,a17]) p18,
.go (.call (.con (.func (.func 114) ⟨[]⟩ ⟨[]⟩)) [a14,a18]) p19,
.un (.store 2 a5 a19)] [.rd none (.loadN 2 a5) (some p14) [5],.ok,.ok,.ok,.ok,.ok,.ok]))) (.run [.go (.bin .add 3 a11 (.con (.int .i64 (.ofNat 1)))) p20,
.go (.move a20) p11]))))))) (.seq (.run [.go (.loadN 2 a5) p21,
.un (.store 2 a4 a21)]) .ret))))
noncomputable def f98 : FFunc:=.mk c98 u6 [p0,p1] [.many p4 2]
theorem e98 : @compF Try.prog (Gl.none Try.prog) Try.f98 2=f98:=by kernel_rfl
theorem o98 : okF Try.prog Try.f98=true:=by kernel_rfl
theorem g98 : Try.prog.funcs[(98 : Nat)]?=some Try.f98:=by kernel_rfl
noncomputable def c100 : FCode:=(.seq (.run [.go (.move (.con (.slice none 0 0))) p0]) (.seq (.run [.go (.build [.nilFunc] [(0,1,(.con (.func (.func 117) ⟨[]⟩ ⟨[]⟩)))]) p1,
.go (.build [.nilFunc] [(0,1,(.con (.func (.func 118) ⟨[]⟩ ⟨[]⟩)))]) p2,
.go (.buildSlice 133 2 [.nilFunc,.nilFunc] [(0,1,a1),(1,1,a2)]) p3,
.go (.move a3) p0]) .ret))
noncomputable def f100 : FFunc:=.mk c100 u4 [] [.tmp p0]
theorem e100 : @compF Try.prog (Gl.none Try.prog) Try.f100 0=f100:=by kernel_rfl
theorem o100 : okF Try.prog Try.f100=true:=by kernel_rfl
theorem g100 : Try.prog.funcs[(100 : Nat)]?=some Try.f100:=by kernel_rfl
noncomputable def c101 : FCode:=(.seq (.run [.go (.box 3 a0) p5]) (.seq (.run [.go (.load1 a5) p7,
.go (.indexAddr (some 8) 1 a1 a7) p8,
.un (.store 1 a8 (.con (.bool true)))]) (.seq (.run [.go (.loadN 21 a2) p9,
.go (.fieldAddr 12 a2) p10,
.go (.loadN 8 a10) p11,
.go (.load1 a3) p12,
.go (.call (.con (.func (.func 94) ⟨[]⟩ ⟨[]⟩)) [a9,a11,a12]) p13]) (.block 0 (.rangeFunc a13 [p14] (rfA Try.f101 0) (rfB Try.f101 0) (.run [.go (.move a14) p6]) (.block 1 (.seq (.run [.go (.move a6) p15,
.go (.indexAddr (some 8) 1 a1 a15) p16,
.go (.load1 a16) p17,
.go (.un .not a17) p18,
.go (.move a18) p19,
.gd p19 true (.fieldAddr 20 a2) p20,
.gd p19 true (.load1 a20) p21,
.gd p19 true (.load1 a5) p22,
.gd p19 true (.move a6) p23,
.gd p19 true (.build [z0,z0] [(0,1,a22),(1,1,a23)]) p24,
.gd p19 true (.lookup 76 (.bool false) a21 a24 false) p25,
.go (.pick a19 a25 (.con (.bool false))) p26]) (.cond a26 (.run [.go (.load1 a4) p27,
.go (.move a6) p28,
.go (.call a27 [a28]) p29]) .skip))))))))
noncomputable def f101 : FFunc:=.mk c101 u32 [p0,p1,p2,p3,p4] []
theorem e101 : @compF Try.prog (Gl.none Try.prog) Try.f101 5=f101:=by kernel_rfl
theorem o101 : okF Try.prog Try.f101=true:=by kernel_rfl
theorem g101 : Try.prog.funcs[(101 : Nat)]?=some Try.f101:=by kernel_rfl
noncomputable def c102 : FCode:=(.seq (.run [.go (.move (.con (.bool false))) p4]) (.seq (.seq (.run [.go (.move a0) p7,
.go (.len 0 a7) p8,
.go (.move (.con z0)) p9]) (.block 0 (.loop (.seq (.run [.go (.bin .lss 3 a9 a8) p10]) (.seq (.cond a10 .skip (.exit 0)) (.seq (.block 1 (.seq (.run [.go (.indexAddr none 1 a7 a9) p11,
.go (.loadN 1 a11) p12,
.go (.alloc 133 [.nilFunc]) p6,
.un (.store 1 a6 a12)]) (.seq (.run [.go (.move a1) p13,
.go (.loadN 1 a6) p14,
.go (.call a13 [a14]) p15,
.go (.un .not a15) p16]) (.cond a16 (.seq (.run [.go (.move (.con (.bool false))) p4]) .ret) .skip)))) (.run [.go (.bin .add 3 a9 (.con (.int .i64 (.ofNat 1)))) p17,
.go (.move a17) p9]))))))) (.seq (.run [.go (.move (.con (.bool true))) p4]) .ret)))
noncomputable def f102 : FFunc:=.mk c102 u33 [p0,p1] [.tmp p4]
theorem e102 : @compF Try.prog (Gl.none Try.prog) Try.f102 2=f102:=by kernel_rfl
theorem o102 : okF Try.prog Try.f102=true:=by kernel_rfl
theorem g102 : Try.prog.funcs[(102 : Nat)]?=some Try.f102:=by kernel_rfl
noncomputable def c103 : FCode:=(.seq (.run [.go (.box 133 a0) p3,
.go (.move (.con (.bool false))) p4]) (.seq (.draw 7 [.go (.loadN 2 a1) p5,
.go (.fieldAddr 0 a3) p6,
.go (.load1 a6) p7,
.go (.loadN 2 a2) p8,
.go (.call a7 [a8]) p9,
.go (.call (.con (.func (.func 85) ⟨[]⟩ ⟨[]⟩)) [a5,a9]) p10,
.go (.move a10) p4] [.rd none (.loadN 2 a1) (some p5) [5],.ok,.ok,.ok,.ok,.ok,.ok]) .ret))
noncomputable def f103 : FFunc:=.mk c103 u3 [p0,p1,p2] [.tmp p4]
theorem e103 : @compF Try.prog (Gl.none Try.prog) Try.f103 3=f103:=by kernel_rfl
theorem o103 : okF Try.prog Try.f103=true:=by kernel_rfl
theorem g103 : Try.prog.funcs[(103 : Nat)]?=some Try.f103:=by kernel_rfl
noncomputable def c104 : FCode:=(.seq (.run [.go (.box 96 a0) p2,
.go (.box 3 a1) p3,
.go (.move (.con .nilFunc)) p4]) (.seq (.run [.go (.makeFunc 119 [] [a2,a3]) p5,
.go (.move a5) p4]) .ret))
noncomputable def f104 : FFunc:=.mk c104 u12 [p0,p1] [.tmp p4]
theorem e104 : @compF Try.prog (Gl.none Try.prog) Try.f104 2=f104:=by kernel_rfl
theorem o104 : okF Try.prog Try.f104=true:=by kernel_rfl
theorem g104 : Try.prog.funcs[(104 : Nat)]?=some Try.f104:=by kernel_rfl
noncomputable def c105 : FCode:=(.seq (.run [.go (.box 34 a0) p2,
.go (.move (.con (.bool false))) p4]) (.seq (.run [.go (.move a1) p5,
.go (.bin .leq 3 (.con z0) a5) p6,
.go (.move a6) p7,
.gd p7 true (.move a1) p8,
.gd p7 true (.fieldAddr 1 a2) p9,
.gd p7 true (.load1 a9) p10,
.gd p7 true (.bin .lss 3 a8 a10) p11,
.go (.pick a7 a11 (.con (.bool false))) p12,
.go (.move a12) p4]) .ret))
noncomputable def f105 : FFunc:=.mk c105 u13 [p0,p1] [.tmp p4]
theorem e105 : @compF Try.prog (Gl.none Try.prog) Try.f105 2=f105:=by kernel_rfl
theorem o105 : okF Try.prog Try.f105=true:=by kernel_rfl
theorem g105 : Try.prog.funcs[(105 : Nat)]?=some Try.f105:=by kernel_rfl
noncomputable def c106 : FCode:=(.seq (.run [.go (.move (.con z0)) p4]) (.seq (.seq (.run [.go (.move a0) p6,
.go (.len 0 a6) p7,
.go (.move (.con z0)) p8]) (.block 0 (.loop (.seq (.run [.go (.bin .lss 3 a8 a7) p9]) (.seq (.cond a9 .skip (.exit 0)) (.seq (.block 1 (.seq (.run [.go (.move a8) p10,
.go (.move a10) p5]) (.seq (.run [.go (.move a1) p11,
.go (.move a0) p12,
.go (.move a5) p13,
.go (.indexAddr none 1 a12 a13) p14,
.go (.load1 a14) p15,
.go (.bin .eql 3 a11 a15) p16]) (.cond a16 (.seq (.run [.go (.move a5) p17,
.go (.move a17) p4]) .ret) .skip)))) (.run [.go (.bin .add 3 a8 (.con (.int .i64 (.ofNat 1)))) p18,
.go (.move a18) p8]))))))) (.seq (.run [.go (.move (.con (.int .i64 (.negSucc 0)))) p4]) .ret)))
noncomputable def f106 : FFunc:=.mk c106 u10 [p0,p1] [.tmp p4]
theorem e106 : @compF Try.prog (Gl.none Try.prog) Try.f106 2=f106:=by kernel_rfl
theorem o106 : okF Try.prog Try.f106=true:=by kernel_rfl
theorem g106 : Try.prog.funcs[(106 : Nat)]?=some Try.f106:=by kernel_rfl
noncomputable def c107 : FCode:=(.seq (.run [.go (.move (.con z0)) p4]) (.seq (.seq (.run [.go (.move a1) p7,
.go (.len 0 a7) p8,
.go (.move (.con z0)) p9]) (.block 0 (.loop (.seq (.run [.go (.bin .lss 3 a9 a8) p10]) (.seq (.cond a10 .skip (.exit 0)) (.seq (.block 1 (.seq (.run [.go (.indexAddr none 1 a7 a9) p11,
.go (.load1 a11) p12,
.go (.move a12) p6]) (.run [.go (.move a0) p13,
.go (.move a6) p14,
.go (.mm false [a13,a14]) p15,
.go (.move a15) p0]))) (.run [.go (.bin .add 3 a9 (.con (.int .i64 (.ofNat 1)))) p16,
.go (.move a16) p9]))))))) (.seq (.run [.go (.move a0) p17,
.go (.move a17) p4]) .ret)))
noncomputable def f107 : FFunc:=.mk c107 u33 [p0,p1] [.tmp p4]
theorem e107 : @compF Try.prog (Gl.none Try.prog) Try.f107 2=f107:=by kernel_rfl
theorem o107 : okF Try.prog Try.f107=true:=by kernel_rfl
theorem g107 : Try.prog.funcs[(107 : Nat)]?=some Try.f107:=by kernel_rfl
noncomputable def c108 : FCode:=(.seq (.run [.go (.box 34 a0) p2,
.go (.move (.con (.bool false))) p4]) (.seq (.run [.go (.move a1) p5,
.go (.bin .leq 3 (.con z0) a5) p6,
.go (.move a6) p7,
.gd p7 true (.move a1) p8,
.gd p7 true (.fieldAddr 0 a2) p9,
.gd p7 true (.load1 a9) p10,
.gd p7 true (.len 0 a10) p11,
.gd p7 true (.bin .lss 3 a8 a11) p12,
.go (.pick a7 a12 (.con (.bool false))) p13,
.go (.move a13) p4]) .ret))
noncomputable def f108 : FFunc:=.mk c108 u23 [p0,p1] [.tmp p4]
theorem e108 : @compF Try.prog (Gl.none Try.prog) Try.f108 2=f108:=by kernel_rfl
theorem o108 : okF Try.prog Try.f108=true:=by kernel_rfl
theorem g108 : Try.prog.funcs[(108 : Nat)]?=some Try.f108:=by kernel_rfl
noncomputable def c109 : FCode:=(.seq (.run [.go (.alloc 62 [z0,z0]) p0]) (.seq (.run [.go (.build [z0,z0] [(0,1,(.con z0)),(1,1,(.con (.int .i64 (.ofNat 1000))))]) p1,
.un (.store 2 a0 a1)]) .ret))
noncomputable def f109 : FFunc:=.mk c109 u1 [] [.many p0 2]
theorem e109 : @compF Try.prog (Gl.none Try.prog) Try.f109 0=f109:=by kernel_rfl
theorem o109 : okF Try.prog Try.f109=true:=by kernel_rfl
theorem g109 : Try.prog.funcs[(109 : Nat)]?=some Try.f109:=by kernel_rfl
noncomputable def c110 : FCode:=(.seq (.run [.go (.box 34 a0) p2,
.go (.move (.con (.bool false))) p4]) (.seq (.run [.go (.move a1) p5,
.go (.bin .leq 3 (.con z0) a5) p6,
.go (.move a6) p7,
.gd p7 true (.move a1) p8,
.gd p7 true (.fieldAddr 2 a2) p9,
.gd p7 true (.load1 a9) p10,
.gd p7 true (.len 0 a10) p11,
.gd p7 true (.bin .lss 3 a8 a11) p12,
.go (.pick a7 a12 (.con (.bool false))) p13,
.go (.move a13) p4]) .ret))
noncomputable def f110 : FFunc:=.mk c110 u23 [p0,p1] [.tmp p4]
theorem e110 : @compF Try.prog (Gl.none Try.prog) Try.f110 2=f110:=by kernel_rfl
theorem o110 : okF Try.prog Try.f110=true:=by kernel_rfl
theorem g110 : Try.prog.funcs[(110 : Nat)]?=some Try.f110:=by kernel_rfl
noncomputable def c111 : FCode:=(.seq (.run [.go (.move (.con (.bool false))) p2]) (.seq (.run [.go (.move a0) p3,
.go (.bin .gtr 3 a3 (.con z0)) p4,
.go (.move a4) p2]) .ret))
noncomputable def f111 : FFunc:=.mk c111 u2 [p0] [.tmp p2]
theorem e111 : @compF Try.prog (Gl.none Try.prog) Try.f111 1=f111:=by kernel_rfl
theorem o111 : okF Try.prog Try.f111=true:=by kernel_rfl
theorem g111 : Try.prog.funcs[(111 : Nat)]?=some Try.f111:=by kernel_rfl
noncomputable def c112 : FCode:=(.seq (.run [.go (.box 22 a0) p2,
.go (.move (.con (.slice none 0 0))) p4]) (.seq (.seq (.run [.go (.move a1) p6]) (.block 0 (.rangeFunc a6 [p7] (rfA Try.f112 0) (rfB Try.f112 0) (.run [.go (.move a7) p5]) (.block 1 (.run [.go (.load1 a2) p8,
.go (.move a5) p9,
.go (.buildSlice 3 1 [z0] [(0,1,a9)]) p10,
.go (.append 3 1 8 a8 a10) p11,
.un (.store 1 a2 a11)]))))) (.seq (.run [.go (.load1 a2) p12,
.go (.move a12) p4]) .ret)))
noncomputable def f112 : FFunc:=.mk c112 u13 [p0,p1] [.tmp p4]
theorem e112 : @compF Try.prog (Gl.none Try.prog) Try.f112 2=f112:=by kernel_rfl
theorem o112 : okF Try.prog Try.f112=true:=by kernel_rfl
theorem g112 : Try.prog.funcs[(112 : Nat)]?=some Try.f112:=by kernel_rfl
noncomputable def c113 : FCode:=(.seq (.run [.go (.fieldAddr 0 a1) p6,
.go (.fieldAddr 2 a6) p7,
.go (.load1 a7) p8,
.go (.len 0 a8) p9,
.go (.move (.con z0)) p10]) (.block 0 (.loop (.seq (.run [.go (.bin .lss 3 a10 a9) p11]) (.seq (.cond a11 .skip (.exit 0)) (.seq (.block 1 (.seq (.run [.go (.move a10) p12,
.go (.move a12) p5]) (.seq (.draw 11 [.go (.move a5) p13,
.go (.indexAddr (some 8) 1 a2 a13) p14,
.go (.load1 a14) p15,
.go (.load1 a3) p16,
.go (.bin .eql 3 a15 a16) p17,
.go (.move a17) p18,
.gd p18 true (.move a0) p19,
.gd p18 true (.move a5) p20,
.gd p18 true (.call a19 [a20]) p21,
.gd p18 true (.un .not a21) p22,
.go (.pick a18 a22 (.con (.bool false))) p23] [.ok,.ok,.ok,.ok,.ok,.ok,.ok,.ok,.ok,.ok,.ok]) (.cond a23 .ret .skip)))) (.run [.go (.bin .add 3 a10 (.con (.int .i64 (.ofNat 1)))) p24,
.go (.move a24) p10])))))))
noncomputable def f113 : FFunc:=.mk c113 u35 [p0,p1,p2,p3] []
theorem e113 : @compF Try.prog (Gl.none Try.prog) Try.f113 4=f113:=by kernel_rfl
theorem o113 : okF Try.prog Try.f113=true:=by kernel_rfl
theorem g113 : Try.prog.funcs[(113 : Nat)]?=some Try.f113:=by kernel_rfl
noncomputable def c114 : FCode:=(.seq (.run [.go (.box 62 a0) p2,
.go (.box 62 a1) p3,
.go (.alloc 62 [z0,z0]) p4]) (.seq (.run [.go (.fieldAddr 0 a2) p5,
.go (.load1 a5) p6,
.go (.fieldAddr 0 a3) p7,
.go (.load1 a7) p8,
.go (.bin .add 3 a6 a8) p9,
.go (.fieldAddr 1 a2) p10,
.go (.load1 a10) p11,
.go (.fieldAddr 1 a3) p12,
.go (.load1 a12) p13,
.go (.bin .add 3 a11 a13) p14,
.go (.build [z0,z0] [(0,1,a9),(1,1,a14)]) p15,
.un (.store 2 a4 a15)]) .ret))
noncomputable def f114 : FFunc:=.mk c114 u18 [p0,p1] [.many p4 2]
theorem e114 : @compF Try.prog (Gl.none Try.prog) Try.f114 2=f114:=by kernel_rfl
theorem o114 : okF Try.prog Try.f114=true:=by kernel_rfl
theorem g114 : Try.prog.funcs[(114 : Nat)]?=some Try.f114:=by kernel_rfl
noncomputable def c115 : FCode:=(.seq (.run [.go (.move (.con z0)) p4]) (.seq (.seq (.run [.go (.move a1) p7,
.go (.len 0 a7) p8,
.go (.move (.con z0)) p9]) (.block 0 (.loop (.seq (.run [.go (.bin .lss 3 a9 a8) p10]) (.seq (.cond a10 .skip (.exit 0)) (.seq (.block 1 (.seq (.run [.go (.indexAddr none 1 a7 a9) p11,
.go (.load1 a11) p12,
.go (.move a12) p6]) (.run [.go (.move a0) p13,
.go (.move a6) p14,
.go (.mm false [a13,a14]) p15,
.go (.move a15) p0]))) (.run [.go (.bin .add 3 a9 (.con (.int .i64 (.ofNat 1)))) p16,
.go (.move a16) p9]))))))) (.seq (.run [.go (.move a0) p17,
.go (.move a17) p4]) .ret)))
noncomputable def f115 : FFunc:=.mk c115 u33 [p0,p1] [.tmp p4]
theorem e115 : @compF Try.prog (Gl.none Try.prog) Try.f115 2=f115:=by kernel_rfl
theorem o115 : okF Try.prog Try.f115=true:=by kernel_rfl
theorem g115 : Try.prog.funcs[(115 : Nat)]?=some Try.f115:=by kernel_rfl
noncomputable def c116 : FCode:=(.seq (.run [.go (.move (.con (.bool false))) p4]) (.seq (.draw 7 [.go (.move a0) p5,
.go (.fieldAddr 12 a1) p6,
.go (.indexAddr (some 8) 1 a6 a5) p7,
.go (.load1 a7) p8,
.go (.load1 a2) p9,
.go (.bin .eql 3 a8 a9) p10,
.go (.move a10) p4] [.ok,.ok,.ok,.ok,.ok,.ok,.ok]) .ret))
noncomputable def f116 : FFunc:=.mk c116 u3 [p0,p1,p2] [.tmp p4]
theorem e116 : @compF Try.prog (Gl.none Try.prog) Try.f116 3=f116:=by kernel_rfl
theorem o116 : okF Try.prog Try.f116=true:=by kernel_rfl
theorem g116 : Try.prog.funcs[(116 : Nat)]?=some Try.f116:=by kernel_rfl
noncomputable def c117 : FCode:=(.seq (.run [.go (.box 62 a0) p1,
.go (.move (.con z0)) p2]) (.seq (.run [.go (.fieldAddr 0 a1) p3,
.go (.load1 a3) p4,
.go (.move a4) p2]) .ret))
noncomputable def f117 : FFunc:=.mk c117 u2 [p0] [.tmp p2]
theorem e117 : @compF Try.prog (Gl.none Try.prog) Try.f117 1=f117:=by kernel_rfl
theorem o117 : okF Try.prog Try.f117=true:=by kernel_rfl
theorem g117 : Try.prog.funcs[(117 : Nat)]?=some Try.f117:=by kernel_rfl
noncomputable def c118 : FCode:=(.seq (.run [.go (.box 62 a0) p1,
.go (.move (.con z0)) p2]) (.seq (.run [.go (.fieldAddr 1 a1) p3,
.go (.load1 a3) p4,
.go (.move a4) p2]) .ret))
noncomputable def f118 : FFunc:=.mk c118 u2 [p0] [.tmp p2]
theorem e118 : @compF Try.prog (Gl.none Try.prog) Try.f118 1=f118:=by kernel_rfl
theorem o118 : okF Try.prog Try.f118=true:=by kernel_rfl
theorem g118 : Try.prog.funcs[(118 : Nat)]?=some Try.f118:=by kernel_rfl
noncomputable def c119 : FCode:=(.seq (.run [.go (.box 144 a0) p3]) (.seq (.run [.go (.alloc 93 [z0,z0,z0,z0,z0,z0,z0,z0]) p4]) (.seq (.run [.go (.alloc 145 [.nilFunc]) p5]) (.seq (.run [.go (.makeFunc 120 [] [a1,a3,a4,a5]) p6,
.un (.store 1 a5 a6)]) (.run [.go (.load1 a5) p7,
.go (.load1 a2) p8,
.go (.call a7 [(.con z0),a8]) p9])))))
noncomputable def f119 : FFunc:=.mk c119 u5 [p0,p1,p2] []
theorem e119 : @compF Try.prog (Gl.none Try.prog) Try.f119 3=f119:=by kernel_rfl
theorem o119 : okF Try.prog Try.f119=true:=by kernel_rfl
theorem g119 : Try.prog.funcs[(119 : Nat)]?=some Try.f119:=by kernel_rfl
noncomputable def c120 : FCode:=(.seq (.run [.go (.move (.con (.bool false))) p8]) (.seq (.block 0 (.seq (.run [.go (.move a1) p12,
.go (.bin .lss 3 a12 (.con z0)) p13,
.go (.move a13) p14,
.gd p14 false (.move a1) p15,
.gd p14 false (.fieldAddr 0 a2) p16,
.gd p14 false (.fieldAddr 2 a16) p17,
.gd p14 false (.load1 a17) p18,
.gd p14 false (.len 0 a18) p19,
.gd p14 false (.move a0) p20,
.gd p14 false (.bin .sub 3 a19 a20) p21,
.gd p14 false (.bin .gtr 3 a15 a21) p22,
.go (.pick a14 (.con (.bool true)) a22) p23,
.go (.move a23) p11]) (.cond a11 (.seq (.run [.go (.move (.con (.bool true))) p8]) .ret) (.seq (.run [.go (.move a0) p25,
.go (.fieldAddr 0 a2) p26,
.go (.fieldAddr 2 a26) p27,
.go (.load1 a27) p28,
.go (.len 0 a28) p29,
.go (.bin .eql 3 a25 a29) p30,
.go (.move a30) p24]) (.cond a24 (.seq (.run [.go (.load1 a3) p31,
.go (.loadN 8 a4) p32,
.go (.call a31 [a32]) p33,
.go (.move a33) p8]) .ret) .skip))))) (.seq (.seq (.run [.go (.fieldAddr 0 a2) p34,
.go (.fieldAddr 1 a34) p35,
.go (.load1 a35) p36,
.go (.move (.con z0)) p37]) (.block 1 (.loop (.seq (.run [.go (.bin .lss 3 a37 a36) p38]) (.seq (.cond a38 .skip (.exit 1)) (.seq (.block 2 (.seq (.run [.go (.move a37) p39,
.go (.move a39) p9]) (.seq (.run [.go (.move a1) p40,
.go (.move a40) p10]) (.seq (.seq (.run [.go (.move a9) p41,
.go (.fieldAddr 0 a2) p42,
.go (.fieldAddr 2 a42) p43,
.go (.load1 a43) p44,
.go (.move a0) p45,
.go (.indexAddr none 5 a44 a45) p46,
.go (.fieldAddr 1 a46) p47,
.go (.load1 a47) p48,
.go (.bin .neq 3 a41 a48) p49]) (.cond a49 (.run [.go (.move a10) p50,
.go (.bin .sub 3 a50 (.con (.int .i64 (.ofNat 1)))) p51,
.go (.move a51) p10]) .skip)) (.seq (.run [.go (.move a0) p52,
.go (.move a9) p53,
.go (.indexAddr (some 8) 1 a4 a52) p54,
.un (.store 1 a54 a53)]) (.seq (.run [.go (.load1 a5) p55,
.go (.move a0) p56,
.go (.bin .add 3 a56 (.con (.int .i64 (.ofNat 1)))) p57,
.go (.move a10) p58,
.go (.call a55 [a57,a58]) p59,
.go (.un .not a59) p60]) (.cond a60 (.seq (.run [.go (.move (.con (.bool false))) p8]) .ret) .skip))))))) (.run [.go (.bin .add 3 a37 (.con (.int .i64 (.ofNat 1)))) p61,
.go (.move a61) p37]))))))) (.seq (.run [.go (.move (.con (.bool true))) p8]) .ret))))
noncomputable def f120 : FFunc:=.mk c120 u42 [p0,p1,p2,p3,p4,p5] [.tmp p8]
theorem e120 : @compF Try.prog (Gl.none Try.prog) Try.f120 6=f120:=by kernel_rfl
theorem o120 : okF Try.prog Try.f120=true:=by kernel_rfl
theorem g120 : Try.prog.funcs[(120 : Nat)]?=some Try.f120:=by kernel_rfl
noncomputable def tbl0 : FT:=(.n .bad (.n .bad (.n .bad (.n .bad (.n .bad (.n .bad (.n f63 (.n .bad .e .e) .e) (.n f95 .e .e)) (.n f47 (.n f79 .e .e) (.n f111 .e .e))) (.n f23 (.n f39 (.n f71 (.n .bad .e .e) .e) (.n f103 .e .e)) (.n f55 (.n f87 .e .e) (.n f119 .e .e)))) (.n .bad (.n .bad (.n .bad (.n f67 (.n .bad .e .e) .e) (.n .bad .e .e)) (.n .bad (.n f83 .e .e) (.n f115 .e .e))) (.n f27 (.n .bad (.n f75 .e .e) (.n f107 .e .e)) (.n .bad (.n f91 .e .e) (.n .bad .e .e))))) (.n .bad (.n .bad (.n f17 (.n .bad (.n .bad (.n .bad .e .e) .e) (.n .bad .e .e)) (.n .bad (.n f81 .e .e) (.n f113 .e .e))) (.n .bad (.n .bad (.n .bad (.n .bad .e .e) .e) (.n f105 .e .e)) (.n f57 (.n f89 .e .e) (.n .bad .e .e)))) (.n .bad (.n .bad (.n .bad (.n f69 (.n .bad .e .e) .e) (.n f101 .e .e)) (.n .bad (.n f85 .e .e) (.n f117 .e .e))) (.n .bad (.n .bad (.n .bad .e .e) (.n f109 .e .e)) (.n f61 (.n f93 .e .e) (.n .bad .e .e)))))) (.n .bad (.n .bad (.n .bad (.n .bad (.n .bad (.n .bad (.n .bad .e .e) .e) (.n f96 .e .e)) (.n f48 (.n f80 .e .e) (.n f112 .e .e))) (.n .bad (.n .bad (.n .bad (.n .bad .e .e) .e) (.n f104 .e .e)) (.n f56 (.n f88 .e .e) (.n f120 .e .e)))) (.n .bad (.n f20 (.n f36 (.n .bad (.n .bad .e .e) .e) (.n f100 .e .e)) (.n .bad (.n f84 .e .e) (.n f116 .e .e))) (.n .bad (.n .bad (.n .bad .e .e) (.n f108 .e .e)) (.n .bad (.n f92 .e .e) (.n .bad .e .e))))) (.n .bad (.n .bad (.n f18 (.n .bad (.n f66 (.n .bad .e .e) .e) (.n f98 .e .e)) (.n .bad (.n f82 .e .e) (.n f114 .e .e))) (.n .bad (.n .bad (.n .bad .e .e) (.n f106 .e .e)) (.n f58 (.n f90 .e .e) (.n .bad .e .e)))) (.n .bad (.n .bad (.n .bad (.n f70 (.n .bad .e .e) .e) (.n f102 .e .e)) (.n f54 (.n f86 .e .e) (.n f118 .e .e))) (.n .bad (.n .bad (.n f78 .e .e) (.n f110 .e .e)) (.n .bad (.n f94 .e .e) (.n .bad .e .e)))))))
noncomputable def F0 (n : Nat) : FFunc:=look tbl0 n
def orcs0 (_n : Nat) : Option Bool:=none
theorem ok0 (O : Orc Try.prog) (h : O.O=orcs0) : @FnOk Try.prog (Gl.none Try.prog) O F0:=@fnOk_of Try.prog (Gl.none Try.prog) O _ (by rw[h];exact⟨.inl rfl,⟨.inl rfl,⟨.inl rfl,⟨.inl rfl,⟨.inl rfl,⟨.inl rfl,⟨.inr (.inr ⟨rfl,_,_,g63,o63,e63⟩),⟨.inl rfl,trivial,trivial⟩,trivial⟩,⟨.inr (.inr ⟨rfl,_,_,g95,o95,e95⟩),trivial,trivial⟩⟩,⟨.inr (.inr ⟨rfl,_,_,g47,o47,e47⟩),⟨.inr (.inr ⟨rfl,_,_,g79,o79,e79⟩),trivial,trivial⟩,⟨.inr (.inr ⟨rfl,_,_,g111,o111,e111⟩),trivial,trivial⟩⟩⟩,⟨.inr (.inr ⟨rfl,_,_,g23,o23,e23⟩),⟨.inr (.inr ⟨rfl,_,_,g39,o39,e39⟩),⟨.inr (.inr ⟨rfl,_,_,g71,o71,e71⟩),⟨.inl rfl,trivial,trivial⟩,trivial⟩,⟨.inr (.inr ⟨rfl,_,_,g103,o103,e103⟩),trivial,trivial⟩⟩,⟨.inr (.inr ⟨rfl,_,_,g55,o55,e55⟩),⟨.inr (.inr ⟨rfl,_,_,g87,o87,e87⟩),trivial,trivial⟩,⟨.inr (.inr ⟨rfl,_,_,g119,o119,e119⟩),trivial,trivial⟩⟩⟩⟩,⟨.inl rfl,⟨.inl rfl,⟨.inl rfl,⟨.inr (.inr ⟨rfl,_,_,g67,o67,e67⟩),⟨.inl rfl,trivial,trivial⟩,trivial⟩,⟨.inl rfl,trivial,trivial⟩⟩,⟨.inl rfl,⟨.inr (.inr ⟨rfl,_,_,g83,o83,e83⟩),trivial,trivial⟩,⟨.inr (.inr ⟨rfl,_,_,g115,o115,e115⟩),trivial,trivial⟩⟩⟩,⟨.inr (.inr ⟨rfl,_,_,g27,o27,e27⟩),⟨.inl rfl,⟨.inr (.inr ⟨rfl,_,_,g75,o75,e75⟩),trivial,trivial⟩,⟨.inr (.inr ⟨rfl,_,_,g107,o107,e107⟩),trivial,trivial⟩⟩,⟨.inl rfl,⟨.inr (.inr ⟨rfl,_,_,g91,o91,e91⟩),trivial,trivial⟩,⟨.inl rfl,trivial,trivial⟩⟩⟩⟩⟩,⟨.inl rfl,⟨.inl rfl,⟨.inr (.inr ⟨rfl,_,_,g17,o17,e17⟩),⟨.inl rfl,⟨.inl rfl,⟨.inl rfl,trivial,trivial⟩,trivial⟩,⟨.inl rfl,trivial,trivial⟩⟩,⟨.inl rfl,⟨.inr (.inr ⟨rfl,_,_,g81,o81,e81⟩),trivial,trivial⟩,⟨.inr (.inr ⟨rfl,_,_,g113,o113,e113⟩),trivial,trivial⟩⟩⟩,⟨.inl rfl,⟨.inl rfl,⟨.inl rfl,⟨.inl rfl,trivial,trivial⟩,trivial⟩,⟨.inr (.inr ⟨rfl,_,_,g105,o105,e105⟩),trivial,trivial⟩⟩,⟨.inr (.inr ⟨rfl,_,_,g57,o57,e57⟩),⟨.inr (.inr ⟨rfl,_,_,g89,o89,e89⟩),trivial,trivial⟩,⟨.inl rfl,trivial,trivial⟩⟩⟩⟩,⟨.inl rfl,⟨.inl rfl,⟨.inl rfl,⟨.inr (.inr ⟨rfl,_,_,g69,o69,e69⟩),⟨.inl rfl,trivial,trivial⟩,trivial⟩,⟨.inr (.inr ⟨rfl,_,_,g101,o101,e101⟩),trivial,trivial⟩⟩,⟨.inl rfl,⟨.inr (.inr ⟨rfl,_,_,g85,o85,e85⟩),trivial,trivial⟩,⟨.inr (.inr ⟨rfl,_,_,g117,o117,e117⟩),trivial,trivial⟩⟩⟩,⟨.inl rfl,⟨.inl rfl,⟨.inl rfl,trivial,trivial⟩,⟨.inr (.inr ⟨rfl,_,_,g109,o109,e109⟩),trivial,trivial⟩⟩,⟨.inr (.inr ⟨rfl,_,_,g61,o61,e61⟩),⟨.inr (.inr ⟨rfl,_,_,g93,o93,e93⟩),trivial,trivial⟩,⟨.inl rfl,trivial,trivial⟩⟩⟩⟩⟩⟩,⟨.inl rfl,⟨.inl rfl,⟨.inl rfl,⟨.inl rfl,⟨.inl rfl,⟨.inl rfl,⟨.inl rfl,trivial,trivial⟩,trivial⟩,⟨.inr (.inr ⟨rfl,_,_,g96,o96,e96⟩),trivial,trivial⟩⟩,⟨.inr (.inr ⟨rfl,_,_,g48,o48,e48⟩),⟨.inr (.inr ⟨rfl,_,_,g80,o80,e80⟩),trivial,trivial⟩,⟨.inr (.inr ⟨rfl,_,_,g112,o112,e112⟩),trivial,trivial⟩⟩⟩,⟨.inl rfl,⟨.inl rfl,⟨.inl rfl,⟨.inl rfl,trivial,trivial⟩,trivial⟩,⟨.inr (.inr ⟨rfl,_,_,g104,o104,e104⟩),trivial,trivial⟩⟩,⟨.inr (.inr ⟨rfl,_,_,g56,o56,e56⟩),⟨.inr (.inr ⟨rfl,_,_,g88,o88,e88⟩),trivial,trivial⟩,⟨.inr (.inr ⟨rfl,_,_,g120,o120,e120⟩),trivial,trivial⟩⟩⟩⟩,⟨.inl rfl,⟨.inr (.inr ⟨rfl,_,_,g20,o20,e20⟩),⟨.inr (.inr ⟨rfl,_,_,g36,o36,e36⟩),⟨.inl rfl,⟨.inl rfl,trivial,trivial⟩,trivial⟩,⟨.inr (.inr ⟨rfl,_,_,g100,o100,e100⟩),trivial,trivial⟩⟩,⟨.inl rfl,⟨.inr (.inr ⟨rfl,_,_,g84,o84,e84⟩),trivial,trivial⟩,⟨.inr (.inr ⟨rfl,_,_,g116,o116,e116⟩),trivial,trivial⟩⟩⟩,⟨.inl rfl,⟨.inl rfl,⟨.inl rfl,trivial,trivial⟩,⟨.inr (.inr ⟨rfl,_,_,g108,o108,e108⟩),trivial,trivial⟩⟩,⟨.inl rfl,⟨.inr (.inr ⟨rfl,_,_,g92,o92,e92⟩),trivial,trivial⟩,⟨.inl rfl,trivial,trivial⟩⟩⟩⟩⟩,⟨.inl rfl,⟨.inl rfl,⟨.inr (.inr ⟨rfl,_,_,g18,o18,e18⟩),⟨.inl rfl,⟨.inr (.inr ⟨rfl,_,_,g66,o66,e66⟩),⟨.inl rfl,trivial,trivial⟩,trivial⟩,⟨.inr (.inr ⟨rfl,_,_,g98,o98,e98⟩),trivial,trivial⟩⟩,⟨.inl rfl,⟨.inr (.inr ⟨rfl,_,_,g82,o82,e82⟩),trivial,trivial⟩,⟨.inr (.inr ⟨rfl,_,_,g114,o114,e114⟩),trivial,trivial⟩⟩⟩,⟨.inl rfl,⟨.inl rfl,⟨.inl rfl,trivial,trivial⟩,⟨.inr (.inr ⟨rfl,_,_,g106,o106,e106⟩),trivial,trivial⟩⟩,⟨.inr (.inr ⟨rfl,_,_,g58,o58,e58⟩),⟨.inr (.inr ⟨rfl,_,_,g90,o90,e90⟩),trivial,trivial⟩,⟨.inl rfl,trivial,trivial⟩⟩⟩⟩,⟨.inl rfl,⟨.inl rfl,⟨.inl rfl,⟨.inr (.inr ⟨rfl,_,_,g70,o70,e70⟩),⟨.inl rfl,trivial,trivial⟩,trivial⟩,⟨.inr (.inr ⟨rfl,_,_,g102,o102,e102⟩),trivial,trivial⟩⟩,⟨.inr (.inr ⟨rfl,_,_,g54,o54,e54⟩),⟨.inr (.inr ⟨rfl,_,_,g86,o86,e86⟩),trivial,trivial⟩,⟨.inr (.inr ⟨rfl,_,_,g118,o118,e118⟩),trivial,trivial⟩⟩⟩,⟨.inl rfl,⟨.inl rfl,⟨.inr (.inr ⟨rfl,_,_,g78,o78,e78⟩),trivial,trivial⟩,⟨.inr (.inr ⟨rfl,_,_,g110,o110,e110⟩),trivial,trivial⟩⟩,⟨.inl rfl,⟨.inr (.inr ⟨rfl,_,_,g94,o94,e94⟩),trivial,trivial⟩,⟨.inl rfl,trivial,trivial⟩⟩⟩⟩⟩⟩⟩)
noncomputable def tbl1 : FT:=(.n .bad (.n .bad (.n .bad (.n .bad (.n .bad (.n .bad (.n f63 (.n .bad .e .e) .e) (.n f95 .e .e)) (.n f47 (.n f79 .e .e) (.n f111 .e .e))) (.n f23 (.n f39 (.n f71 (.n .bad .e .e) .e) (.n f103 .e .e)) (.n f55 (.n f87 .e .e) (.n f119 .e .e)))) (.n .bad (.n .bad (.n .bad (.n f67 (.n .bad .e .e) .e) (.n .bad .e .e)) (.n .bad (.n f83 .e .e) (.n f115 .e .e))) (.n f27 (.n .bad (.n f75 .e .e) (.n f107 .e .e)) (.n .bad (.n f91 .e .e) (.n .bad .e .e))))) (.n .bad (.n .bad (.n (.orc true) (.n .bad (.n .bad (.n .bad .e .e) .e) (.n .bad .e .e)) (.n .bad (.n f81 .e .e) (.n f113 .e .e))) (.n .bad (.n .bad (.n .bad (.n .bad .e .e) .e) (.n f105 .e .e)) (.n f57 (.n f89 .e .e) (.n .bad .e .e)))) (.n .bad (.n .bad (.n .bad (.n f69 (.n .bad .e .e) .e) (.n f101 .e .e)) (.n .bad (.n f85 .e .e) (.n f117 .e .e))) (.n .bad (.n .bad (.n .bad .e .e) (.n f109 .e .e)) (.n f61 (.n f93 .e .e) (.n .bad .e .e)))))) (.n .bad (.n .bad (.n .bad (.n .bad (.n .bad (.n .bad (.n .bad .e .e) .e) (.n f96 .e .e)) (.n f48 (.n f80 .e .e) (.n f112 .e .e))) (.n .bad (.n .bad (.n .bad (.n .bad .e .e) .e) (.n f104 .e .e)) (.n f56 (.n f88 .e .e) (.n f120 .e .e)))) (.n .bad (.n f20 (.n f36 (.n .bad (.n .bad .e .e) .e) (.n f100 .e .e)) (.n .bad (.n f84 .e .e) (.n f116 .e .e))) (.n .bad (.n .bad (.n .bad .e .e) (.n f108 .e .e)) (.n .bad (.n f92 .e .e) (.n .bad .e .e))))) (.n .bad (.n .bad (.n f18 (.n .bad (.n f66 (.n .bad .e .e) .e) (.n f98 .e .e)) (.n .bad (.n f82 .e .e) (.n f114 .e .e))) (.n .bad (.n .bad (.n .bad .e .e) (.n f106 .e .e)) (.n f58 (.n f90 .e .e) (.n .bad .e .e)))) (.n .bad (.n .bad (.n .bad (.n f70 (.n .bad .e .e) .e) (.n f102 .e .e)) (.n f54 (.n f86 .e .e) (.n f118 .e .e))) (.n .bad (.n .bad (.n f78 .e .e) (.n f110 .e .e)) (.n .bad (.n f94 .e .e) (.n .bad .e .e)))))))
noncomputable def F1 (n : Nat) : FFunc:=look tbl1 n
def orcs1 (_n : Nat) : Option Bool:=if _n=17 then some true else none
theorem ok1 (O : Orc Try.prog) (h : O.O=orcs1) : @FnOk Try.prog (Gl.none Try.prog) O F1:=@fnOk_of Try.prog (Gl.none Try.prog) O _ (by rw[h];exact⟨.inl rfl,⟨.inl rfl,⟨.inl rfl,⟨.inl rfl,⟨.inl rfl,⟨.inl rfl,⟨.inr (.inr ⟨rfl,_,_,g63,o63,e63⟩),⟨.inl rfl,trivial,trivial⟩,trivial⟩,⟨.inr (.inr ⟨rfl,_,_,g95,o95,e95⟩),trivial,trivial⟩⟩,⟨.inr (.inr ⟨rfl,_,_,g47,o47,e47⟩),⟨.inr (.inr ⟨rfl,_,_,g79,o79,e79⟩),trivial,trivial⟩,⟨.inr (.inr ⟨rfl,_,_,g111,o111,e111⟩),trivial,trivial⟩⟩⟩,⟨.inr (.inr ⟨rfl,_,_,g23,o23,e23⟩),⟨.inr (.inr ⟨rfl,_,_,g39,o39,e39⟩),⟨.inr (.inr ⟨rfl,_,_,g71,o71,e71⟩),⟨.inl rfl,trivial,trivial⟩,trivial⟩,⟨.inr (.inr ⟨rfl,_,_,g103,o103,e103⟩),trivial,trivial⟩⟩,⟨.inr (.inr ⟨rfl,_,_,g55,o55,e55⟩),⟨.inr (.inr ⟨rfl,_,_,g87,o87,e87⟩),trivial,trivial⟩,⟨.inr (.inr ⟨rfl,_,_,g119,o119,e119⟩),trivial,trivial⟩⟩⟩⟩,⟨.inl rfl,⟨.inl rfl,⟨.inl rfl,⟨.inr (.inr ⟨rfl,_,_,g67,o67,e67⟩),⟨.inl rfl,trivial,trivial⟩,trivial⟩,⟨.inl rfl,trivial,trivial⟩⟩,⟨.inl rfl,⟨.inr (.inr ⟨rfl,_,_,g83,o83,e83⟩),trivial,trivial⟩,⟨.inr (.inr ⟨rfl,_,_,g115,o115,e115⟩),trivial,trivial⟩⟩⟩,⟨.inr (.inr ⟨rfl,_,_,g27,o27,e27⟩),⟨.inl rfl,⟨.inr (.inr ⟨rfl,_,_,g75,o75,e75⟩),trivial,trivial⟩,⟨.inr (.inr ⟨rfl,_,_,g107,o107,e107⟩),trivial,trivial⟩⟩,⟨.inl rfl,⟨.inr (.inr ⟨rfl,_,_,g91,o91,e91⟩),trivial,trivial⟩,⟨.inl rfl,trivial,trivial⟩⟩⟩⟩⟩,⟨.inl rfl,⟨.inl rfl,⟨.inr (.inl ⟨_,rfl,rfl⟩),⟨.inl rfl,⟨.inl rfl,⟨.inl rfl,trivial,trivial⟩,trivial⟩,⟨.inl rfl,trivial,trivial⟩⟩,⟨.inl rfl,⟨.inr (.inr ⟨rfl,_,_,g81,o81,e81⟩),trivial,trivial⟩,⟨.inr (.inr ⟨rfl,_,_,g113,o113,e113⟩),trivial,trivial⟩⟩⟩,⟨.inl rfl,⟨.inl rfl,⟨.inl rfl,⟨.inl rfl,trivial,trivial⟩,trivial⟩,⟨.inr (.inr ⟨rfl,_,_,g105,o105,e105⟩),trivial,trivial⟩⟩,⟨.inr (.inr ⟨rfl,_,_,g57,o57,e57⟩),⟨.inr (.inr ⟨rfl,_,_,g89,o89,e89⟩),trivial,trivial⟩,⟨.inl rfl,trivial,trivial⟩⟩⟩⟩,⟨.inl rfl,⟨.inl rfl,⟨.inl rfl,⟨.inr (.inr ⟨rfl,_,_,g69,o69,e69⟩),⟨.inl rfl,trivial,trivial⟩,trivial⟩,⟨.inr (.inr ⟨rfl,_,_,g101,o101,e101⟩),trivial,trivial⟩⟩,⟨.inl rfl,⟨.inr (.inr ⟨rfl,_,_,g85,o85,e85⟩),trivial,trivial⟩,⟨.inr (.inr ⟨rfl,_,_,g117,o117,e117⟩),trivial,trivial⟩⟩⟩,⟨.inl rfl,⟨.inl rfl,⟨.inl rfl,trivial,trivial⟩,⟨.inr (.inr ⟨rfl,_,_,g109,o109,e109⟩),trivial,trivial⟩⟩,⟨.inr (.inr ⟨rfl,_,_,g61,o61,e61⟩),⟨.inr (.inr ⟨rfl,_,_,g93,o93,e93⟩),trivial,trivial⟩,⟨.inl rfl,trivial,trivial⟩⟩⟩⟩⟩⟩,⟨.inl rfl,⟨.inl rfl,⟨.inl rfl,⟨.inl rfl,⟨.inl rfl,⟨.inl rfl,⟨.inl rfl,trivial,trivial⟩,trivial⟩,⟨.inr (.inr ⟨rfl,_,_,g96,o96,e96⟩),trivial,trivial⟩⟩,⟨.inr (.inr ⟨rfl,_,_,g48,o48,e48⟩),⟨.inr (.inr ⟨rfl,_,_,g80,o80,e80⟩),trivial,trivial⟩,⟨.inr (.inr ⟨rfl,_,_,g112,o112,e112⟩),trivial,trivial⟩⟩⟩,⟨.inl rfl,⟨.inl rfl,⟨.inl rfl,⟨.inl rfl,trivial,trivial⟩,trivial⟩,⟨.inr (.inr ⟨rfl,_,_,g104,o104,e104⟩),trivial,trivial⟩⟩,⟨.inr (.inr ⟨rfl,_,_,g56,o56,e56⟩),⟨.inr (.inr ⟨rfl,_,_,g88,o88,e88⟩),trivial,trivial⟩,⟨.inr (.inr ⟨rfl,_,_,g120,o120,e120⟩),trivial,trivial⟩⟩⟩⟩,⟨.inl rfl,⟨.inr (.inr ⟨rfl,_,_,g20,o20,e20⟩),⟨.inr (.inr ⟨rfl,_,_,g36,o36,e36⟩),⟨.inl rfl,⟨.inl rfl,trivial,trivial⟩,trivial⟩,⟨.inr (.inr ⟨rfl,_,_,g100,o100,e100⟩),trivial,trivial⟩⟩,⟨.inl rfl,⟨.inr (.inr ⟨rfl,_,_,g84,o84,e84⟩),trivial,trivial⟩,⟨.inr (.inr ⟨rfl,_,_,g116,o116,e116⟩),trivial,trivial⟩⟩⟩,⟨.inl rfl,⟨.inl rfl,⟨.inl rfl,trivial,trivial⟩,⟨.inr (.inr ⟨rfl,_,_,g108,o108,e108⟩),trivial,trivial⟩⟩,⟨.inl rfl,⟨.inr (.inr ⟨rfl,_,_,g92,o92,e92⟩),trivial,trivial⟩,⟨.inl rfl,trivial,trivial⟩⟩⟩⟩⟩,⟨.inl rfl,⟨.inl rfl,⟨.inr (.inr ⟨rfl,_,_,g18,o18,e18⟩),⟨.inl rfl,⟨.inr (.inr ⟨rfl,_,_,g66,o66,e66⟩),⟨.inl rfl,trivial,trivial⟩,trivial⟩,⟨.inr (.inr ⟨rfl,_,_,g98,o98,e98⟩),trivial,trivial⟩⟩,⟨.inl rfl,⟨.inr (.inr ⟨rfl,_,_,g82,o82,e82⟩),trivial,trivial⟩,⟨.inr (.inr ⟨rfl,_,_,g114,o114,e114⟩),trivial,trivial⟩⟩⟩,⟨.inl rfl,⟨.inl rfl,⟨.inl rfl,trivial,trivial⟩,⟨.inr (.inr ⟨rfl,_,_,g106,o106,e106⟩),trivial,trivial⟩⟩,⟨.inr (.inr ⟨rfl,_,_,g58,o58,e58⟩),⟨.inr (.inr ⟨rfl,_,_,g90,o90,e90⟩),trivial,trivial⟩,⟨.inl rfl,trivial,trivial⟩⟩⟩⟩,⟨.inl rfl,⟨.inl rfl,⟨.inl rfl,⟨.inr (.inr ⟨rfl,_,_,g70,o70,e70⟩),⟨.inl rfl,trivial,trivial⟩,trivial⟩,⟨.inr (.inr ⟨rfl,_,_,g102,o102,e102⟩),trivial,trivial⟩⟩,⟨.inr (.inr ⟨rfl,_,_,g54,o54,e54⟩),⟨.inr (.inr ⟨rfl,_,_,g86,o86,e86⟩),trivial,trivial⟩,⟨.inr (.inr ⟨rfl,_,_,g118,o118,e118⟩),trivial,trivial⟩⟩⟩,⟨.inl rfl,⟨.inl rfl,⟨.inr (.inr ⟨rfl,_,_,g78,o78,e78⟩),trivial,trivial⟩,⟨.inr (.inr ⟨rfl,_,_,g110,o110,e110⟩),trivial,trivial⟩⟩,⟨.inl rfl,⟨.inr (.inr ⟨rfl,_,_,g94,o94,e94⟩),trivial,trivial⟩,⟨.inl rfl,trivial,trivial⟩⟩⟩⟩⟩⟩⟩)
end Go.Xe.TB
