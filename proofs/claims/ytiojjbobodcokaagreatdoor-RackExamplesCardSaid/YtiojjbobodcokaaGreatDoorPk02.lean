/- What the proof of this claim stands on, part 3: an evaluator of the model, proved right, and what it answers for functions of the program. -/
import Derived.Test.YtiojjbobodcokaaGreatDoorPk01
/- Values that are met. Made by program. -/
namespace Go.Ev
set_option maxRecDepth 1000000
def q0 : AV := .v (.int .i64 3)
def q1 : AV := .v (.int .i64 1)
def q2 : AV := .v (.int .i64 2)
def q3 : AV := .vs 1 [q0, q1, q2, q1] (some 4)
def q4 : AV := .v (.int .i64 0)
def q5 : AV := .vs 1 [q2, q4, q1, q4] none
def q6 : AV := .agg [q5, q3]
def q7 : AV := .tup [q6, q4]
def q8 : AV := .vs 1 [q4, q4, q1, q4] none
def q9 : AV := .vs 1 [q1, q4, q4, q4] none
def q10 : AV := .vs 1 [q8, q9] none
def q11 : AV := .v (.int .i64 4)
def q12 : AV := .vs 1 [q1, q0, q2, q4] none
def q13 : AV := .tup [q12, q4]
def q14 : AV := .agg [q0, q2]
def q15 : AV := .agg [q2, q4]
def q16 : AV := .vs 2 [q14, q15] none
def q17 : AV := .v (.slice none 0 0)
def q18 : AV := .vs 1 [q2] none
def q19 : AV := .vs 1 [q1, q2] none
def q20 : AV := .vs 1 [q4, q4, q1, q1] none
def q21 : AV := .agg [q4, q0]
def q22 : AV := .agg [q2, q1]
def q23 : AV := .vs 2 [q21, q22] none
def q24 : AV := .v (.string ⟨⟨[97,98,99,100,101,102,103,104,105,106,107,108,109,110,111,112,113,114,115,116,117,118,119,120,121,122]⟩⟩)
def q25 : AV := .v (.string ⟨⟨[115,101,97]⟩⟩)
def q26 : AV := .v (.string ⟨⟨[]⟩⟩)
def q27 : AV := .agg [q4, q4, q4, q25, q26, q26]
def q28 : AV := .agg [q4, q4, q4]
def q29 : AV := .tup [q4, q4]
def q30 : AV := .v (.string ⟨⟨[111,108,100]⟩⟩)
def q31 : AV := .agg [q4, q4, q4, q30, q26, q26]
def q32 : AV := .v (.string ⟨⟨[105,115]⟩⟩)
def q33 : AV := .agg [q4, q4, q4, q25, q26, q32]
def q34 : AV := .v (.string ⟨⟨[97,110,100]⟩⟩)
def q35 : AV := .agg [q4, q4, q4, q34, q26, q26]
def q36 : AV := .vs 6 [q27, q31, q33, q35] (some 4)
def q37 : AV := .v (.int .u8 2)
def q38 : AV := .vs 1 [q2, q1, q2, q4] none
def q39 : AV := .agg [q38, q38]
def q40 : AV := .tup [q39, q4]
def q41 : AV := .vs 1 [.vs 1 [q4, q1, q4, q4] none, .vs 1 [q1, q4, q1, q4] none] none
def q42 : AV := .vs 1 [q2, q4, q1, q4] (some 4)
def q43 : AV := .vs 1 [q4, q4, q1, q4] (some 4)
def q44 : AV := .vs 1 [q1, q4, q4, q4] (some 4)
def q45 : AV := .vs 1 [q1, q0, q2, q4] (some 4)
def q46 : AV := .vs 1 [q1, q2] (some 2)
def q47 : AV := .vs 1 [q4, q4, q1, q1] (some 4)
def q48 : AV := .vs 1 [q2, q1, q2, q4] (some 4)
def q49 : AV := .vs 1 [q5] none
def q50 : AV := .vs 2 [q14] none
def q51 : AV := .vs 1 [] none
def q52 : AV := .tup [.agg [q51, q17], q4]
def q53 : AV := .v (.int .i64 5)
def q54 : AV := .vs 1 [q53, q53] (some 2)
def q55 : AV := .vs 1 [q4, q4] none
def q56 : AV := .tup [.agg [q55, q54], q4]
def q57 : AV := .v (.int .i64 61)
def q58 : AV := .tup [.agg [q17, q17], q57]
def q59 : AV := .vs 1 [.vs 1 [q4, q4, q2, q4] (some 4)] (some 1)
def q60 : AV := .agg [q4, q4, q4, q26, q26, q26]
def q61 : AV := .v (.int .i64 31)
def q62 : AV := .v (.int .i64 21)
def t0 : Tell := ⟨117, [q3], (.v (.bool true))⟩
def t1 : Tell := ⟨118, [q3], q5⟩
def t2 : Tell := ⟨71, [q3], q7⟩
def t3 : Tell := ⟨39, [q3], (.tup [q5, q4])⟩
def t4 : Tell := ⟨64, [q3, q2], q7⟩
def t5 : Tell := ⟨110, [q5], q0⟩
def t6 : Tell := ⟨65, [q5, q2], q2⟩
def t7 : Tell := ⟨16, [q3, q2], (.tup [q2, q4])⟩
def t8 : Tell := ⟨66, [q5, q2], q10⟩
def t9 : Tell := ⟨18, [q3, q2], (.tup [q10, q4])⟩
def t10 : Tell := ⟨69, [q10, q11, q2], (.v (.bool true))⟩
def t11 : Tell := ⟨70, [q6, q2, q10], q12⟩
def t12 : Tell := ⟨22, [q3, q2, q10], q13⟩
def t13 : Tell := ⟨67, [q6], q16⟩
def t14 : Tell := ⟨19, [q3, q2], (.tup [q16, q4])⟩
def t15 : Tell := ⟨183, [.vs 1 [.vs 1 [q4] (some 1), q17] (some 2)], (.vs 1 [q4] none)⟩
def t16 : Tell := ⟨183, [.vs 1 [.vs 1 [q2] (some 1), q17] (some 2)], q18⟩
def t17 : Tell := ⟨183, [.vs 1 [.vs 1 [q0] (some 1), q17] (some 2)], (.vs 1 [q0] none)⟩
def t18 : Tell := ⟨183, [.vs 1 [.vs 1 [q1] (some 1), q18] (some 2)], q19⟩
def t19 : Tell := ⟨83, [q6], q19⟩
def t20 : Tell := ⟨42, [q3], (.tup [q19, q4])⟩
def t21 : Tell := ⟨84, [q6], q20⟩
def t22 : Tell := ⟨46, [q3], (.tup [q20, q4])⟩
def t23 : Tell := ⟨82, [q6], q23⟩
def t24 : Tell := ⟨41, [q3], (.tup [q23, q4])⟩
def t25 : Tell := ⟨72, [q23, q11], (.v (.bool true))⟩
def t26 : Tell := ⟨73, [q6, q23], q12⟩
def t27 : Tell := ⟨23, [q3, q23], q13⟩
def t28 : Tell := ⟨227, [q24], (.tup [.agg [.v (.bool false), .v (.bool false), .v (.bool false), .v (.bool false), .v (.bool false), .v (.bool false), .v (.bool false), .v (.bool false), .v (.bool false), .v (.bool false), .v (.bool false), .v (.bool false), .v (.bool false), .v (.bool false), .v (.bool false), .v (.bool false), .v (.bool false), .v (.bool false), .v (.bool false), .v (.bool false), .v (.bool false), .v (.bool false), .v (.bool false), .v (.bool false), .v (.bool false), .v (.bool false), .v (.bool false), .v (.bool false), .v (.bool false), .v (.bool false), .v (.bool false), .v (.bool false), .v (.bool false), .v (.bool false), .v (.bool false), .v (.bool false), .v (.bool false), .v (.bool false), .v (.bool false), .v (.bool false), .v (.bool false), .v (.bool false), .v (.bool false), .v (.bool false), .v (.bool false), .v (.bool false), .v (.bool false), .v (.bool false), .v (.bool false), .v (.bool false), .v (.bool false), .v (.bool false), .v (.bool false), .v (.bool false), .v (.bool false), .v (.bool false), .v (.bool false), .v (.bool false), .v (.bool false), .v (.bool false), .v (.bool false), .v (.bool false), .v (.bool false), .v (.bool false), .v (.bool false), .v (.bool false), .v (.bool false), .v (.bool false), .v (.bool false), .v (.bool false), .v (.bool false), .v (.bool false), .v (.bool false), .v (.bool false), .v (.bool false), .v (.bool false), .v (.bool false), .v (.bool false), .v (.bool false), .v (.bool false), .v (.bool false), .v (.bool false), .v (.bool false), .v (.bool false), .v (.bool false), .v (.bool false), .v (.bool false), .v (.bool false), .v (.bool false), .v (.bool false), .v (.bool false), .v (.bool false), .v (.bool false), .v (.bool false), .v (.bool false), .v (.bool false), .v (.bool false), .v (.bool true), .v (.bool true), .v (.bool true), .v (.bool true), .v (.bool true), .v (.bool true), .v (.bool true), .v (.bool true), .v (.bool true), .v (.bool true), .v (.bool true), .v (.bool true), .v (.bool true), .v (.bool true), .v (.bool true), .v (.bool true), .v (.bool true), .v (.bool true), .v (.bool true), .v (.bool true), .v (.bool true), .v (.bool true), .v (.bool true), .v (.bool true), .v (.bool true), .v (.bool true), .v (.bool false), .v (.bool false), .v (.bool false), .v (.bool false), .v (.bool false), .v (.bool false), .v (.bool false), .v (.bool false), .v (.bool false), .v (.bool false), .v (.bool false), .v (.bool false), .v (.bool false), .v (.bool false), .v (.bool false), .v (.bool false), .v (.bool false), .v (.bool false), .v (.bool false), .v (.bool false), .v (.bool false), .v (.bool false), .v (.bool false), .v (.bool false), .v (.bool false), .v (.bool false), .v (.bool false), .v (.bool false), .v (.bool false), .v (.bool false), .v (.bool false), .v (.bool false), .v (.bool false), .v (.bool false), .v (.bool false), .v (.bool false), .v (.bool false), .v (.bool false), .v (.bool false), .v (.bool false), .v (.bool false), .v (.bool false), .v (.bool false), .v (.bool false), .v (.bool false), .v (.bool false), .v (.bool false), .v (.bool false), .v (.bool false), .v (.bool false), .v (.bool false), .v (.bool false), .v (.bool false), .v (.bool false), .v (.bool false), .v (.bool false), .v (.bool false), .v (.bool false), .v (.bool false), .v (.bool false), .v (.bool false), .v (.bool false), .v (.bool false), .v (.bool false), .v (.bool false), .v (.bool false), .v (.bool false), .v (.bool false), .v (.bool false), .v (.bool false), .v (.bool false), .v (.bool false), .v (.bool false), .v (.bool false), .v (.bool false), .v (.bool false), .v (.bool false), .v (.bool false), .v (.bool false), .v (.bool false), .v (.bool false), .v (.bool false), .v (.bool false), .v (.bool false), .v (.bool false), .v (.bool false), .v (.bool false), .v (.bool false), .v (.bool false), .v (.bool false), .v (.bool false), .v (.bool false), .v (.bool false), .v (.bool false), .v (.bool false), .v (.bool false), .v (.bool false), .v (.bool false), .v (.bool false), .v (.bool false), .v (.bool false), .v (.bool false), .v (.bool false), .v (.bool false), .v (.bool false), .v (.bool false), .v (.bool false), .v (.bool false), .v (.bool false), .v (.bool false), .v (.bool false), .v (.bool false), .v (.bool false), .v (.bool false), .v (.bool false), .v (.bool false), .v (.bool false), .v (.bool false), .v (.bool false), .v (.bool false), .v (.bool false), .v (.bool false), .v (.bool false), .v (.bool false), .v (.bool false), .v (.bool false), .v (.bool false), .v (.bool false), .v (.bool false), .v (.bool false), .v (.bool false), .v (.bool false), .v (.bool false)], .v (.bool true)])⟩
def t29 : Tell := ⟨185, [q25, q24], q26⟩
def t30 : Tell := ⟨141, [q25], (.v (.bool true))⟩
def t31 : Tell := ⟨142, [q26], (.v (.bool true))⟩
def t32 : Tell := ⟨87, [.vs 6 [q27, q27] (some 2)], q4⟩
def t33 : Tell := ⟨88, [.vs 1 [q4, q4, q4] (some 3)], q4⟩
def t34 : Tell := ⟨90, [q28, q28], q4⟩
def t35 : Tell := ⟨88, [.vs 1 [q4, q4, q4, q4] (some 4)], q4⟩
def t36 : Tell := ⟨51, [q27, q27], q29⟩
def t37 : Tell := ⟨185, [q30, q24], q26⟩
def t38 : Tell := ⟨141, [q30], (.v (.bool true))⟩
def t39 : Tell := ⟨87, [.vs 6 [q31, q31] (some 2)], q4⟩
def t40 : Tell := ⟨51, [q31, q31], q29⟩
def t41 : Tell := ⟨185, [q32, q24], q26⟩
def t42 : Tell := ⟨141, [q32], (.v (.bool true))⟩
def t43 : Tell := ⟨142, [q32], (.v (.bool true))⟩
def t44 : Tell := ⟨87, [.vs 6 [q33, q33] (some 2)], q4⟩
def t45 : Tell := ⟨51, [q33, q33], q29⟩
def t46 : Tell := ⟨185, [q34, q24], q26⟩
def t47 : Tell := ⟨141, [q34], (.v (.bool true))⟩
def t48 : Tell := ⟨87, [.vs 6 [q35, q35] (some 2)], q4⟩
def t49 : Tell := ⟨51, [q35, q35], q29⟩
def t50 : Tell := ⟨74, [q36], q4⟩
def t51 : Tell := ⟨76, [q36, q37], q38⟩
def t52 : Tell := ⟨24, [q36, q37], (.tup [q38, q4])⟩
def t53 : Tell := ⟨117, [q38], (.v (.bool true))⟩
def t54 : Tell := ⟨118, [q38], q38⟩
def t55 : Tell := ⟨71, [q38], q40⟩
def t56 : Tell := ⟨64, [q38, q2], q40⟩
def t57 : Tell := ⟨110, [q38], q0⟩
def t58 : Tell := ⟨65, [q38, q2], q2⟩
def t59 : Tell := ⟨66, [q38, q2], q41⟩
def t60 : Tell := ⟨70, [q39, q2, q41], (.vs 1 [q0, q1, q4, q2] none)⟩
def t61 : Tell := ⟨26, [q36, q37, q2], (.tup [.vs 6 [q35, q31, q27, q33] none, q2, q4])⟩
def t62 : Tell := ⟨31, [q5, q42], (.v (.bool true))⟩
def t63 : Tell := ⟨62, [q5, q42], (.v (.bool true))⟩
def t64 : Tell := ⟨31, [q8, q43], (.v (.bool true))⟩
def t65 : Tell := ⟨31, [q9, q44], (.v (.bool true))⟩
def t66 : Tell := ⟨20, [q10, .vs 1 [q43, q44] (some 2)], (.v (.bool true))⟩
def t67 : Tell := ⟨31, [q12, q45], (.v (.bool true))⟩
def t68 : Tell := ⟨62, [q12, q45], (.v (.bool true))⟩
def t69 : Tell := ⟨21, [q16, .vs 2 [q14, q15] (some 2)], (.v (.bool true))⟩
def t70 : Tell := ⟨31, [q19, q46], (.v (.bool true))⟩
def t71 : Tell := ⟨62, [q19, q46], (.v (.bool true))⟩
def t72 : Tell := ⟨31, [q20, q47], (.v (.bool true))⟩
def t73 : Tell := ⟨62, [q20, q47], (.v (.bool true))⟩
def t74 : Tell := ⟨63, [q23, .vs 2 [q21, q22] (some 2)], (.v (.bool true))⟩
def t75 : Tell := ⟨31, [q38, q48], (.v (.bool true))⟩
def t76 : Tell := ⟨62, [q38, q48], (.v (.bool true))⟩
def t77 : Tell := ⟨15, [], (.v (.bool true))⟩
def t78 : Tell := ⟨64, [q3, q0], q7⟩
def t79 : Tell := ⟨65, [q5, q0], q1⟩
def t80 : Tell := ⟨16, [q3, q0], (.tup [q1, q4])⟩
def t81 : Tell := ⟨66, [q5, q0], q49⟩
def t82 : Tell := ⟨18, [q3, q0], (.tup [q49, q4])⟩
def t83 : Tell := ⟨19, [q3, q0], (.tup [q50, q4])⟩
def t84 : Tell := ⟨20, [q49, .vs 1 [q42] (some 1)], (.v (.bool true))⟩
def t85 : Tell := ⟨21, [q50, .vs 2 [q14] (some 1)], (.v (.bool true))⟩
def t86 : Tell := ⟨117, [q17], (.v (.bool true))⟩
def t87 : Tell := ⟨118, [q17], q51⟩
def t88 : Tell := ⟨71, [q17], q52⟩
def t89 : Tell := ⟨64, [q17, q2], q52⟩
def t90 : Tell := ⟨110, [q51], q4⟩
def t91 : Tell := ⟨65, [q51, q2], q4⟩
def t92 : Tell := ⟨16, [q17, q2], q29⟩
def t93 : Tell := ⟨117, [q54], (.v (.bool true))⟩
def t94 : Tell := ⟨118, [q54], q55⟩
def t95 : Tell := ⟨71, [q54], q56⟩
def t96 : Tell := ⟨64, [q54, q2], q56⟩
def t97 : Tell := ⟨110, [q55], q1⟩
def t98 : Tell := ⟨65, [q55, q2], q4⟩
def t99 : Tell := ⟨19, [q54, q2], (.tup [q17, .v (.int .i64 6)])⟩
def t100 : Tell := ⟨64, [q3, q1], q58⟩
def t101 : Tell := ⟨16, [q3, q1], (.tup [q4, q57])⟩
def t102 : Tell := ⟨69, [q59, q11, q2], (.v (.bool false))⟩
def t103 : Tell := ⟨22, [q3, q2, q59], (.tup [q17, .v (.int .i64 62)])⟩
def t104 : Tell := ⟨72, [.vs 2 [.agg [q11, q4]] (some 1), q11], (.v (.bool false))⟩
def t105 : Tell := ⟨141, [q26], (.v (.bool false))⟩
def t106 : Tell := ⟨87, [.vs 6 [q60, q60] (some 2)], q61⟩
def t107 : Tell := ⟨51, [q60, q60], (.tup [q4, q61])⟩
def t108 : Tell := ⟨64, [q38, q62], q58⟩
def t109 : Tell := ⟨26, [q36, q37, q62], (.tup [q17, q4, q57])⟩
end Go.Ev
/- What calls answer that are met. Made by program. -/
namespace Go.Ev
set_option maxRecDepth 1000000
/- postil/rack.isDeck -/
theorem g0 : Good t0 := good [] trivial (by kernel_rfl) (by kernel_rfl)
/- postil/rack.runsOf -/
theorem g1 : Good t1 := good [] trivial (by kernel_rfl) (by kernel_rfl)
/- postil/rack.begin -/
theorem g2 : Good t2 := good [t0, t1] ⟨g0, g1, trivial⟩ (by kernel_rfl) (by kernel_rfl)
/- postil/rack.Runs -/
theorem g3 : Good t3 := good [t2] ⟨g2, trivial⟩ (by kernel_rfl) (by kernel_rfl)
/- postil/rack.beginBoxes -/
theorem g4 : Good t4 := good [t2] ⟨g2, trivial⟩ (by kernel_rfl) (by kernel_rfl)
/- (postil/rack.runs).many -/
theorem g5 : Good t5 := good [] trivial (by kernel_rfl) (by kernel_rfl)
/- (postil/rack.runs).passes -/
theorem g6 : Good t6 := good [t5] ⟨g5, trivial⟩ (by kernel_rfl) (by kernel_rfl)
/- postil/rack.Passes -/
theorem g7 : Good t7 := good [t4, t6] ⟨g4, g6, trivial⟩ (by kernel_rfl) (by kernel_rfl)
/- (postil/rack.runs).plan -/
theorem g8 : Good t8 := good [t6] ⟨g6, trivial⟩ (by kernel_rfl) (by kernel_rfl)
/- postil/rack.Plan -/
theorem g9 : Good t9 := good [t4, t8] ⟨g4, g8, trivial⟩ (by kernel_rfl) (by kernel_rfl)
/- postil/rack.isPlan -/
theorem g10 : Good t10 := good [] trivial (by kernel_rfl) (by kernel_rfl)
/- (postil/rack.deck).sort -/
theorem g11 : Good t11 := good [] trivial (by kernel_rfl) (by kernel_rfl)
/- postil/rack.Sort -/
theorem g12 : Good t12 := good [t4, t10, t11] ⟨g4, g10, g11, trivial⟩ (by kernel_rfl) (by kernel_rfl)
/- (postil/rack.deck).borders -/
theorem g13 : Good t13 := good [] trivial (by kernel_rfl) (by kernel_rfl)
/- postil/rack.Proof -/
theorem g14 : Good t14 := good [t4, t6, t13] ⟨g4, g6, g13, trivial⟩ (by kernel_rfl) (by kernel_rfl)
/- slices.Concat[[]int,int] -/
theorem g15 : Good t15 := good [] trivial (by kernel_rfl) (by kernel_rfl)
/- slices.Concat[[]int,int] -/
theorem g16 : Good t16 := good [] trivial (by kernel_rfl) (by kernel_rfl)
/- slices.Concat[[]int,int] -/
theorem g17 : Good t17 := good [] trivial (by kernel_rfl) (by kernel_rfl)
/- slices.Concat[[]int,int] -/
theorem g18 : Good t18 := good [] trivial (by kernel_rfl) (by kernel_rfl)
/- (postil/rack.deck).keep -/
theorem g19 : Good t19 := good [t15, t16, t17, t18] ⟨g15, g16, g17, g18, trivial⟩ (by kernel_rfl) (by kernel_rfl)
/- postil/rack.Keep -/
theorem g20 : Good t20 := good [t2, t19] ⟨g2, g19, trivial⟩ (by kernel_rfl) (by kernel_rfl)
/- (postil/rack.deck).chains -/
theorem g21 : Good t21 := good [] trivial (by kernel_rfl) (by kernel_rfl)
/- postil/rack.Chains -/
theorem g22 : Good t22 := good [t2, t21] ⟨g2, g21, trivial⟩ (by kernel_rfl) (by kernel_rfl)
/- (postil/rack.deck).mend -/
theorem g23 : Good t23 := good [t19] ⟨g19, trivial⟩ (by kernel_rfl) (by kernel_rfl)
/- postil/rack.Mend -/
theorem g24 : Good t24 := good [t2, t23] ⟨g2, g23, trivial⟩ (by kernel_rfl) (by kernel_rfl)
/- postil/rack.areMoves -/
theorem g25 : Good t25 := good [] trivial (by kernel_rfl) (by kernel_rfl)
/- (postil/rack.deck).moved -/
theorem g26 : Good t26 := good [] trivial (by kernel_rfl) (by kernel_rfl)
/- postil/rack.Moved -/
theorem g27 : Good t27 := good [t2, t25, t26] ⟨g2, g25, g26, trivial⟩ (by kernel_rfl) (by kernel_rfl)
/- strings.makeASCIISet -/
theorem g28 : Good t28 := good [] trivial (by kernel_rfl) (by kernel_rfl)
/- strings.Trim -/
theorem g29 : Good t29 := good [t28] ⟨g28, trivial⟩ (by kernel_rfl) (by kernel_rfl)
/- postil/slip.isWord -/
theorem g30 : Good t30 := good [t29] ⟨g29, trivial⟩ (by kernel_rfl) (by kernel_rfl)
/- postil/slip.isSide -/
theorem g31 : Good t31 := good [] trivial (by kernel_rfl) (by kernel_rfl)
/- postil/slip.checkSlips -/
theorem g32 : Good t32 := good [t30, t31] ⟨g30, g31, trivial⟩ (by kernel_rfl) (by kernel_rfl)
/- cmp.Or[int] -/
theorem g33 : Good t33 := good [] trivial (by kernel_rfl) (by kernel_rfl)
/- postil/slip.comparePlaces -/
theorem g34 : Good t34 := good [t33] ⟨g33, trivial⟩ (by kernel_rfl) (by kernel_rfl)
/- cmp.Or[int] -/
theorem g35 : Good t35 := good [] trivial (by kernel_rfl) (by kernel_rfl)
/- postil/slip.Order -/
theorem g36 : Good t36 := good [t32, t34, t35] ⟨g32, g34, g35, trivial⟩ (by kernel_rfl) (by kernel_rfl)
/- strings.Trim -/
theorem g37 : Good t37 := good [t28] ⟨g28, trivial⟩ (by kernel_rfl) (by kernel_rfl)
/- postil/slip.isWord -/
theorem g38 : Good t38 := good [t37] ⟨g37, trivial⟩ (by kernel_rfl) (by kernel_rfl)
/- postil/slip.checkSlips -/
theorem g39 : Good t39 := good [t31, t38] ⟨g31, g38, trivial⟩ (by kernel_rfl) (by kernel_rfl)
/- postil/slip.Order -/
theorem g40 : Good t40 := good [t34, t35, t39] ⟨g34, g35, g39, trivial⟩ (by kernel_rfl) (by kernel_rfl)
/- strings.Trim -/
theorem g41 : Good t41 := good [t28] ⟨g28, trivial⟩ (by kernel_rfl) (by kernel_rfl)
/- postil/slip.isWord -/
theorem g42 : Good t42 := good [t41] ⟨g41, trivial⟩ (by kernel_rfl) (by kernel_rfl)
/- postil/slip.isSide -/
theorem g43 : Good t43 := good [t42] ⟨g42, trivial⟩ (by kernel_rfl) (by kernel_rfl)
/- postil/slip.checkSlips -/
theorem g44 : Good t44 := good [t30, t31, t43] ⟨g30, g31, g43, trivial⟩ (by kernel_rfl) (by kernel_rfl)
/- postil/slip.Order -/
theorem g45 : Good t45 := good [t34, t35, t44] ⟨g34, g35, g44, trivial⟩ (by kernel_rfl) (by kernel_rfl)
/- strings.Trim -/
theorem g46 : Good t46 := good [t28] ⟨g28, trivial⟩ (by kernel_rfl) (by kernel_rfl)
/- postil/slip.isWord -/
theorem g47 : Good t47 := good [t46] ⟨g46, trivial⟩ (by kernel_rfl) (by kernel_rfl)
/- postil/slip.checkSlips -/
theorem g48 : Good t48 := good [t31, t47] ⟨g31, g47, trivial⟩ (by kernel_rfl) (by kernel_rfl)
/- postil/slip.Order -/
theorem g49 : Good t49 := good [t34, t35, t48] ⟨g34, g35, g48, trivial⟩ (by kernel_rfl) (by kernel_rfl)
/- postil/rack.checkSlips -/
theorem g50 : Good t50 := good [t36, t40, t45, t49] ⟨g36, g40, g45, g49, trivial⟩ (by kernel_rfl) (by kernel_rfl)
/- postil/rack.ranksOf -/
theorem g51 : Good t51 := good [] trivial (by kernel_rfl) (by kernel_rfl)
/- postil/rack.Ranks -/
theorem g52 : Good t52 := good [t50, t51] ⟨g50, g51, trivial⟩ (by kernel_rfl) (by kernel_rfl)
/- postil/rack.isDeck -/
theorem g53 : Good t53 := good [] trivial (by kernel_rfl) (by kernel_rfl)
/- postil/rack.runsOf -/
theorem g54 : Good t54 := good [] trivial (by kernel_rfl) (by kernel_rfl)
/- postil/rack.begin -/
theorem g55 : Good t55 := good [t53, t54] ⟨g53, g54, trivial⟩ (by kernel_rfl) (by kernel_rfl)
/- postil/rack.beginBoxes -/
theorem g56 : Good t56 := good [t55] ⟨g55, trivial⟩ (by kernel_rfl) (by kernel_rfl)
/- (postil/rack.runs).many -/
theorem g57 : Good t57 := good [] trivial (by kernel_rfl) (by kernel_rfl)
/- (postil/rack.runs).passes -/
theorem g58 : Good t58 := good [t57] ⟨g57, trivial⟩ (by kernel_rfl) (by kernel_rfl)
/- (postil/rack.runs).plan -/
theorem g59 : Good t59 := good [t58] ⟨g58, trivial⟩ (by kernel_rfl) (by kernel_rfl)
/- (postil/rack.deck).sort -/
theorem g60 : Good t60 := good [] trivial (by kernel_rfl) (by kernel_rfl)
/- postil/rack.File -/
theorem g61 : Good t61 := good [t52, t56, t59, t60] ⟨g52, g56, g59, g60, trivial⟩ (by kernel_rfl) (by kernel_rfl)
/- postil/postilref03.SameInts -/
theorem g62 : Good t62 := good [] trivial (by kernel_rfl) (by kernel_rfl)
/- postil/postillaw06.same -/
theorem g63 : Good t63 := good [t62] ⟨g62, trivial⟩ (by kernel_rfl) (by kernel_rfl)
/- postil/postilref03.SameInts -/
theorem g64 : Good t64 := good [] trivial (by kernel_rfl) (by kernel_rfl)
/- postil/postilref03.SameInts -/
theorem g65 : Good t65 := good [] trivial (by kernel_rfl) (by kernel_rfl)
/- postil/postilref06.SameLists -/
theorem g66 : Good t66 := good [t64, t65] ⟨g64, g65, trivial⟩ (by kernel_rfl) (by kernel_rfl)
/- postil/postilref03.SameInts -/
theorem g67 : Good t67 := good [] trivial (by kernel_rfl) (by kernel_rfl)
/- postil/postillaw06.same -/
theorem g68 : Good t68 := good [t67] ⟨g67, trivial⟩ (by kernel_rfl) (by kernel_rfl)
/- postil/postilref06.SamePairs -/
theorem g69 : Good t69 := good [] trivial (by kernel_rfl) (by kernel_rfl)
/- postil/postilref03.SameInts -/
theorem g70 : Good t70 := good [] trivial (by kernel_rfl) (by kernel_rfl)
/- postil/postillaw06.same -/
theorem g71 : Good t71 := good [t70] ⟨g70, trivial⟩ (by kernel_rfl) (by kernel_rfl)
/- postil/postilref03.SameInts -/
theorem g72 : Good t72 := good [] trivial (by kernel_rfl) (by kernel_rfl)
/- postil/postillaw06.same -/
theorem g73 : Good t73 := good [t72] ⟨g72, trivial⟩ (by kernel_rfl) (by kernel_rfl)
/- postil/postilref06.SameMoves -/
theorem g74 : Good t74 := good [] trivial (by kernel_rfl) (by kernel_rfl)
/- postil/postilref03.SameInts -/
theorem g75 : Good t75 := good [] trivial (by kernel_rfl) (by kernel_rfl)
/- postil/postillaw06.same -/
theorem g76 : Good t76 := good [t75] ⟨g75, trivial⟩ (by kernel_rfl) (by kernel_rfl)
/- postil/postillaw06.alive -/
theorem g77 : Good t77 := good [t3, t7, t9, t12, t14, t20, t22, t24, t27, t52, t61, t63, t66, t68, t69, t71, t73, t74, t76] ⟨g3, g7, g9, g12, g14, g20, g22, g24, g27, g52, g61, g63, g66, g68, g69, g71, g73, g74, g76, trivial⟩ (by kernel_rfl) (by kernel_rfl)
/- postil/rack.beginBoxes -/
theorem g78 : Good t78 := good [t2] ⟨g2, trivial⟩ (by kernel_rfl) (by kernel_rfl)
/- (postil/rack.runs).passes -/
theorem g79 : Good t79 := good [t5] ⟨g5, trivial⟩ (by kernel_rfl) (by kernel_rfl)
/- postil/rack.Passes -/
theorem g80 : Good t80 := good [t78, t79] ⟨g78, g79, trivial⟩ (by kernel_rfl) (by kernel_rfl)
/- (postil/rack.runs).plan -/
theorem g81 : Good t81 := good [t79] ⟨g79, trivial⟩ (by kernel_rfl) (by kernel_rfl)
/- postil/rack.Plan -/
theorem g82 : Good t82 := good [t78, t81] ⟨g78, g81, trivial⟩ (by kernel_rfl) (by kernel_rfl)
/- postil/rack.Proof -/
theorem g83 : Good t83 := good [t13, t78, t79] ⟨g13, g78, g79, trivial⟩ (by kernel_rfl) (by kernel_rfl)
/- postil/postilref06.SameLists -/
theorem g84 : Good t84 := good [t62] ⟨g62, trivial⟩ (by kernel_rfl) (by kernel_rfl)
/- postil/postilref06.SamePairs -/
theorem g85 : Good t85 := good [] trivial (by kernel_rfl) (by kernel_rfl)
/- postil/rack.isDeck -/
theorem g86 : Good t86 := good [] trivial (by kernel_rfl) (by kernel_rfl)
/- postil/rack.runsOf -/
theorem g87 : Good t87 := good [] trivial (by kernel_rfl) (by kernel_rfl)
/- postil/rack.begin -/
theorem g88 : Good t88 := good [t86, t87] ⟨g86, g87, trivial⟩ (by kernel_rfl) (by kernel_rfl)
/- postil/rack.beginBoxes -/
theorem g89 : Good t89 := good [t88] ⟨g88, trivial⟩ (by kernel_rfl) (by kernel_rfl)
/- (postil/rack.runs).many -/
theorem g90 : Good t90 := good [] trivial (by kernel_rfl) (by kernel_rfl)
/- (postil/rack.runs).passes -/
theorem g91 : Good t91 := good [t90] ⟨g90, trivial⟩ (by kernel_rfl) (by kernel_rfl)
/- postil/rack.Passes -/
theorem g92 : Good t92 := good [t89, t91] ⟨g89, g91, trivial⟩ (by kernel_rfl) (by kernel_rfl)
/- postil/rack.isDeck -/
theorem g93 : Good t93 := good [] trivial (by kernel_rfl) (by kernel_rfl)
/- postil/rack.runsOf -/
theorem g94 : Good t94 := good [] trivial (by kernel_rfl) (by kernel_rfl)
/- postil/rack.begin -/
theorem g95 : Good t95 := good [t93, t94] ⟨g93, g94, trivial⟩ (by kernel_rfl) (by kernel_rfl)
/- postil/rack.beginBoxes -/
theorem g96 : Good t96 := good [t95] ⟨g95, trivial⟩ (by kernel_rfl) (by kernel_rfl)
/- (postil/rack.runs).many -/
theorem g97 : Good t97 := good [] trivial (by kernel_rfl) (by kernel_rfl)
/- (postil/rack.runs).passes -/
theorem g98 : Good t98 := good [t97] ⟨g97, trivial⟩ (by kernel_rfl) (by kernel_rfl)
/- postil/rack.Proof -/
theorem g99 : Good t99 := good [t96, t98] ⟨g96, g98, trivial⟩ (by kernel_rfl) (by kernel_rfl)
/- postil/rack.beginBoxes -/
theorem g100 : Good t100 := good [t2] ⟨g2, trivial⟩ (by kernel_rfl) (by kernel_rfl)
/- postil/rack.Passes -/
theorem g101 : Good t101 := good [t100] ⟨g100, trivial⟩ (by kernel_rfl) (by kernel_rfl)
/- postil/rack.isPlan -/
theorem g102 : Good t102 := good [] trivial (by kernel_rfl) (by kernel_rfl)
/- postil/rack.Sort -/
theorem g103 : Good t103 := good [t4, t102] ⟨g4, g102, trivial⟩ (by kernel_rfl) (by kernel_rfl)
/- postil/rack.areMoves -/
theorem g104 : Good t104 := good [] trivial (by kernel_rfl) (by kernel_rfl)
/- postil/slip.isWord -/
theorem g105 : Good t105 := good [] trivial (by kernel_rfl) (by kernel_rfl)
/- postil/slip.checkSlips -/
theorem g106 : Good t106 := good [t105] ⟨g105, trivial⟩ (by kernel_rfl) (by kernel_rfl)
/- postil/slip.Order -/
theorem g107 : Good t107 := good [t106] ⟨g106, trivial⟩ (by kernel_rfl) (by kernel_rfl)
/- postil/rack.beginBoxes -/
theorem g108 : Good t108 := good [t55] ⟨g55, trivial⟩ (by kernel_rfl) (by kernel_rfl)
/- postil/rack.File -/
theorem g109 : Good t109 := good [t52, t108] ⟨g52, g108, trivial⟩ (by kernel_rfl) (by kernel_rfl)
end Go.Ev
/- The whole, of its parts. Made by program. -/
namespace Go.Ev
set_option maxRecDepth 1000000
theorem gAll : Good ⟨3, [], .v (.bool true)⟩ := good [t36, t40, t45, t49, t77, t80, t82, t83, t84, t85, t92, t99, t101, t103, t104, t107, t109] ⟨g36, g40, g45, g49, g77, g80, g82, g83, g84, g85, g92, g99, g101, g103, g104, g107, g109, trivial⟩ (by kernel_rfl) (by kernel_rfl)
end Go.Ev
