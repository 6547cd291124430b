/- What the proof of this claim stands on, part 3: an evaluator of the model, proved right, and what it answers for functions of the program. -/
import Derived.Test.YtpnapmmndebimabGreatDoorPk01
/- Values that are met. Made by program. -/
namespace Go.Ev
set_option maxRecDepth 1000000
def q0 : AV := .v (.string ⟨⟨[116,104,101]⟩⟩)
def q1 : AV := .v (.string ⟨⟨[115,101,97]⟩⟩)
def q2 : AV := .v (.string ⟨⟨[105,115]⟩⟩)
def q3 : AV := .v (.string ⟨⟨[111,108,100]⟩⟩)
def q4 : AV := .vs 1 [.vs 1 [q0, q1, q2, q3] (some 4), .vs 1 [q3, q0, q1] (some 3)] (some 2)
def q5 : AV := .v (.string ⟨⟨[97,110,100]⟩⟩)
def q6 : AV := .vs 1 [.vs 1 [q1, q5, q1] (some 3)] (some 1)
def q7 : AV := .v (.int .i64 7)
def q8 : AV := .v (.int .i64 3)
def q9 : AV := .agg [.vs 2 [.agg [q7, q4], .agg [q8, q6]] (some 2)]
def q10 : AV := .v (.int .i64 0)
def q11 : AV := .v (.string ⟨⟨[97,98,99,100,101,102,103,104,105,106,107,108,109,110,111,112,113,114,115,116,117,118,119,120,121,122]⟩⟩)
def q12 : AV := .v (.string ⟨⟨[115]⟩⟩)
def q13 : AV := .v (.string ⟨⟨[]⟩⟩)
def q14 : AV := .v (.int .i64 2)
def q15 : AV := .agg [q12, q13, q14]
def q16 : AV := .v (.string ⟨⟨[108,100]⟩⟩)
def q17 : AV := .v (.string ⟨⟨[108,100,101]⟩⟩)
def q18 : AV := .v (.int .i64 1)
def q19 : AV := .agg [q16, q17, q18]
def q20 : AV := .vs 3 [q15, q19] none
def q21 : AV := .v (.int .u8 1)
def q22 : AV := .agg [q1, q21]
def q23 : AV := .v (.string ⟨⟨[97,103,101]⟩⟩)
def q24 : AV := .v (.int .u8 3)
def q25 : AV := .agg [q23, q24]
def q26 : AV := .v (.string ⟨⟨[115,101,101]⟩⟩)
def q27 : AV := .v (.int .u8 2)
def q28 : AV := .agg [q26, q27]
def q29 : AV := .agg [q18, q21, q1, q10, q10, q10, q1, q21, q10]
def q30 : AV := .agg [q14, q27, q3, q10, q18, q10, q23, q24, q10]
def q31 : AV := .agg [q8, q24, q13, q18, q10, q14, q26, q27, q10]
def q32 : AV := .vs 9 [q29, q30, q31] none
def q33 : AV := .agg [q20, q32]
def q34 : AV := .agg [q10, q10, q10]
def q35 : AV := .agg [q10, q10, q18]
def q36 : AV := .agg [q10, q10, q14]
def q37 : AV := .agg [q10, q10, q8]
def q38 : AV := .agg [q10, q18, q10]
def q39 : AV := .agg [q10, q18, q18]
def q40 : AV := .agg [q10, q18, q14]
def q41 : AV := .agg [q18, q10, q10]
def q42 : AV := .agg [q18, q10, q18]
def q43 : AV := .agg [q18, q10, q14]
def q44 : AV := .vs 3 [q34, q35, q36, q37, q38, q39, q40, q41, q42, q43] none
def q45 : AV := .vs 1 [q0, q1, q2, q3, q3, q0, q1, q1, q5, q1] none
def q46 : AV := .agg [q20, q32, q32, q44, q45]
def q47 : AV := .v (.int .u8 0)
def q48 : AV := .agg [q10, q47, q13, q10, q10, q10, q13, q47, q10]
def q49 : AV := .tup [q13, .v (.bool false)]
def q50 : AV := .vs 1 [q0] (some 1)
def q51 : AV := .agg [q0, q47]
def q52 : AV := .vs 1 [q2] (some 1)
def q53 : AV := .agg [q2, q47]
def q54 : AV := .v (.string ⟨⟨[111,108,100,101]⟩⟩)
def q55 : AV := .tup [q54, .v (.bool true)]
def q56 : AV := .vs 1 [q3, q54] none
def q57 : AV := .agg [q54, q47]
def q58 : AV := .v (.int .i64 4)
def q59 : AV := .v (.int .i64 5)
def q60 : AV := .v (.int .i64 6)
def q61 : AV := .v (.int .i64 8)
def q62 : AV := .vs 1 [q5] (some 1)
def q63 : AV := .agg [q5, q47]
def q64 : AV := .v (.int .i64 9)
def q65 : AV := .vs 2 [q51, q22, q53, q57, q25, q51, q22, q22, q63, q28] none
def q66 : AV := .vs 3 [q35, q40, q41] none
def q67 : AV := .tup [q66, q10]
def q68 : AV := .vs 1 [q3, q1] none
def q69 : AV := .agg [q58, q21, q1, q10, q10, q10, q26, q27, q10]
def q70 : AV := .vs 9 [q69] (some 1)
def q71 : AV := .vs 9 [q29, q30, q31, q69] none
def q72 : AV := .agg [q20, q71, q71, q44, q45]
def q73 : AV := .v (.int .i64 (-1))
def q74 : AV := .vs 2 [q51, q28, q53, q57, q25, q51, q28, q28, q63, q28] none
def q75 : AV := .agg [q20, q71]
def q76 : AV := .vs 9 [] none
def q77 : AV := .vs 9 [q30, q31, q69] none
def q78 : AV := .agg [q20, q77, q77, q44, q45]
def q79 : AV := .vs 9 [q29, q31, q69] none
def q80 : AV := .agg [q20, q79, q79, q44, q45]
def q81 : AV := .vs 2 [q51, q28, q53, q57, q57, q51, q28, q28, q63, q28] none
def q82 : AV := .vs 9 [q29, q30, q69] none
def q83 : AV := .agg [q20, q82, q82, q44, q45]
def q84 : AV := .vs 1 [q18, q8] none
def q85 : AV := .v (.int .u8 4)
def q86 : AV := .agg [q59, q85, q13, q10, q10, q10, q13, q47, q8]
def q87 : AV := .vs 9 [q29, q30, q31, q86] none
def q88 : AV := .agg [q20, q87]
def q89 : AV := .vs 9 [q29, q30, q86] none
def q90 : AV := .agg [q20, q87, q89, q44, q45]
def q91 : AV := .vs 1 [q18, q14, q59] none
def q92 : AV := .vs 9 [q29, q30, q31, q86, q69] none
def q93 : AV := .vs 9 [q29, q30, q31, q69, q86] none
def q94 : AV := .agg [q20, q93, .vs 9 [q29, q30, q69, q86] none, q44, q45]
def q95 : AV := .vs 1 [q3, q54] (some 2)
def q96 : AV := .tup [q8, q10]
def q97 : AV := .v (.string ⟨⟨[115,101,97,115]⟩⟩)
def q98 : AV := .vs 1 [q97, q1] none
def q99 : AV := .vs 1 [q97, q1] (some 2)
def q100 : AV := .tup [q22, q10]
def q101 : AV := .tup [q18, q10]
def q102 : AV := .vs 2 [q25, q63, q53, q57, q22, q28, q51] none
def q103 : AV := .vs 1 [q3] none
def q104 : AV := .vs 1 [q1] none
def q105 : AV := .v (.string ⟨⟨[83,101,97]⟩⟩)
def q106 : AV := .v (.string ⟨⟨[83]⟩⟩)
def q107 : AV := .v (.slice none 0 0)
def q108 : AV := .tup [q107, q14]
def q109 : AV := .agg [q10, q14, q10]
def q110 : AV := .v (.int .i64 12)
def q111 : AV := .agg [q107, q107, q107, q107, q107]
def q112 : AV := .agg [q1, q85]
def q113 : AV := .agg [q1, q27]
def q114 : AV := .vs 9 [q29, q30, q31, q69, q69] none
def q115 : AV := .v (.int .i64 41)
def q116 : AV := .tup [q111, q111, q115]
def q117 : AV := .agg [q64, q47, q13, q10, q10, q10, q13, q47, q10]
def q118 : AV := .vs 9 [q29, q30, q31, q117] none
def q119 : AV := .agg [q107]
def q120 : AV := .v (.int .i64 10)
def q121 : AV := .agg [q12, q12, q14]
def t0 : Tell := ⟨171, [q0], (.v (.bool true))⟩
def t1 : Tell := ⟨171, [q1], (.v (.bool true))⟩
def t2 : Tell := ⟨171, [q2], (.v (.bool true))⟩
def t3 : Tell := ⟨171, [q3], (.v (.bool true))⟩
def t4 : Tell := ⟨139, [q4], (.v (.bool true))⟩
def t5 : Tell := ⟨171, [q5], (.v (.bool true))⟩
def t6 : Tell := ⟨139, [q6], (.v (.bool true))⟩
def t7 : Tell := ⟨105, [q9], (.v (.bool true))⟩
def t8 : Tell := ⟨78, [q9], (.tup [q9, q10])⟩
def t9 : Tell := ⟨53, [q9], q10⟩
def t10 : Tell := ⟨119, [q11], (.tup [.agg [.v (.bool false), .v (.bool false), .v (.bool false), .v (.bool false), .v (.bool false), .v (.bool false), .v (.bool false), .v (.bool false), .v (.bool false), .v (.bool false), .v (.bool false), .v (.bool false), .v (.bool false), .v (.bool false), .v (.bool false), .v (.bool false), .v (.bool false), .v (.bool false), .v (.bool false), .v (.bool false), .v (.bool false), .v (.bool false), .v (.bool false), .v (.bool false), .v (.bool false), .v (.bool false), .v (.bool false), .v (.bool false), .v (.bool false), .v (.bool false), .v (.bool false), .v (.bool false), .v (.bool false), .v (.bool false), .v (.bool false), .v (.bool false), .v (.bool false), .v (.bool false), .v (.bool false), .v (.bool false), .v (.bool false), .v (.bool false), .v (.bool false), .v (.bool false), .v (.bool false), .v (.bool false), .v (.bool false), .v (.bool false), .v (.bool false), .v (.bool false), .v (.bool false), .v (.bool false), .v (.bool false), .v (.bool false), .v (.bool false), .v (.bool false), .v (.bool false), .v (.bool false), .v (.bool false), .v (.bool false), .v (.bool false), .v (.bool false), .v (.bool false), .v (.bool false), .v (.bool false), .v (.bool false), .v (.bool false), .v (.bool false), .v (.bool false), .v (.bool false), .v (.bool false), .v (.bool false), .v (.bool false), .v (.bool false), .v (.bool false), .v (.bool false), .v (.bool false), .v (.bool false), .v (.bool false), .v (.bool false), .v (.bool false), .v (.bool false), .v (.bool false), .v (.bool false), .v (.bool false), .v (.bool false), .v (.bool false), .v (.bool false), .v (.bool false), .v (.bool false), .v (.bool false), .v (.bool false), .v (.bool false), .v (.bool false), .v (.bool false), .v (.bool false), .v (.bool false), .v (.bool true), .v (.bool true), .v (.bool true), .v (.bool true), .v (.bool true), .v (.bool true), .v (.bool true), .v (.bool true), .v (.bool true), .v (.bool true), .v (.bool true), .v (.bool true), .v (.bool true), .v (.bool true), .v (.bool true), .v (.bool true), .v (.bool true), .v (.bool true), .v (.bool true), .v (.bool true), .v (.bool true), .v (.bool true), .v (.bool true), .v (.bool true), .v (.bool true), .v (.bool true), .v (.bool false), .v (.bool false), .v (.bool false), .v (.bool false), .v (.bool false), .v (.bool false), .v (.bool false), .v (.bool false), .v (.bool false), .v (.bool false), .v (.bool false), .v (.bool false), .v (.bool false), .v (.bool false), .v (.bool false), .v (.bool false), .v (.bool false), .v (.bool false), .v (.bool false), .v (.bool false), .v (.bool false), .v (.bool false), .v (.bool false), .v (.bool false), .v (.bool false), .v (.bool false), .v (.bool false), .v (.bool false), .v (.bool false), .v (.bool false), .v (.bool false), .v (.bool false), .v (.bool false), .v (.bool false), .v (.bool false), .v (.bool false), .v (.bool false), .v (.bool false), .v (.bool false), .v (.bool false), .v (.bool false), .v (.bool false), .v (.bool false), .v (.bool false), .v (.bool false), .v (.bool false), .v (.bool false), .v (.bool false), .v (.bool false), .v (.bool false), .v (.bool false), .v (.bool false), .v (.bool false), .v (.bool false), .v (.bool false), .v (.bool false), .v (.bool false), .v (.bool false), .v (.bool false), .v (.bool false), .v (.bool false), .v (.bool false), .v (.bool false), .v (.bool false), .v (.bool false), .v (.bool false), .v (.bool false), .v (.bool false), .v (.bool false), .v (.bool false), .v (.bool false), .v (.bool false), .v (.bool false), .v (.bool false), .v (.bool false), .v (.bool false), .v (.bool false), .v (.bool false), .v (.bool false), .v (.bool false), .v (.bool false), .v (.bool false), .v (.bool false), .v (.bool false), .v (.bool false), .v (.bool false), .v (.bool false), .v (.bool false), .v (.bool false), .v (.bool false), .v (.bool false), .v (.bool false), .v (.bool false), .v (.bool false), .v (.bool false), .v (.bool false), .v (.bool false), .v (.bool false), .v (.bool false), .v (.bool false), .v (.bool false), .v (.bool false), .v (.bool false), .v (.bool false), .v (.bool false), .v (.bool false), .v (.bool false), .v (.bool false), .v (.bool false), .v (.bool false), .v (.bool false), .v (.bool false), .v (.bool false), .v (.bool false), .v (.bool false), .v (.bool false), .v (.bool false), .v (.bool false), .v (.bool false), .v (.bool false), .v (.bool false), .v (.bool false), .v (.bool false), .v (.bool false), .v (.bool false), .v (.bool false), .v (.bool false), .v (.bool false), .v (.bool false), .v (.bool false), .v (.bool false), .v (.bool false), .v (.bool false)], .v (.bool true)])⟩
def t11 : Tell := ⟨98, [q12, q11], q13⟩
def t12 : Tell := ⟨71, [q12], (.v (.bool true))⟩
def t13 : Tell := ⟨98, [q13, q11], q13⟩
def t14 : Tell := ⟨71, [q13], (.v (.bool true))⟩
def t15 : Tell := ⟨81, [q15], (.v (.bool true))⟩
def t16 : Tell := ⟨80, [q15], (.v (.bool false))⟩
def t17 : Tell := ⟨98, [q16, q11], q13⟩
def t18 : Tell := ⟨71, [q16], (.v (.bool true))⟩
def t19 : Tell := ⟨98, [q17, q11], q13⟩
def t20 : Tell := ⟨71, [q17], (.v (.bool true))⟩
def t21 : Tell := ⟨81, [q19], (.v (.bool true))⟩
def t22 : Tell := ⟨80, [q19], (.v (.bool false))⟩
def t23 : Tell := ⟨54, [q20], (.v (.bool true))⟩
def t24 : Tell := ⟨98, [q1, q11], q13⟩
def t25 : Tell := ⟨71, [q1], (.v (.bool true))⟩
def t26 : Tell := ⟨37, [q1], (.v (.bool true))⟩
def t27 : Tell := ⟨62, [q22], (.v (.bool true))⟩
def t28 : Tell := ⟨98, [q3, q11], q13⟩
def t29 : Tell := ⟨71, [q3], (.v (.bool true))⟩
def t30 : Tell := ⟨37, [q3], (.v (.bool true))⟩
def t31 : Tell := ⟨98, [q23, q11], q13⟩
def t32 : Tell := ⟨71, [q23], (.v (.bool true))⟩
def t33 : Tell := ⟨37, [q23], (.v (.bool true))⟩
def t34 : Tell := ⟨62, [q25], (.v (.bool true))⟩
def t35 : Tell := ⟨98, [q26, q11], q13⟩
def t36 : Tell := ⟨71, [q26], (.v (.bool true))⟩
def t37 : Tell := ⟨37, [q26], (.v (.bool true))⟩
def t38 : Tell := ⟨62, [q28], (.v (.bool true))⟩
def t39 : Tell := ⟨29, [q9, q33], (.tup [q46, q10])⟩
def t40 : Tell := ⟨131, [q30, q0, q34], (.v (.bool false))⟩
def t41 : Tell := ⟨52, [q46, q10], q48⟩
def t42 : Tell := ⟨73, [q46, q0], q49⟩
def t43 : Tell := ⟨38, [q46, q0], q50⟩
def t44 : Tell := ⟨40, [q46, q10], q51⟩
def t45 : Tell := ⟨104, [q34, q34], q10⟩
def t46 : Tell := ⟨77, [q29, q48], q18⟩
def t47 : Tell := ⟨131, [q30, q1, q35], (.v (.bool false))⟩
def t48 : Tell := ⟨52, [q46, q18], q29⟩
def t49 : Tell := ⟨40, [q46, q18], q22⟩
def t50 : Tell := ⟨131, [q30, q2, q36], (.v (.bool false))⟩
def t51 : Tell := ⟨52, [q46, q14], q48⟩
def t52 : Tell := ⟨73, [q46, q2], q49⟩
def t53 : Tell := ⟨38, [q46, q2], q52⟩
def t54 : Tell := ⟨40, [q46, q14], q53⟩
def t55 : Tell := ⟨104, [q38, q37], q18⟩
def t56 : Tell := ⟨131, [q30, q3, q37], (.v (.bool false))⟩
def t57 : Tell := ⟨52, [q46, q8], q48⟩
def t58 : Tell := ⟨73, [q46, q3], q55⟩
def t59 : Tell := ⟨73, [q46, q54], q49⟩
def t60 : Tell := ⟨38, [q46, q3], q56⟩
def t61 : Tell := ⟨40, [q46, q8], q57⟩
def t62 : Tell := ⟨104, [q38, q38], q10⟩
def t63 : Tell := ⟨131, [q30, q3, q38], (.v (.bool true))⟩
def t64 : Tell := ⟨104, [q38, q34], q18⟩
def t65 : Tell := ⟨77, [q30, q48], q18⟩
def t66 : Tell := ⟨52, [q46, q58], q30⟩
def t67 : Tell := ⟨40, [q46, q58], q25⟩
def t68 : Tell := ⟨131, [q30, q0, q39], (.v (.bool false))⟩
def t69 : Tell := ⟨52, [q46, q59], q48⟩
def t70 : Tell := ⟨40, [q46, q59], q51⟩
def t71 : Tell := ⟨131, [q30, q1, q40], (.v (.bool false))⟩
def t72 : Tell := ⟨52, [q46, q60], q29⟩
def t73 : Tell := ⟨40, [q46, q60], q22⟩
def t74 : Tell := ⟨131, [q30, q1, q41], (.v (.bool false))⟩
def t75 : Tell := ⟨52, [q46, q7], q29⟩
def t76 : Tell := ⟨40, [q46, q7], q22⟩
def t77 : Tell := ⟨131, [q30, q5, q42], (.v (.bool false))⟩
def t78 : Tell := ⟨52, [q46, q61], q48⟩
def t79 : Tell := ⟨73, [q46, q5], q49⟩
def t80 : Tell := ⟨38, [q46, q5], q62⟩
def t81 : Tell := ⟨40, [q46, q61], q63⟩
def t82 : Tell := ⟨131, [q30, q1, q43], (.v (.bool false))⟩
def t83 : Tell := ⟨104, [q43, q34], q18⟩
def t84 : Tell := ⟨77, [q31, q29], q18⟩
def t85 : Tell := ⟨52, [q46, q64], q31⟩
def t86 : Tell := ⟨40, [q46, q64], q28⟩
def t87 : Tell := ⟨31, [q46], q65⟩
def t88 : Tell := ⟨93, [q65, q22], q18⟩
def t89 : Tell := ⟨63, [q65, q22], (.v (.bool true))⟩
def t90 : Tell := ⟨33, [q9, q33, q22], (.tup [q46, .fn (.func 64) [] [.ro (.agg [q65]) 0, .ro q22 0], q10])⟩
def t91 : Tell := ⟨19, [q9, q33, q22], q67⟩
def t92 : Tell := ⟨47, [q45, q0], q10⟩
def t93 : Tell := ⟨47, [q45, q1], q18⟩
def t94 : Tell := ⟨47, [q45, q2], q14⟩
def t95 : Tell := ⟨47, [q45, q3], q8⟩
def t96 : Tell := ⟨47, [q45, q5], q61⟩
def t97 : Tell := ⟨24, [q9, q33], (.tup [q68, q10])⟩
def t98 : Tell := ⟨75, [.vs 1 [q32, q70] (some 2)], q71⟩
def t99 : Tell := ⟨127, [q46, q29], (.v (.bool true))⟩
def t100 : Tell := ⟨82, [q46, q29], (.v (.bool true))⟩
def t101 : Tell := ⟨191, [q44, q38], q58⟩
def t102 : Tell := ⟨167, [q44, q38], (.v (.bool true))⟩
def t103 : Tell := ⟨130, [q46, q38], (.v (.bool true))⟩
def t104 : Tell := ⟨129, [q46, q30], (.v (.bool true))⟩
def t105 : Tell := ⟨82, [q46, q30], (.v (.bool true))⟩
def t106 : Tell := ⟨191, [q44, q43], q64⟩
def t107 : Tell := ⟨167, [q44, q43], (.v (.bool true))⟩
def t108 : Tell := ⟨130, [q46, q43], (.v (.bool true))⟩
def t109 : Tell := ⟨132, [q46, q31], (.v (.bool true))⟩
def t110 : Tell := ⟨82, [q46, q31], (.v (.bool true))⟩
def t111 : Tell := ⟨127, [q46, q69], (.v (.bool true))⟩
def t112 : Tell := ⟨82, [q46, q69], (.v (.bool true))⟩
def t113 : Tell := ⟨55, [q46, q71], (.v (.bool true))⟩
def t114 : Tell := ⟨56, [q46, q71], q72⟩
def t115 : Tell := ⟨42, [q9, q33, q69], (.tup [q46, q72, q10])⟩
def t116 : Tell := ⟨52, [q72, q10], q48⟩
def t117 : Tell := ⟨73, [q72, q0], q49⟩
def t118 : Tell := ⟨38, [q72, q0], q50⟩
def t119 : Tell := ⟨40, [q72, q10], q51⟩
def t120 : Tell := ⟨77, [q69, q29], q18⟩
def t121 : Tell := ⟨52, [q72, q18], q69⟩
def t122 : Tell := ⟨40, [q72, q18], q28⟩
def t123 : Tell := ⟨52, [q72, q14], q48⟩
def t124 : Tell := ⟨73, [q72, q2], q49⟩
def t125 : Tell := ⟨38, [q72, q2], q52⟩
def t126 : Tell := ⟨40, [q72, q14], q53⟩
def t127 : Tell := ⟨52, [q72, q8], q48⟩
def t128 : Tell := ⟨73, [q72, q3], q55⟩
def t129 : Tell := ⟨73, [q72, q54], q49⟩
def t130 : Tell := ⟨38, [q72, q3], q56⟩
def t131 : Tell := ⟨40, [q72, q8], q57⟩
def t132 : Tell := ⟨52, [q72, q58], q30⟩
def t133 : Tell := ⟨40, [q72, q58], q25⟩
def t134 : Tell := ⟨52, [q72, q59], q48⟩
def t135 : Tell := ⟨40, [q72, q59], q51⟩
def t136 : Tell := ⟨52, [q72, q60], q69⟩
def t137 : Tell := ⟨40, [q72, q60], q28⟩
def t138 : Tell := ⟨52, [q72, q7], q69⟩
def t139 : Tell := ⟨40, [q72, q7], q28⟩
def t140 : Tell := ⟨52, [q72, q61], q48⟩
def t141 : Tell := ⟨73, [q72, q5], q49⟩
def t142 : Tell := ⟨38, [q72, q5], q62⟩
def t143 : Tell := ⟨40, [q72, q61], q63⟩
def t144 : Tell := ⟨104, [q34, q43], q73⟩
def t145 : Tell := ⟨77, [q69, q31], q73⟩
def t146 : Tell := ⟨52, [q72, q64], q31⟩
def t147 : Tell := ⟨40, [q72, q64], q28⟩
def t148 : Tell := ⟨31, [q72], q74⟩
def t149 : Tell := ⟨21, [q9, q33, q69], q67⟩
def t150 : Tell := ⟨29, [q9, q75], (.tup [q72, q10])⟩
def t151 : Tell := ⟨75, [.vs 1 [q76, q77] (some 2)], q77⟩
def t152 : Tell := ⟨56, [q72, q77], q78⟩
def t153 : Tell := ⟨51, [q72, q10], q78⟩
def t154 : Tell := ⟨52, [q78, q10], q48⟩
def t155 : Tell := ⟨73, [q78, q0], q49⟩
def t156 : Tell := ⟨38, [q78, q0], q50⟩
def t157 : Tell := ⟨40, [q78, q10], q51⟩
def t158 : Tell := ⟨77, [q69, q48], q18⟩
def t159 : Tell := ⟨52, [q78, q18], q69⟩
def t160 : Tell := ⟨40, [q78, q18], q28⟩
def t161 : Tell := ⟨52, [q78, q14], q48⟩
def t162 : Tell := ⟨73, [q78, q2], q49⟩
def t163 : Tell := ⟨38, [q78, q2], q52⟩
def t164 : Tell := ⟨40, [q78, q14], q53⟩
def t165 : Tell := ⟨52, [q78, q8], q48⟩
def t166 : Tell := ⟨73, [q78, q3], q55⟩
def t167 : Tell := ⟨73, [q78, q54], q49⟩
def t168 : Tell := ⟨38, [q78, q3], q56⟩
def t169 : Tell := ⟨40, [q78, q8], q57⟩
def t170 : Tell := ⟨52, [q78, q58], q30⟩
def t171 : Tell := ⟨40, [q78, q58], q25⟩
def t172 : Tell := ⟨52, [q78, q59], q48⟩
def t173 : Tell := ⟨40, [q78, q59], q51⟩
def t174 : Tell := ⟨52, [q78, q60], q69⟩
def t175 : Tell := ⟨40, [q78, q60], q28⟩
def t176 : Tell := ⟨52, [q78, q7], q69⟩
def t177 : Tell := ⟨40, [q78, q7], q28⟩
def t178 : Tell := ⟨52, [q78, q61], q48⟩
def t179 : Tell := ⟨73, [q78, q5], q49⟩
def t180 : Tell := ⟨38, [q78, q5], q62⟩
def t181 : Tell := ⟨40, [q78, q61], q63⟩
def t182 : Tell := ⟨77, [q31, q48], q18⟩
def t183 : Tell := ⟨52, [q78, q64], q31⟩
def t184 : Tell := ⟨40, [q78, q64], q28⟩
def t185 : Tell := ⟨31, [q78], q74⟩
def t186 : Tell := ⟨50, [q74, q74], (.v (.bool true))⟩
def t187 : Tell := ⟨75, [.vs 1 [.vs 9 [q29] none, .vs 9 [q31, q69] none] (some 2)], q79⟩
def t188 : Tell := ⟨56, [q72, q79], q80⟩
def t189 : Tell := ⟨51, [q72, q18], q80⟩
def t190 : Tell := ⟨52, [q80, q10], q48⟩
def t191 : Tell := ⟨73, [q80, q0], q49⟩
def t192 : Tell := ⟨38, [q80, q0], q50⟩
def t193 : Tell := ⟨40, [q80, q10], q51⟩
def t194 : Tell := ⟨52, [q80, q18], q69⟩
def t195 : Tell := ⟨40, [q80, q18], q28⟩
def t196 : Tell := ⟨52, [q80, q14], q48⟩
def t197 : Tell := ⟨73, [q80, q2], q49⟩
def t198 : Tell := ⟨38, [q80, q2], q52⟩
def t199 : Tell := ⟨40, [q80, q14], q53⟩
def t200 : Tell := ⟨52, [q80, q8], q48⟩
def t201 : Tell := ⟨73, [q80, q3], q55⟩
def t202 : Tell := ⟨73, [q80, q54], q49⟩
def t203 : Tell := ⟨38, [q80, q3], q56⟩
def t204 : Tell := ⟨40, [q80, q8], q57⟩
def t205 : Tell := ⟨52, [q80, q58], q48⟩
def t206 : Tell := ⟨40, [q80, q58], q57⟩
def t207 : Tell := ⟨52, [q80, q59], q48⟩
def t208 : Tell := ⟨40, [q80, q59], q51⟩
def t209 : Tell := ⟨52, [q80, q60], q69⟩
def t210 : Tell := ⟨40, [q80, q60], q28⟩
def t211 : Tell := ⟨52, [q80, q7], q69⟩
def t212 : Tell := ⟨40, [q80, q7], q28⟩
def t213 : Tell := ⟨52, [q80, q61], q48⟩
def t214 : Tell := ⟨73, [q80, q5], q49⟩
def t215 : Tell := ⟨38, [q80, q5], q62⟩
def t216 : Tell := ⟨40, [q80, q61], q63⟩
def t217 : Tell := ⟨52, [q80, q64], q31⟩
def t218 : Tell := ⟨40, [q80, q64], q28⟩
def t219 : Tell := ⟨31, [q80], q81⟩
def t220 : Tell := ⟨50, [q81, q74], (.v (.bool false))⟩
def t221 : Tell := ⟨75, [.vs 1 [.vs 9 [q29, q30] none, .vs 9 [q69] none] (some 2)], q82⟩
def t222 : Tell := ⟨56, [q72, q82], q83⟩
def t223 : Tell := ⟨51, [q72, q14], q83⟩
def t224 : Tell := ⟨52, [q83, q10], q48⟩
def t225 : Tell := ⟨73, [q83, q0], q49⟩
def t226 : Tell := ⟨38, [q83, q0], q50⟩
def t227 : Tell := ⟨40, [q83, q10], q51⟩
def t228 : Tell := ⟨52, [q83, q18], q69⟩
def t229 : Tell := ⟨40, [q83, q18], q28⟩
def t230 : Tell := ⟨52, [q83, q14], q48⟩
def t231 : Tell := ⟨73, [q83, q2], q49⟩
def t232 : Tell := ⟨38, [q83, q2], q52⟩
def t233 : Tell := ⟨40, [q83, q14], q53⟩
def t234 : Tell := ⟨52, [q83, q8], q48⟩
def t235 : Tell := ⟨73, [q83, q3], q55⟩
def t236 : Tell := ⟨73, [q83, q54], q49⟩
def t237 : Tell := ⟨38, [q83, q3], q56⟩
def t238 : Tell := ⟨40, [q83, q8], q57⟩
def t239 : Tell := ⟨52, [q83, q58], q30⟩
def t240 : Tell := ⟨40, [q83, q58], q25⟩
def t241 : Tell := ⟨52, [q83, q59], q48⟩
def t242 : Tell := ⟨40, [q83, q59], q51⟩
def t243 : Tell := ⟨52, [q83, q60], q69⟩
def t244 : Tell := ⟨40, [q83, q60], q28⟩
def t245 : Tell := ⟨52, [q83, q7], q69⟩
def t246 : Tell := ⟨40, [q83, q7], q28⟩
def t247 : Tell := ⟨52, [q83, q61], q48⟩
def t248 : Tell := ⟨73, [q83, q5], q49⟩
def t249 : Tell := ⟨38, [q83, q5], q62⟩
def t250 : Tell := ⟨40, [q83, q61], q63⟩
def t251 : Tell := ⟨52, [q83, q64], q69⟩
def t252 : Tell := ⟨40, [q83, q64], q28⟩
def t253 : Tell := ⟨31, [q83], q74⟩
def t254 : Tell := ⟨75, [.vs 1 [q32, q76] (some 2)], q32⟩
def t255 : Tell := ⟨56, [q72, q32], q46⟩
def t256 : Tell := ⟨51, [q72, q8], q46⟩
def t257 : Tell := ⟨50, [q65, q74], (.v (.bool false))⟩
def t258 : Tell := ⟨45, [.vs 9 [q29, q31] none], q84⟩
def t259 : Tell := ⟨25, [q9, q75], (.tup [q84, q10])⟩
def t260 : Tell := ⟨29, [q9, q88], (.tup [q90, q10])⟩
def t261 : Tell := ⟨45, [q89], q91⟩
def t262 : Tell := ⟨22, [q9, q88], (.tup [q91, q10])⟩
def t263 : Tell := ⟨75, [.vs 1 [q87, q70] (some 2)], q92⟩
def t264 : Tell := ⟨127, [q90, q29], (.v (.bool true))⟩
def t265 : Tell := ⟨82, [q90, q29], (.v (.bool true))⟩
def t266 : Tell := ⟨130, [q90, q38], (.v (.bool true))⟩
def t267 : Tell := ⟨129, [q90, q30], (.v (.bool true))⟩
def t268 : Tell := ⟨82, [q90, q30], (.v (.bool true))⟩
def t269 : Tell := ⟨130, [q90, q43], (.v (.bool true))⟩
def t270 : Tell := ⟨132, [q90, q31], (.v (.bool true))⟩
def t271 : Tell := ⟨82, [q90, q31], (.v (.bool true))⟩
def t272 : Tell := ⟨134, [q90, q86], (.v (.bool true))⟩
def t273 : Tell := ⟨82, [q90, q86], (.v (.bool true))⟩
def t274 : Tell := ⟨127, [q90, q69], (.v (.bool true))⟩
def t275 : Tell := ⟨82, [q90, q69], (.v (.bool true))⟩
def t276 : Tell := ⟨55, [q90, q92], (.v (.bool true))⟩
def t277 : Tell := ⟨56, [q90, q92], q94⟩
def t278 : Tell := ⟨42, [q9, q88, q69], (.tup [q90, q94, q10])⟩
def t279 : Tell := ⟨20, [q9, q88, q69], (.tup [.agg [q20, q93], q10])⟩
def t280 : Tell := ⟨17, [q9, q33, q3], (.tup [q56, q10])⟩
def t281 : Tell := ⟨15, [q56, q95], (.v (.bool true))⟩
def t282 : Tell := ⟨5, [q3, q95], (.v (.bool true))⟩
def t283 : Tell := ⟨74, [q9, q37], q96⟩
def t284 : Tell := ⟨39, [q9, q33, q37], (.tup [q46, q8, q10])⟩
def t285 : Tell := ⟨18, [q9, q33, q37], (.tup [q57, q10])⟩
def t286 : Tell := ⟨28, [q9, q33, q37], (.tup [q10, q10])⟩
def t287 : Tell := ⟨6, [q33, q37, q57, q10], (.v (.bool true))⟩
def t288 : Tell := ⟨74, [q9, q38], (.tup [q58, q10])⟩
def t289 : Tell := ⟨39, [q9, q33, q38], (.tup [q46, q58, q10])⟩
def t290 : Tell := ⟨18, [q9, q33, q38], (.tup [q25, q10])⟩
def t291 : Tell := ⟨28, [q9, q33, q38], (.tup [q14, q10])⟩
def t292 : Tell := ⟨6, [q33, q38, q25, q14], (.v (.bool true))⟩
def t293 : Tell := ⟨74, [q9, q43], (.tup [q64, q10])⟩
def t294 : Tell := ⟨39, [q9, q33, q43], (.tup [q46, q64, q10])⟩
def t295 : Tell := ⟨18, [q9, q33, q43], (.tup [q28, q10])⟩
def t296 : Tell := ⟨28, [q9, q33, q43], q96⟩
def t297 : Tell := ⟨6, [q33, q43, q28, q8], (.v (.bool true))⟩
def t298 : Tell := ⟨26, [q66, .vs 3 [q35, q40, q41] (some 3)], (.v (.bool true))⟩
def t299 : Tell := ⟨15, [q68, .vs 1 [q3, q1] (some 2)], (.v (.bool true))⟩
def t300 : Tell := ⟨27, [q84, .vs 1 [q18, q8] (some 2)], (.v (.bool true))⟩
def t301 : Tell := ⟨27, [q91, .vs 1 [q18, q14, q59] (some 3)], (.v (.bool true))⟩
def t302 : Tell := ⟨4, [], (.v (.bool true))⟩
def t303 : Tell := ⟨98, [q97, q11], q13⟩
def t304 : Tell := ⟨71, [q97], (.v (.bool true))⟩
def t305 : Tell := ⟨37, [q97], (.v (.bool true))⟩
def t306 : Tell := ⟨73, [q46, q97], (.tup [q1, .v (.bool true)])⟩
def t307 : Tell := ⟨73, [q46, q1], q49⟩
def t308 : Tell := ⟨38, [q46, q97], q98⟩
def t309 : Tell := ⟨17, [q9, q33, q97], (.tup [q98, q10])⟩
def t310 : Tell := ⟨15, [q98, q99], (.v (.bool true))⟩
def t311 : Tell := ⟨5, [q97, q99], (.v (.bool true))⟩
def t312 : Tell := ⟨98, [q2, q11], q13⟩
def t313 : Tell := ⟨71, [q2], (.v (.bool true))⟩
def t314 : Tell := ⟨37, [q2], (.v (.bool true))⟩
def t315 : Tell := ⟨17, [q9, q33, q2], (.tup [q52, q10])⟩
def t316 : Tell := ⟨15, [q52, q52], (.v (.bool true))⟩
def t317 : Tell := ⟨5, [q2, q52], (.v (.bool true))⟩
def t318 : Tell := ⟨74, [q9, q41], (.tup [q7, q10])⟩
def t319 : Tell := ⟨39, [q9, q33, q41], (.tup [q46, q7, q10])⟩
def t320 : Tell := ⟨18, [q9, q33, q41], q100⟩
def t321 : Tell := ⟨28, [q9, q33, q41], q101⟩
def t322 : Tell := ⟨6, [q33, q41, q22, q18], (.v (.bool true))⟩
def t323 : Tell := ⟨39, [q9, q88, q43], (.tup [q90, q64, q10])⟩
def t324 : Tell := ⟨52, [q90, q64], q29⟩
def t325 : Tell := ⟨40, [q90, q64], q22⟩
def t326 : Tell := ⟨18, [q9, q88, q43], q100⟩
def t327 : Tell := ⟨28, [q9, q88, q43], q101⟩
def t328 : Tell := ⟨6, [q88, q43, q22, q18], (.v (.bool true))⟩
def t329 : Tell := ⟨32, [q22, q51], q73⟩
def t330 : Tell := ⟨32, [q53, q51], q73⟩
def t331 : Tell := ⟨32, [q53, q22], q73⟩
def t332 : Tell := ⟨32, [q57, q51], q73⟩
def t333 : Tell := ⟨32, [q57, q22], q73⟩
def t334 : Tell := ⟨32, [q57, q53], q18⟩
def t335 : Tell := ⟨32, [q25, q51], q73⟩
def t336 : Tell := ⟨32, [q25, q22], q73⟩
def t337 : Tell := ⟨32, [q25, q57], q73⟩
def t338 : Tell := ⟨32, [q25, q53], q73⟩
def t339 : Tell := ⟨32, [q51, q51], q10⟩
def t340 : Tell := ⟨32, [q22, q22], q10⟩
def t341 : Tell := ⟨32, [q63, q51], q73⟩
def t342 : Tell := ⟨32, [q63, q22], q73⟩
def t343 : Tell := ⟨32, [q63, q57], q73⟩
def t344 : Tell := ⟨32, [q63, q53], q73⟩
def t345 : Tell := ⟨32, [q63, q25], q18⟩
def t346 : Tell := ⟨32, [q28, q51], q73⟩
def t347 : Tell := ⟨32, [q28, q22], q18⟩
def t348 : Tell := ⟨11, [q9, q33], (.tup [q102, q10])⟩
def t349 : Tell := ⟨93, [q65, q25], q58⟩
def t350 : Tell := ⟨63, [q65, q25], (.v (.bool true))⟩
def t351 : Tell := ⟨33, [q9, q33, q25], (.tup [q46, .fn (.func 64) [] [.ro (.agg [q65]) 0, .ro q25 0], q10])⟩
def t352 : Tell := ⟨13, [q9, q33, q25], (.tup [q103, q10])⟩
def t353 : Tell := ⟨93, [q65, q28], q64⟩
def t354 : Tell := ⟨63, [q65, q28], (.v (.bool true))⟩
def t355 : Tell := ⟨33, [q9, q33, q28], (.tup [q46, .fn (.func 64) [] [.ro (.agg [q65]) 0, .ro q28 0], q10])⟩
def t356 : Tell := ⟨13, [q9, q33, q28], (.tup [q104, q10])⟩
def t357 : Tell := ⟨14, [q102, .vs 2 [q25, q63, q53, q57, q22, q28, q51] (some 7)], (.v (.bool true))⟩
def t358 : Tell := ⟨15, [q103, .vs 1 [q3] (some 1)], (.v (.bool true))⟩
def t359 : Tell := ⟨15, [q104, .vs 1 [q1] (some 1)], (.v (.bool true))⟩
def t360 : Tell := ⟨98, [q105, q11], q106⟩
def t361 : Tell := ⟨71, [q105], (.v (.bool false))⟩
def t362 : Tell := ⟨37, [q105], (.v (.bool false))⟩
def t363 : Tell := ⟨17, [q9, q33, q105], q108⟩
def t364 : Tell := ⟨74, [q9, q109], (.tup [q10, q110])⟩
def t365 : Tell := ⟨39, [q9, q33, q109], (.tup [q111, q10, q110])⟩
def t366 : Tell := ⟨18, [q9, q33, q109], (.tup [.agg [q13, q47], q110])⟩
def t367 : Tell := ⟨62, [q112], (.v (.bool false))⟩
def t368 : Tell := ⟨33, [q9, q33, q112], (.tup [q111, .v .nilFunc, q14])⟩
def t369 : Tell := ⟨19, [q9, q33, q112], q108⟩
def t370 : Tell := ⟨62, [q113], (.v (.bool true))⟩
def t371 : Tell := ⟨93, [q65, q113], q73⟩
def t372 : Tell := ⟨63, [q65, q113], (.v (.bool false))⟩
def t373 : Tell := ⟨33, [q9, q33, q113], (.tup [q111, .v .nilFunc, q60])⟩
def t374 : Tell := ⟨19, [q9, q33, q113], (.tup [q107, q60])⟩
def t375 : Tell := ⟨75, [.vs 1 [q71, q70] (some 2)], q114⟩
def t376 : Tell := ⟨127, [q72, q29], (.v (.bool true))⟩
def t377 : Tell := ⟨82, [q72, q29], (.v (.bool true))⟩
def t378 : Tell := ⟨130, [q72, q38], (.v (.bool true))⟩
def t379 : Tell := ⟨129, [q72, q30], (.v (.bool true))⟩
def t380 : Tell := ⟨82, [q72, q30], (.v (.bool true))⟩
def t381 : Tell := ⟨130, [q72, q43], (.v (.bool true))⟩
def t382 : Tell := ⟨132, [q72, q31], (.v (.bool true))⟩
def t383 : Tell := ⟨82, [q72, q31], (.v (.bool true))⟩
def t384 : Tell := ⟨127, [q72, q69], (.v (.bool true))⟩
def t385 : Tell := ⟨82, [q72, q69], (.v (.bool true))⟩
def t386 : Tell := ⟨55, [q72, q114], (.v (.bool false))⟩
def t387 : Tell := ⟨42, [q9, q75, q69], q116⟩
def t388 : Tell := ⟨20, [q9, q75, q69], (.tup [.agg [q107, q107], q115])⟩
def t389 : Tell := ⟨75, [.vs 1 [q32, .vs 9 [q117] (some 1)] (some 2)], q118⟩
def t390 : Tell := ⟨82, [q46, q117], (.v (.bool false))⟩
def t391 : Tell := ⟨55, [q46, q118], (.v (.bool false))⟩
def t392 : Tell := ⟨42, [q9, q33, q117], q116⟩
def t393 : Tell := ⟨21, [q9, q33, q117], (.tup [q107, q115])⟩
def t394 : Tell := ⟨105, [q119], (.v (.bool false))⟩
def t395 : Tell := ⟨78, [q119], (.tup [q119, q120])⟩
def t396 : Tell := ⟨53, [q119], q120⟩
def t397 : Tell := ⟨29, [q119, q33], (.tup [q111, q120])⟩
def t398 : Tell := ⟨22, [q119, q33], (.tup [q107, q120])⟩
def t399 : Tell := ⟨81, [q121], (.v (.bool false))⟩
def t400 : Tell := ⟨80, [q121], (.v (.bool true))⟩
end Go.Ev
/- What calls answer that are met. Made by program. -/
namespace Go.Ev
set_option maxRecDepth 1000000
/- postil/leaf.isWord -/
theorem g0 : Good t0 := good [] trivial (by kernel_rfl) (by kernel_rfl)
/- postil/leaf.isWord -/
theorem g1 : Good t1 := good [] trivial (by kernel_rfl) (by kernel_rfl)
/- postil/leaf.isWord -/
theorem g2 : Good t2 := good [] trivial (by kernel_rfl) (by kernel_rfl)
/- postil/leaf.isWord -/
theorem g3 : Good t3 := good [] trivial (by kernel_rfl) (by kernel_rfl)
/- postil/leaf.isLines -/
theorem g4 : Good t4 := good [t0, t1, t2, t3] ⟨g0, g1, g2, g3, trivial⟩ (by kernel_rfl) (by kernel_rfl)
/- postil/leaf.isWord -/
theorem g5 : Good t5 := good [] trivial (by kernel_rfl) (by kernel_rfl)
/- postil/leaf.isLines -/
theorem g6 : Good t6 := good [t1, t5] ⟨g1, g5, trivial⟩ (by kernel_rfl) (by kernel_rfl)
/- postil/leaf.isText -/
theorem g7 : Good t7 := good [t4, t6] ⟨g4, g6, trivial⟩ (by kernel_rfl) (by kernel_rfl)
/- postil/leaf.begin -/
theorem g8 : Good t8 := good [t7] ⟨g7, trivial⟩ (by kernel_rfl) (by kernel_rfl)
/- postil/leaf.Check -/
theorem g9 : Good t9 := good [t8] ⟨g8, trivial⟩ (by kernel_rfl) (by kernel_rfl)
/- strings.makeASCIISet -/
theorem g10 : Good t10 := good [] trivial (by kernel_rfl) (by kernel_rfl)
/- strings.Trim -/
theorem g11 : Good t11 := good [t10] ⟨g10, trivial⟩ (by kernel_rfl) (by kernel_rfl)
/- postil/stem.areLetters -/
theorem g12 : Good t12 := good [t11] ⟨g11, trivial⟩ (by kernel_rfl) (by kernel_rfl)
/- strings.Trim -/
theorem g13 : Good t13 := good [] trivial (by kernel_rfl) (by kernel_rfl)
/- postil/stem.areLetters -/
theorem g14 : Good t14 := good [t13] ⟨g13, trivial⟩ (by kernel_rfl) (by kernel_rfl)
/- postil/stem.isRule -/
theorem g15 : Good t15 := good [t12, t14] ⟨g12, g14, trivial⟩ (by kernel_rfl) (by kernel_rfl)
/- postil/stem.areRules$1 -/
theorem g16 : Good t16 := good [t15] ⟨g15, trivial⟩ (by kernel_rfl) (by kernel_rfl)
/- strings.Trim -/
theorem g17 : Good t17 := good [t10] ⟨g10, trivial⟩ (by kernel_rfl) (by kernel_rfl)
/- postil/stem.areLetters -/
theorem g18 : Good t18 := good [t17] ⟨g17, trivial⟩ (by kernel_rfl) (by kernel_rfl)
/- strings.Trim -/
theorem g19 : Good t19 := good [t10] ⟨g10, trivial⟩ (by kernel_rfl) (by kernel_rfl)
/- postil/stem.areLetters -/
theorem g20 : Good t20 := good [t19] ⟨g19, trivial⟩ (by kernel_rfl) (by kernel_rfl)
/- postil/stem.isRule -/
theorem g21 : Good t21 := good [t18, t20] ⟨g18, g20, trivial⟩ (by kernel_rfl) (by kernel_rfl)
/- postil/stem.areRules$1 -/
theorem g22 : Good t22 := good [t21] ⟨g21, trivial⟩ (by kernel_rfl) (by kernel_rfl)
/- postil/stem.areRules -/
theorem g23 : Good t23 := good [t16, t22] ⟨g16, g22, trivial⟩ (by kernel_rfl) (by kernel_rfl)
/- strings.Trim -/
theorem g24 : Good t24 := good [t10] ⟨g10, trivial⟩ (by kernel_rfl) (by kernel_rfl)
/- postil/stem.areLetters -/
theorem g25 : Good t25 := good [t24] ⟨g24, trivial⟩ (by kernel_rfl) (by kernel_rfl)
/- postil/stem.isWord -/
theorem g26 : Good t26 := good [t25] ⟨g25, trivial⟩ (by kernel_rfl) (by kernel_rfl)
/- postil/stem.isHead -/
theorem g27 : Good t27 := good [t26] ⟨g26, trivial⟩ (by kernel_rfl) (by kernel_rfl)
/- strings.Trim -/
theorem g28 : Good t28 := good [t10] ⟨g10, trivial⟩ (by kernel_rfl) (by kernel_rfl)
/- postil/stem.areLetters -/
theorem g29 : Good t29 := good [t28] ⟨g28, trivial⟩ (by kernel_rfl) (by kernel_rfl)
/- postil/stem.isWord -/
theorem g30 : Good t30 := good [t29] ⟨g29, trivial⟩ (by kernel_rfl) (by kernel_rfl)
/- strings.Trim -/
theorem g31 : Good t31 := good [t10] ⟨g10, trivial⟩ (by kernel_rfl) (by kernel_rfl)
/- postil/stem.areLetters -/
theorem g32 : Good t32 := good [t31] ⟨g31, trivial⟩ (by kernel_rfl) (by kernel_rfl)
/- postil/stem.isWord -/
theorem g33 : Good t33 := good [t32] ⟨g32, trivial⟩ (by kernel_rfl) (by kernel_rfl)
/- postil/stem.isHead -/
theorem g34 : Good t34 := good [t33] ⟨g33, trivial⟩ (by kernel_rfl) (by kernel_rfl)
/- strings.Trim -/
theorem g35 : Good t35 := good [t10] ⟨g10, trivial⟩ (by kernel_rfl) (by kernel_rfl)
/- postil/stem.areLetters -/
theorem g36 : Good t36 := good [t35] ⟨g35, trivial⟩ (by kernel_rfl) (by kernel_rfl)
/- postil/stem.isWord -/
theorem g37 : Good t37 := good [t36] ⟨g36, trivial⟩ (by kernel_rfl) (by kernel_rfl)
/- postil/stem.isHead -/
theorem g38 : Good t38 := good [t37] ⟨g37, trivial⟩ (by kernel_rfl) (by kernel_rfl)
/- postil/stem.begin -/
theorem g39 : Good t39 := good [t9, t23, t26, t27, t30, t34, t38] ⟨g9, g23, g26, g27, g30, g34, g38, trivial⟩ (by kernel_rfl) (by kernel_rfl)
/- postil/stem.kinds$4 -/
theorem g40 : Good t40 := good [] trivial (by kernel_rfl) (by kernel_rfl)
/- (postil/stem.lexicon).decision -/
theorem g41 : Good t41 := good [t40] ⟨g40, trivial⟩ (by kernel_rfl) (by kernel_rfl)
/- (postil/stem.lexicon).turned -/
theorem g42 : Good t42 := good [] trivial (by kernel_rfl) (by kernel_rfl)
/- (postil/stem.lexicon).steps -/
theorem g43 : Good t43 := good [t42] ⟨g42, trivial⟩ (by kernel_rfl) (by kernel_rfl)
/- (postil/stem.lexicon).head -/
theorem g44 : Good t44 := good [t41, t43] ⟨g41, g43, trivial⟩ (by kernel_rfl) (by kernel_rfl)
/- postil/stem.comparePlaces -/
theorem g45 : Good t45 := good [] trivial (by kernel_rfl) (by kernel_rfl)
/- postil/stem.compareDecisions -/
theorem g46 : Good t46 := good [t45] ⟨g45, trivial⟩ (by kernel_rfl) (by kernel_rfl)
/- postil/stem.kinds$4 -/
theorem g47 : Good t47 := good [] trivial (by kernel_rfl) (by kernel_rfl)
/- (postil/stem.lexicon).decision -/
theorem g48 : Good t48 := good [t46, t47] ⟨g46, g47, trivial⟩ (by kernel_rfl) (by kernel_rfl)
/- (postil/stem.lexicon).head -/
theorem g49 : Good t49 := good [t48] ⟨g48, trivial⟩ (by kernel_rfl) (by kernel_rfl)
/- postil/stem.kinds$4 -/
theorem g50 : Good t50 := good [] trivial (by kernel_rfl) (by kernel_rfl)
/- (postil/stem.lexicon).decision -/
theorem g51 : Good t51 := good [t50] ⟨g50, trivial⟩ (by kernel_rfl) (by kernel_rfl)
/- (postil/stem.lexicon).turned -/
theorem g52 : Good t52 := good [] trivial (by kernel_rfl) (by kernel_rfl)
/- (postil/stem.lexicon).steps -/
theorem g53 : Good t53 := good [t52] ⟨g52, trivial⟩ (by kernel_rfl) (by kernel_rfl)
/- (postil/stem.lexicon).head -/
theorem g54 : Good t54 := good [t51, t53] ⟨g51, g53, trivial⟩ (by kernel_rfl) (by kernel_rfl)
/- postil/stem.comparePlaces -/
theorem g55 : Good t55 := good [] trivial (by kernel_rfl) (by kernel_rfl)
/- postil/stem.kinds$4 -/
theorem g56 : Good t56 := good [t55] ⟨g55, trivial⟩ (by kernel_rfl) (by kernel_rfl)
/- (postil/stem.lexicon).decision -/
theorem g57 : Good t57 := good [t56] ⟨g56, trivial⟩ (by kernel_rfl) (by kernel_rfl)
/- (postil/stem.lexicon).turned -/
theorem g58 : Good t58 := good [] trivial (by kernel_rfl) (by kernel_rfl)
/- (postil/stem.lexicon).turned -/
theorem g59 : Good t59 := good [] trivial (by kernel_rfl) (by kernel_rfl)
/- (postil/stem.lexicon).steps -/
theorem g60 : Good t60 := good [t58, t59] ⟨g58, g59, trivial⟩ (by kernel_rfl) (by kernel_rfl)
/- (postil/stem.lexicon).head -/
theorem g61 : Good t61 := good [t57, t60] ⟨g57, g60, trivial⟩ (by kernel_rfl) (by kernel_rfl)
/- postil/stem.comparePlaces -/
theorem g62 : Good t62 := good [] trivial (by kernel_rfl) (by kernel_rfl)
/- postil/stem.kinds$4 -/
theorem g63 : Good t63 := good [t62] ⟨g62, trivial⟩ (by kernel_rfl) (by kernel_rfl)
/- postil/stem.comparePlaces -/
theorem g64 : Good t64 := good [] trivial (by kernel_rfl) (by kernel_rfl)
/- postil/stem.compareDecisions -/
theorem g65 : Good t65 := good [t64] ⟨g64, trivial⟩ (by kernel_rfl) (by kernel_rfl)
/- (postil/stem.lexicon).decision -/
theorem g66 : Good t66 := good [t63, t65] ⟨g63, g65, trivial⟩ (by kernel_rfl) (by kernel_rfl)
/- (postil/stem.lexicon).head -/
theorem g67 : Good t67 := good [t66] ⟨g66, trivial⟩ (by kernel_rfl) (by kernel_rfl)
/- postil/stem.kinds$4 -/
theorem g68 : Good t68 := good [] trivial (by kernel_rfl) (by kernel_rfl)
/- (postil/stem.lexicon).decision -/
theorem g69 : Good t69 := good [t68] ⟨g68, trivial⟩ (by kernel_rfl) (by kernel_rfl)
/- (postil/stem.lexicon).head -/
theorem g70 : Good t70 := good [t43, t69] ⟨g43, g69, trivial⟩ (by kernel_rfl) (by kernel_rfl)
/- postil/stem.kinds$4 -/
theorem g71 : Good t71 := good [] trivial (by kernel_rfl) (by kernel_rfl)
/- (postil/stem.lexicon).decision -/
theorem g72 : Good t72 := good [t46, t71] ⟨g46, g71, trivial⟩ (by kernel_rfl) (by kernel_rfl)
/- (postil/stem.lexicon).head -/
theorem g73 : Good t73 := good [t72] ⟨g72, trivial⟩ (by kernel_rfl) (by kernel_rfl)
/- postil/stem.kinds$4 -/
theorem g74 : Good t74 := good [] trivial (by kernel_rfl) (by kernel_rfl)
/- (postil/stem.lexicon).decision -/
theorem g75 : Good t75 := good [t46, t74] ⟨g46, g74, trivial⟩ (by kernel_rfl) (by kernel_rfl)
/- (postil/stem.lexicon).head -/
theorem g76 : Good t76 := good [t75] ⟨g75, trivial⟩ (by kernel_rfl) (by kernel_rfl)
/- postil/stem.kinds$4 -/
theorem g77 : Good t77 := good [] trivial (by kernel_rfl) (by kernel_rfl)
/- (postil/stem.lexicon).decision -/
theorem g78 : Good t78 := good [t77] ⟨g77, trivial⟩ (by kernel_rfl) (by kernel_rfl)
/- (postil/stem.lexicon).turned -/
theorem g79 : Good t79 := good [] trivial (by kernel_rfl) (by kernel_rfl)
/- (postil/stem.lexicon).steps -/
theorem g80 : Good t80 := good [t79] ⟨g79, trivial⟩ (by kernel_rfl) (by kernel_rfl)
/- (postil/stem.lexicon).head -/
theorem g81 : Good t81 := good [t78, t80] ⟨g78, g80, trivial⟩ (by kernel_rfl) (by kernel_rfl)
/- postil/stem.kinds$4 -/
theorem g82 : Good t82 := good [] trivial (by kernel_rfl) (by kernel_rfl)
/- postil/stem.comparePlaces -/
theorem g83 : Good t83 := good [] trivial (by kernel_rfl) (by kernel_rfl)
/- postil/stem.compareDecisions -/
theorem g84 : Good t84 := good [t83] ⟨g83, trivial⟩ (by kernel_rfl) (by kernel_rfl)
/- (postil/stem.lexicon).decision -/
theorem g85 : Good t85 := good [t46, t82, t84] ⟨g46, g82, g84, trivial⟩ (by kernel_rfl) (by kernel_rfl)
/- (postil/stem.lexicon).head -/
theorem g86 : Good t86 := good [t85] ⟨g85, trivial⟩ (by kernel_rfl) (by kernel_rfl)
/- (postil/stem.lexicon).heads -/
theorem g87 : Good t87 := good [t44, t49, t54, t61, t67, t70, t73, t76, t81, t86] ⟨g44, g49, g54, g61, g67, g70, g73, g76, g81, g86, trivial⟩ (by kernel_rfl) (by kernel_rfl)
/- slices.Index[[]postil/api.Head,postil/api.Head] -/
theorem g88 : Good t88 := good [] trivial (by kernel_rfl) (by kernel_rfl)
/- slices.Contains[[]postil/api.Head,postil/api.Head] -/
theorem g89 : Good t89 := good [t88] ⟨g88, trivial⟩ (by kernel_rfl) (by kernel_rfl)
/- postil/stem.beginUnder -/
theorem g90 : Good t90 := good [t27, t39, t87, t89] ⟨g27, g39, g87, g89, trivial⟩ (by kernel_rfl) (by kernel_rfl)
/- postil/stem.Under -/
theorem g91 : Good t91 := good [t90] ⟨g90, trivial⟩ (by kernel_rfl) (by kernel_rfl)
/- slices.Index[[]string,string] -/
theorem g92 : Good t92 := good [] trivial (by kernel_rfl) (by kernel_rfl)
/- slices.Index[[]string,string] -/
theorem g93 : Good t93 := good [] trivial (by kernel_rfl) (by kernel_rfl)
/- slices.Index[[]string,string] -/
theorem g94 : Good t94 := good [] trivial (by kernel_rfl) (by kernel_rfl)
/- slices.Index[[]string,string] -/
theorem g95 : Good t95 := good [] trivial (by kernel_rfl) (by kernel_rfl)
/- slices.Index[[]string,string] -/
theorem g96 : Good t96 := good [] trivial (by kernel_rfl) (by kernel_rfl)
/- postil/stem.Homographs -/
theorem g97 : Good t97 := good [t39, t87, t92, t93, t94, t95, t96] ⟨g39, g87, g92, g93, g94, g95, g96, trivial⟩ (by kernel_rfl) (by kernel_rfl)
/- slices.Concat[[]postil/api.Decision,postil/api.Decision] -/
theorem g98 : Good t98 := good [] trivial (by kernel_rfl) (by kernel_rfl)
/- postil/stem.kinds$1 -/
theorem g99 : Good t99 := good [t26, t27] ⟨g26, g27, trivial⟩ (by kernel_rfl) (by kernel_rfl)
/- (postil/stem.lexicon).isDecision -/
theorem g100 : Good t100 := good [t99] ⟨g99, trivial⟩ (by kernel_rfl) (by kernel_rfl)
/- slices.Index[[]postil/api.Place,postil/api.Place] -/
theorem g101 : Good t101 := good [] trivial (by kernel_rfl) (by kernel_rfl)
/- slices.Contains[[]postil/api.Place,postil/api.Place] -/
theorem g102 : Good t102 := good [t101] ⟨g101, trivial⟩ (by kernel_rfl) (by kernel_rfl)
/- (postil/stem.lexicon).hasPlace -/
theorem g103 : Good t103 := good [t102] ⟨g102, trivial⟩ (by kernel_rfl) (by kernel_rfl)
/- postil/stem.kinds$3 -/
theorem g104 : Good t104 := good [t30, t34, t103] ⟨g30, g34, g103, trivial⟩ (by kernel_rfl) (by kernel_rfl)
/- (postil/stem.lexicon).isDecision -/
theorem g105 : Good t105 := good [t104] ⟨g104, trivial⟩ (by kernel_rfl) (by kernel_rfl)
/- slices.Index[[]postil/api.Place,postil/api.Place] -/
theorem g106 : Good t106 := good [] trivial (by kernel_rfl) (by kernel_rfl)
/- slices.Contains[[]postil/api.Place,postil/api.Place] -/
theorem g107 : Good t107 := good [t106] ⟨g106, trivial⟩ (by kernel_rfl) (by kernel_rfl)
/- (postil/stem.lexicon).hasPlace -/
theorem g108 : Good t108 := good [t107] ⟨g107, trivial⟩ (by kernel_rfl) (by kernel_rfl)
/- postil/stem.kinds$5 -/
theorem g109 : Good t109 := good [t38, t108] ⟨g38, g108, trivial⟩ (by kernel_rfl) (by kernel_rfl)
/- (postil/stem.lexicon).isDecision -/
theorem g110 : Good t110 := good [t109] ⟨g109, trivial⟩ (by kernel_rfl) (by kernel_rfl)
/- postil/stem.kinds$1 -/
theorem g111 : Good t111 := good [t26, t38] ⟨g26, g38, trivial⟩ (by kernel_rfl) (by kernel_rfl)
/- (postil/stem.lexicon).isDecision -/
theorem g112 : Good t112 := good [t111] ⟨g111, trivial⟩ (by kernel_rfl) (by kernel_rfl)
/- (postil/stem.lexicon).areDecisions -/
theorem g113 : Good t113 := good [t100, t105, t110, t112] ⟨g100, g105, g110, g112, trivial⟩ (by kernel_rfl) (by kernel_rfl)
/- (postil/stem.lexicon).deciding -/
theorem g114 : Good t114 := good [] trivial (by kernel_rfl) (by kernel_rfl)
/- postil/stem.beginMore -/
theorem g115 : Good t115 := good [t39, t98, t113, t114] ⟨g39, g98, g113, g114, trivial⟩ (by kernel_rfl) (by kernel_rfl)
/- (postil/stem.lexicon).decision -/
theorem g116 : Good t116 := good [t40] ⟨g40, trivial⟩ (by kernel_rfl) (by kernel_rfl)
/- (postil/stem.lexicon).turned -/
theorem g117 : Good t117 := good [] trivial (by kernel_rfl) (by kernel_rfl)
/- (postil/stem.lexicon).steps -/
theorem g118 : Good t118 := good [t117] ⟨g117, trivial⟩ (by kernel_rfl) (by kernel_rfl)
/- (postil/stem.lexicon).head -/
theorem g119 : Good t119 := good [t116, t118] ⟨g116, g118, trivial⟩ (by kernel_rfl) (by kernel_rfl)
/- postil/stem.compareDecisions -/
theorem g120 : Good t120 := good [t45] ⟨g45, trivial⟩ (by kernel_rfl) (by kernel_rfl)
/- (postil/stem.lexicon).decision -/
theorem g121 : Good t121 := good [t46, t47, t120] ⟨g46, g47, g120, trivial⟩ (by kernel_rfl) (by kernel_rfl)
/- (postil/stem.lexicon).head -/
theorem g122 : Good t122 := good [t121] ⟨g121, trivial⟩ (by kernel_rfl) (by kernel_rfl)
/- (postil/stem.lexicon).decision -/
theorem g123 : Good t123 := good [t50] ⟨g50, trivial⟩ (by kernel_rfl) (by kernel_rfl)
/- (postil/stem.lexicon).turned -/
theorem g124 : Good t124 := good [] trivial (by kernel_rfl) (by kernel_rfl)
/- (postil/stem.lexicon).steps -/
theorem g125 : Good t125 := good [t124] ⟨g124, trivial⟩ (by kernel_rfl) (by kernel_rfl)
/- (postil/stem.lexicon).head -/
theorem g126 : Good t126 := good [t123, t125] ⟨g123, g125, trivial⟩ (by kernel_rfl) (by kernel_rfl)
/- (postil/stem.lexicon).decision -/
theorem g127 : Good t127 := good [t56] ⟨g56, trivial⟩ (by kernel_rfl) (by kernel_rfl)
/- (postil/stem.lexicon).turned -/
theorem g128 : Good t128 := good [] trivial (by kernel_rfl) (by kernel_rfl)
/- (postil/stem.lexicon).turned -/
theorem g129 : Good t129 := good [] trivial (by kernel_rfl) (by kernel_rfl)
/- (postil/stem.lexicon).steps -/
theorem g130 : Good t130 := good [t128, t129] ⟨g128, g129, trivial⟩ (by kernel_rfl) (by kernel_rfl)
/- (postil/stem.lexicon).head -/
theorem g131 : Good t131 := good [t127, t130] ⟨g127, g130, trivial⟩ (by kernel_rfl) (by kernel_rfl)
/- (postil/stem.lexicon).decision -/
theorem g132 : Good t132 := good [t63, t65] ⟨g63, g65, trivial⟩ (by kernel_rfl) (by kernel_rfl)
/- (postil/stem.lexicon).head -/
theorem g133 : Good t133 := good [t132] ⟨g132, trivial⟩ (by kernel_rfl) (by kernel_rfl)
/- (postil/stem.lexicon).decision -/
theorem g134 : Good t134 := good [t68] ⟨g68, trivial⟩ (by kernel_rfl) (by kernel_rfl)
/- (postil/stem.lexicon).head -/
theorem g135 : Good t135 := good [t118, t134] ⟨g118, g134, trivial⟩ (by kernel_rfl) (by kernel_rfl)
/- (postil/stem.lexicon).decision -/
theorem g136 : Good t136 := good [t46, t71, t120] ⟨g46, g71, g120, trivial⟩ (by kernel_rfl) (by kernel_rfl)
/- (postil/stem.lexicon).head -/
theorem g137 : Good t137 := good [t136] ⟨g136, trivial⟩ (by kernel_rfl) (by kernel_rfl)
/- (postil/stem.lexicon).decision -/
theorem g138 : Good t138 := good [t46, t74, t120] ⟨g46, g74, g120, trivial⟩ (by kernel_rfl) (by kernel_rfl)
/- (postil/stem.lexicon).head -/
theorem g139 : Good t139 := good [t138] ⟨g138, trivial⟩ (by kernel_rfl) (by kernel_rfl)
/- (postil/stem.lexicon).decision -/
theorem g140 : Good t140 := good [t77] ⟨g77, trivial⟩ (by kernel_rfl) (by kernel_rfl)
/- (postil/stem.lexicon).turned -/
theorem g141 : Good t141 := good [] trivial (by kernel_rfl) (by kernel_rfl)
/- (postil/stem.lexicon).steps -/
theorem g142 : Good t142 := good [t141] ⟨g141, trivial⟩ (by kernel_rfl) (by kernel_rfl)
/- (postil/stem.lexicon).head -/
theorem g143 : Good t143 := good [t140, t142] ⟨g140, g142, trivial⟩ (by kernel_rfl) (by kernel_rfl)
/- postil/stem.comparePlaces -/
theorem g144 : Good t144 := good [] trivial (by kernel_rfl) (by kernel_rfl)
/- postil/stem.compareDecisions -/
theorem g145 : Good t145 := good [t144] ⟨g144, trivial⟩ (by kernel_rfl) (by kernel_rfl)
/- (postil/stem.lexicon).decision -/
theorem g146 : Good t146 := good [t46, t82, t84, t145] ⟨g46, g82, g84, g145, trivial⟩ (by kernel_rfl) (by kernel_rfl)
/- (postil/stem.lexicon).head -/
theorem g147 : Good t147 := good [t146] ⟨g146, trivial⟩ (by kernel_rfl) (by kernel_rfl)
/- (postil/stem.lexicon).heads -/
theorem g148 : Good t148 := good [t119, t122, t126, t131, t133, t135, t137, t139, t143, t147] ⟨g119, g122, g126, g131, g133, g135, g137, g139, g143, g147, trivial⟩ (by kernel_rfl) (by kernel_rfl)
/- postil/stem.Changes -/
theorem g149 : Good t149 := good [t87, t115, t148] ⟨g87, g115, g148, trivial⟩ (by kernel_rfl) (by kernel_rfl)
/- postil/stem.begin -/
theorem g150 : Good t150 := good [t9, t23, t26, t27, t30, t34, t38] ⟨g9, g23, g26, g27, g30, g34, g38, trivial⟩ (by kernel_rfl) (by kernel_rfl)
/- slices.Concat[[]postil/api.Decision,postil/api.Decision] -/
theorem g151 : Good t151 := good [] trivial (by kernel_rfl) (by kernel_rfl)
/- (postil/stem.lexicon).deciding -/
theorem g152 : Good t152 := good [] trivial (by kernel_rfl) (by kernel_rfl)
/- (postil/stem.lexicon).without -/
theorem g153 : Good t153 := good [t151, t152] ⟨g151, g152, trivial⟩ (by kernel_rfl) (by kernel_rfl)
/- (postil/stem.lexicon).decision -/
theorem g154 : Good t154 := good [t40] ⟨g40, trivial⟩ (by kernel_rfl) (by kernel_rfl)
/- (postil/stem.lexicon).turned -/
theorem g155 : Good t155 := good [] trivial (by kernel_rfl) (by kernel_rfl)
/- (postil/stem.lexicon).steps -/
theorem g156 : Good t156 := good [t155] ⟨g155, trivial⟩ (by kernel_rfl) (by kernel_rfl)
/- (postil/stem.lexicon).head -/
theorem g157 : Good t157 := good [t154, t156] ⟨g154, g156, trivial⟩ (by kernel_rfl) (by kernel_rfl)
/- postil/stem.compareDecisions -/
theorem g158 : Good t158 := good [t45] ⟨g45, trivial⟩ (by kernel_rfl) (by kernel_rfl)
/- (postil/stem.lexicon).decision -/
theorem g159 : Good t159 := good [t47, t158] ⟨g47, g158, trivial⟩ (by kernel_rfl) (by kernel_rfl)
/- (postil/stem.lexicon).head -/
theorem g160 : Good t160 := good [t159] ⟨g159, trivial⟩ (by kernel_rfl) (by kernel_rfl)
/- (postil/stem.lexicon).decision -/
theorem g161 : Good t161 := good [t50] ⟨g50, trivial⟩ (by kernel_rfl) (by kernel_rfl)
/- (postil/stem.lexicon).turned -/
theorem g162 : Good t162 := good [] trivial (by kernel_rfl) (by kernel_rfl)
/- (postil/stem.lexicon).steps -/
theorem g163 : Good t163 := good [t162] ⟨g162, trivial⟩ (by kernel_rfl) (by kernel_rfl)
/- (postil/stem.lexicon).head -/
theorem g164 : Good t164 := good [t161, t163] ⟨g161, g163, trivial⟩ (by kernel_rfl) (by kernel_rfl)
/- (postil/stem.lexicon).decision -/
theorem g165 : Good t165 := good [t56] ⟨g56, trivial⟩ (by kernel_rfl) (by kernel_rfl)
/- (postil/stem.lexicon).turned -/
theorem g166 : Good t166 := good [] trivial (by kernel_rfl) (by kernel_rfl)
/- (postil/stem.lexicon).turned -/
theorem g167 : Good t167 := good [] trivial (by kernel_rfl) (by kernel_rfl)
/- (postil/stem.lexicon).steps -/
theorem g168 : Good t168 := good [t166, t167] ⟨g166, g167, trivial⟩ (by kernel_rfl) (by kernel_rfl)
/- (postil/stem.lexicon).head -/
theorem g169 : Good t169 := good [t165, t168] ⟨g165, g168, trivial⟩ (by kernel_rfl) (by kernel_rfl)
/- (postil/stem.lexicon).decision -/
theorem g170 : Good t170 := good [t63, t65] ⟨g63, g65, trivial⟩ (by kernel_rfl) (by kernel_rfl)
/- (postil/stem.lexicon).head -/
theorem g171 : Good t171 := good [t170] ⟨g170, trivial⟩ (by kernel_rfl) (by kernel_rfl)
/- (postil/stem.lexicon).decision -/
theorem g172 : Good t172 := good [t68] ⟨g68, trivial⟩ (by kernel_rfl) (by kernel_rfl)
/- (postil/stem.lexicon).head -/
theorem g173 : Good t173 := good [t156, t172] ⟨g156, g172, trivial⟩ (by kernel_rfl) (by kernel_rfl)
/- (postil/stem.lexicon).decision -/
theorem g174 : Good t174 := good [t71, t158] ⟨g71, g158, trivial⟩ (by kernel_rfl) (by kernel_rfl)
/- (postil/stem.lexicon).head -/
theorem g175 : Good t175 := good [t174] ⟨g174, trivial⟩ (by kernel_rfl) (by kernel_rfl)
/- (postil/stem.lexicon).decision -/
theorem g176 : Good t176 := good [t74, t158] ⟨g74, g158, trivial⟩ (by kernel_rfl) (by kernel_rfl)
/- (postil/stem.lexicon).head -/
theorem g177 : Good t177 := good [t176] ⟨g176, trivial⟩ (by kernel_rfl) (by kernel_rfl)
/- (postil/stem.lexicon).decision -/
theorem g178 : Good t178 := good [t77] ⟨g77, trivial⟩ (by kernel_rfl) (by kernel_rfl)
/- (postil/stem.lexicon).turned -/
theorem g179 : Good t179 := good [] trivial (by kernel_rfl) (by kernel_rfl)
/- (postil/stem.lexicon).steps -/
theorem g180 : Good t180 := good [t179] ⟨g179, trivial⟩ (by kernel_rfl) (by kernel_rfl)
/- (postil/stem.lexicon).head -/
theorem g181 : Good t181 := good [t178, t180] ⟨g178, g180, trivial⟩ (by kernel_rfl) (by kernel_rfl)
/- postil/stem.compareDecisions -/
theorem g182 : Good t182 := good [t83] ⟨g83, trivial⟩ (by kernel_rfl) (by kernel_rfl)
/- (postil/stem.lexicon).decision -/
theorem g183 : Good t183 := good [t82, t145, t182] ⟨g82, g145, g182, trivial⟩ (by kernel_rfl) (by kernel_rfl)
/- (postil/stem.lexicon).head -/
theorem g184 : Good t184 := good [t183] ⟨g183, trivial⟩ (by kernel_rfl) (by kernel_rfl)
/- (postil/stem.lexicon).heads -/
theorem g185 : Good t185 := good [t157, t160, t164, t169, t171, t173, t175, t177, t181, t184] ⟨g157, g160, g164, g169, g171, g173, g175, g177, g181, g184, trivial⟩ (by kernel_rfl) (by kernel_rfl)
/- slices.Equal[[]postil/api.Head,postil/api.Head] -/
theorem g186 : Good t186 := good [] trivial (by kernel_rfl) (by kernel_rfl)
/- slices.Concat[[]postil/api.Decision,postil/api.Decision] -/
theorem g187 : Good t187 := good [] trivial (by kernel_rfl) (by kernel_rfl)
/- (postil/stem.lexicon).deciding -/
theorem g188 : Good t188 := good [] trivial (by kernel_rfl) (by kernel_rfl)
/- (postil/stem.lexicon).without -/
theorem g189 : Good t189 := good [t187, t188] ⟨g187, g188, trivial⟩ (by kernel_rfl) (by kernel_rfl)
/- (postil/stem.lexicon).decision -/
theorem g190 : Good t190 := good [] trivial (by kernel_rfl) (by kernel_rfl)
/- (postil/stem.lexicon).turned -/
theorem g191 : Good t191 := good [] trivial (by kernel_rfl) (by kernel_rfl)
/- (postil/stem.lexicon).steps -/
theorem g192 : Good t192 := good [t191] ⟨g191, trivial⟩ (by kernel_rfl) (by kernel_rfl)
/- (postil/stem.lexicon).head -/
theorem g193 : Good t193 := good [t190, t192] ⟨g190, g192, trivial⟩ (by kernel_rfl) (by kernel_rfl)
/- (postil/stem.lexicon).decision -/
theorem g194 : Good t194 := good [t46, t120] ⟨g46, g120, trivial⟩ (by kernel_rfl) (by kernel_rfl)
/- (postil/stem.lexicon).head -/
theorem g195 : Good t195 := good [t194] ⟨g194, trivial⟩ (by kernel_rfl) (by kernel_rfl)
/- (postil/stem.lexicon).decision -/
theorem g196 : Good t196 := good [] trivial (by kernel_rfl) (by kernel_rfl)
/- (postil/stem.lexicon).turned -/
theorem g197 : Good t197 := good [] trivial (by kernel_rfl) (by kernel_rfl)
/- (postil/stem.lexicon).steps -/
theorem g198 : Good t198 := good [t197] ⟨g197, trivial⟩ (by kernel_rfl) (by kernel_rfl)
/- (postil/stem.lexicon).head -/
theorem g199 : Good t199 := good [t196, t198] ⟨g196, g198, trivial⟩ (by kernel_rfl) (by kernel_rfl)
/- (postil/stem.lexicon).decision -/
theorem g200 : Good t200 := good [] trivial (by kernel_rfl) (by kernel_rfl)
/- (postil/stem.lexicon).turned -/
theorem g201 : Good t201 := good [] trivial (by kernel_rfl) (by kernel_rfl)
/- (postil/stem.lexicon).turned -/
theorem g202 : Good t202 := good [] trivial (by kernel_rfl) (by kernel_rfl)
/- (postil/stem.lexicon).steps -/
theorem g203 : Good t203 := good [t201, t202] ⟨g201, g202, trivial⟩ (by kernel_rfl) (by kernel_rfl)
/- (postil/stem.lexicon).head -/
theorem g204 : Good t204 := good [t200, t203] ⟨g200, g203, trivial⟩ (by kernel_rfl) (by kernel_rfl)
/- (postil/stem.lexicon).decision -/
theorem g205 : Good t205 := good [] trivial (by kernel_rfl) (by kernel_rfl)
/- (postil/stem.lexicon).head -/
theorem g206 : Good t206 := good [t203, t205] ⟨g203, g205, trivial⟩ (by kernel_rfl) (by kernel_rfl)
/- (postil/stem.lexicon).decision -/
theorem g207 : Good t207 := good [] trivial (by kernel_rfl) (by kernel_rfl)
/- (postil/stem.lexicon).head -/
theorem g208 : Good t208 := good [t192, t207] ⟨g192, g207, trivial⟩ (by kernel_rfl) (by kernel_rfl)
/- (postil/stem.lexicon).decision -/
theorem g209 : Good t209 := good [t46, t120] ⟨g46, g120, trivial⟩ (by kernel_rfl) (by kernel_rfl)
/- (postil/stem.lexicon).head -/
theorem g210 : Good t210 := good [t209] ⟨g209, trivial⟩ (by kernel_rfl) (by kernel_rfl)
/- (postil/stem.lexicon).decision -/
theorem g211 : Good t211 := good [t46, t120] ⟨g46, g120, trivial⟩ (by kernel_rfl) (by kernel_rfl)
/- (postil/stem.lexicon).head -/
theorem g212 : Good t212 := good [t211] ⟨g211, trivial⟩ (by kernel_rfl) (by kernel_rfl)
/- (postil/stem.lexicon).decision -/
theorem g213 : Good t213 := good [] trivial (by kernel_rfl) (by kernel_rfl)
/- (postil/stem.lexicon).turned -/
theorem g214 : Good t214 := good [] trivial (by kernel_rfl) (by kernel_rfl)
/- (postil/stem.lexicon).steps -/
theorem g215 : Good t215 := good [t214] ⟨g214, trivial⟩ (by kernel_rfl) (by kernel_rfl)
/- (postil/stem.lexicon).head -/
theorem g216 : Good t216 := good [t213, t215] ⟨g213, g215, trivial⟩ (by kernel_rfl) (by kernel_rfl)
/- (postil/stem.lexicon).decision -/
theorem g217 : Good t217 := good [t46, t84, t145] ⟨g46, g84, g145, trivial⟩ (by kernel_rfl) (by kernel_rfl)
/- (postil/stem.lexicon).head -/
theorem g218 : Good t218 := good [t217] ⟨g217, trivial⟩ (by kernel_rfl) (by kernel_rfl)
/- (postil/stem.lexicon).heads -/
theorem g219 : Good t219 := good [t193, t195, t199, t204, t206, t208, t210, t212, t216, t218] ⟨g193, g195, g199, g204, g206, g208, g210, g212, g216, g218, trivial⟩ (by kernel_rfl) (by kernel_rfl)
/- slices.Equal[[]postil/api.Head,postil/api.Head] -/
theorem g220 : Good t220 := good [] trivial (by kernel_rfl) (by kernel_rfl)
/- slices.Concat[[]postil/api.Decision,postil/api.Decision] -/
theorem g221 : Good t221 := good [] trivial (by kernel_rfl) (by kernel_rfl)
/- (postil/stem.lexicon).deciding -/
theorem g222 : Good t222 := good [] trivial (by kernel_rfl) (by kernel_rfl)
/- (postil/stem.lexicon).without -/
theorem g223 : Good t223 := good [t221, t222] ⟨g221, g222, trivial⟩ (by kernel_rfl) (by kernel_rfl)
/- (postil/stem.lexicon).decision -/
theorem g224 : Good t224 := good [t40] ⟨g40, trivial⟩ (by kernel_rfl) (by kernel_rfl)
/- (postil/stem.lexicon).turned -/
theorem g225 : Good t225 := good [] trivial (by kernel_rfl) (by kernel_rfl)
/- (postil/stem.lexicon).steps -/
theorem g226 : Good t226 := good [t225] ⟨g225, trivial⟩ (by kernel_rfl) (by kernel_rfl)
/- (postil/stem.lexicon).head -/
theorem g227 : Good t227 := good [t224, t226] ⟨g224, g226, trivial⟩ (by kernel_rfl) (by kernel_rfl)
/- (postil/stem.lexicon).decision -/
theorem g228 : Good t228 := good [t46, t47, t120] ⟨g46, g47, g120, trivial⟩ (by kernel_rfl) (by kernel_rfl)
/- (postil/stem.lexicon).head -/
theorem g229 : Good t229 := good [t228] ⟨g228, trivial⟩ (by kernel_rfl) (by kernel_rfl)
/- (postil/stem.lexicon).decision -/
theorem g230 : Good t230 := good [t50] ⟨g50, trivial⟩ (by kernel_rfl) (by kernel_rfl)
/- (postil/stem.lexicon).turned -/
theorem g231 : Good t231 := good [] trivial (by kernel_rfl) (by kernel_rfl)
/- (postil/stem.lexicon).steps -/
theorem g232 : Good t232 := good [t231] ⟨g231, trivial⟩ (by kernel_rfl) (by kernel_rfl)
/- (postil/stem.lexicon).head -/
theorem g233 : Good t233 := good [t230, t232] ⟨g230, g232, trivial⟩ (by kernel_rfl) (by kernel_rfl)
/- (postil/stem.lexicon).decision -/
theorem g234 : Good t234 := good [t56] ⟨g56, trivial⟩ (by kernel_rfl) (by kernel_rfl)
/- (postil/stem.lexicon).turned -/
theorem g235 : Good t235 := good [] trivial (by kernel_rfl) (by kernel_rfl)
/- (postil/stem.lexicon).turned -/
theorem g236 : Good t236 := good [] trivial (by kernel_rfl) (by kernel_rfl)
/- (postil/stem.lexicon).steps -/
theorem g237 : Good t237 := good [t235, t236] ⟨g235, g236, trivial⟩ (by kernel_rfl) (by kernel_rfl)
/- (postil/stem.lexicon).head -/
theorem g238 : Good t238 := good [t234, t237] ⟨g234, g237, trivial⟩ (by kernel_rfl) (by kernel_rfl)
/- (postil/stem.lexicon).decision -/
theorem g239 : Good t239 := good [t63, t65] ⟨g63, g65, trivial⟩ (by kernel_rfl) (by kernel_rfl)
/- (postil/stem.lexicon).head -/
theorem g240 : Good t240 := good [t239] ⟨g239, trivial⟩ (by kernel_rfl) (by kernel_rfl)
/- (postil/stem.lexicon).decision -/
theorem g241 : Good t241 := good [t68] ⟨g68, trivial⟩ (by kernel_rfl) (by kernel_rfl)
/- (postil/stem.lexicon).head -/
theorem g242 : Good t242 := good [t226, t241] ⟨g226, g241, trivial⟩ (by kernel_rfl) (by kernel_rfl)
/- (postil/stem.lexicon).decision -/
theorem g243 : Good t243 := good [t46, t71, t120] ⟨g46, g71, g120, trivial⟩ (by kernel_rfl) (by kernel_rfl)
/- (postil/stem.lexicon).head -/
theorem g244 : Good t244 := good [t243] ⟨g243, trivial⟩ (by kernel_rfl) (by kernel_rfl)
/- (postil/stem.lexicon).decision -/
theorem g245 : Good t245 := good [t46, t74, t120] ⟨g46, g74, g120, trivial⟩ (by kernel_rfl) (by kernel_rfl)
/- (postil/stem.lexicon).head -/
theorem g246 : Good t246 := good [t245] ⟨g245, trivial⟩ (by kernel_rfl) (by kernel_rfl)
/- (postil/stem.lexicon).decision -/
theorem g247 : Good t247 := good [t77] ⟨g77, trivial⟩ (by kernel_rfl) (by kernel_rfl)
/- (postil/stem.lexicon).turned -/
theorem g248 : Good t248 := good [] trivial (by kernel_rfl) (by kernel_rfl)
/- (postil/stem.lexicon).steps -/
theorem g249 : Good t249 := good [t248] ⟨g248, trivial⟩ (by kernel_rfl) (by kernel_rfl)
/- (postil/stem.lexicon).head -/
theorem g250 : Good t250 := good [t247, t249] ⟨g247, g249, trivial⟩ (by kernel_rfl) (by kernel_rfl)
/- (postil/stem.lexicon).decision -/
theorem g251 : Good t251 := good [t46, t82, t120] ⟨g46, g82, g120, trivial⟩ (by kernel_rfl) (by kernel_rfl)
/- (postil/stem.lexicon).head -/
theorem g252 : Good t252 := good [t251] ⟨g251, trivial⟩ (by kernel_rfl) (by kernel_rfl)
/- (postil/stem.lexicon).heads -/
theorem g253 : Good t253 := good [t227, t229, t233, t238, t240, t242, t244, t246, t250, t252] ⟨g227, g229, g233, g238, g240, g242, g244, g246, g250, g252, trivial⟩ (by kernel_rfl) (by kernel_rfl)
/- slices.Concat[[]postil/api.Decision,postil/api.Decision] -/
theorem g254 : Good t254 := good [] trivial (by kernel_rfl) (by kernel_rfl)
/- (postil/stem.lexicon).deciding -/
theorem g255 : Good t255 := good [] trivial (by kernel_rfl) (by kernel_rfl)
/- (postil/stem.lexicon).without -/
theorem g256 : Good t256 := good [t254, t255] ⟨g254, g255, trivial⟩ (by kernel_rfl) (by kernel_rfl)
/- slices.Equal[[]postil/api.Head,postil/api.Head] -/
theorem g257 : Good t257 := good [] trivial (by kernel_rfl) (by kernel_rfl)
/- postil/stem.numbersOf -/
theorem g258 : Good t258 := good [] trivial (by kernel_rfl) (by kernel_rfl)
/- postil/stem.Idle -/
theorem g259 : Good t259 := good [t87, t148, t150, t153, t185, t186, t189, t219, t220, t223, t253, t256, t257, t258] ⟨g87, g148, g150, g153, g185, g186, g189, g219, g220, g223, g253, g256, g257, g258, trivial⟩ (by kernel_rfl) (by kernel_rfl)
/- postil/stem.begin -/
theorem g260 : Good t260 := good [t9, t23, t26, t27, t30, t34, t38] ⟨g9, g23, g26, g27, g30, g34, g38, trivial⟩ (by kernel_rfl) (by kernel_rfl)
/- postil/stem.numbersOf -/
theorem g261 : Good t261 := good [] trivial (by kernel_rfl) (by kernel_rfl)
/- postil/stem.Standing -/
theorem g262 : Good t262 := good [t260, t261] ⟨g260, g261, trivial⟩ (by kernel_rfl) (by kernel_rfl)
/- slices.Concat[[]postil/api.Decision,postil/api.Decision] -/
theorem g263 : Good t263 := good [] trivial (by kernel_rfl) (by kernel_rfl)
/- postil/stem.kinds$1 -/
theorem g264 : Good t264 := good [t26, t27] ⟨g26, g27, trivial⟩ (by kernel_rfl) (by kernel_rfl)
/- (postil/stem.lexicon).isDecision -/
theorem g265 : Good t265 := good [t264] ⟨g264, trivial⟩ (by kernel_rfl) (by kernel_rfl)
/- (postil/stem.lexicon).hasPlace -/
theorem g266 : Good t266 := good [t102] ⟨g102, trivial⟩ (by kernel_rfl) (by kernel_rfl)
/- postil/stem.kinds$3 -/
theorem g267 : Good t267 := good [t30, t34, t266] ⟨g30, g34, g266, trivial⟩ (by kernel_rfl) (by kernel_rfl)
/- (postil/stem.lexicon).isDecision -/
theorem g268 : Good t268 := good [t267] ⟨g267, trivial⟩ (by kernel_rfl) (by kernel_rfl)
/- (postil/stem.lexicon).hasPlace -/
theorem g269 : Good t269 := good [t107] ⟨g107, trivial⟩ (by kernel_rfl) (by kernel_rfl)
/- postil/stem.kinds$5 -/
theorem g270 : Good t270 := good [t38, t269] ⟨g38, g269, trivial⟩ (by kernel_rfl) (by kernel_rfl)
/- (postil/stem.lexicon).isDecision -/
theorem g271 : Good t271 := good [t270] ⟨g270, trivial⟩ (by kernel_rfl) (by kernel_rfl)
/- postil/stem.kinds$7 -/
theorem g272 : Good t272 := good [] trivial (by kernel_rfl) (by kernel_rfl)
/- (postil/stem.lexicon).isDecision -/
theorem g273 : Good t273 := good [t272] ⟨g272, trivial⟩ (by kernel_rfl) (by kernel_rfl)
/- postil/stem.kinds$1 -/
theorem g274 : Good t274 := good [t26, t38] ⟨g26, g38, trivial⟩ (by kernel_rfl) (by kernel_rfl)
/- (postil/stem.lexicon).isDecision -/
theorem g275 : Good t275 := good [t274] ⟨g274, trivial⟩ (by kernel_rfl) (by kernel_rfl)
/- (postil/stem.lexicon).areDecisions -/
theorem g276 : Good t276 := good [t265, t268, t271, t273, t275] ⟨g265, g268, g271, g273, g275, trivial⟩ (by kernel_rfl) (by kernel_rfl)
/- (postil/stem.lexicon).deciding -/
theorem g277 : Good t277 := good [] trivial (by kernel_rfl) (by kernel_rfl)
/- postil/stem.beginMore -/
theorem g278 : Good t278 := good [t260, t263, t276, t277] ⟨g260, g263, g276, g277, trivial⟩ (by kernel_rfl) (by kernel_rfl)
/- postil/stem.Add -/
theorem g279 : Good t279 := good [t278] ⟨g278, trivial⟩ (by kernel_rfl) (by kernel_rfl)
/- postil/stem.Steps -/
theorem g280 : Good t280 := good [t30, t39, t60] ⟨g30, g39, g60, trivial⟩ (by kernel_rfl) (by kernel_rfl)
/- postil/postilref01.SameWords -/
theorem g281 : Good t281 := good [] trivial (by kernel_rfl) (by kernel_rfl)
/- postil/postillaw04.steps -/
theorem g282 : Good t282 := good [t280, t281] ⟨g280, g281, trivial⟩ (by kernel_rfl) (by kernel_rfl)
/- postil/leaf.Number -/
theorem g283 : Good t283 := good [t8] ⟨g8, trivial⟩ (by kernel_rfl) (by kernel_rfl)
/- postil/stem.beginAt -/
theorem g284 : Good t284 := good [t39, t283] ⟨g39, g283, trivial⟩ (by kernel_rfl) (by kernel_rfl)
/- postil/stem.HeadOf -/
theorem g285 : Good t285 := good [t61, t284] ⟨g61, g284, trivial⟩ (by kernel_rfl) (by kernel_rfl)
/- postil/stem.By -/
theorem g286 : Good t286 := good [t57, t284] ⟨g57, g284, trivial⟩ (by kernel_rfl) (by kernel_rfl)
/- postil/postillaw04.is -/
theorem g287 : Good t287 := good [t285, t286] ⟨g285, g286, trivial⟩ (by kernel_rfl) (by kernel_rfl)
/- postil/leaf.Number -/
theorem g288 : Good t288 := good [t8] ⟨g8, trivial⟩ (by kernel_rfl) (by kernel_rfl)
/- postil/stem.beginAt -/
theorem g289 : Good t289 := good [t39, t288] ⟨g39, g288, trivial⟩ (by kernel_rfl) (by kernel_rfl)
/- postil/stem.HeadOf -/
theorem g290 : Good t290 := good [t67, t289] ⟨g67, g289, trivial⟩ (by kernel_rfl) (by kernel_rfl)
/- postil/stem.By -/
theorem g291 : Good t291 := good [t66, t289] ⟨g66, g289, trivial⟩ (by kernel_rfl) (by kernel_rfl)
/- postil/postillaw04.is -/
theorem g292 : Good t292 := good [t290, t291] ⟨g290, g291, trivial⟩ (by kernel_rfl) (by kernel_rfl)
/- postil/leaf.Number -/
theorem g293 : Good t293 := good [t8] ⟨g8, trivial⟩ (by kernel_rfl) (by kernel_rfl)
/- postil/stem.beginAt -/
theorem g294 : Good t294 := good [t39, t293] ⟨g39, g293, trivial⟩ (by kernel_rfl) (by kernel_rfl)
/- postil/stem.HeadOf -/
theorem g295 : Good t295 := good [t86, t294] ⟨g86, g294, trivial⟩ (by kernel_rfl) (by kernel_rfl)
/- postil/stem.By -/
theorem g296 : Good t296 := good [t85, t294] ⟨g85, g294, trivial⟩ (by kernel_rfl) (by kernel_rfl)
/- postil/postillaw04.is -/
theorem g297 : Good t297 := good [t295, t296] ⟨g295, g296, trivial⟩ (by kernel_rfl) (by kernel_rfl)
/- postil/postilref01.SamePlaces -/
theorem g298 : Good t298 := good [] trivial (by kernel_rfl) (by kernel_rfl)
/- postil/postilref01.SameWords -/
theorem g299 : Good t299 := good [] trivial (by kernel_rfl) (by kernel_rfl)
/- postil/postillaw04.sameInts -/
theorem g300 : Good t300 := good [] trivial (by kernel_rfl) (by kernel_rfl)
/- postil/postillaw04.sameInts -/
theorem g301 : Good t301 := good [] trivial (by kernel_rfl) (by kernel_rfl)
/- postil/postillaw04.alive -/
theorem g302 : Good t302 := good [t91, t97, t149, t259, t262, t279, t282, t287, t292, t297, t298, t299, t300, t301] ⟨g91, g97, g149, g259, g262, g279, g282, g287, g292, g297, g298, g299, g300, g301, trivial⟩ (by kernel_rfl) (by kernel_rfl)
/- strings.Trim -/
theorem g303 : Good t303 := good [t10] ⟨g10, trivial⟩ (by kernel_rfl) (by kernel_rfl)
/- postil/stem.areLetters -/
theorem g304 : Good t304 := good [t303] ⟨g303, trivial⟩ (by kernel_rfl) (by kernel_rfl)
/- postil/stem.isWord -/
theorem g305 : Good t305 := good [t304] ⟨g304, trivial⟩ (by kernel_rfl) (by kernel_rfl)
/- (postil/stem.lexicon).turned -/
theorem g306 : Good t306 := good [] trivial (by kernel_rfl) (by kernel_rfl)
/- (postil/stem.lexicon).turned -/
theorem g307 : Good t307 := good [] trivial (by kernel_rfl) (by kernel_rfl)
/- (postil/stem.lexicon).steps -/
theorem g308 : Good t308 := good [t306, t307] ⟨g306, g307, trivial⟩ (by kernel_rfl) (by kernel_rfl)
/- postil/stem.Steps -/
theorem g309 : Good t309 := good [t39, t305, t308] ⟨g39, g305, g308, trivial⟩ (by kernel_rfl) (by kernel_rfl)
/- postil/postilref01.SameWords -/
theorem g310 : Good t310 := good [] trivial (by kernel_rfl) (by kernel_rfl)
/- postil/postillaw04.steps -/
theorem g311 : Good t311 := good [t309, t310] ⟨g309, g310, trivial⟩ (by kernel_rfl) (by kernel_rfl)
/- strings.Trim -/
theorem g312 : Good t312 := good [t10] ⟨g10, trivial⟩ (by kernel_rfl) (by kernel_rfl)
/- postil/stem.areLetters -/
theorem g313 : Good t313 := good [t312] ⟨g312, trivial⟩ (by kernel_rfl) (by kernel_rfl)
/- postil/stem.isWord -/
theorem g314 : Good t314 := good [t313] ⟨g313, trivial⟩ (by kernel_rfl) (by kernel_rfl)
/- postil/stem.Steps -/
theorem g315 : Good t315 := good [t39, t53, t314] ⟨g39, g53, g314, trivial⟩ (by kernel_rfl) (by kernel_rfl)
/- postil/postilref01.SameWords -/
theorem g316 : Good t316 := good [] trivial (by kernel_rfl) (by kernel_rfl)
/- postil/postillaw04.steps -/
theorem g317 : Good t317 := good [t315, t316] ⟨g315, g316, trivial⟩ (by kernel_rfl) (by kernel_rfl)
/- postil/leaf.Number -/
theorem g318 : Good t318 := good [t8] ⟨g8, trivial⟩ (by kernel_rfl) (by kernel_rfl)
/- postil/stem.beginAt -/
theorem g319 : Good t319 := good [t39, t318] ⟨g39, g318, trivial⟩ (by kernel_rfl) (by kernel_rfl)
/- postil/stem.HeadOf -/
theorem g320 : Good t320 := good [t76, t319] ⟨g76, g319, trivial⟩ (by kernel_rfl) (by kernel_rfl)
/- postil/stem.By -/
theorem g321 : Good t321 := good [t75, t319] ⟨g75, g319, trivial⟩ (by kernel_rfl) (by kernel_rfl)
/- postil/postillaw04.is -/
theorem g322 : Good t322 := good [t320, t321] ⟨g320, g321, trivial⟩ (by kernel_rfl) (by kernel_rfl)
/- postil/stem.beginAt -/
theorem g323 : Good t323 := good [t260, t293] ⟨g260, g293, trivial⟩ (by kernel_rfl) (by kernel_rfl)
/- (postil/stem.lexicon).decision -/
theorem g324 : Good t324 := good [t46, t82] ⟨g46, g82, trivial⟩ (by kernel_rfl) (by kernel_rfl)
/- (postil/stem.lexicon).head -/
theorem g325 : Good t325 := good [t324] ⟨g324, trivial⟩ (by kernel_rfl) (by kernel_rfl)
/- postil/stem.HeadOf -/
theorem g326 : Good t326 := good [t323, t325] ⟨g323, g325, trivial⟩ (by kernel_rfl) (by kernel_rfl)
/- postil/stem.By -/
theorem g327 : Good t327 := good [t323, t324] ⟨g323, g324, trivial⟩ (by kernel_rfl) (by kernel_rfl)
/- postil/postillaw04.is -/
theorem g328 : Good t328 := good [t326, t327] ⟨g326, g327, trivial⟩ (by kernel_rfl) (by kernel_rfl)
/- postil/stem.compareHeads -/
theorem g329 : Good t329 := good [] trivial (by kernel_rfl) (by kernel_rfl)
/- postil/stem.compareHeads -/
theorem g330 : Good t330 := good [] trivial (by kernel_rfl) (by kernel_rfl)
/- postil/stem.compareHeads -/
theorem g331 : Good t331 := good [] trivial (by kernel_rfl) (by kernel_rfl)
/- postil/stem.compareHeads -/
theorem g332 : Good t332 := good [] trivial (by kernel_rfl) (by kernel_rfl)
/- postil/stem.compareHeads -/
theorem g333 : Good t333 := good [] trivial (by kernel_rfl) (by kernel_rfl)
/- postil/stem.compareHeads -/
theorem g334 : Good t334 := good [] trivial (by kernel_rfl) (by kernel_rfl)
/- postil/stem.compareHeads -/
theorem g335 : Good t335 := good [] trivial (by kernel_rfl) (by kernel_rfl)
/- postil/stem.compareHeads -/
theorem g336 : Good t336 := good [] trivial (by kernel_rfl) (by kernel_rfl)
/- postil/stem.compareHeads -/
theorem g337 : Good t337 := good [] trivial (by kernel_rfl) (by kernel_rfl)
/- postil/stem.compareHeads -/
theorem g338 : Good t338 := good [] trivial (by kernel_rfl) (by kernel_rfl)
/- postil/stem.compareHeads -/
theorem g339 : Good t339 := good [] trivial (by kernel_rfl) (by kernel_rfl)
/- postil/stem.compareHeads -/
theorem g340 : Good t340 := good [] trivial (by kernel_rfl) (by kernel_rfl)
/- postil/stem.compareHeads -/
theorem g341 : Good t341 := good [] trivial (by kernel_rfl) (by kernel_rfl)
/- postil/stem.compareHeads -/
theorem g342 : Good t342 := good [] trivial (by kernel_rfl) (by kernel_rfl)
/- postil/stem.compareHeads -/
theorem g343 : Good t343 := good [] trivial (by kernel_rfl) (by kernel_rfl)
/- postil/stem.compareHeads -/
theorem g344 : Good t344 := good [] trivial (by kernel_rfl) (by kernel_rfl)
/- postil/stem.compareHeads -/
theorem g345 : Good t345 := good [] trivial (by kernel_rfl) (by kernel_rfl)
/- postil/stem.compareHeads -/
theorem g346 : Good t346 := good [] trivial (by kernel_rfl) (by kernel_rfl)
/- postil/stem.compareHeads -/
theorem g347 : Good t347 := good [] trivial (by kernel_rfl) (by kernel_rfl)
/- postil/stem.Heads -/
theorem g348 : Good t348 := good [t39, t87, t329, t330, t331, t332, t333, t334, t335, t336, t337, t338, t339, t340, t341, t342, t343, t344, t345, t346, t347] ⟨g39, g87, g329, g330, g331, g332, g333, g334, g335, g336, g337, g338, g339, g340, g341, g342, g343, g344, g345, g346, g347, trivial⟩ (by kernel_rfl) (by kernel_rfl)
/- slices.Index[[]postil/api.Head,postil/api.Head] -/
theorem g349 : Good t349 := good [] trivial (by kernel_rfl) (by kernel_rfl)
/- slices.Contains[[]postil/api.Head,postil/api.Head] -/
theorem g350 : Good t350 := good [t349] ⟨g349, trivial⟩ (by kernel_rfl) (by kernel_rfl)
/- postil/stem.beginUnder -/
theorem g351 : Good t351 := good [t34, t39, t87, t350] ⟨g34, g39, g87, g350, trivial⟩ (by kernel_rfl) (by kernel_rfl)
/- postil/stem.Forms -/
theorem g352 : Good t352 := good [t351] ⟨g351, trivial⟩ (by kernel_rfl) (by kernel_rfl)
/- slices.Index[[]postil/api.Head,postil/api.Head] -/
theorem g353 : Good t353 := good [] trivial (by kernel_rfl) (by kernel_rfl)
/- slices.Contains[[]postil/api.Head,postil/api.Head] -/
theorem g354 : Good t354 := good [t353] ⟨g353, trivial⟩ (by kernel_rfl) (by kernel_rfl)
/- postil/stem.beginUnder -/
theorem g355 : Good t355 := good [t38, t39, t87, t354] ⟨g38, g39, g87, g354, trivial⟩ (by kernel_rfl) (by kernel_rfl)
/- postil/stem.Forms -/
theorem g356 : Good t356 := good [t355] ⟨g355, trivial⟩ (by kernel_rfl) (by kernel_rfl)
/- postil/postilref04.SameHeads -/
theorem g357 : Good t357 := good [] trivial (by kernel_rfl) (by kernel_rfl)
/- postil/postilref01.SameWords -/
theorem g358 : Good t358 := good [] trivial (by kernel_rfl) (by kernel_rfl)
/- postil/postilref01.SameWords -/
theorem g359 : Good t359 := good [] trivial (by kernel_rfl) (by kernel_rfl)
/- strings.Trim -/
theorem g360 : Good t360 := good [t10] ⟨g10, trivial⟩ (by kernel_rfl) (by kernel_rfl)
/- postil/stem.areLetters -/
theorem g361 : Good t361 := good [t360] ⟨g360, trivial⟩ (by kernel_rfl) (by kernel_rfl)
/- postil/stem.isWord -/
theorem g362 : Good t362 := good [t361] ⟨g361, trivial⟩ (by kernel_rfl) (by kernel_rfl)
/- postil/stem.Steps -/
theorem g363 : Good t363 := good [t39, t362] ⟨g39, g362, trivial⟩ (by kernel_rfl) (by kernel_rfl)
/- postil/leaf.Number -/
theorem g364 : Good t364 := good [t8] ⟨g8, trivial⟩ (by kernel_rfl) (by kernel_rfl)
/- postil/stem.beginAt -/
theorem g365 : Good t365 := good [t39, t364] ⟨g39, g364, trivial⟩ (by kernel_rfl) (by kernel_rfl)
/- postil/stem.HeadOf -/
theorem g366 : Good t366 := good [t365] ⟨g365, trivial⟩ (by kernel_rfl) (by kernel_rfl)
/- postil/stem.isHead -/
theorem g367 : Good t367 := good [t26] ⟨g26, trivial⟩ (by kernel_rfl) (by kernel_rfl)
/- postil/stem.beginUnder -/
theorem g368 : Good t368 := good [t39, t367] ⟨g39, g367, trivial⟩ (by kernel_rfl) (by kernel_rfl)
/- postil/stem.Under -/
theorem g369 : Good t369 := good [t368] ⟨g368, trivial⟩ (by kernel_rfl) (by kernel_rfl)
/- postil/stem.isHead -/
theorem g370 : Good t370 := good [t26] ⟨g26, trivial⟩ (by kernel_rfl) (by kernel_rfl)
/- slices.Index[[]postil/api.Head,postil/api.Head] -/
theorem g371 : Good t371 := good [] trivial (by kernel_rfl) (by kernel_rfl)
/- slices.Contains[[]postil/api.Head,postil/api.Head] -/
theorem g372 : Good t372 := good [t371] ⟨g371, trivial⟩ (by kernel_rfl) (by kernel_rfl)
/- postil/stem.beginUnder -/
theorem g373 : Good t373 := good [t39, t87, t370, t372] ⟨g39, g87, g370, g372, trivial⟩ (by kernel_rfl) (by kernel_rfl)
/- postil/stem.Under -/
theorem g374 : Good t374 := good [t373] ⟨g373, trivial⟩ (by kernel_rfl) (by kernel_rfl)
/- slices.Concat[[]postil/api.Decision,postil/api.Decision] -/
theorem g375 : Good t375 := good [] trivial (by kernel_rfl) (by kernel_rfl)
/- postil/stem.kinds$1 -/
theorem g376 : Good t376 := good [t26, t27] ⟨g26, g27, trivial⟩ (by kernel_rfl) (by kernel_rfl)
/- (postil/stem.lexicon).isDecision -/
theorem g377 : Good t377 := good [t376] ⟨g376, trivial⟩ (by kernel_rfl) (by kernel_rfl)
/- (postil/stem.lexicon).hasPlace -/
theorem g378 : Good t378 := good [t102] ⟨g102, trivial⟩ (by kernel_rfl) (by kernel_rfl)
/- postil/stem.kinds$3 -/
theorem g379 : Good t379 := good [t30, t34, t378] ⟨g30, g34, g378, trivial⟩ (by kernel_rfl) (by kernel_rfl)
/- (postil/stem.lexicon).isDecision -/
theorem g380 : Good t380 := good [t379] ⟨g379, trivial⟩ (by kernel_rfl) (by kernel_rfl)
/- (postil/stem.lexicon).hasPlace -/
theorem g381 : Good t381 := good [t107] ⟨g107, trivial⟩ (by kernel_rfl) (by kernel_rfl)
/- postil/stem.kinds$5 -/
theorem g382 : Good t382 := good [t38, t381] ⟨g38, g381, trivial⟩ (by kernel_rfl) (by kernel_rfl)
/- (postil/stem.lexicon).isDecision -/
theorem g383 : Good t383 := good [t382] ⟨g382, trivial⟩ (by kernel_rfl) (by kernel_rfl)
/- postil/stem.kinds$1 -/
theorem g384 : Good t384 := good [t26, t38] ⟨g26, g38, trivial⟩ (by kernel_rfl) (by kernel_rfl)
/- (postil/stem.lexicon).isDecision -/
theorem g385 : Good t385 := good [t384] ⟨g384, trivial⟩ (by kernel_rfl) (by kernel_rfl)
/- (postil/stem.lexicon).areDecisions -/
theorem g386 : Good t386 := good [t377, t380, t383, t385] ⟨g377, g380, g383, g385, trivial⟩ (by kernel_rfl) (by kernel_rfl)
/- postil/stem.beginMore -/
theorem g387 : Good t387 := good [t150, t375, t386] ⟨g150, g375, g386, trivial⟩ (by kernel_rfl) (by kernel_rfl)
/- postil/stem.Add -/
theorem g388 : Good t388 := good [t387] ⟨g387, trivial⟩ (by kernel_rfl) (by kernel_rfl)
/- slices.Concat[[]postil/api.Decision,postil/api.Decision] -/
theorem g389 : Good t389 := good [] trivial (by kernel_rfl) (by kernel_rfl)
/- (postil/stem.lexicon).isDecision -/
theorem g390 : Good t390 := good [] trivial (by kernel_rfl) (by kernel_rfl)
/- (postil/stem.lexicon).areDecisions -/
theorem g391 : Good t391 := good [t100, t105, t110, t390] ⟨g100, g105, g110, g390, trivial⟩ (by kernel_rfl) (by kernel_rfl)
/- postil/stem.beginMore -/
theorem g392 : Good t392 := good [t39, t389, t391] ⟨g39, g389, g391, trivial⟩ (by kernel_rfl) (by kernel_rfl)
/- postil/stem.Changes -/
theorem g393 : Good t393 := good [t392] ⟨g392, trivial⟩ (by kernel_rfl) (by kernel_rfl)
/- postil/leaf.isText -/
theorem g394 : Good t394 := good [] trivial (by kernel_rfl) (by kernel_rfl)
/- postil/leaf.begin -/
theorem g395 : Good t395 := good [t394] ⟨g394, trivial⟩ (by kernel_rfl) (by kernel_rfl)
/- postil/leaf.Check -/
theorem g396 : Good t396 := good [t395] ⟨g395, trivial⟩ (by kernel_rfl) (by kernel_rfl)
/- postil/stem.begin -/
theorem g397 : Good t397 := good [t396] ⟨g396, trivial⟩ (by kernel_rfl) (by kernel_rfl)
/- postil/stem.Standing -/
theorem g398 : Good t398 := good [t397] ⟨g397, trivial⟩ (by kernel_rfl) (by kernel_rfl)
/- postil/stem.isRule -/
theorem g399 : Good t399 := good [t12] ⟨g12, trivial⟩ (by kernel_rfl) (by kernel_rfl)
/- postil/stem.areRules$1 -/
theorem g400 : Good t400 := good [t399] ⟨g399, trivial⟩ (by kernel_rfl) (by kernel_rfl)
end Go.Ev
/- The whole, of its parts. Made by program. -/
namespace Go.Ev
set_option maxRecDepth 1000000
theorem gAll : Good ⟨3, [], .v (.bool true)⟩ := good [t9, t16, t22, t26, t27, t30, t34, t38, t302, t311, t317, t322, t328, t348, t352, t356, t357, t358, t359, t363, t366, t369, t374, t388, t393, t398, t400] ⟨g9, g16, g22, g26, g27, g30, g34, g38, g302, g311, g317, g322, g328, g348, g352, g356, g357, g358, g359, g363, g366, g369, g374, g388, g393, g398, g400, trivial⟩ (by kernel_rfl) (by kernel_rfl)
end Go.Ev
