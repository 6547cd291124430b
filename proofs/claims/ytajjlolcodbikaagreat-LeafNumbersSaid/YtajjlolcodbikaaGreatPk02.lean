/- What the proof of this claim stands on, part 3: an evaluator of the model, proved right, and what it answers for functions of the program. -/
import Derived.Test.YtajjlolcodbikaaGreatPk01
import Derived.Test.YtajjlolcodbikaaGreatProg
import Derived.KernelRfl
/- The configuration over this seat's program, and what its types are. Made by program. -/
namespace Go.Ev
open Go.Proofs
set_option maxRecDepth 1000000
def impF : List Nat := [46, 47, 52, 66, 67, 70, 83, 84, 89, 92, 94, 95, 96, 97, 100, 102, 103, 104, 105, 106, 107, 108, 109, 112, 113, 114, 115, 116, 117, 118, 120, 121, 122, 123, 124, 125, 126, 127, 128, 129, 130, 131, 132, 133, 134, 135, 136, 137, 138]
def impC : List (Nat × Nat × Nat) := []
def altF : List Nat := [35, 36]
def keepF : Nat → List Nat
  | 2 => []
  | 3 => [0, 3, 7, 29, 9, 8, 41, 1, 2, 10, 11, 12, 13, 15, 17, 16, 14, 19, 21, 6]
  | 4 => [0, 2, 5, 29, 7, 6, 41, 1, 8, 9, 11, 13, 10, 96, 12, 99, 98, 100, 97, 17, 19, 18, 16, 129, 132, 131, 133, 130, 21, 20, 173, 15, 14, 4]
  | 5 => [0, 1, 3, 4, 7, 29, 2, 8, 14, 13, 67, 12, 69, 10, 86, 11, 9, 16, 15, 6]
  | 6 => [0, 1, 2, 3, 5, 27, 7, 6, 47, 8, 9, 11, 10, 13, 12, 4]
  | 7 => [0, 1, 2, 3, 4, 5, 7, 42, 9, 51, 8, 11, 13, 15, 17, 10, 12, 14, 16, 6]
  | 8 => [0, 1, 2, 3, 5, 31, 7, 6, 46, 50, 49, 51, 48, 9, 58, 57, 59, 56, 11, 66, 65, 67, 72, 71, 73, 70, 15, 8, 10, 13, 87, 12, 97, 17, 109, 16, 111, 128, 4]
  | 9 => [0, 3, 1, 7, 38, 42, 41, 43, 40, 9, 49, 11, 13, 12, 72, 2, 14, 15, 17, 93, 96, 95, 97, 94, 21, 23, 108, 18, 22, 16, 10, 118, 117, 119, 116, 25, 24, 140, 19, 6]
  | 10 => [0, 2, 4, 1, 6, 9, 50, 54, 53, 55, 52, 11, 61, 95, 94, 96, 20, 21, 3, 13, 15, 17, 19, 23, 18, 12, 22, 149, 14, 152, 151, 153, 150, 158, 157, 159, 156, 27, 26, 29, 169, 24, 16, 174, 173, 175, 172, 31, 186, 8]
  | 11 => [0, 1, 2, 3, 5, 42, 6, 7, 9, 11, 13, 80, 10, 83, 82, 84, 81, 14, 8, 16, 94, 93, 95, 92, 17, 19, 107, 111, 110, 112, 109, 21, 118, 23, 126, 22, 129, 128, 130, 127, 12, 135, 134, 136, 133, 26, 25, 28, 147, 4]
  | 12 => [11, 2, 1, 4, 3, 6, 5, 8, 7, 10, 9, 12, 17, 14, 13, 16, 15, 0]
  | 13 => [0, 1, 2]
  | 14 => [0, 1, 5, 13, 4, 16, 17, 18, 6, 2, 3]
  | 15 => [0, 1, 2, 7, 16, 4, 5, 6, 20, 21, 22, 8, 3, 25, 9]
  | 16 => [0, 1, 2, 7, 16, 4, 5, 6, 19, 20, 21, 9, 3, 24, 8]
  | 17 => [0, 1, 2, 3, 6, 5, 4]
  | 18 => [0, 1, 2, 3, 9, 19, 4]
  | 19 => [0, 1, 2, 7, 14, 6, 3, 19, 4, 5]
  | 20 => [0, 1, 5, 18, 4, 23, 24, 25, 6, 9, 11, 32, 7, 2, 3]
  | 21 => [0, 2, 7, 14, 1, 18, 6, 4, 5]
  | 22 => [0, 1, 3, 4, 9, 20, 6, 2, 25, 8, 31, 32, 33, 10, 11, 12, 43, 7]
  | 23 => [0, 1, 2, 3, 7, 18, 6, 22, 23, 24, 8, 10, 4, 5]
  | 24 => [0, 1, 2, 3, 12, 5, 17, 49, 4]
  | 25 => [0, 1, 2, 3, 7, 15, 4, 6, 5]
  | 26 => [0, 1, 2, 3, 6, 4]
  | 27 => [0, 1, 2, 3, 15, 5, 20, 6, 7, 46, 8, 51, 65, 4]
  | 28 => [0, 1, 3, 2, 4]
  | 29 => [0, 1, 2, 6]
  | 30 => [0, 1, 2, 3, 4, 9, 19, 8, 5, 24, 28, 27, 29, 26, 11, 40, 6, 7]
  | 31 => [0, 1, 10, 5, 14, 25, 4]
  | 32 => [0, 2, 7, 17, 1, 21, 24, 23, 25, 22, 6, 10, 31, 8, 4, 5]
  | 33 => [0, 1, 10, 5, 14, 25, 4]
  | 34 => [0, 9, 8, 10, 7, 6, 1, 15, 4]
  | 35 => [0]
  | 36 => [0]
  | 37 => [0, 1, 2, 3, 19, 5, 24, 37, 4]
  | 38 => [0, 1, 9, 3, 14, 24, 4, 33, 46, 5, 58, 74, 2]
  | 39 => [0, 1, 12, 3, 17, 4, 35, 5, 38, 49, 6, 54, 64, 7, 72, 84, 2]
  | 40 => [0, 1, 6, 2, 3]
  | 41 => [0, 1, 2]
  | 42 => [0, 1, 3, 2, 28, 4, 5]
  | 43 => [0, 1, 2, 6]
  | 44 => [0, 1, 3, 2, 4]
  | 45 => [0, 1, 3, 2, 13, 5, 27, 4]
  | 46 => [0, 1, 8, 9, 10, 3, 5, 4, 2]
  | 47 => [0, 5, 1, 4]
  | 48 => [0, 1, 4]
  | 49 => [0, 9, 12, 11, 13, 3, 24, 2]
  | 50 => [0, 1, 2, 3, 14, 4, 6, 22, 5]
  | 51 => [0, 2]
  | 52 => [0, 1, 2, 3, 4]
  | 53 => [1, 6, 0, 7, 24, 28, 3, 8, 39, 40, 5, 59, 69, 4]
  | 54 => [0, 1, 2, 7, 14, 4, 6, 3, 20, 5]
  | 55 => [0, 1, 2, 15, 14, 16, 13, 5, 7, 29, 30, 31, 8, 10, 9, 3, 4]
  | 56 => [0, 1, 7, 3, 12, 22, 2]
  | 57 => [0, 1, 3, 18, 5, 23, 2, 6, 34, 70, 7, 75, 8, 86, 96, 4]
  | 58 => [0, 1, 3, 2, 30, 35, 36, 37, 5, 7, 4]
  | 59 => [0, 1, 9, 8, 10, 7, 5, 15, 3, 2]
  | 60 => [0, 2]
  | 61 => [3, 0, 7, 19, 2]
  | 62 => [0, 1, 11, 15, 14, 16, 13, 4, 3, 38, 2]
  | 63 => [0, 1, 8, 9, 10, 4, 13, 12, 14, 11, 5, 3, 2, 6, 24]
  | 64 => [0, 1, 2]
  | 65 => [1, 0, 4]
  | 66 => [0, 4, 2]
  | 67 => [0, 4, 1]
  | 68 => [0, 1, 4]
  | 69 => [0, 1, 9, 8, 10, 7, 6, 2, 22, 4]
  | 70 => [0, 1, 14, 17, 16, 18, 15, 7, 2, 8, 9, 30, 6]
  | 71 => [0, 1, 2, 3, 4]
  | 72 => [0, 1, 7, 8, 9, 3, 4, 5, 2, 19]
  | 73 => [0, 1, 13, 14, 16, 17, 6, 7, 5, 8, 36, 9, 42, 4]
  | 74 => [1, 0, 2, 6]
  | 75 => [0, 1, 2, 7, 8, 9, 42, 45, 6]
  | 76 => [0, 1, 15, 14, 16, 13, 6, 8, 9, 5, 4]
  | 77 => [1, 0, 11, 10, 12, 9, 7, 8, 3, 24, 5, 4]
  | 78 => [0, 1, 2, 3, 6, 15, 17, 18, 5, 32, 45, 4]
  | 79 => [0, 1, 4, 2, 3, 11, 10, 27, 33, 13, 5, 42, 14, 68, 71, 9, 12, 80, 8]
  | 80 => [0, 1, 12, 11, 13, 10, 2, 7, 8, 5, 42, 4]
  | 81 => [3, 0, 9, 4, 5, 38, 2]
  | 82 => [0, 2]
  | 83 => [0, 8, 3, 13, 25, 5, 4, 32, 44, 2]
  | 84 => [0, 5, 1, 4]
  | 85 => [0, 1, 2, 3, 4]
  | 86 => [1, 0, 3, 4]
  | 87 => [0, 12, 15, 14, 16, 4, 25, 31, 30, 32, 29, 6, 37, 3, 2]
  | 88 => [1, 10, 9, 11, 8, 4, 18, 17, 19, 0, 3, 5, 31]
  | 89 => [2, 1, 12, 25, 0, 4, 3, 32, 10, 39, 14, 56, 13, 11, 75, 80, 97, 15, 17, 16, 18, 19, 125, 20]
  | 90 => [0, 2]
  | 92 => [1, 0, 2, 21, 25]
  | 93 => [0]
  | 94 => [0, 2, 1, 4]
  | 95 => [0, 2, 1, 4]
  | 96 => [0, 4, 2]
  | 97 => [0, 4, 1]
  | 98 => [0, 8, 7, 9, 6, 5, 3, 14, 2]
  | 99 => [0, 1, 5, 11, 6, 12, 13, 16, 19, 4]
  | 100 => [0, 1, 4]
  | 101 => [0, 2, 1, 3]
  | 102 => [1, 8, 2, 14, 9, 3, 0, 34]
  | 103 => [1, 2, 10, 11, 21, 0, 8, 3, 12, 33, 9]
  | 104 => [2, 1, 8, 17, 11, 35, 9, 10, 12, 45, 0]
  | 105 => [2, 1, 10, 34, 36, 0, 12, 3, 11, 13, 14, 55, 57, 60, 8, 9]
  | 106 => [1, 2, 8, 9, 15, 0]
  | 107 => [1, 10, 16, 9, 2, 3, 0, 36, 41, 45, 65, 11, 69, 84, 104, 12, 109, 124, 8]
  | 108 => [0, 1, 3, 2, 11, 12, 4, 47, 65, 70, 10]
  | 109 => [0, 1, 3, 2, 12, 13, 4, 47, 66, 71, 120, 139, 144, 10, 11]
  | 110 => [0, 4, 8, 2]
  | 111 => [0, 4, 8, 2, 14]
  | 112 => [1, 3, 0, 4]
  | 113 => [0, 2, 4]
  | 114 => [1, 0, 3, 4]
  | 115 => [0, 2, 1, 4]
  | 116 => [1, 3, 0, 4]
  | 117 => [0, 2, 1, 4]
  | 118 => [2, 1, 12, 25, 0, 4, 3, 32, 10, 39, 14, 56, 13, 11, 75, 80, 97, 15, 17, 16, 18, 19, 125, 20]
  | 119 => [0, 2]
  | 120 => [0, 8, 7, 9, 1, 5, 16, 4]
  | 121 => [1, 10, 11, 2, 18, 4, 0, 3, 40, 58]
  | 122 => [0, 2]
  | 123 => [0, 2]
  | 124 => [0, 1, 2, 3, 8]
  | 125 => [0, 1, 2, 4, 5, 3, 12]
  | 126 => [1, 8, 2, 14, 9, 3, 0, 34]
  | 127 => [1, 2, 10, 11, 21, 0, 8, 3, 12, 33, 9]
  | 128 => [2, 1, 8, 17, 11, 35, 9, 10, 12, 45, 0]
  | 129 => [2, 1, 10, 34, 36, 0, 12, 3, 11, 13, 14, 55, 57, 60, 8, 9]
  | 130 => [1, 2, 8, 9, 15, 0]
  | 131 => [1, 10, 16, 9, 2, 3, 0, 36, 41, 45, 65, 11, 69, 84, 104, 12, 109, 124, 8]
  | 132 => [0, 1, 3, 2, 11, 12, 4, 47, 65, 70, 10]
  | 133 => [0, 1, 3, 2, 12, 13, 4, 47, 66, 71, 120, 139, 144, 10, 11]
  | 134 => [4, 0, 2, 1, 22, 3, 10, 11]
  | 135 => [1, 10, 11, 2, 18, 4, 0, 3, 40, 58]
  | 136 => [0, 1, 2, 3, 8]
  | 137 => [0, 1, 2, 4, 5, 3, 12]
  | 138 => [4, 0, 2, 1, 22, 3, 10, 11]
  | _ => []
def pureF (h g : Nat) (d : Option Nat) : Bool := !(impF.contains g) && !(impC.contains (h, g, d.getD 100000))
abbrev Exts := FuncId → Option (List AV → Option AV)
noncomputable def Cx (e : Exts) : Cfg := { P := Tryz.prog, pure := pureF, alter := fun h _ => altF.contains h, keep := keepF, ext := e }
/-- no function stands for itself but for the two -/
def Quiet (e : Exts) : Prop := ∀ f, f ≠ 12 → f ≠ 91 → e f = none
@[go_sem] theorem Cx_P (e : Exts) : (Cx e).P = Tryz.prog := rfl
theorem size_1 : sizeT Tryz.prog 1 = some 1 := by kernel_rfl
theorem size_2 : sizeT Tryz.prog 2 = some 1 := by kernel_rfl
theorem size_3 : sizeT Tryz.prog 3 = some 1 := by kernel_rfl
theorem size_4 : sizeT Tryz.prog 4 = some 1 := by kernel_rfl
theorem size_5 : sizeT Tryz.prog 5 = some 1 := by kernel_rfl
theorem size_6 : sizeT Tryz.prog 6 = some 1 := by kernel_rfl
theorem size_7 : sizeT Tryz.prog 7 = some 4 := by kernel_rfl
theorem size_8 : sizeT Tryz.prog 8 = some 4 := by kernel_rfl
theorem size_9 : sizeT Tryz.prog 9 = some 1 := by kernel_rfl
theorem size_10 : sizeT Tryz.prog 10 = some 1 := by kernel_rfl
theorem size_11 : sizeT Tryz.prog 11 = some 1 := by kernel_rfl
theorem size_12 : sizeT Tryz.prog 12 = some 1 := by kernel_rfl
theorem size_13 : sizeT Tryz.prog 13 = some 2 := by kernel_rfl
theorem size_14 : sizeT Tryz.prog 14 = some 2 := by kernel_rfl
theorem size_15 : sizeT Tryz.prog 15 = some 1 := by kernel_rfl
theorem size_16 : sizeT Tryz.prog 16 = some 1 := by kernel_rfl
theorem size_17 : sizeT Tryz.prog 17 = some 1 := by kernel_rfl
theorem size_18 : sizeT Tryz.prog 18 = some 1 := by kernel_rfl
theorem size_19 : sizeT Tryz.prog 19 = some 1 := by kernel_rfl
theorem size_20 : sizeT Tryz.prog 20 = some 1 := by kernel_rfl
theorem size_21 : sizeT Tryz.prog 21 = some 1 := by kernel_rfl
theorem size_22 : sizeT Tryz.prog 22 = some 1 := by kernel_rfl
theorem size_23 : sizeT Tryz.prog 23 = some 1 := by kernel_rfl
theorem size_24 : sizeT Tryz.prog 24 = some 1 := by kernel_rfl
theorem size_25 : sizeT Tryz.prog 25 = some 1 := by kernel_rfl
theorem size_26 : sizeT Tryz.prog 26 = some 1 := by kernel_rfl
theorem size_27 : sizeT Tryz.prog 27 = some 1 := by kernel_rfl
theorem size_28 : sizeT Tryz.prog 28 = some 1 := by kernel_rfl
theorem size_30 : sizeT Tryz.prog 30 = some 1 := by kernel_rfl
theorem size_31 : sizeT Tryz.prog 31 = some 3 := by kernel_rfl
theorem size_32 : sizeT Tryz.prog 32 = some 3 := by kernel_rfl
theorem size_34 : sizeT Tryz.prog 34 = some 1 := by kernel_rfl
theorem size_35 : sizeT Tryz.prog 35 = some 1 := by kernel_rfl
theorem size_36 : sizeT Tryz.prog 36 = some 1 := by kernel_rfl
theorem size_37 : sizeT Tryz.prog 37 = some 1 := by kernel_rfl
theorem size_38 : sizeT Tryz.prog 38 = some 1 := by kernel_rfl
theorem size_40 : sizeT Tryz.prog 40 = some 1 := by kernel_rfl
theorem size_41 : sizeT Tryz.prog 41 = some 1 := by kernel_rfl
theorem size_43 : sizeT Tryz.prog 43 = some 1 := by kernel_rfl
theorem size_44 : sizeT Tryz.prog 44 = some 1 := by kernel_rfl
theorem size_45 : sizeT Tryz.prog 45 = some 2 := by kernel_rfl
theorem size_46 : sizeT Tryz.prog 46 = some 2 := by kernel_rfl
theorem size_47 : sizeT Tryz.prog 47 = some 1 := by kernel_rfl
theorem size_49 : sizeT Tryz.prog 49 = some 1 := by kernel_rfl
theorem size_50 : sizeT Tryz.prog 50 = some 1 := by kernel_rfl
theorem size_51 : sizeT Tryz.prog 51 = some 1 := by kernel_rfl
theorem size_52 : sizeT Tryz.prog 52 = some 2 := by kernel_rfl
theorem size_53 : sizeT Tryz.prog 53 = some 2 := by kernel_rfl
theorem size_55 : sizeT Tryz.prog 55 = some 1 := by kernel_rfl
theorem size_56 : sizeT Tryz.prog 56 = some 1 := by kernel_rfl
theorem size_57 : sizeT Tryz.prog 57 = some 1 := by kernel_rfl
theorem size_59 : sizeT Tryz.prog 59 = some 1 := by kernel_rfl
theorem size_60 : sizeT Tryz.prog 60 = some 1 := by kernel_rfl
theorem size_61 : sizeT Tryz.prog 61 = some 1 := by kernel_rfl
theorem size_62 : sizeT Tryz.prog 62 = some 1 := by kernel_rfl
theorem size_63 : sizeT Tryz.prog 63 = some 1 := by kernel_rfl
theorem size_64 : sizeT Tryz.prog 64 = some 5 := by kernel_rfl
theorem size_65 : sizeT Tryz.prog 65 = some 5 := by kernel_rfl
theorem size_66 : sizeT Tryz.prog 66 = some 1 := by kernel_rfl
theorem size_67 : sizeT Tryz.prog 67 = some 1 := by kernel_rfl
theorem size_68 : sizeT Tryz.prog 68 = some 1 := by kernel_rfl
theorem size_69 : sizeT Tryz.prog 69 = some 1 := by kernel_rfl
theorem size_70 : sizeT Tryz.prog 70 = some 1 := by kernel_rfl
theorem size_71 : sizeT Tryz.prog 71 = some 1 := by kernel_rfl
theorem size_72 : sizeT Tryz.prog 72 = some 1 := by kernel_rfl
theorem size_73 : sizeT Tryz.prog 73 = some 1 := by kernel_rfl
theorem size_74 : sizeT Tryz.prog 74 = some 1 := by kernel_rfl
theorem size_75 : sizeT Tryz.prog 75 = some 1 := by kernel_rfl
theorem size_76 : sizeT Tryz.prog 76 = some 1 := by kernel_rfl
theorem size_77 : sizeT Tryz.prog 77 = some 1 := by kernel_rfl
theorem size_78 : sizeT Tryz.prog 78 = some 1 := by kernel_rfl
theorem size_79 : sizeT Tryz.prog 79 = some 1 := by kernel_rfl
theorem size_81 : sizeT Tryz.prog 81 = some 1 := by kernel_rfl
theorem size_82 : sizeT Tryz.prog 82 = some 1 := by kernel_rfl
theorem size_83 : sizeT Tryz.prog 83 = some 1 := by kernel_rfl
theorem size_84 : sizeT Tryz.prog 84 = some 1 := by kernel_rfl
theorem size_86 : sizeT Tryz.prog 86 = some 1 := by kernel_rfl
theorem size_87 : sizeT Tryz.prog 87 = some 1 := by kernel_rfl
theorem size_88 : sizeT Tryz.prog 88 = some 1 := by kernel_rfl
theorem size_89 : sizeT Tryz.prog 89 = some 1 := by kernel_rfl
theorem size_90 : sizeT Tryz.prog 90 = some 1 := by kernel_rfl
theorem size_91 : sizeT Tryz.prog 91 = some 1 := by kernel_rfl
theorem size_93 : sizeT Tryz.prog 93 = some 1 := by kernel_rfl
theorem size_94 : sizeT Tryz.prog 94 = some 1 := by kernel_rfl
theorem size_95 : sizeT Tryz.prog 95 = some 1 := by kernel_rfl
theorem size_96 : sizeT Tryz.prog 96 = some 1 := by kernel_rfl
theorem size_97 : sizeT Tryz.prog 97 = some 1 := by kernel_rfl
theorem size_98 : sizeT Tryz.prog 98 = some 1 := by kernel_rfl
theorem size_99 : sizeT Tryz.prog 99 = some 1 := by kernel_rfl
theorem size_100 : sizeT Tryz.prog 100 = some 1 := by kernel_rfl
theorem size_101 : sizeT Tryz.prog 101 = some 12 := by kernel_rfl
theorem size_102 : sizeT Tryz.prog 102 = some 144 := by kernel_rfl
theorem size_103 : sizeT Tryz.prog 103 = some 146 := by kernel_rfl
theorem size_104 : sizeT Tryz.prog 104 = some 146 := by kernel_rfl
theorem size_105 : sizeT Tryz.prog 105 = some 1 := by kernel_rfl
theorem size_106 : sizeT Tryz.prog 106 = some 1 := by kernel_rfl
theorem size_107 : sizeT Tryz.prog 107 = some 1 := by kernel_rfl
theorem size_108 : sizeT Tryz.prog 108 = some 1 := by kernel_rfl
theorem size_109 : sizeT Tryz.prog 109 = some 1 := by kernel_rfl
theorem size_110 : sizeT Tryz.prog 110 = some 1 := by kernel_rfl
theorem size_111 : sizeT Tryz.prog 111 = some 1 := by kernel_rfl
theorem size_112 : sizeT Tryz.prog 112 = some 1 := by kernel_rfl
theorem size_113 : sizeT Tryz.prog 113 = some 1 := by kernel_rfl
theorem size_114 : sizeT Tryz.prog 114 = some 1 := by kernel_rfl
theorem size_115 : sizeT Tryz.prog 115 = some 1 := by kernel_rfl
theorem size_116 : sizeT Tryz.prog 116 = some 1 := by kernel_rfl
theorem size_117 : sizeT Tryz.prog 117 = some 1 := by kernel_rfl
theorem size_118 : sizeT Tryz.prog 118 = some 1 := by kernel_rfl
theorem size_119 : sizeT Tryz.prog 119 = some 2 := by kernel_rfl
theorem size_120 : sizeT Tryz.prog 120 = some 2 := by kernel_rfl
theorem size_121 : sizeT Tryz.prog 121 = some 1 := by kernel_rfl
theorem size_122 : sizeT Tryz.prog 122 = some 1 := by kernel_rfl
theorem size_123 : sizeT Tryz.prog 123 = some 1 := by kernel_rfl
theorem size_124 : sizeT Tryz.prog 124 = some 1 := by kernel_rfl
theorem size_125 : sizeT Tryz.prog 125 = some 1 := by kernel_rfl
theorem size_126 : sizeT Tryz.prog 126 = some 1 := by kernel_rfl
theorem size_127 : sizeT Tryz.prog 127 = some 1 := by kernel_rfl
theorem size_128 : sizeT Tryz.prog 128 = some 1 := by kernel_rfl
theorem size_129 : sizeT Tryz.prog 129 = some 1 := by kernel_rfl
theorem size_130 : sizeT Tryz.prog 130 = some 1 := by kernel_rfl
theorem size_131 : sizeT Tryz.prog 131 = some 1 := by kernel_rfl
theorem size_132 : sizeT Tryz.prog 132 = some 1 := by kernel_rfl
theorem size_133 : sizeT Tryz.prog 133 = some 1 := by kernel_rfl
theorem size_134 : sizeT Tryz.prog 134 = some 1 := by kernel_rfl
theorem size_135 : sizeT Tryz.prog 135 = some 1 := by kernel_rfl
theorem size_136 : sizeT Tryz.prog 136 = some 1 := by kernel_rfl
theorem size_137 : sizeT Tryz.prog 137 = some 1 := by kernel_rfl
theorem size_138 : sizeT Tryz.prog 138 = some 1 := by kernel_rfl
theorem size_139 : sizeT Tryz.prog 139 = some 1 := by kernel_rfl
theorem size_140 : sizeT Tryz.prog 140 = some 1 := by kernel_rfl
theorem size_141 : sizeT Tryz.prog 141 = some 1 := by kernel_rfl
theorem size_142 : sizeT Tryz.prog 142 = some 1 := by kernel_rfl
theorem size_143 : sizeT Tryz.prog 143 = some 1 := by kernel_rfl
theorem size_144 : sizeT Tryz.prog 144 = some 1 := by kernel_rfl
theorem size_145 : sizeT Tryz.prog 145 = some 1 := by kernel_rfl
theorem size_146 : sizeT Tryz.prog 146 = some 2 := by kernel_rfl
theorem size_147 : sizeT Tryz.prog 147 = some 2 := by kernel_rfl
theorem size_148 : sizeT Tryz.prog 148 = some 8 := by kernel_rfl
theorem size_149 : sizeT Tryz.prog 149 = some 1 := by kernel_rfl
theorem size_150 : sizeT Tryz.prog 150 = some 2 := by kernel_rfl
theorem size_151 : sizeT Tryz.prog 151 = some 2 := by kernel_rfl
theorem size_152 : sizeT Tryz.prog 152 = some 1 := by kernel_rfl
theorem size_153 : sizeT Tryz.prog 153 = some 1 := by kernel_rfl
theorem size_154 : sizeT Tryz.prog 154 = some 1 := by kernel_rfl
theorem size_155 : sizeT Tryz.prog 155 = some 1 := by kernel_rfl
theorem size_156 : sizeT Tryz.prog 156 = some 1 := by kernel_rfl
theorem size_157 : sizeT Tryz.prog 157 = some 1 := by kernel_rfl
theorem size_158 : sizeT Tryz.prog 158 = some 1 := by kernel_rfl
theorem size_159 : sizeT Tryz.prog 159 = some 1 := by kernel_rfl
theorem size_160 : sizeT Tryz.prog 160 = some 1 := by kernel_rfl
theorem size_162 : sizeT Tryz.prog 162 = some 1 := by kernel_rfl
theorem size_163 : sizeT Tryz.prog 163 = some 1 := by kernel_rfl
theorem size_164 : sizeT Tryz.prog 164 = some 1 := by kernel_rfl
theorem size_166 : sizeT Tryz.prog 166 = some 1 := by kernel_rfl
theorem size_167 : sizeT Tryz.prog 167 = some 1 := by kernel_rfl
theorem size_168 : sizeT Tryz.prog 168 = some 1 := by kernel_rfl
theorem size_169 : sizeT Tryz.prog 169 = some 1 := by kernel_rfl
theorem size_170 : sizeT Tryz.prog 170 = some 1 := by kernel_rfl
theorem size_171 : sizeT Tryz.prog 171 = some 1 := by kernel_rfl
theorem size_172 : sizeT Tryz.prog 172 = some 1 := by kernel_rfl
theorem size_173 : sizeT Tryz.prog 173 = some 1 := by kernel_rfl
theorem size_174 : sizeT Tryz.prog 174 = some 1 := by kernel_rfl
theorem size_175 : sizeT Tryz.prog 175 = some 1 := by kernel_rfl
theorem size_176 : sizeT Tryz.prog 176 = some 1 := by kernel_rfl
theorem size_177 : sizeT Tryz.prog 177 = some 1 := by kernel_rfl
theorem size_178 : sizeT Tryz.prog 178 = some 1 := by kernel_rfl
theorem size_179 : sizeT Tryz.prog 179 = some 1 := by kernel_rfl
theorem size_180 : sizeT Tryz.prog 180 = some 1 := by kernel_rfl
theorem size_181 : sizeT Tryz.prog 181 = some 1 := by kernel_rfl
theorem size_182 : sizeT Tryz.prog 182 = some 1 := by kernel_rfl
theorem size_183 : sizeT Tryz.prog 183 = some 1 := by kernel_rfl
theorem size_184 : sizeT Tryz.prog 184 = some 1 := by kernel_rfl
theorem size_186 : sizeT Tryz.prog 186 = some 1 := by kernel_rfl
theorem size_187 : sizeT Tryz.prog 187 = some 1 := by kernel_rfl
theorem size_188 : sizeT Tryz.prog 188 = some 1 := by kernel_rfl
theorem size_189 : sizeT Tryz.prog 189 = some 1 := by kernel_rfl
theorem size_190 : sizeT Tryz.prog 190 = some 1 := by kernel_rfl
theorem size_191 : sizeT Tryz.prog 191 = some 4 := by kernel_rfl
theorem size_192 : sizeT Tryz.prog 192 = some 4 := by kernel_rfl
theorem size_193 : sizeT Tryz.prog 193 = some 0 := by kernel_rfl
theorem size_194 : sizeT Tryz.prog 194 = some 0 := by kernel_rfl
theorem size_195 : sizeT Tryz.prog 195 = some 0 := by kernel_rfl
theorem size_196 : sizeT Tryz.prog 196 = some 1 := by kernel_rfl
theorem size_197 : sizeT Tryz.prog 197 = some 1 := by kernel_rfl
theorem size_198 : sizeT Tryz.prog 198 = some 1 := by kernel_rfl
theorem size_199 : sizeT Tryz.prog 199 = some 1 := by kernel_rfl
theorem size_200 : sizeT Tryz.prog 200 = some 1 := by kernel_rfl
theorem size_201 : sizeT Tryz.prog 201 = some 1 := by kernel_rfl
theorem size_202 : sizeT Tryz.prog 202 = some 1 := by kernel_rfl
theorem size_203 : sizeT Tryz.prog 203 = some 11 := by kernel_rfl
theorem size_204 : sizeT Tryz.prog 204 = some 11 := by kernel_rfl
@[go_sem] theorem zero_1 : zeroT Tryz.prog 1 = some (.v .nilFunc) := by kernel_rfl
@[go_sem] theorem zero_2 : zeroT Tryz.prog 2 = some (.v (.int .i64 0)) := by kernel_rfl
@[go_sem] theorem zero_3 : zeroT Tryz.prog 3 = some (.v (.int .i64 0)) := by kernel_rfl
@[go_sem] theorem zero_4 : zeroT Tryz.prog 4 = some (.v (.bool false)) := by kernel_rfl
@[go_sem] theorem zero_5 : zeroT Tryz.prog 5 = some (.v (.int .u8 0)) := by kernel_rfl
@[go_sem] theorem zero_6 : zeroT Tryz.prog 6 = some (.v (.int .u8 0)) := by kernel_rfl
@[go_sem] theorem zero_7 : zeroT Tryz.prog 7 = some (.agg [.v (.int .i64 0), .v (.int .i64 0), .v (.bool false), .v (.int .u8 0)]) := by kernel_rfl
@[go_sem] theorem zero_8 : zeroT Tryz.prog 8 = some (.agg [.v (.int .i64 0), .v (.int .i64 0), .v (.bool false), .v (.int .u8 0)]) := by kernel_rfl
@[go_sem] theorem zero_9 : zeroT Tryz.prog 9 = some (.v (.string ⟨#[]⟩)) := by kernel_rfl
@[go_sem] theorem zero_10 : zeroT Tryz.prog 10 = some (.v (.string ⟨#[]⟩)) := by kernel_rfl
@[go_sem] theorem zero_11 : zeroT Tryz.prog 11 = some (.v (.string ⟨#[]⟩)) := by kernel_rfl
@[go_sem] theorem zero_12 : zeroT Tryz.prog 12 = some (.v (.int .u64 0)) := by kernel_rfl
@[go_sem] theorem zero_13 : zeroT Tryz.prog 13 = some (.agg [.v (.string ⟨#[]⟩), .v (.int .u64 0)]) := by kernel_rfl
@[go_sem] theorem zero_14 : zeroT Tryz.prog 14 = some (.agg [.v (.string ⟨#[]⟩), .v (.int .u64 0)]) := by kernel_rfl
@[go_sem] theorem zero_15 : zeroT Tryz.prog 15 = some (.v (.pointer none)) := by kernel_rfl
@[go_sem] theorem zero_16 : zeroT Tryz.prog 16 = some (.v (.pointer none)) := by kernel_rfl
@[go_sem] theorem zero_17 : zeroT Tryz.prog 17 = some (.v (.pointer none)) := by kernel_rfl
@[go_sem] theorem zero_18 : zeroT Tryz.prog 18 = some (.agg [.v (.pointer none)]) := by kernel_rfl
@[go_sem] theorem zero_19 : zeroT Tryz.prog 19 = some (.agg [.v (.pointer none)]) := by kernel_rfl
@[go_sem] theorem zero_20 : zeroT Tryz.prog 20 = some (.v .nilIface) := by kernel_rfl
@[go_sem] theorem zero_21 : zeroT Tryz.prog 21 = some (.v (.int .i32 0)) := by kernel_rfl
@[go_sem] theorem zero_22 : zeroT Tryz.prog 22 = some (.v (.slice none 0 0)) := by kernel_rfl
@[go_sem] theorem zero_23 : zeroT Tryz.prog 23 = some (.agg [.v (.slice none 0 0)]) := by kernel_rfl
@[go_sem] theorem zero_24 : zeroT Tryz.prog 24 = some (.agg [.v (.slice none 0 0)]) := by kernel_rfl
@[go_sem] theorem zero_25 : zeroT Tryz.prog 25 = some (.v (.int .u16 0)) := by kernel_rfl
@[go_sem] theorem zero_26 : zeroT Tryz.prog 26 = some (.v .nilFunc) := by kernel_rfl
@[go_sem] theorem zero_27 : zeroT Tryz.prog 27 = some (.v .nilFunc) := by kernel_rfl
@[go_sem] theorem zero_28 : zeroT Tryz.prog 28 = some (.v (.int .i64 0)) := by kernel_rfl
@[go_sem] theorem zero_30 : zeroT Tryz.prog 30 = some (.v .nilFunc) := by kernel_rfl
@[go_sem] theorem zero_31 : zeroT Tryz.prog 31 = some (.agg [.v (.int .i64 0), .v (.int .i64 0), .v (.int .i64 0)]) := by kernel_rfl
@[go_sem] theorem zero_32 : zeroT Tryz.prog 32 = some (.agg [.v (.int .i64 0), .v (.int .i64 0), .v (.int .i64 0)]) := by kernel_rfl
@[go_sem] theorem zero_34 : zeroT Tryz.prog 34 = some (.v .nilFunc) := by kernel_rfl
@[go_sem] theorem zero_35 : zeroT Tryz.prog 35 = some (.v .nilFunc) := by kernel_rfl
@[go_sem] theorem zero_36 : zeroT Tryz.prog 36 = some (.v .nilFunc) := by kernel_rfl
@[go_sem] theorem zero_37 : zeroT Tryz.prog 37 = some (.v .nilFunc) := by kernel_rfl
@[go_sem] theorem zero_38 : zeroT Tryz.prog 38 = some (.v .nilFunc) := by kernel_rfl
@[go_sem] theorem zero_40 : zeroT Tryz.prog 40 = some (.v .nilFunc) := by kernel_rfl
@[go_sem] theorem zero_41 : zeroT Tryz.prog 41 = some (.v (.slice none 0 0)) := by kernel_rfl
@[go_sem] theorem zero_43 : zeroT Tryz.prog 43 = some (.v .nilFunc) := by kernel_rfl
@[go_sem] theorem zero_44 : zeroT Tryz.prog 44 = some (.v (.slice none 0 0)) := by kernel_rfl
@[go_sem] theorem zero_45 : zeroT Tryz.prog 45 = some (.agg [.v (.int .i64 0), .v (.slice none 0 0)]) := by kernel_rfl
@[go_sem] theorem zero_46 : zeroT Tryz.prog 46 = some (.agg [.v (.int .i64 0), .v (.slice none 0 0)]) := by kernel_rfl
@[go_sem] theorem zero_47 : zeroT Tryz.prog 47 = some (.v (.slice none 0 0)) := by kernel_rfl
@[go_sem] theorem zero_49 : zeroT Tryz.prog 49 = some (.v .nilFunc) := by kernel_rfl
@[go_sem] theorem zero_50 : zeroT Tryz.prog 50 = some (.v .nilFunc) := by kernel_rfl
@[go_sem] theorem zero_51 : zeroT Tryz.prog 51 = some (.v (.slice none 0 0)) := by kernel_rfl
@[go_sem] theorem zero_52 : zeroT Tryz.prog 52 = some (.agg [.v (.int .i64 0), .v (.slice none 0 0)]) := by kernel_rfl
@[go_sem] theorem zero_53 : zeroT Tryz.prog 53 = some (.agg [.v (.int .i64 0), .v (.slice none 0 0)]) := by kernel_rfl
@[go_sem] theorem zero_55 : zeroT Tryz.prog 55 = some (.v .nilFunc) := by kernel_rfl
@[go_sem] theorem zero_56 : zeroT Tryz.prog 56 = some (.v .nilFunc) := by kernel_rfl
@[go_sem] theorem zero_57 : zeroT Tryz.prog 57 = some (.v .nilFunc) := by kernel_rfl
@[go_sem] theorem zero_59 : zeroT Tryz.prog 59 = some (.v .nilFunc) := by kernel_rfl
@[go_sem] theorem zero_60 : zeroT Tryz.prog 60 = some (.v .nilFunc) := by kernel_rfl
@[go_sem] theorem zero_61 : zeroT Tryz.prog 61 = some (.v .nilFunc) := by kernel_rfl
@[go_sem] theorem zero_62 : zeroT Tryz.prog 62 = some (.v .nilFunc) := by kernel_rfl
@[go_sem] theorem zero_63 : zeroT Tryz.prog 63 = some (.v .nilFunc) := by kernel_rfl
@[go_sem] theorem zero_64 : zeroT Tryz.prog 64 = some (.agg [.v (.int .i64 0), .v (.int .i64 0), .v (.int .i64 0), .v (.int .u8 0), .v (.string ⟨#[]⟩)]) := by kernel_rfl
@[go_sem] theorem zero_65 : zeroT Tryz.prog 65 = some (.agg [.v (.int .i64 0), .v (.int .i64 0), .v (.int .i64 0), .v (.int .u8 0), .v (.string ⟨#[]⟩)]) := by kernel_rfl
@[go_sem] theorem zero_66 : zeroT Tryz.prog 66 = some (.v .nilFunc) := by kernel_rfl
@[go_sem] theorem zero_67 : zeroT Tryz.prog 67 = some (.v .nilFunc) := by kernel_rfl
@[go_sem] theorem zero_68 : zeroT Tryz.prog 68 = some (.v .nilFunc) := by kernel_rfl
@[go_sem] theorem zero_69 : zeroT Tryz.prog 69 = some (.v (.slice none 0 0)) := by kernel_rfl
@[go_sem] theorem zero_70 : zeroT Tryz.prog 70 = some (.v .nilFunc) := by kernel_rfl
@[go_sem] theorem zero_71 : zeroT Tryz.prog 71 = some (.v .nilFunc) := by kernel_rfl
@[go_sem] theorem zero_72 : zeroT Tryz.prog 72 = some (.v .nilFunc) := by kernel_rfl
@[go_sem] theorem zero_73 : zeroT Tryz.prog 73 = some (.v .nilFunc) := by kernel_rfl
@[go_sem] theorem zero_74 : zeroT Tryz.prog 74 = some (.v .nilFunc) := by kernel_rfl
@[go_sem] theorem zero_75 : zeroT Tryz.prog 75 = some (.v .nilFunc) := by kernel_rfl
@[go_sem] theorem zero_76 : zeroT Tryz.prog 76 = some (.v .nilFunc) := by kernel_rfl
@[go_sem] theorem zero_77 : zeroT Tryz.prog 77 = some (.v .nilFunc) := by kernel_rfl
@[go_sem] theorem zero_78 : zeroT Tryz.prog 78 = some (.agg [.v (.slice none 0 0)]) := by kernel_rfl
@[go_sem] theorem zero_79 : zeroT Tryz.prog 79 = some (.agg [.v (.slice none 0 0)]) := by kernel_rfl
@[go_sem] theorem zero_81 : zeroT Tryz.prog 81 = some (.v .nilFunc) := by kernel_rfl
@[go_sem] theorem zero_82 : zeroT Tryz.prog 82 = some (.v .nilFunc) := by kernel_rfl
@[go_sem] theorem zero_83 : zeroT Tryz.prog 83 = some (.v .nilFunc) := by kernel_rfl
@[go_sem] theorem zero_84 : zeroT Tryz.prog 84 = some (.v .nilFunc) := by kernel_rfl
@[go_sem] theorem zero_86 : zeroT Tryz.prog 86 = some (.v .nilFunc) := by kernel_rfl
@[go_sem] theorem zero_87 : zeroT Tryz.prog 87 = some (.v .nilFunc) := by kernel_rfl
@[go_sem] theorem zero_88 : zeroT Tryz.prog 88 = some (.v .nilFunc) := by kernel_rfl
@[go_sem] theorem zero_89 : zeroT Tryz.prog 89 = some (.v .nilFunc) := by kernel_rfl
@[go_sem] theorem zero_90 : zeroT Tryz.prog 90 = some (.v (.map none)) := by kernel_rfl
@[go_sem] theorem zero_91 : zeroT Tryz.prog 91 = some (.v .nilFunc) := by kernel_rfl
@[go_sem] theorem zero_93 : zeroT Tryz.prog 93 = some (.v .nilFunc) := by kernel_rfl
@[go_sem] theorem zero_94 : zeroT Tryz.prog 94 = some (.v .nilFunc) := by kernel_rfl
@[go_sem] theorem zero_95 : zeroT Tryz.prog 95 = some (.v .nilFunc) := by kernel_rfl
@[go_sem] theorem zero_96 : zeroT Tryz.prog 96 = some (.v .nilFunc) := by kernel_rfl
@[go_sem] theorem zero_97 : zeroT Tryz.prog 97 = some (.v .nilFunc) := by kernel_rfl
@[go_sem] theorem zero_98 : zeroT Tryz.prog 98 = some (.v .nilFunc) := by kernel_rfl
@[go_sem] theorem zero_99 : zeroT Tryz.prog 99 = some (.v .nilFunc) := by kernel_rfl
@[go_sem] theorem zero_100 : zeroT Tryz.prog 100 = some (.v .nilFunc) := by kernel_rfl
@[go_sem] theorem zero_101 : zeroT Tryz.prog 101 = some (.agg [.v (.int .i64 0), .v (.int .i64 0), .v (.int .i64 0), .v (.int .i64 0), .v (.int .i64 0), .v (.int .i64 0), .v (.int .i64 0), .v (.int .i64 0), .v (.int .i64 0), .v (.int .i64 0), .v (.int .i64 0), .v (.int .i64 0)]) := by kernel_rfl
@[go_sem] theorem zero_102 : zeroT Tryz.prog 102 = some (.agg [.v (.int .i64 0), .v (.int .i64 0), .v (.int .i64 0), .v (.int .i64 0), .v (.int .i64 0), .v (.int .i64 0), .v (.int .i64 0), .v (.int .i64 0), .v (.int .i64 0), .v (.int .i64 0), .v (.int .i64 0), .v (.int .i64 0), .v (.int .i64 0), .v (.int .i64 0), .v (.int .i64 0), .v (.int .i64 0), .v (.int .i64 0), .v (.int .i64 0), .v (.int .i64 0), .v (.int .i64 0), .v (.int .i64 0), .v (.int .i64 0), .v (.int .i64 0), .v (.int .i64 0), .v (.int .i64 0), .v (.int .i64 0), .v (.int .i64 0), .v (.int .i64 0), .v (.int .i64 0), .v (.int .i64 0), .v (.int .i64 0), .v (.int .i64 0), .v (.int .i64 0), .v (.int .i64 0), .v (.int .i64 0), .v (.int .i64 0), .v (.int .i64 0), .v (.int .i64 0), .v (.int .i64 0), .v (.int .i64 0), .v (.int .i64 0), .v (.int .i64 0), .v (.int .i64 0), .v (.int .i64 0), .v (.int .i64 0), .v (.int .i64 0), .v (.int .i64 0), .v (.int .i64 0), .v (.int .i64 0), .v (.int .i64 0), .v (.int .i64 0), .v (.int .i64 0), .v (.int .i64 0), .v (.int .i64 0), .v (.int .i64 0), .v (.int .i64 0), .v (.int .i64 0), .v (.int .i64 0), .v (.int .i64 0), .v (.int .i64 0), .v (.int .i64 0), .v (.int .i64 0), .v (.int .i64 0), .v (.int .i64 0), .v (.int .i64 0), .v (.int .i64 0), .v (.int .i64 0), .v (.int .i64 0), .v (.int .i64 0), .v (.int .i64 0), .v (.int .i64 0), .v (.int .i64 0), .v (.int .i64 0), .v (.int .i64 0), .v (.int .i64 0), .v (.int .i64 0), .v (.int .i64 0), .v (.int .i64 0), .v (.int .i64 0), .v (.int .i64 0), .v (.int .i64 0), .v (.int .i64 0), .v (.int .i64 0), .v (.int .i64 0), .v (.int .i64 0), .v (.int .i64 0), .v (.int .i64 0), .v (.int .i64 0), .v (.int .i64 0), .v (.int .i64 0), .v (.int .i64 0), .v (.int .i64 0), .v (.int .i64 0), .v (.int .i64 0), .v (.int .i64 0), .v (.int .i64 0), .v (.int .i64 0), .v (.int .i64 0), .v (.int .i64 0), .v (.int .i64 0), .v (.int .i64 0), .v (.int .i64 0), .v (.int .i64 0), .v (.int .i64 0), .v (.int .i64 0), .v (.int .i64 0), .v (.int .i64 0), .v (.int .i64 0), .v (.int .i64 0), .v (.int .i64 0), .v (.int .i64 0), .v (.int .i64 0), .v (.int .i64 0), .v (.int .i64 0), .v (.int .i64 0), .v (.int .i64 0), .v (.int .i64 0), .v (.int .i64 0), .v (.int .i64 0), .v (.int .i64 0), .v (.int .i64 0), .v (.int .i64 0), .v (.int .i64 0), .v (.int .i64 0), .v (.int .i64 0), .v (.int .i64 0), .v (.int .i64 0), .v (.int .i64 0), .v (.int .i64 0), .v (.int .i64 0), .v (.int .i64 0), .v (.int .i64 0), .v (.int .i64 0), .v (.int .i64 0), .v (.int .i64 0), .v (.int .i64 0), .v (.int .i64 0), .v (.int .i64 0), .v (.int .i64 0), .v (.int .i64 0), .v (.int .i64 0), .v (.int .i64 0), .v (.int .i64 0), .v (.int .i64 0)]) := by kernel_rfl
@[go_sem] theorem zero_103 : zeroT Tryz.prog 103 = some (.agg [.v (.slice none 0 0), .v (.slice none 0 0), .v (.int .i64 0), .v (.int .i64 0), .v (.int .i64 0), .v (.int .i64 0), .v (.int .i64 0), .v (.int .i64 0), .v (.int .i64 0), .v (.int .i64 0), .v (.int .i64 0), .v (.int .i64 0), .v (.int .i64 0), .v (.int .i64 0), .v (.int .i64 0), .v (.int .i64 0), .v (.int .i64 0), .v (.int .i64 0), .v (.int .i64 0), .v (.int .i64 0), .v (.int .i64 0), .v (.int .i64 0), .v (.int .i64 0), .v (.int .i64 0), .v (.int .i64 0), .v (.int .i64 0), .v (.int .i64 0), .v (.int .i64 0), .v (.int .i64 0), .v (.int .i64 0), .v (.int .i64 0), .v (.int .i64 0), .v (.int .i64 0), .v (.int .i64 0), .v (.int .i64 0), .v (.int .i64 0), .v (.int .i64 0), .v (.int .i64 0), .v (.int .i64 0), .v (.int .i64 0), .v (.int .i64 0), .v (.int .i64 0), .v (.int .i64 0), .v (.int .i64 0), .v (.int .i64 0), .v (.int .i64 0), .v (.int .i64 0), .v (.int .i64 0), .v (.int .i64 0), .v (.int .i64 0), .v (.int .i64 0), .v (.int .i64 0), .v (.int .i64 0), .v (.int .i64 0), .v (.int .i64 0), .v (.int .i64 0), .v (.int .i64 0), .v (.int .i64 0), .v (.int .i64 0), .v (.int .i64 0), .v (.int .i64 0), .v (.int .i64 0), .v (.int .i64 0), .v (.int .i64 0), .v (.int .i64 0), .v (.int .i64 0), .v (.int .i64 0), .v (.int .i64 0), .v (.int .i64 0), .v (.int .i64 0), .v (.int .i64 0), .v (.int .i64 0), .v (.int .i64 0), .v (.int .i64 0), .v (.int .i64 0), .v (.int .i64 0), .v (.int .i64 0), .v (.int .i64 0), .v (.int .i64 0), .v (.int .i64 0), .v (.int .i64 0), .v (.int .i64 0), .v (.int .i64 0), .v (.int .i64 0), .v (.int .i64 0), .v (.int .i64 0), .v (.int .i64 0), .v (.int .i64 0), .v (.int .i64 0), .v (.int .i64 0), .v (.int .i64 0), .v (.int .i64 0), .v (.int .i64 0), .v (.int .i64 0), .v (.int .i64 0), .v (.int .i64 0), .v (.int .i64 0), .v (.int .i64 0), .v (.int .i64 0), .v (.int .i64 0), .v (.int .i64 0), .v (.int .i64 0), .v (.int .i64 0), .v (.int .i64 0), .v (.int .i64 0), .v (.int .i64 0), .v (.int .i64 0), .v (.int .i64 0), .v (.int .i64 0), .v (.int .i64 0), .v (.int .i64 0), .v (.int .i64 0), .v (.int .i64 0), .v (.int .i64 0), .v (.int .i64 0), .v (.int .i64 0), .v (.int .i64 0), .v (.int .i64 0), .v (.int .i64 0), .v (.int .i64 0), .v (.int .i64 0), .v (.int .i64 0), .v (.int .i64 0), .v (.int .i64 0), .v (.int .i64 0), .v (.int .i64 0), .v (.int .i64 0), .v (.int .i64 0), .v (.int .i64 0), .v (.int .i64 0), .v (.int .i64 0), .v (.int .i64 0), .v (.int .i64 0), .v (.int .i64 0), .v (.int .i64 0), .v (.int .i64 0), .v (.int .i64 0), .v (.int .i64 0), .v (.int .i64 0), .v (.int .i64 0), .v (.int .i64 0), .v (.int .i64 0), .v (.int .i64 0), .v (.int .i64 0), .v (.int .i64 0), .v (.int .i64 0)]) := by kernel_rfl
@[go_sem] theorem zero_104 : zeroT Tryz.prog 104 = some (.agg [.v (.slice none 0 0), .v (.slice none 0 0), .v (.int .i64 0), .v (.int .i64 0), .v (.int .i64 0), .v (.int .i64 0), .v (.int .i64 0), .v (.int .i64 0), .v (.int .i64 0), .v (.int .i64 0), .v (.int .i64 0), .v (.int .i64 0), .v (.int .i64 0), .v (.int .i64 0), .v (.int .i64 0), .v (.int .i64 0), .v (.int .i64 0), .v (.int .i64 0), .v (.int .i64 0), .v (.int .i64 0), .v (.int .i64 0), .v (.int .i64 0), .v (.int .i64 0), .v (.int .i64 0), .v (.int .i64 0), .v (.int .i64 0), .v (.int .i64 0), .v (.int .i64 0), .v (.int .i64 0), .v (.int .i64 0), .v (.int .i64 0), .v (.int .i64 0), .v (.int .i64 0), .v (.int .i64 0), .v (.int .i64 0), .v (.int .i64 0), .v (.int .i64 0), .v (.int .i64 0), .v (.int .i64 0), .v (.int .i64 0), .v (.int .i64 0), .v (.int .i64 0), .v (.int .i64 0), .v (.int .i64 0), .v (.int .i64 0), .v (.int .i64 0), .v (.int .i64 0), .v (.int .i64 0), .v (.int .i64 0), .v (.int .i64 0), .v (.int .i64 0), .v (.int .i64 0), .v (.int .i64 0), .v (.int .i64 0), .v (.int .i64 0), .v (.int .i64 0), .v (.int .i64 0), .v (.int .i64 0), .v (.int .i64 0), .v (.int .i64 0), .v (.int .i64 0), .v (.int .i64 0), .v (.int .i64 0), .v (.int .i64 0), .v (.int .i64 0), .v (.int .i64 0), .v (.int .i64 0), .v (.int .i64 0), .v (.int .i64 0), .v (.int .i64 0), .v (.int .i64 0), .v (.int .i64 0), .v (.int .i64 0), .v (.int .i64 0), .v (.int .i64 0), .v (.int .i64 0), .v (.int .i64 0), .v (.int .i64 0), .v (.int .i64 0), .v (.int .i64 0), .v (.int .i64 0), .v (.int .i64 0), .v (.int .i64 0), .v (.int .i64 0), .v (.int .i64 0), .v (.int .i64 0), .v (.int .i64 0), .v (.int .i64 0), .v (.int .i64 0), .v (.int .i64 0), .v (.int .i64 0), .v (.int .i64 0), .v (.int .i64 0), .v (.int .i64 0), .v (.int .i64 0), .v (.int .i64 0), .v (.int .i64 0), .v (.int .i64 0), .v (.int .i64 0), .v (.int .i64 0), .v (.int .i64 0), .v (.int .i64 0), .v (.int .i64 0), .v (.int .i64 0), .v (.int .i64 0), .v (.int .i64 0), .v (.int .i64 0), .v (.int .i64 0), .v (.int .i64 0), .v (.int .i64 0), .v (.int .i64 0), .v (.int .i64 0), .v (.int .i64 0), .v (.int .i64 0), .v (.int .i64 0), .v (.int .i64 0), .v (.int .i64 0), .v (.int .i64 0), .v (.int .i64 0), .v (.int .i64 0), .v (.int .i64 0), .v (.int .i64 0), .v (.int .i64 0), .v (.int .i64 0), .v (.int .i64 0), .v (.int .i64 0), .v (.int .i64 0), .v (.int .i64 0), .v (.int .i64 0), .v (.int .i64 0), .v (.int .i64 0), .v (.int .i64 0), .v (.int .i64 0), .v (.int .i64 0), .v (.int .i64 0), .v (.int .i64 0), .v (.int .i64 0), .v (.int .i64 0), .v (.int .i64 0), .v (.int .i64 0), .v (.int .i64 0), .v (.int .i64 0), .v (.int .i64 0), .v (.int .i64 0), .v (.int .i64 0), .v (.int .i64 0)]) := by kernel_rfl
@[go_sem] theorem zero_105 : zeroT Tryz.prog 105 = some (.v .nilFunc) := by kernel_rfl
@[go_sem] theorem zero_106 : zeroT Tryz.prog 106 = some (.v .nilFunc) := by kernel_rfl
@[go_sem] theorem zero_107 : zeroT Tryz.prog 107 = some (.v .nilFunc) := by kernel_rfl
@[go_sem] theorem zero_108 : zeroT Tryz.prog 108 = some (.v .nilFunc) := by kernel_rfl
@[go_sem] theorem zero_109 : zeroT Tryz.prog 109 = some (.v .nilFunc) := by kernel_rfl
@[go_sem] theorem zero_110 : zeroT Tryz.prog 110 = some (.v .nilFunc) := by kernel_rfl
@[go_sem] theorem zero_111 : zeroT Tryz.prog 111 = some (.v .nilFunc) := by kernel_rfl
@[go_sem] theorem zero_112 : zeroT Tryz.prog 112 = some (.v .nilFunc) := by kernel_rfl
@[go_sem] theorem zero_113 : zeroT Tryz.prog 113 = some (.v .nilFunc) := by kernel_rfl
@[go_sem] theorem zero_114 : zeroT Tryz.prog 114 = some (.v .nilFunc) := by kernel_rfl
@[go_sem] theorem zero_115 : zeroT Tryz.prog 115 = some (.v .nilFunc) := by kernel_rfl
@[go_sem] theorem zero_116 : zeroT Tryz.prog 116 = some (.v .nilFunc) := by kernel_rfl
@[go_sem] theorem zero_117 : zeroT Tryz.prog 117 = some (.v .nilFunc) := by kernel_rfl
@[go_sem] theorem zero_118 : zeroT Tryz.prog 118 = some (.v .nilFunc) := by kernel_rfl
@[go_sem] theorem zero_119 : zeroT Tryz.prog 119 = some (.agg [.v (.int .i64 0), .v (.int .i64 0)]) := by kernel_rfl
@[go_sem] theorem zero_120 : zeroT Tryz.prog 120 = some (.agg [.v (.int .i64 0), .v (.int .i64 0)]) := by kernel_rfl
@[go_sem] theorem zero_121 : zeroT Tryz.prog 121 = some (.v .nilFunc) := by kernel_rfl
@[go_sem] theorem zero_122 : zeroT Tryz.prog 122 = some (.v .nilFunc) := by kernel_rfl
@[go_sem] theorem zero_123 : zeroT Tryz.prog 123 = some (.v .nilFunc) := by kernel_rfl
@[go_sem] theorem zero_124 : zeroT Tryz.prog 124 = some (.v .nilFunc) := by kernel_rfl
@[go_sem] theorem zero_125 : zeroT Tryz.prog 125 = some (.v (.pointer none)) := by kernel_rfl
@[go_sem] theorem zero_126 : zeroT Tryz.prog 126 = some (.v .nilFunc) := by kernel_rfl
@[go_sem] theorem zero_127 : zeroT Tryz.prog 127 = some (.v (.pointer none)) := by kernel_rfl
@[go_sem] theorem zero_128 : zeroT Tryz.prog 128 = some (.v .nilFunc) := by kernel_rfl
@[go_sem] theorem zero_129 : zeroT Tryz.prog 129 = some (.v .nilFunc) := by kernel_rfl
@[go_sem] theorem zero_130 : zeroT Tryz.prog 130 = some (.v .nilFunc) := by kernel_rfl
@[go_sem] theorem zero_131 : zeroT Tryz.prog 131 = some (.v .nilFunc) := by kernel_rfl
@[go_sem] theorem zero_132 : zeroT Tryz.prog 132 = some (.v .nilFunc) := by kernel_rfl
@[go_sem] theorem zero_133 : zeroT Tryz.prog 133 = some (.v (.slice none 0 0)) := by kernel_rfl
@[go_sem] theorem zero_134 : zeroT Tryz.prog 134 = some (.v .nilFunc) := by kernel_rfl
@[go_sem] theorem zero_135 : zeroT Tryz.prog 135 = some (.v .nilFunc) := by kernel_rfl
@[go_sem] theorem zero_136 : zeroT Tryz.prog 136 = some (.v .nilFunc) := by kernel_rfl
@[go_sem] theorem zero_137 : zeroT Tryz.prog 137 = some (.v .nilFunc) := by kernel_rfl
@[go_sem] theorem zero_138 : zeroT Tryz.prog 138 = some (.v .nilFunc) := by kernel_rfl
@[go_sem] theorem zero_139 : zeroT Tryz.prog 139 = some (.v .nilFunc) := by kernel_rfl
@[go_sem] theorem zero_140 : zeroT Tryz.prog 140 = some (.v .nilFunc) := by kernel_rfl
@[go_sem] theorem zero_141 : zeroT Tryz.prog 141 = some (.v .nilFunc) := by kernel_rfl
@[go_sem] theorem zero_142 : zeroT Tryz.prog 142 = some (.v (.int .u64 0)) := by kernel_rfl
@[go_sem] theorem zero_143 : zeroT Tryz.prog 143 = some (.v .nilFunc) := by kernel_rfl
@[go_sem] theorem zero_144 : zeroT Tryz.prog 144 = some (.v .nilFunc) := by kernel_rfl
@[go_sem] theorem zero_145 : zeroT Tryz.prog 145 = some (.v .nilFunc) := by kernel_rfl
@[go_sem] theorem zero_146 : zeroT Tryz.prog 146 = some (.agg [.v .nilFunc, .v .nilFunc]) := by kernel_rfl
@[go_sem] theorem zero_147 : zeroT Tryz.prog 147 = some (.agg [.v .nilFunc, .v .nilFunc]) := by kernel_rfl
@[go_sem] theorem zero_148 : zeroT Tryz.prog 148 = some (.agg [.v .nilFunc, .v .nilFunc, .v .nilFunc, .v .nilFunc, .v .nilFunc, .v .nilFunc, .v .nilFunc, .v .nilFunc]) := by kernel_rfl
@[go_sem] theorem zero_149 : zeroT Tryz.prog 149 = some (.v .nilFunc) := by kernel_rfl
@[go_sem] theorem zero_150 : zeroT Tryz.prog 150 = some (.agg [.v (.slice none 0 0), .v (.slice none 0 0)]) := by kernel_rfl
@[go_sem] theorem zero_151 : zeroT Tryz.prog 151 = some (.agg [.v (.slice none 0 0), .v (.slice none 0 0)]) := by kernel_rfl
@[go_sem] theorem zero_152 : zeroT Tryz.prog 152 = some (.v .nilFunc) := by kernel_rfl
@[go_sem] theorem zero_153 : zeroT Tryz.prog 153 = some (.v .nilFunc) := by kernel_rfl
@[go_sem] theorem zero_154 : zeroT Tryz.prog 154 = some (.v .nilFunc) := by kernel_rfl
@[go_sem] theorem zero_155 : zeroT Tryz.prog 155 = some (.v .nilFunc) := by kernel_rfl
@[go_sem] theorem zero_156 : zeroT Tryz.prog 156 = some (.v .nilFunc) := by kernel_rfl
@[go_sem] theorem zero_157 : zeroT Tryz.prog 157 = some (.v .nilFunc) := by kernel_rfl
@[go_sem] theorem zero_158 : zeroT Tryz.prog 158 = some (.v .nilFunc) := by kernel_rfl
@[go_sem] theorem zero_159 : zeroT Tryz.prog 159 = some (.v .nilFunc) := by kernel_rfl
@[go_sem] theorem zero_160 : zeroT Tryz.prog 160 = some (.v (.int .i64 0)) := by kernel_rfl
@[go_sem] theorem zero_162 : zeroT Tryz.prog 162 = some (.v .nilFunc) := by kernel_rfl
@[go_sem] theorem zero_163 : zeroT Tryz.prog 163 = some (.v .nilFunc) := by kernel_rfl
@[go_sem] theorem zero_164 : zeroT Tryz.prog 164 = some (.v .nilFunc) := by kernel_rfl
@[go_sem] theorem zero_166 : zeroT Tryz.prog 166 = some (.v .nilFunc) := by kernel_rfl
@[go_sem] theorem zero_167 : zeroT Tryz.prog 167 = some (.v .nilFunc) := by kernel_rfl
@[go_sem] theorem zero_168 : zeroT Tryz.prog 168 = some (.v (.int .u32 0)) := by kernel_rfl
@[go_sem] theorem zero_169 : zeroT Tryz.prog 169 = some (.v .nilFunc) := by kernel_rfl
@[go_sem] theorem zero_170 : zeroT Tryz.prog 170 = some (.v (.int .u64 0)) := by kernel_rfl
@[go_sem] theorem zero_171 : zeroT Tryz.prog 171 = some (.v .nilFunc) := by kernel_rfl
@[go_sem] theorem zero_172 : zeroT Tryz.prog 172 = some (.v .nilFunc) := by kernel_rfl
@[go_sem] theorem zero_173 : zeroT Tryz.prog 173 = some (.v (.int .u64 0)) := by kernel_rfl
@[go_sem] theorem zero_174 : zeroT Tryz.prog 174 = some (.v .nilFunc) := by kernel_rfl
@[go_sem] theorem zero_175 : zeroT Tryz.prog 175 = some (.v .nilFunc) := by kernel_rfl
@[go_sem] theorem zero_176 : zeroT Tryz.prog 176 = some (.v .nilFunc) := by kernel_rfl
@[go_sem] theorem zero_177 : zeroT Tryz.prog 177 = some (.v (.pointer none)) := by kernel_rfl
@[go_sem] theorem zero_178 : zeroT Tryz.prog 178 = some (.v .nilFunc) := by kernel_rfl
@[go_sem] theorem zero_179 : zeroT Tryz.prog 179 = some (.v .nilFunc) := by kernel_rfl
@[go_sem] theorem zero_180 : zeroT Tryz.prog 180 = some (.v .nilFunc) := by kernel_rfl
@[go_sem] theorem zero_181 : zeroT Tryz.prog 181 = some (.v .nilFunc) := by kernel_rfl
@[go_sem] theorem zero_182 : zeroT Tryz.prog 182 = some (.v .nilFunc) := by kernel_rfl
@[go_sem] theorem zero_183 : zeroT Tryz.prog 183 = some (.v .nilFunc) := by kernel_rfl
@[go_sem] theorem zero_184 : zeroT Tryz.prog 184 = some (.v (.pointer none)) := by kernel_rfl
@[go_sem] theorem zero_186 : zeroT Tryz.prog 186 = some (.v .nilFunc) := by kernel_rfl
@[go_sem] theorem zero_187 : zeroT Tryz.prog 187 = some (.v .nilFunc) := by kernel_rfl
@[go_sem] theorem zero_188 : zeroT Tryz.prog 188 = some (.v .nilFunc) := by kernel_rfl
@[go_sem] theorem zero_189 : zeroT Tryz.prog 189 = some (.v .nilFunc) := by kernel_rfl
@[go_sem] theorem zero_190 : zeroT Tryz.prog 190 = some (.v .nilFunc) := by kernel_rfl
@[go_sem] theorem zero_191 : zeroT Tryz.prog 191 = some (.agg [.v (.pointer none), .v (.pointer none), .v (.pointer none), .v (.string ⟨#[]⟩)]) := by kernel_rfl
@[go_sem] theorem zero_192 : zeroT Tryz.prog 192 = some (.agg [.v (.pointer none), .v (.pointer none), .v (.pointer none), .v (.string ⟨#[]⟩)]) := by kernel_rfl
@[go_sem] theorem zero_193 : zeroT Tryz.prog 193 = some (.agg []) := by kernel_rfl
@[go_sem] theorem zero_194 : zeroT Tryz.prog 194 = some (.agg []) := by kernel_rfl
@[go_sem] theorem zero_195 : zeroT Tryz.prog 195 = some (.agg []) := by kernel_rfl
@[go_sem] theorem zero_196 : zeroT Tryz.prog 196 = some (.v .nilFunc) := by kernel_rfl
@[go_sem] theorem zero_197 : zeroT Tryz.prog 197 = some (.v (.int .u8 0)) := by kernel_rfl
@[go_sem] theorem zero_198 : zeroT Tryz.prog 198 = some (.v (.int .u8 0)) := by kernel_rfl
@[go_sem] theorem zero_199 : zeroT Tryz.prog 199 = some (.v .nilFunc) := by kernel_rfl
@[go_sem] theorem zero_200 : zeroT Tryz.prog 200 = some (.v (.pointer none)) := by kernel_rfl
@[go_sem] theorem zero_201 : zeroT Tryz.prog 201 = some (.v (.int .i32 0)) := by kernel_rfl
@[go_sem] theorem zero_202 : zeroT Tryz.prog 202 = some (.v (.int .i32 0)) := by kernel_rfl
@[go_sem] theorem zero_203 : zeroT Tryz.prog 203 = some (.agg [.v (.int .u64 0), .v (.int .u64 0), .v (.int .u32 0), .v (.int .u8 0), .v (.int .u8 0), .v (.int .u8 0), .v (.int .u8 0), .v .nilFunc, .v (.pointer none), .v (.int .i32 0), .v (.int .i32 0)]) := by kernel_rfl
@[go_sem] theorem zero_204 : zeroT Tryz.prog 204 = some (.agg [.v (.int .u64 0), .v (.int .u64 0), .v (.int .u32 0), .v (.int .u8 0), .v (.int .u8 0), .v (.int .u8 0), .v (.int .u8 0), .v .nilFunc, .v (.pointer none), .v (.int .i32 0), .v (.int .i32 0)]) := by kernel_rfl
@[go_sem] theorem keep_2 (e : Exts) : (Cx e).keep 2 = [] := rfl
@[go_sem] theorem alter_2 (e : Exts) (d : Option Tmp) : (Cx e).alter 2 d = false := rfl
theorem fn_2 (e : Exts) : (Cx e).P.funcs[2]? = some Tryz.f2 := Tryz.func2
theorem ext_2 {e : Exts} (he : Quiet e) : (Cx e).ext 2 = none := he _ (by decide) (by decide)
theorem pure_2 (e : Exts) (h : FuncId) (d : Option Tmp) : (Cx e).pure h 2 d = true := by simp [Cx, pureF, impF, impC]
@[go_sem] theorem keep_3 (e : Exts) : (Cx e).keep 3 = [0, 3, 7, 29, 9, 8, 41, 1, 2, 10, 11, 12, 13, 15, 17, 16, 14, 19, 21, 6] := rfl
@[go_sem] theorem alter_3 (e : Exts) (d : Option Tmp) : (Cx e).alter 3 d = false := rfl
theorem fn_3 (e : Exts) : (Cx e).P.funcs[3]? = some Tryz.f3 := Tryz.func3
theorem ext_3 {e : Exts} (he : Quiet e) : (Cx e).ext 3 = none := he _ (by decide) (by decide)
theorem pure_3 (e : Exts) (h : FuncId) (d : Option Tmp) : (Cx e).pure h 3 d = true := by simp [Cx, pureF, impF, impC]
@[go_sem] theorem keep_4 (e : Exts) : (Cx e).keep 4 = [0, 2, 5, 29, 7, 6, 41, 1, 8, 9, 11, 13, 10, 96, 12, 99, 98, 100, 97, 17, 19, 18, 16, 129, 132, 131, 133, 130, 21, 20, 173, 15, 14, 4] := rfl
@[go_sem] theorem alter_4 (e : Exts) (d : Option Tmp) : (Cx e).alter 4 d = false := rfl
theorem fn_4 (e : Exts) : (Cx e).P.funcs[4]? = some Tryz.f4 := Tryz.func4
theorem ext_4 {e : Exts} (he : Quiet e) : (Cx e).ext 4 = none := he _ (by decide) (by decide)
theorem pure_4 (e : Exts) (h : FuncId) (d : Option Tmp) : (Cx e).pure h 4 d = true := by simp [Cx, pureF, impF, impC]
@[go_sem] theorem keep_5 (e : Exts) : (Cx e).keep 5 = [0, 1, 3, 4, 7, 29, 2, 8, 14, 13, 67, 12, 69, 10, 86, 11, 9, 16, 15, 6] := rfl
@[go_sem] theorem alter_5 (e : Exts) (d : Option Tmp) : (Cx e).alter 5 d = false := rfl
theorem fn_5 (e : Exts) : (Cx e).P.funcs[5]? = some Tryz.f5 := Tryz.func5
theorem ext_5 {e : Exts} (he : Quiet e) : (Cx e).ext 5 = none := he _ (by decide) (by decide)
theorem pure_5 (e : Exts) (h : FuncId) (d : Option Tmp) : (Cx e).pure h 5 d = true := by simp [Cx, pureF, impF, impC]
@[go_sem] theorem keep_6 (e : Exts) : (Cx e).keep 6 = [0, 1, 2, 3, 5, 27, 7, 6, 47, 8, 9, 11, 10, 13, 12, 4] := rfl
@[go_sem] theorem alter_6 (e : Exts) (d : Option Tmp) : (Cx e).alter 6 d = false := rfl
theorem fn_6 (e : Exts) : (Cx e).P.funcs[6]? = some Tryz.f6 := Tryz.func6
theorem ext_6 {e : Exts} (he : Quiet e) : (Cx e).ext 6 = none := he _ (by decide) (by decide)
theorem pure_6 (e : Exts) (h : FuncId) (d : Option Tmp) : (Cx e).pure h 6 d = true := by simp [Cx, pureF, impF, impC]
@[go_sem] theorem keep_7 (e : Exts) : (Cx e).keep 7 = [0, 1, 2, 3, 4, 5, 7, 42, 9, 51, 8, 11, 13, 15, 17, 10, 12, 14, 16, 6] := rfl
@[go_sem] theorem alter_7 (e : Exts) (d : Option Tmp) : (Cx e).alter 7 d = false := rfl
theorem fn_7 (e : Exts) : (Cx e).P.funcs[7]? = some Tryz.f7 := Tryz.func7
theorem ext_7 {e : Exts} (he : Quiet e) : (Cx e).ext 7 = none := he _ (by decide) (by decide)
theorem pure_7 (e : Exts) (h : FuncId) (d : Option Tmp) : (Cx e).pure h 7 d = true := by simp [Cx, pureF, impF, impC]
@[go_sem] theorem keep_8 (e : Exts) : (Cx e).keep 8 = [0, 1, 2, 3, 5, 31, 7, 6, 46, 50, 49, 51, 48, 9, 58, 57, 59, 56, 11, 66, 65, 67, 72, 71, 73, 70, 15, 8, 10, 13, 87, 12, 97, 17, 109, 16, 111, 128, 4] := rfl
@[go_sem] theorem alter_8 (e : Exts) (d : Option Tmp) : (Cx e).alter 8 d = false := rfl
theorem fn_8 (e : Exts) : (Cx e).P.funcs[8]? = some Tryz.f8 := Tryz.func8
theorem ext_8 {e : Exts} (he : Quiet e) : (Cx e).ext 8 = none := he _ (by decide) (by decide)
theorem pure_8 (e : Exts) (h : FuncId) (d : Option Tmp) : (Cx e).pure h 8 d = true := by simp [Cx, pureF, impF, impC]
@[go_sem] theorem keep_9 (e : Exts) : (Cx e).keep 9 = [0, 3, 1, 7, 38, 42, 41, 43, 40, 9, 49, 11, 13, 12, 72, 2, 14, 15, 17, 93, 96, 95, 97, 94, 21, 23, 108, 18, 22, 16, 10, 118, 117, 119, 116, 25, 24, 140, 19, 6] := rfl
@[go_sem] theorem alter_9 (e : Exts) (d : Option Tmp) : (Cx e).alter 9 d = false := rfl
theorem fn_9 (e : Exts) : (Cx e).P.funcs[9]? = some Tryz.f9 := Tryz.func9
theorem ext_9 {e : Exts} (he : Quiet e) : (Cx e).ext 9 = none := he _ (by decide) (by decide)
theorem pure_9 (e : Exts) (h : FuncId) (d : Option Tmp) : (Cx e).pure h 9 d = true := by simp [Cx, pureF, impF, impC]
@[go_sem] theorem keep_10 (e : Exts) : (Cx e).keep 10 = [0, 2, 4, 1, 6, 9, 50, 54, 53, 55, 52, 11, 61, 95, 94, 96, 20, 21, 3, 13, 15, 17, 19, 23, 18, 12, 22, 149, 14, 152, 151, 153, 150, 158, 157, 159, 156, 27, 26, 29, 169, 24, 16, 174, 173, 175, 172, 31, 186, 8] := rfl
@[go_sem] theorem alter_10 (e : Exts) (d : Option Tmp) : (Cx e).alter 10 d = false := rfl
theorem fn_10 (e : Exts) : (Cx e).P.funcs[10]? = some Tryz.f10 := Tryz.func10
theorem ext_10 {e : Exts} (he : Quiet e) : (Cx e).ext 10 = none := he _ (by decide) (by decide)
theorem pure_10 (e : Exts) (h : FuncId) (d : Option Tmp) : (Cx e).pure h 10 d = true := by simp [Cx, pureF, impF, impC]
@[go_sem] theorem keep_11 (e : Exts) : (Cx e).keep 11 = [0, 1, 2, 3, 5, 42, 6, 7, 9, 11, 13, 80, 10, 83, 82, 84, 81, 14, 8, 16, 94, 93, 95, 92, 17, 19, 107, 111, 110, 112, 109, 21, 118, 23, 126, 22, 129, 128, 130, 127, 12, 135, 134, 136, 133, 26, 25, 28, 147, 4] := rfl
@[go_sem] theorem alter_11 (e : Exts) (d : Option Tmp) : (Cx e).alter 11 d = false := rfl
theorem fn_11 (e : Exts) : (Cx e).P.funcs[11]? = some Tryz.f11 := Tryz.func11
theorem ext_11 {e : Exts} (he : Quiet e) : (Cx e).ext 11 = none := he _ (by decide) (by decide)
theorem pure_11 (e : Exts) (h : FuncId) (d : Option Tmp) : (Cx e).pure h 11 d = true := by simp [Cx, pureF, impF, impC]
@[go_sem] theorem keep_12 (e : Exts) : (Cx e).keep 12 = [11, 2, 1, 4, 3, 6, 5, 8, 7, 10, 9, 12, 17, 14, 13, 16, 15, 0] := rfl
@[go_sem] theorem alter_12 (e : Exts) (d : Option Tmp) : (Cx e).alter 12 d = false := rfl
theorem fn_12 (e : Exts) : (Cx e).P.funcs[12]? = some Tryz.f12 := Tryz.func12
theorem pure_12 (e : Exts) (h : FuncId) (d : Option Tmp) : (Cx e).pure h 12 d = true := by simp [Cx, pureF, impF, impC]
@[go_sem] theorem keep_13 (e : Exts) : (Cx e).keep 13 = [0, 1, 2] := rfl
@[go_sem] theorem alter_13 (e : Exts) (d : Option Tmp) : (Cx e).alter 13 d = false := rfl
theorem fn_13 (e : Exts) : (Cx e).P.funcs[13]? = some Tryz.f13 := Tryz.func13
theorem ext_13 {e : Exts} (he : Quiet e) : (Cx e).ext 13 = none := he _ (by decide) (by decide)
theorem pure_13 (e : Exts) (h : FuncId) (d : Option Tmp) : (Cx e).pure h 13 d = true := by simp [Cx, pureF, impF, impC]
@[go_sem] theorem keep_14 (e : Exts) : (Cx e).keep 14 = [0, 1, 5, 13, 4, 16, 17, 18, 6, 2, 3] := rfl
@[go_sem] theorem alter_14 (e : Exts) (d : Option Tmp) : (Cx e).alter 14 d = false := rfl
theorem fn_14 (e : Exts) : (Cx e).P.funcs[14]? = some Tryz.f14 := Tryz.func14
theorem ext_14 {e : Exts} (he : Quiet e) : (Cx e).ext 14 = none := he _ (by decide) (by decide)
theorem pure_14 (e : Exts) (h : FuncId) (d : Option Tmp) : (Cx e).pure h 14 d = true := by simp [Cx, pureF, impF, impC]
@[go_sem] theorem keep_15 (e : Exts) : (Cx e).keep 15 = [0, 1, 2, 7, 16, 4, 5, 6, 20, 21, 22, 8, 3, 25, 9] := rfl
@[go_sem] theorem alter_15 (e : Exts) (d : Option Tmp) : (Cx e).alter 15 d = false := rfl
theorem fn_15 (e : Exts) : (Cx e).P.funcs[15]? = some Tryz.f15 := Tryz.func15
theorem ext_15 {e : Exts} (he : Quiet e) : (Cx e).ext 15 = none := he _ (by decide) (by decide)
theorem pure_15 (e : Exts) (h : FuncId) (d : Option Tmp) : (Cx e).pure h 15 d = true := by simp [Cx, pureF, impF, impC]
@[go_sem] theorem keep_16 (e : Exts) : (Cx e).keep 16 = [0, 1, 2, 7, 16, 4, 5, 6, 19, 20, 21, 9, 3, 24, 8] := rfl
@[go_sem] theorem alter_16 (e : Exts) (d : Option Tmp) : (Cx e).alter 16 d = false := rfl
theorem fn_16 (e : Exts) : (Cx e).P.funcs[16]? = some Tryz.f16 := Tryz.func16
theorem ext_16 {e : Exts} (he : Quiet e) : (Cx e).ext 16 = none := he _ (by decide) (by decide)
theorem pure_16 (e : Exts) (h : FuncId) (d : Option Tmp) : (Cx e).pure h 16 d = true := by simp [Cx, pureF, impF, impC]
@[go_sem] theorem keep_17 (e : Exts) : (Cx e).keep 17 = [0, 1, 2, 3, 6, 5, 4] := rfl
@[go_sem] theorem alter_17 (e : Exts) (d : Option Tmp) : (Cx e).alter 17 d = false := rfl
theorem fn_17 (e : Exts) : (Cx e).P.funcs[17]? = some Tryz.f17 := Tryz.func17
theorem ext_17 {e : Exts} (he : Quiet e) : (Cx e).ext 17 = none := he _ (by decide) (by decide)
theorem pure_17 (e : Exts) (h : FuncId) (d : Option Tmp) : (Cx e).pure h 17 d = true := by simp [Cx, pureF, impF, impC]
@[go_sem] theorem keep_18 (e : Exts) : (Cx e).keep 18 = [0, 1, 2, 3, 9, 19, 4] := rfl
@[go_sem] theorem alter_18 (e : Exts) (d : Option Tmp) : (Cx e).alter 18 d = false := rfl
theorem fn_18 (e : Exts) : (Cx e).P.funcs[18]? = some Tryz.f18 := Tryz.func18
theorem ext_18 {e : Exts} (he : Quiet e) : (Cx e).ext 18 = none := he _ (by decide) (by decide)
theorem pure_18 (e : Exts) (h : FuncId) (d : Option Tmp) : (Cx e).pure h 18 d = true := by simp [Cx, pureF, impF, impC]
@[go_sem] theorem keep_19 (e : Exts) : (Cx e).keep 19 = [0, 1, 2, 7, 14, 6, 3, 19, 4, 5] := rfl
@[go_sem] theorem alter_19 (e : Exts) (d : Option Tmp) : (Cx e).alter 19 d = false := rfl
theorem fn_19 (e : Exts) : (Cx e).P.funcs[19]? = some Tryz.f19 := Tryz.func19
theorem ext_19 {e : Exts} (he : Quiet e) : (Cx e).ext 19 = none := he _ (by decide) (by decide)
theorem pure_19 (e : Exts) (h : FuncId) (d : Option Tmp) : (Cx e).pure h 19 d = true := by simp [Cx, pureF, impF, impC]
@[go_sem] theorem keep_20 (e : Exts) : (Cx e).keep 20 = [0, 1, 5, 18, 4, 23, 24, 25, 6, 9, 11, 32, 7, 2, 3] := rfl
@[go_sem] theorem alter_20 (e : Exts) (d : Option Tmp) : (Cx e).alter 20 d = false := rfl
theorem fn_20 (e : Exts) : (Cx e).P.funcs[20]? = some Tryz.f20 := Tryz.func20
theorem ext_20 {e : Exts} (he : Quiet e) : (Cx e).ext 20 = none := he _ (by decide) (by decide)
theorem pure_20 (e : Exts) (h : FuncId) (d : Option Tmp) : (Cx e).pure h 20 d = true := by simp [Cx, pureF, impF, impC]
@[go_sem] theorem keep_21 (e : Exts) : (Cx e).keep 21 = [0, 2, 7, 14, 1, 18, 6, 4, 5] := rfl
@[go_sem] theorem alter_21 (e : Exts) (d : Option Tmp) : (Cx e).alter 21 d = false := rfl
theorem fn_21 (e : Exts) : (Cx e).P.funcs[21]? = some Tryz.f21 := Tryz.func21
theorem ext_21 {e : Exts} (he : Quiet e) : (Cx e).ext 21 = none := he _ (by decide) (by decide)
theorem pure_21 (e : Exts) (h : FuncId) (d : Option Tmp) : (Cx e).pure h 21 d = true := by simp [Cx, pureF, impF, impC]
@[go_sem] theorem keep_22 (e : Exts) : (Cx e).keep 22 = [0, 1, 3, 4, 9, 20, 6, 2, 25, 8, 31, 32, 33, 10, 11, 12, 43, 7] := rfl
@[go_sem] theorem alter_22 (e : Exts) (d : Option Tmp) : (Cx e).alter 22 d = false := rfl
theorem fn_22 (e : Exts) : (Cx e).P.funcs[22]? = some Tryz.f22 := Tryz.func22
theorem ext_22 {e : Exts} (he : Quiet e) : (Cx e).ext 22 = none := he _ (by decide) (by decide)
theorem pure_22 (e : Exts) (h : FuncId) (d : Option Tmp) : (Cx e).pure h 22 d = true := by simp [Cx, pureF, impF, impC]
@[go_sem] theorem keep_23 (e : Exts) : (Cx e).keep 23 = [0, 1, 2, 3, 7, 18, 6, 22, 23, 24, 8, 10, 4, 5] := rfl
@[go_sem] theorem alter_23 (e : Exts) (d : Option Tmp) : (Cx e).alter 23 d = false := rfl
theorem fn_23 (e : Exts) : (Cx e).P.funcs[23]? = some Tryz.f23 := Tryz.func23
theorem ext_23 {e : Exts} (he : Quiet e) : (Cx e).ext 23 = none := he _ (by decide) (by decide)
theorem pure_23 (e : Exts) (h : FuncId) (d : Option Tmp) : (Cx e).pure h 23 d = true := by simp [Cx, pureF, impF, impC]
@[go_sem] theorem keep_24 (e : Exts) : (Cx e).keep 24 = [0, 1, 2, 3, 12, 5, 17, 49, 4] := rfl
@[go_sem] theorem alter_24 (e : Exts) (d : Option Tmp) : (Cx e).alter 24 d = false := rfl
theorem fn_24 (e : Exts) : (Cx e).P.funcs[24]? = some Tryz.f24 := Tryz.func24
theorem ext_24 {e : Exts} (he : Quiet e) : (Cx e).ext 24 = none := he _ (by decide) (by decide)
theorem pure_24 (e : Exts) (h : FuncId) (d : Option Tmp) : (Cx e).pure h 24 d = true := by simp [Cx, pureF, impF, impC]
@[go_sem] theorem keep_25 (e : Exts) : (Cx e).keep 25 = [0, 1, 2, 3, 7, 15, 4, 6, 5] := rfl
@[go_sem] theorem alter_25 (e : Exts) (d : Option Tmp) : (Cx e).alter 25 d = false := rfl
theorem fn_25 (e : Exts) : (Cx e).P.funcs[25]? = some Tryz.f25 := Tryz.func25
theorem ext_25 {e : Exts} (he : Quiet e) : (Cx e).ext 25 = none := he _ (by decide) (by decide)
theorem pure_25 (e : Exts) (h : FuncId) (d : Option Tmp) : (Cx e).pure h 25 d = true := by simp [Cx, pureF, impF, impC]
@[go_sem] theorem keep_26 (e : Exts) : (Cx e).keep 26 = [0, 1, 2, 3, 6, 4] := rfl
@[go_sem] theorem alter_26 (e : Exts) (d : Option Tmp) : (Cx e).alter 26 d = false := rfl
theorem fn_26 (e : Exts) : (Cx e).P.funcs[26]? = some Tryz.f26 := Tryz.func26
theorem ext_26 {e : Exts} (he : Quiet e) : (Cx e).ext 26 = none := he _ (by decide) (by decide)
theorem pure_26 (e : Exts) (h : FuncId) (d : Option Tmp) : (Cx e).pure h 26 d = true := by simp [Cx, pureF, impF, impC]
@[go_sem] theorem keep_27 (e : Exts) : (Cx e).keep 27 = [0, 1, 2, 3, 15, 5, 20, 6, 7, 46, 8, 51, 65, 4] := rfl
@[go_sem] theorem alter_27 (e : Exts) (d : Option Tmp) : (Cx e).alter 27 d = false := rfl
theorem fn_27 (e : Exts) : (Cx e).P.funcs[27]? = some Tryz.f27 := Tryz.func27
theorem ext_27 {e : Exts} (he : Quiet e) : (Cx e).ext 27 = none := he _ (by decide) (by decide)
theorem pure_27 (e : Exts) (h : FuncId) (d : Option Tmp) : (Cx e).pure h 27 d = true := by simp [Cx, pureF, impF, impC]
@[go_sem] theorem keep_28 (e : Exts) : (Cx e).keep 28 = [0, 1, 3, 2, 4] := rfl
@[go_sem] theorem alter_28 (e : Exts) (d : Option Tmp) : (Cx e).alter 28 d = false := rfl
theorem fn_28 (e : Exts) : (Cx e).P.funcs[28]? = some Tryz.f28 := Tryz.func28
theorem ext_28 {e : Exts} (he : Quiet e) : (Cx e).ext 28 = none := he _ (by decide) (by decide)
theorem pure_28 (e : Exts) (h : FuncId) (d : Option Tmp) : (Cx e).pure h 28 d = true := by simp [Cx, pureF, impF, impC]
@[go_sem] theorem keep_29 (e : Exts) : (Cx e).keep 29 = [0, 1, 2, 6] := rfl
@[go_sem] theorem alter_29 (e : Exts) (d : Option Tmp) : (Cx e).alter 29 d = false := rfl
theorem fn_29 (e : Exts) : (Cx e).P.funcs[29]? = some Tryz.f29 := Tryz.func29
theorem ext_29 {e : Exts} (he : Quiet e) : (Cx e).ext 29 = none := he _ (by decide) (by decide)
theorem pure_29 (e : Exts) (h : FuncId) (d : Option Tmp) : (Cx e).pure h 29 d = true := by simp [Cx, pureF, impF, impC]
@[go_sem] theorem keep_30 (e : Exts) : (Cx e).keep 30 = [0, 1, 2, 3, 4, 9, 19, 8, 5, 24, 28, 27, 29, 26, 11, 40, 6, 7] := rfl
@[go_sem] theorem alter_30 (e : Exts) (d : Option Tmp) : (Cx e).alter 30 d = false := rfl
theorem fn_30 (e : Exts) : (Cx e).P.funcs[30]? = some Tryz.f30 := Tryz.func30
theorem ext_30 {e : Exts} (he : Quiet e) : (Cx e).ext 30 = none := he _ (by decide) (by decide)
theorem pure_30 (e : Exts) (h : FuncId) (d : Option Tmp) : (Cx e).pure h 30 d = true := by simp [Cx, pureF, impF, impC]
@[go_sem] theorem keep_31 (e : Exts) : (Cx e).keep 31 = [0, 1, 10, 5, 14, 25, 4] := rfl
@[go_sem] theorem alter_31 (e : Exts) (d : Option Tmp) : (Cx e).alter 31 d = false := rfl
theorem fn_31 (e : Exts) : (Cx e).P.funcs[31]? = some Tryz.f31 := Tryz.func31
theorem ext_31 {e : Exts} (he : Quiet e) : (Cx e).ext 31 = none := he _ (by decide) (by decide)
theorem pure_31 (e : Exts) (h : FuncId) (d : Option Tmp) : (Cx e).pure h 31 d = true := by simp [Cx, pureF, impF, impC]
@[go_sem] theorem keep_32 (e : Exts) : (Cx e).keep 32 = [0, 2, 7, 17, 1, 21, 24, 23, 25, 22, 6, 10, 31, 8, 4, 5] := rfl
@[go_sem] theorem alter_32 (e : Exts) (d : Option Tmp) : (Cx e).alter 32 d = false := rfl
theorem fn_32 (e : Exts) : (Cx e).P.funcs[32]? = some Tryz.f32 := Tryz.func32
theorem ext_32 {e : Exts} (he : Quiet e) : (Cx e).ext 32 = none := he _ (by decide) (by decide)
theorem pure_32 (e : Exts) (h : FuncId) (d : Option Tmp) : (Cx e).pure h 32 d = true := by simp [Cx, pureF, impF, impC]
@[go_sem] theorem keep_33 (e : Exts) : (Cx e).keep 33 = [0, 1, 10, 5, 14, 25, 4] := rfl
@[go_sem] theorem alter_33 (e : Exts) (d : Option Tmp) : (Cx e).alter 33 d = false := rfl
theorem fn_33 (e : Exts) : (Cx e).P.funcs[33]? = some Tryz.f33 := Tryz.func33
theorem ext_33 {e : Exts} (he : Quiet e) : (Cx e).ext 33 = none := he _ (by decide) (by decide)
theorem pure_33 (e : Exts) (h : FuncId) (d : Option Tmp) : (Cx e).pure h 33 d = true := by simp [Cx, pureF, impF, impC]
@[go_sem] theorem keep_34 (e : Exts) : (Cx e).keep 34 = [0, 9, 8, 10, 7, 6, 1, 15, 4] := rfl
@[go_sem] theorem alter_34 (e : Exts) (d : Option Tmp) : (Cx e).alter 34 d = false := rfl
theorem fn_34 (e : Exts) : (Cx e).P.funcs[34]? = some Tryz.f34 := Tryz.func34
theorem ext_34 {e : Exts} (he : Quiet e) : (Cx e).ext 34 = none := he _ (by decide) (by decide)
theorem pure_34 (e : Exts) (h : FuncId) (d : Option Tmp) : (Cx e).pure h 34 d = true := by simp [Cx, pureF, impF, impC]
@[go_sem] theorem keep_35 (e : Exts) : (Cx e).keep 35 = [0] := rfl
@[go_sem] theorem alter_35 (e : Exts) (d : Option Tmp) : (Cx e).alter 35 d = true := rfl
theorem fn_35 (e : Exts) : (Cx e).P.funcs[35]? = some Tryz.f35 := Tryz.func35
theorem ext_35 {e : Exts} (he : Quiet e) : (Cx e).ext 35 = none := he _ (by decide) (by decide)
theorem pure_35 (e : Exts) (h : FuncId) (d : Option Tmp) : (Cx e).pure h 35 d = true := by simp [Cx, pureF, impF, impC]
@[go_sem] theorem keep_36 (e : Exts) : (Cx e).keep 36 = [0] := rfl
@[go_sem] theorem alter_36 (e : Exts) (d : Option Tmp) : (Cx e).alter 36 d = true := rfl
theorem fn_36 (e : Exts) : (Cx e).P.funcs[36]? = some Tryz.f36 := Tryz.func36
theorem ext_36 {e : Exts} (he : Quiet e) : (Cx e).ext 36 = none := he _ (by decide) (by decide)
theorem pure_36 (e : Exts) (h : FuncId) (d : Option Tmp) : (Cx e).pure h 36 d = true := by simp [Cx, pureF, impF, impC]
@[go_sem] theorem keep_37 (e : Exts) : (Cx e).keep 37 = [0, 1, 2, 3, 19, 5, 24, 37, 4] := rfl
@[go_sem] theorem alter_37 (e : Exts) (d : Option Tmp) : (Cx e).alter 37 d = false := rfl
theorem fn_37 (e : Exts) : (Cx e).P.funcs[37]? = some Tryz.f37 := Tryz.func37
theorem ext_37 {e : Exts} (he : Quiet e) : (Cx e).ext 37 = none := he _ (by decide) (by decide)
theorem pure_37 (e : Exts) (h : FuncId) (d : Option Tmp) : (Cx e).pure h 37 d = true := by simp [Cx, pureF, impF, impC]
@[go_sem] theorem keep_38 (e : Exts) : (Cx e).keep 38 = [0, 1, 9, 3, 14, 24, 4, 33, 46, 5, 58, 74, 2] := rfl
@[go_sem] theorem alter_38 (e : Exts) (d : Option Tmp) : (Cx e).alter 38 d = false := rfl
theorem fn_38 (e : Exts) : (Cx e).P.funcs[38]? = some Tryz.f38 := Tryz.func38
theorem ext_38 {e : Exts} (he : Quiet e) : (Cx e).ext 38 = none := he _ (by decide) (by decide)
theorem pure_38 (e : Exts) (h : FuncId) (d : Option Tmp) : (Cx e).pure h 38 d = true := by simp [Cx, pureF, impF, impC]
@[go_sem] theorem keep_39 (e : Exts) : (Cx e).keep 39 = [0, 1, 12, 3, 17, 4, 35, 5, 38, 49, 6, 54, 64, 7, 72, 84, 2] := rfl
@[go_sem] theorem alter_39 (e : Exts) (d : Option Tmp) : (Cx e).alter 39 d = false := rfl
theorem fn_39 (e : Exts) : (Cx e).P.funcs[39]? = some Tryz.f39 := Tryz.func39
theorem ext_39 {e : Exts} (he : Quiet e) : (Cx e).ext 39 = none := he _ (by decide) (by decide)
theorem pure_39 (e : Exts) (h : FuncId) (d : Option Tmp) : (Cx e).pure h 39 d = true := by simp [Cx, pureF, impF, impC]
@[go_sem] theorem keep_40 (e : Exts) : (Cx e).keep 40 = [0, 1, 6, 2, 3] := rfl
@[go_sem] theorem alter_40 (e : Exts) (d : Option Tmp) : (Cx e).alter 40 d = false := rfl
theorem fn_40 (e : Exts) : (Cx e).P.funcs[40]? = some Tryz.f40 := Tryz.func40
theorem ext_40 {e : Exts} (he : Quiet e) : (Cx e).ext 40 = none := he _ (by decide) (by decide)
theorem pure_40 (e : Exts) (h : FuncId) (d : Option Tmp) : (Cx e).pure h 40 d = true := by simp [Cx, pureF, impF, impC]
@[go_sem] theorem keep_41 (e : Exts) : (Cx e).keep 41 = [0, 1, 2] := rfl
@[go_sem] theorem alter_41 (e : Exts) (d : Option Tmp) : (Cx e).alter 41 d = false := rfl
theorem fn_41 (e : Exts) : (Cx e).P.funcs[41]? = some Tryz.f41 := Tryz.func41
theorem ext_41 {e : Exts} (he : Quiet e) : (Cx e).ext 41 = none := he _ (by decide) (by decide)
theorem pure_41 (e : Exts) (h : FuncId) (d : Option Tmp) : (Cx e).pure h 41 d = true := by simp [Cx, pureF, impF, impC]
@[go_sem] theorem keep_42 (e : Exts) : (Cx e).keep 42 = [0, 1, 3, 2, 28, 4, 5] := rfl
@[go_sem] theorem alter_42 (e : Exts) (d : Option Tmp) : (Cx e).alter 42 d = false := rfl
theorem fn_42 (e : Exts) : (Cx e).P.funcs[42]? = some Tryz.f42 := Tryz.func42
theorem ext_42 {e : Exts} (he : Quiet e) : (Cx e).ext 42 = none := he _ (by decide) (by decide)
theorem pure_42 (e : Exts) (h : FuncId) (d : Option Tmp) : (Cx e).pure h 42 d = true := by simp [Cx, pureF, impF, impC]
@[go_sem] theorem keep_43 (e : Exts) : (Cx e).keep 43 = [0, 1, 2, 6] := rfl
@[go_sem] theorem alter_43 (e : Exts) (d : Option Tmp) : (Cx e).alter 43 d = false := rfl
theorem fn_43 (e : Exts) : (Cx e).P.funcs[43]? = some Tryz.f43 := Tryz.func43
theorem ext_43 {e : Exts} (he : Quiet e) : (Cx e).ext 43 = none := he _ (by decide) (by decide)
theorem pure_43 (e : Exts) (h : FuncId) (d : Option Tmp) : (Cx e).pure h 43 d = true := by simp [Cx, pureF, impF, impC]
@[go_sem] theorem keep_44 (e : Exts) : (Cx e).keep 44 = [0, 1, 3, 2, 4] := rfl
@[go_sem] theorem alter_44 (e : Exts) (d : Option Tmp) : (Cx e).alter 44 d = false := rfl
theorem fn_44 (e : Exts) : (Cx e).P.funcs[44]? = some Tryz.f44 := Tryz.func44
theorem ext_44 {e : Exts} (he : Quiet e) : (Cx e).ext 44 = none := he _ (by decide) (by decide)
theorem pure_44 (e : Exts) (h : FuncId) (d : Option Tmp) : (Cx e).pure h 44 d = true := by simp [Cx, pureF, impF, impC]
@[go_sem] theorem keep_45 (e : Exts) : (Cx e).keep 45 = [0, 1, 3, 2, 13, 5, 27, 4] := rfl
@[go_sem] theorem alter_45 (e : Exts) (d : Option Tmp) : (Cx e).alter 45 d = false := rfl
theorem fn_45 (e : Exts) : (Cx e).P.funcs[45]? = some Tryz.f45 := Tryz.func45
theorem ext_45 {e : Exts} (he : Quiet e) : (Cx e).ext 45 = none := he _ (by decide) (by decide)
theorem pure_45 (e : Exts) (h : FuncId) (d : Option Tmp) : (Cx e).pure h 45 d = true := by simp [Cx, pureF, impF, impC]
@[go_sem] theorem keep_46 (e : Exts) : (Cx e).keep 46 = [0, 1, 8, 9, 10, 3, 5, 4, 2] := rfl
@[go_sem] theorem alter_46 (e : Exts) (d : Option Tmp) : (Cx e).alter 46 d = false := rfl
theorem fn_46 (e : Exts) : (Cx e).P.funcs[46]? = some Tryz.f46 := Tryz.func46
theorem ext_46 {e : Exts} (he : Quiet e) : (Cx e).ext 46 = none := he _ (by decide) (by decide)
@[go_sem] theorem keep_47 (e : Exts) : (Cx e).keep 47 = [0, 5, 1, 4] := rfl
@[go_sem] theorem alter_47 (e : Exts) (d : Option Tmp) : (Cx e).alter 47 d = false := rfl
theorem fn_47 (e : Exts) : (Cx e).P.funcs[47]? = some Tryz.f47 := Tryz.func47
theorem ext_47 {e : Exts} (he : Quiet e) : (Cx e).ext 47 = none := he _ (by decide) (by decide)
@[go_sem] theorem keep_48 (e : Exts) : (Cx e).keep 48 = [0, 1, 4] := rfl
@[go_sem] theorem alter_48 (e : Exts) (d : Option Tmp) : (Cx e).alter 48 d = false := rfl
theorem fn_48 (e : Exts) : (Cx e).P.funcs[48]? = some Tryz.f48 := Tryz.func48
theorem ext_48 {e : Exts} (he : Quiet e) : (Cx e).ext 48 = none := he _ (by decide) (by decide)
theorem pure_48 (e : Exts) (h : FuncId) (d : Option Tmp) : (Cx e).pure h 48 d = true := by simp [Cx, pureF, impF, impC]
@[go_sem] theorem keep_49 (e : Exts) : (Cx e).keep 49 = [0, 9, 12, 11, 13, 3, 24, 2] := rfl
@[go_sem] theorem alter_49 (e : Exts) (d : Option Tmp) : (Cx e).alter 49 d = false := rfl
theorem fn_49 (e : Exts) : (Cx e).P.funcs[49]? = some Tryz.f49 := Tryz.func49
theorem ext_49 {e : Exts} (he : Quiet e) : (Cx e).ext 49 = none := he _ (by decide) (by decide)
theorem pure_49 (e : Exts) (h : FuncId) (d : Option Tmp) : (Cx e).pure h 49 d = true := by simp [Cx, pureF, impF, impC]
@[go_sem] theorem keep_50 (e : Exts) : (Cx e).keep 50 = [0, 1, 2, 3, 14, 4, 6, 22, 5] := rfl
@[go_sem] theorem alter_50 (e : Exts) (d : Option Tmp) : (Cx e).alter 50 d = false := rfl
theorem fn_50 (e : Exts) : (Cx e).P.funcs[50]? = some Tryz.f50 := Tryz.func50
theorem ext_50 {e : Exts} (he : Quiet e) : (Cx e).ext 50 = none := he _ (by decide) (by decide)
theorem pure_50 (e : Exts) (h : FuncId) (d : Option Tmp) : (Cx e).pure h 50 d = true := by simp [Cx, pureF, impF, impC]
@[go_sem] theorem keep_51 (e : Exts) : (Cx e).keep 51 = [0, 2] := rfl
@[go_sem] theorem alter_51 (e : Exts) (d : Option Tmp) : (Cx e).alter 51 d = false := rfl
theorem fn_51 (e : Exts) : (Cx e).P.funcs[51]? = some Tryz.f51 := Tryz.func51
theorem ext_51 {e : Exts} (he : Quiet e) : (Cx e).ext 51 = none := he _ (by decide) (by decide)
theorem pure_51 (e : Exts) (h : FuncId) (d : Option Tmp) : (Cx e).pure h 51 d = true := by simp [Cx, pureF, impF, impC]
@[go_sem] theorem keep_52 (e : Exts) : (Cx e).keep 52 = [0, 1, 2, 3, 4] := rfl
@[go_sem] theorem alter_52 (e : Exts) (d : Option Tmp) : (Cx e).alter 52 d = false := rfl
theorem fn_52 (e : Exts) : (Cx e).P.funcs[52]? = some Tryz.f52 := Tryz.func52
theorem ext_52 {e : Exts} (he : Quiet e) : (Cx e).ext 52 = none := he _ (by decide) (by decide)
@[go_sem] theorem keep_53 (e : Exts) : (Cx e).keep 53 = [1, 6, 0, 7, 24, 28, 3, 8, 39, 40, 5, 59, 69, 4] := rfl
@[go_sem] theorem alter_53 (e : Exts) (d : Option Tmp) : (Cx e).alter 53 d = false := rfl
theorem fn_53 (e : Exts) : (Cx e).P.funcs[53]? = some Tryz.f53 := Tryz.func53
theorem ext_53 {e : Exts} (he : Quiet e) : (Cx e).ext 53 = none := he _ (by decide) (by decide)
theorem pure_53 (e : Exts) (h : FuncId) (d : Option Tmp) : (Cx e).pure h 53 d = true := by simp [Cx, pureF, impF, impC]
@[go_sem] theorem keep_54 (e : Exts) : (Cx e).keep 54 = [0, 1, 2, 7, 14, 4, 6, 3, 20, 5] := rfl
@[go_sem] theorem alter_54 (e : Exts) (d : Option Tmp) : (Cx e).alter 54 d = false := rfl
theorem fn_54 (e : Exts) : (Cx e).P.funcs[54]? = some Tryz.f54 := Tryz.func54
theorem ext_54 {e : Exts} (he : Quiet e) : (Cx e).ext 54 = none := he _ (by decide) (by decide)
theorem pure_54 (e : Exts) (h : FuncId) (d : Option Tmp) : (Cx e).pure h 54 d = true := by simp [Cx, pureF, impF, impC]
@[go_sem] theorem keep_55 (e : Exts) : (Cx e).keep 55 = [0, 1, 2, 15, 14, 16, 13, 5, 7, 29, 30, 31, 8, 10, 9, 3, 4] := rfl
@[go_sem] theorem alter_55 (e : Exts) (d : Option Tmp) : (Cx e).alter 55 d = false := rfl
theorem fn_55 (e : Exts) : (Cx e).P.funcs[55]? = some Tryz.f55 := Tryz.func55
theorem ext_55 {e : Exts} (he : Quiet e) : (Cx e).ext 55 = none := he _ (by decide) (by decide)
theorem pure_55 (e : Exts) (h : FuncId) (d : Option Tmp) : (Cx e).pure h 55 d = true := by simp [Cx, pureF, impF, impC]
@[go_sem] theorem keep_56 (e : Exts) : (Cx e).keep 56 = [0, 1, 7, 3, 12, 22, 2] := rfl
@[go_sem] theorem alter_56 (e : Exts) (d : Option Tmp) : (Cx e).alter 56 d = false := rfl
theorem fn_56 (e : Exts) : (Cx e).P.funcs[56]? = some Tryz.f56 := Tryz.func56
theorem ext_56 {e : Exts} (he : Quiet e) : (Cx e).ext 56 = none := he _ (by decide) (by decide)
theorem pure_56 (e : Exts) (h : FuncId) (d : Option Tmp) : (Cx e).pure h 56 d = true := by simp [Cx, pureF, impF, impC]
@[go_sem] theorem keep_57 (e : Exts) : (Cx e).keep 57 = [0, 1, 3, 18, 5, 23, 2, 6, 34, 70, 7, 75, 8, 86, 96, 4] := rfl
@[go_sem] theorem alter_57 (e : Exts) (d : Option Tmp) : (Cx e).alter 57 d = false := rfl
theorem fn_57 (e : Exts) : (Cx e).P.funcs[57]? = some Tryz.f57 := Tryz.func57
theorem ext_57 {e : Exts} (he : Quiet e) : (Cx e).ext 57 = none := he _ (by decide) (by decide)
theorem pure_57 (e : Exts) (h : FuncId) (d : Option Tmp) : (Cx e).pure h 57 d = true := by simp [Cx, pureF, impF, impC]
@[go_sem] theorem keep_58 (e : Exts) : (Cx e).keep 58 = [0, 1, 3, 2, 30, 35, 36, 37, 5, 7, 4] := rfl
@[go_sem] theorem alter_58 (e : Exts) (d : Option Tmp) : (Cx e).alter 58 d = false := rfl
theorem fn_58 (e : Exts) : (Cx e).P.funcs[58]? = some Tryz.f58 := Tryz.func58
theorem ext_58 {e : Exts} (he : Quiet e) : (Cx e).ext 58 = none := he _ (by decide) (by decide)
theorem pure_58 (e : Exts) (h : FuncId) (d : Option Tmp) : (Cx e).pure h 58 d = true := by simp [Cx, pureF, impF, impC]
@[go_sem] theorem keep_59 (e : Exts) : (Cx e).keep 59 = [0, 1, 9, 8, 10, 7, 5, 15, 3, 2] := rfl
@[go_sem] theorem alter_59 (e : Exts) (d : Option Tmp) : (Cx e).alter 59 d = false := rfl
theorem fn_59 (e : Exts) : (Cx e).P.funcs[59]? = some Tryz.f59 := Tryz.func59
theorem ext_59 {e : Exts} (he : Quiet e) : (Cx e).ext 59 = none := he _ (by decide) (by decide)
theorem pure_59 (e : Exts) (h : FuncId) (d : Option Tmp) : (Cx e).pure h 59 d = true := by simp [Cx, pureF, impF, impC]
@[go_sem] theorem keep_60 (e : Exts) : (Cx e).keep 60 = [0, 2] := rfl
@[go_sem] theorem alter_60 (e : Exts) (d : Option Tmp) : (Cx e).alter 60 d = false := rfl
theorem fn_60 (e : Exts) : (Cx e).P.funcs[60]? = some Tryz.f60 := Tryz.func60
theorem ext_60 {e : Exts} (he : Quiet e) : (Cx e).ext 60 = none := he _ (by decide) (by decide)
theorem pure_60 (e : Exts) (h : FuncId) (d : Option Tmp) : (Cx e).pure h 60 d = true := by simp [Cx, pureF, impF, impC]
@[go_sem] theorem keep_61 (e : Exts) : (Cx e).keep 61 = [3, 0, 7, 19, 2] := rfl
@[go_sem] theorem alter_61 (e : Exts) (d : Option Tmp) : (Cx e).alter 61 d = false := rfl
theorem fn_61 (e : Exts) : (Cx e).P.funcs[61]? = some Tryz.f61 := Tryz.func61
theorem ext_61 {e : Exts} (he : Quiet e) : (Cx e).ext 61 = none := he _ (by decide) (by decide)
theorem pure_61 (e : Exts) (h : FuncId) (d : Option Tmp) : (Cx e).pure h 61 d = true := by simp [Cx, pureF, impF, impC]
@[go_sem] theorem keep_62 (e : Exts) : (Cx e).keep 62 = [0, 1, 11, 15, 14, 16, 13, 4, 3, 38, 2] := rfl
@[go_sem] theorem alter_62 (e : Exts) (d : Option Tmp) : (Cx e).alter 62 d = false := rfl
theorem fn_62 (e : Exts) : (Cx e).P.funcs[62]? = some Tryz.f62 := Tryz.func62
theorem ext_62 {e : Exts} (he : Quiet e) : (Cx e).ext 62 = none := he _ (by decide) (by decide)
theorem pure_62 (e : Exts) (h : FuncId) (d : Option Tmp) : (Cx e).pure h 62 d = true := by simp [Cx, pureF, impF, impC]
@[go_sem] theorem keep_63 (e : Exts) : (Cx e).keep 63 = [0, 1, 8, 9, 10, 4, 13, 12, 14, 11, 5, 3, 2, 6, 24] := rfl
@[go_sem] theorem alter_63 (e : Exts) (d : Option Tmp) : (Cx e).alter 63 d = false := rfl
theorem fn_63 (e : Exts) : (Cx e).P.funcs[63]? = some Tryz.f63 := Tryz.func63
theorem ext_63 {e : Exts} (he : Quiet e) : (Cx e).ext 63 = none := he _ (by decide) (by decide)
theorem pure_63 (e : Exts) (h : FuncId) (d : Option Tmp) : (Cx e).pure h 63 d = true := by simp [Cx, pureF, impF, impC]
@[go_sem] theorem keep_64 (e : Exts) : (Cx e).keep 64 = [0, 1, 2] := rfl
@[go_sem] theorem alter_64 (e : Exts) (d : Option Tmp) : (Cx e).alter 64 d = false := rfl
theorem fn_64 (e : Exts) : (Cx e).P.funcs[64]? = some Tryz.f64 := Tryz.func64
theorem ext_64 {e : Exts} (he : Quiet e) : (Cx e).ext 64 = none := he _ (by decide) (by decide)
theorem pure_64 (e : Exts) (h : FuncId) (d : Option Tmp) : (Cx e).pure h 64 d = true := by simp [Cx, pureF, impF, impC]
@[go_sem] theorem keep_65 (e : Exts) : (Cx e).keep 65 = [1, 0, 4] := rfl
@[go_sem] theorem alter_65 (e : Exts) (d : Option Tmp) : (Cx e).alter 65 d = false := rfl
theorem fn_65 (e : Exts) : (Cx e).P.funcs[65]? = some Tryz.f65 := Tryz.func65
theorem ext_65 {e : Exts} (he : Quiet e) : (Cx e).ext 65 = none := he _ (by decide) (by decide)
theorem pure_65 (e : Exts) (h : FuncId) (d : Option Tmp) : (Cx e).pure h 65 d = true := by simp [Cx, pureF, impF, impC]
@[go_sem] theorem keep_66 (e : Exts) : (Cx e).keep 66 = [0, 4, 2] := rfl
@[go_sem] theorem alter_66 (e : Exts) (d : Option Tmp) : (Cx e).alter 66 d = false := rfl
theorem fn_66 (e : Exts) : (Cx e).P.funcs[66]? = some Tryz.f66 := Tryz.func66
theorem ext_66 {e : Exts} (he : Quiet e) : (Cx e).ext 66 = none := he _ (by decide) (by decide)
@[go_sem] theorem keep_67 (e : Exts) : (Cx e).keep 67 = [0, 4, 1] := rfl
@[go_sem] theorem alter_67 (e : Exts) (d : Option Tmp) : (Cx e).alter 67 d = false := rfl
theorem fn_67 (e : Exts) : (Cx e).P.funcs[67]? = some Tryz.f67 := Tryz.func67
theorem ext_67 {e : Exts} (he : Quiet e) : (Cx e).ext 67 = none := he _ (by decide) (by decide)
@[go_sem] theorem keep_68 (e : Exts) : (Cx e).keep 68 = [0, 1, 4] := rfl
@[go_sem] theorem alter_68 (e : Exts) (d : Option Tmp) : (Cx e).alter 68 d = false := rfl
theorem fn_68 (e : Exts) : (Cx e).P.funcs[68]? = some Tryz.f68 := Tryz.func68
theorem ext_68 {e : Exts} (he : Quiet e) : (Cx e).ext 68 = none := he _ (by decide) (by decide)
theorem pure_68 (e : Exts) (h : FuncId) (d : Option Tmp) : (Cx e).pure h 68 d = true := by simp [Cx, pureF, impF, impC]
@[go_sem] theorem keep_69 (e : Exts) : (Cx e).keep 69 = [0, 1, 9, 8, 10, 7, 6, 2, 22, 4] := rfl
@[go_sem] theorem alter_69 (e : Exts) (d : Option Tmp) : (Cx e).alter 69 d = false := rfl
theorem fn_69 (e : Exts) : (Cx e).P.funcs[69]? = some Tryz.f69 := Tryz.func69
theorem ext_69 {e : Exts} (he : Quiet e) : (Cx e).ext 69 = none := he _ (by decide) (by decide)
theorem pure_69 (e : Exts) (h : FuncId) (d : Option Tmp) : (Cx e).pure h 69 d = true := by simp [Cx, pureF, impF, impC]
@[go_sem] theorem keep_70 (e : Exts) : (Cx e).keep 70 = [0, 1, 14, 17, 16, 18, 15, 7, 2, 8, 9, 30, 6] := rfl
@[go_sem] theorem alter_70 (e : Exts) (d : Option Tmp) : (Cx e).alter 70 d = false := rfl
theorem fn_70 (e : Exts) : (Cx e).P.funcs[70]? = some Tryz.f70 := Tryz.func70
theorem ext_70 {e : Exts} (he : Quiet e) : (Cx e).ext 70 = none := he _ (by decide) (by decide)
@[go_sem] theorem keep_71 (e : Exts) : (Cx e).keep 71 = [0, 1, 2, 3, 4] := rfl
@[go_sem] theorem alter_71 (e : Exts) (d : Option Tmp) : (Cx e).alter 71 d = false := rfl
theorem fn_71 (e : Exts) : (Cx e).P.funcs[71]? = some Tryz.f71 := Tryz.func71
theorem ext_71 {e : Exts} (he : Quiet e) : (Cx e).ext 71 = none := he _ (by decide) (by decide)
theorem pure_71 (e : Exts) (h : FuncId) (d : Option Tmp) : (Cx e).pure h 71 d = true := by simp [Cx, pureF, impF, impC]
@[go_sem] theorem keep_72 (e : Exts) : (Cx e).keep 72 = [0, 1, 7, 8, 9, 3, 4, 5, 2, 19] := rfl
@[go_sem] theorem alter_72 (e : Exts) (d : Option Tmp) : (Cx e).alter 72 d = false := rfl
theorem fn_72 (e : Exts) : (Cx e).P.funcs[72]? = some Tryz.f72 := Tryz.func72
theorem ext_72 {e : Exts} (he : Quiet e) : (Cx e).ext 72 = none := he _ (by decide) (by decide)
theorem pure_72 (e : Exts) (h : FuncId) (d : Option Tmp) : (Cx e).pure h 72 d = true := by simp [Cx, pureF, impF, impC]
@[go_sem] theorem keep_73 (e : Exts) : (Cx e).keep 73 = [0, 1, 13, 14, 16, 17, 6, 7, 5, 8, 36, 9, 42, 4] := rfl
@[go_sem] theorem alter_73 (e : Exts) (d : Option Tmp) : (Cx e).alter 73 d = false := rfl
theorem fn_73 (e : Exts) : (Cx e).P.funcs[73]? = some Tryz.f73 := Tryz.func73
theorem ext_73 {e : Exts} (he : Quiet e) : (Cx e).ext 73 = none := he _ (by decide) (by decide)
theorem pure_73 (e : Exts) (h : FuncId) (d : Option Tmp) : (Cx e).pure h 73 d = true := by simp [Cx, pureF, impF, impC]
@[go_sem] theorem keep_74 (e : Exts) : (Cx e).keep 74 = [1, 0, 2, 6] := rfl
@[go_sem] theorem alter_74 (e : Exts) (d : Option Tmp) : (Cx e).alter 74 d = false := rfl
theorem fn_74 (e : Exts) : (Cx e).P.funcs[74]? = some Tryz.f74 := Tryz.func74
theorem ext_74 {e : Exts} (he : Quiet e) : (Cx e).ext 74 = none := he _ (by decide) (by decide)
theorem pure_74 (e : Exts) (h : FuncId) (d : Option Tmp) : (Cx e).pure h 74 d = true := by simp [Cx, pureF, impF, impC]
@[go_sem] theorem keep_75 (e : Exts) : (Cx e).keep 75 = [0, 1, 2, 7, 8, 9, 42, 45, 6] := rfl
@[go_sem] theorem alter_75 (e : Exts) (d : Option Tmp) : (Cx e).alter 75 d = false := rfl
theorem fn_75 (e : Exts) : (Cx e).P.funcs[75]? = some Tryz.f75 := Tryz.func75
theorem ext_75 {e : Exts} (he : Quiet e) : (Cx e).ext 75 = none := he _ (by decide) (by decide)
theorem pure_75 (e : Exts) (h : FuncId) (d : Option Tmp) : (Cx e).pure h 75 d = true := by simp [Cx, pureF, impF, impC]
@[go_sem] theorem keep_76 (e : Exts) : (Cx e).keep 76 = [0, 1, 15, 14, 16, 13, 6, 8, 9, 5, 4] := rfl
@[go_sem] theorem alter_76 (e : Exts) (d : Option Tmp) : (Cx e).alter 76 d = false := rfl
theorem fn_76 (e : Exts) : (Cx e).P.funcs[76]? = some Tryz.f76 := Tryz.func76
theorem ext_76 {e : Exts} (he : Quiet e) : (Cx e).ext 76 = none := he _ (by decide) (by decide)
theorem pure_76 (e : Exts) (h : FuncId) (d : Option Tmp) : (Cx e).pure h 76 d = true := by simp [Cx, pureF, impF, impC]
@[go_sem] theorem keep_77 (e : Exts) : (Cx e).keep 77 = [1, 0, 11, 10, 12, 9, 7, 8, 3, 24, 5, 4] := rfl
@[go_sem] theorem alter_77 (e : Exts) (d : Option Tmp) : (Cx e).alter 77 d = false := rfl
theorem fn_77 (e : Exts) : (Cx e).P.funcs[77]? = some Tryz.f77 := Tryz.func77
theorem ext_77 {e : Exts} (he : Quiet e) : (Cx e).ext 77 = none := he _ (by decide) (by decide)
theorem pure_77 (e : Exts) (h : FuncId) (d : Option Tmp) : (Cx e).pure h 77 d = true := by simp [Cx, pureF, impF, impC]
@[go_sem] theorem keep_78 (e : Exts) : (Cx e).keep 78 = [0, 1, 2, 3, 6, 15, 17, 18, 5, 32, 45, 4] := rfl
@[go_sem] theorem alter_78 (e : Exts) (d : Option Tmp) : (Cx e).alter 78 d = false := rfl
theorem fn_78 (e : Exts) : (Cx e).P.funcs[78]? = some Tryz.f78 := Tryz.func78
theorem ext_78 {e : Exts} (he : Quiet e) : (Cx e).ext 78 = none := he _ (by decide) (by decide)
theorem pure_78 (e : Exts) (h : FuncId) (d : Option Tmp) : (Cx e).pure h 78 d = true := by simp [Cx, pureF, impF, impC]
@[go_sem] theorem keep_79 (e : Exts) : (Cx e).keep 79 = [0, 1, 4, 2, 3, 11, 10, 27, 33, 13, 5, 42, 14, 68, 71, 9, 12, 80, 8] := rfl
@[go_sem] theorem alter_79 (e : Exts) (d : Option Tmp) : (Cx e).alter 79 d = false := rfl
theorem fn_79 (e : Exts) : (Cx e).P.funcs[79]? = some Tryz.f79 := Tryz.func79
theorem ext_79 {e : Exts} (he : Quiet e) : (Cx e).ext 79 = none := he _ (by decide) (by decide)
theorem pure_79 (e : Exts) (h : FuncId) (d : Option Tmp) : (Cx e).pure h 79 d = true := by simp [Cx, pureF, impF, impC]
@[go_sem] theorem keep_80 (e : Exts) : (Cx e).keep 80 = [0, 1, 12, 11, 13, 10, 2, 7, 8, 5, 42, 4] := rfl
@[go_sem] theorem alter_80 (e : Exts) (d : Option Tmp) : (Cx e).alter 80 d = false := rfl
theorem fn_80 (e : Exts) : (Cx e).P.funcs[80]? = some Tryz.f80 := Tryz.func80
theorem ext_80 {e : Exts} (he : Quiet e) : (Cx e).ext 80 = none := he _ (by decide) (by decide)
theorem pure_80 (e : Exts) (h : FuncId) (d : Option Tmp) : (Cx e).pure h 80 d = true := by simp [Cx, pureF, impF, impC]
@[go_sem] theorem keep_81 (e : Exts) : (Cx e).keep 81 = [3, 0, 9, 4, 5, 38, 2] := rfl
@[go_sem] theorem alter_81 (e : Exts) (d : Option Tmp) : (Cx e).alter 81 d = false := rfl
theorem fn_81 (e : Exts) : (Cx e).P.funcs[81]? = some Tryz.f81 := Tryz.func81
theorem ext_81 {e : Exts} (he : Quiet e) : (Cx e).ext 81 = none := he _ (by decide) (by decide)
theorem pure_81 (e : Exts) (h : FuncId) (d : Option Tmp) : (Cx e).pure h 81 d = true := by simp [Cx, pureF, impF, impC]
@[go_sem] theorem keep_82 (e : Exts) : (Cx e).keep 82 = [0, 2] := rfl
@[go_sem] theorem alter_82 (e : Exts) (d : Option Tmp) : (Cx e).alter 82 d = false := rfl
theorem fn_82 (e : Exts) : (Cx e).P.funcs[82]? = some Tryz.f82 := Tryz.func82
theorem ext_82 {e : Exts} (he : Quiet e) : (Cx e).ext 82 = none := he _ (by decide) (by decide)
theorem pure_82 (e : Exts) (h : FuncId) (d : Option Tmp) : (Cx e).pure h 82 d = true := by simp [Cx, pureF, impF, impC]
@[go_sem] theorem keep_83 (e : Exts) : (Cx e).keep 83 = [0, 8, 3, 13, 25, 5, 4, 32, 44, 2] := rfl
@[go_sem] theorem alter_83 (e : Exts) (d : Option Tmp) : (Cx e).alter 83 d = false := rfl
theorem fn_83 (e : Exts) : (Cx e).P.funcs[83]? = some Tryz.f83 := Tryz.func83
theorem ext_83 {e : Exts} (he : Quiet e) : (Cx e).ext 83 = none := he _ (by decide) (by decide)
@[go_sem] theorem keep_84 (e : Exts) : (Cx e).keep 84 = [0, 5, 1, 4] := rfl
@[go_sem] theorem alter_84 (e : Exts) (d : Option Tmp) : (Cx e).alter 84 d = false := rfl
theorem fn_84 (e : Exts) : (Cx e).P.funcs[84]? = some Tryz.f84 := Tryz.func84
theorem ext_84 {e : Exts} (he : Quiet e) : (Cx e).ext 84 = none := he _ (by decide) (by decide)
@[go_sem] theorem keep_85 (e : Exts) : (Cx e).keep 85 = [0, 1, 2, 3, 4] := rfl
@[go_sem] theorem alter_85 (e : Exts) (d : Option Tmp) : (Cx e).alter 85 d = false := rfl
theorem fn_85 (e : Exts) : (Cx e).P.funcs[85]? = some Tryz.f85 := Tryz.func85
theorem ext_85 {e : Exts} (he : Quiet e) : (Cx e).ext 85 = none := he _ (by decide) (by decide)
theorem pure_85 (e : Exts) (h : FuncId) (d : Option Tmp) : (Cx e).pure h 85 d = true := by simp [Cx, pureF, impF, impC]
@[go_sem] theorem keep_86 (e : Exts) : (Cx e).keep 86 = [1, 0, 3, 4] := rfl
@[go_sem] theorem alter_86 (e : Exts) (d : Option Tmp) : (Cx e).alter 86 d = false := rfl
theorem fn_86 (e : Exts) : (Cx e).P.funcs[86]? = some Tryz.f86 := Tryz.func86
theorem ext_86 {e : Exts} (he : Quiet e) : (Cx e).ext 86 = none := he _ (by decide) (by decide)
theorem pure_86 (e : Exts) (h : FuncId) (d : Option Tmp) : (Cx e).pure h 86 d = true := by simp [Cx, pureF, impF, impC]
@[go_sem] theorem keep_87 (e : Exts) : (Cx e).keep 87 = [0, 12, 15, 14, 16, 4, 25, 31, 30, 32, 29, 6, 37, 3, 2] := rfl
@[go_sem] theorem alter_87 (e : Exts) (d : Option Tmp) : (Cx e).alter 87 d = false := rfl
theorem fn_87 (e : Exts) : (Cx e).P.funcs[87]? = some Tryz.f87 := Tryz.func87
theorem ext_87 {e : Exts} (he : Quiet e) : (Cx e).ext 87 = none := he _ (by decide) (by decide)
theorem pure_87 (e : Exts) (h : FuncId) (d : Option Tmp) : (Cx e).pure h 87 d = true := by simp [Cx, pureF, impF, impC]
@[go_sem] theorem keep_88 (e : Exts) : (Cx e).keep 88 = [1, 10, 9, 11, 8, 4, 18, 17, 19, 0, 3, 5, 31] := rfl
@[go_sem] theorem alter_88 (e : Exts) (d : Option Tmp) : (Cx e).alter 88 d = false := rfl
theorem fn_88 (e : Exts) : (Cx e).P.funcs[88]? = some Tryz.f88 := Tryz.func88
theorem ext_88 {e : Exts} (he : Quiet e) : (Cx e).ext 88 = none := he _ (by decide) (by decide)
theorem pure_88 (e : Exts) (h : FuncId) (d : Option Tmp) : (Cx e).pure h 88 d = true := by simp [Cx, pureF, impF, impC]
@[go_sem] theorem keep_89 (e : Exts) : (Cx e).keep 89 = [2, 1, 12, 25, 0, 4, 3, 32, 10, 39, 14, 56, 13, 11, 75, 80, 97, 15, 17, 16, 18, 19, 125, 20] := rfl
@[go_sem] theorem alter_89 (e : Exts) (d : Option Tmp) : (Cx e).alter 89 d = false := rfl
theorem fn_89 (e : Exts) : (Cx e).P.funcs[89]? = some Tryz.f89 := Tryz.func89
theorem ext_89 {e : Exts} (he : Quiet e) : (Cx e).ext 89 = none := he _ (by decide) (by decide)
@[go_sem] theorem keep_90 (e : Exts) : (Cx e).keep 90 = [0, 2] := rfl
@[go_sem] theorem alter_90 (e : Exts) (d : Option Tmp) : (Cx e).alter 90 d = false := rfl
theorem fn_90 (e : Exts) : (Cx e).P.funcs[90]? = some Tryz.f90 := Tryz.func90
theorem ext_90 {e : Exts} (he : Quiet e) : (Cx e).ext 90 = none := he _ (by decide) (by decide)
theorem pure_90 (e : Exts) (h : FuncId) (d : Option Tmp) : (Cx e).pure h 90 d = true := by simp [Cx, pureF, impF, impC]
@[go_sem] theorem keep_92 (e : Exts) : (Cx e).keep 92 = [1, 0, 2, 21, 25] := rfl
@[go_sem] theorem alter_92 (e : Exts) (d : Option Tmp) : (Cx e).alter 92 d = false := rfl
theorem fn_92 (e : Exts) : (Cx e).P.funcs[92]? = some Tryz.f92 := Tryz.func92
theorem ext_92 {e : Exts} (he : Quiet e) : (Cx e).ext 92 = none := he _ (by decide) (by decide)
@[go_sem] theorem keep_93 (e : Exts) : (Cx e).keep 93 = [0] := rfl
@[go_sem] theorem alter_93 (e : Exts) (d : Option Tmp) : (Cx e).alter 93 d = false := rfl
theorem fn_93 (e : Exts) : (Cx e).P.funcs[93]? = some Tryz.f93 := Tryz.func93
theorem ext_93 {e : Exts} (he : Quiet e) : (Cx e).ext 93 = none := he _ (by decide) (by decide)
theorem pure_93 (e : Exts) (h : FuncId) (d : Option Tmp) : (Cx e).pure h 93 d = true := by simp [Cx, pureF, impF, impC]
@[go_sem] theorem keep_94 (e : Exts) : (Cx e).keep 94 = [0, 2, 1, 4] := rfl
@[go_sem] theorem alter_94 (e : Exts) (d : Option Tmp) : (Cx e).alter 94 d = false := rfl
theorem fn_94 (e : Exts) : (Cx e).P.funcs[94]? = some Tryz.f94 := Tryz.func94
theorem ext_94 {e : Exts} (he : Quiet e) : (Cx e).ext 94 = none := he _ (by decide) (by decide)
@[go_sem] theorem keep_95 (e : Exts) : (Cx e).keep 95 = [0, 2, 1, 4] := rfl
@[go_sem] theorem alter_95 (e : Exts) (d : Option Tmp) : (Cx e).alter 95 d = false := rfl
theorem fn_95 (e : Exts) : (Cx e).P.funcs[95]? = some Tryz.f95 := Tryz.func95
theorem ext_95 {e : Exts} (he : Quiet e) : (Cx e).ext 95 = none := he _ (by decide) (by decide)
@[go_sem] theorem keep_96 (e : Exts) : (Cx e).keep 96 = [0, 4, 2] := rfl
@[go_sem] theorem alter_96 (e : Exts) (d : Option Tmp) : (Cx e).alter 96 d = false := rfl
theorem fn_96 (e : Exts) : (Cx e).P.funcs[96]? = some Tryz.f96 := Tryz.func96
theorem ext_96 {e : Exts} (he : Quiet e) : (Cx e).ext 96 = none := he _ (by decide) (by decide)
@[go_sem] theorem keep_97 (e : Exts) : (Cx e).keep 97 = [0, 4, 1] := rfl
@[go_sem] theorem alter_97 (e : Exts) (d : Option Tmp) : (Cx e).alter 97 d = false := rfl
theorem fn_97 (e : Exts) : (Cx e).P.funcs[97]? = some Tryz.f97 := Tryz.func97
theorem ext_97 {e : Exts} (he : Quiet e) : (Cx e).ext 97 = none := he _ (by decide) (by decide)
@[go_sem] theorem keep_98 (e : Exts) : (Cx e).keep 98 = [0, 8, 7, 9, 6, 5, 3, 14, 2] := rfl
@[go_sem] theorem alter_98 (e : Exts) (d : Option Tmp) : (Cx e).alter 98 d = false := rfl
theorem fn_98 (e : Exts) : (Cx e).P.funcs[98]? = some Tryz.f98 := Tryz.func98
theorem ext_98 {e : Exts} (he : Quiet e) : (Cx e).ext 98 = none := he _ (by decide) (by decide)
theorem pure_98 (e : Exts) (h : FuncId) (d : Option Tmp) : (Cx e).pure h 98 d = true := by simp [Cx, pureF, impF, impC]
@[go_sem] theorem keep_99 (e : Exts) : (Cx e).keep 99 = [0, 1, 5, 11, 6, 12, 13, 16, 19, 4] := rfl
@[go_sem] theorem alter_99 (e : Exts) (d : Option Tmp) : (Cx e).alter 99 d = false := rfl
theorem fn_99 (e : Exts) : (Cx e).P.funcs[99]? = some Tryz.f99 := Tryz.func99
theorem ext_99 {e : Exts} (he : Quiet e) : (Cx e).ext 99 = none := he _ (by decide) (by decide)
theorem pure_99 (e : Exts) (h : FuncId) (d : Option Tmp) : (Cx e).pure h 99 d = true := by simp [Cx, pureF, impF, impC]
@[go_sem] theorem keep_100 (e : Exts) : (Cx e).keep 100 = [0, 1, 4] := rfl
@[go_sem] theorem alter_100 (e : Exts) (d : Option Tmp) : (Cx e).alter 100 d = false := rfl
theorem fn_100 (e : Exts) : (Cx e).P.funcs[100]? = some Tryz.f100 := Tryz.func100
theorem ext_100 {e : Exts} (he : Quiet e) : (Cx e).ext 100 = none := he _ (by decide) (by decide)
@[go_sem] theorem keep_101 (e : Exts) : (Cx e).keep 101 = [0, 2, 1, 3] := rfl
@[go_sem] theorem alter_101 (e : Exts) (d : Option Tmp) : (Cx e).alter 101 d = false := rfl
theorem fn_101 (e : Exts) : (Cx e).P.funcs[101]? = some Tryz.f101 := Tryz.func101
theorem ext_101 {e : Exts} (he : Quiet e) : (Cx e).ext 101 = none := he _ (by decide) (by decide)
theorem pure_101 (e : Exts) (h : FuncId) (d : Option Tmp) : (Cx e).pure h 101 d = true := by simp [Cx, pureF, impF, impC]
@[go_sem] theorem keep_102 (e : Exts) : (Cx e).keep 102 = [1, 8, 2, 14, 9, 3, 0, 34] := rfl
@[go_sem] theorem alter_102 (e : Exts) (d : Option Tmp) : (Cx e).alter 102 d = false := rfl
theorem fn_102 (e : Exts) : (Cx e).P.funcs[102]? = some Tryz.f102 := Tryz.func102
theorem ext_102 {e : Exts} (he : Quiet e) : (Cx e).ext 102 = none := he _ (by decide) (by decide)
@[go_sem] theorem keep_103 (e : Exts) : (Cx e).keep 103 = [1, 2, 10, 11, 21, 0, 8, 3, 12, 33, 9] := rfl
@[go_sem] theorem alter_103 (e : Exts) (d : Option Tmp) : (Cx e).alter 103 d = false := rfl
theorem fn_103 (e : Exts) : (Cx e).P.funcs[103]? = some Tryz.f103 := Tryz.func103
theorem ext_103 {e : Exts} (he : Quiet e) : (Cx e).ext 103 = none := he _ (by decide) (by decide)
@[go_sem] theorem keep_104 (e : Exts) : (Cx e).keep 104 = [2, 1, 8, 17, 11, 35, 9, 10, 12, 45, 0] := rfl
@[go_sem] theorem alter_104 (e : Exts) (d : Option Tmp) : (Cx e).alter 104 d = false := rfl
theorem fn_104 (e : Exts) : (Cx e).P.funcs[104]? = some Tryz.f104 := Tryz.func104
theorem ext_104 {e : Exts} (he : Quiet e) : (Cx e).ext 104 = none := he _ (by decide) (by decide)
@[go_sem] theorem keep_105 (e : Exts) : (Cx e).keep 105 = [2, 1, 10, 34, 36, 0, 12, 3, 11, 13, 14, 55, 57, 60, 8, 9] := rfl
@[go_sem] theorem alter_105 (e : Exts) (d : Option Tmp) : (Cx e).alter 105 d = false := rfl
theorem fn_105 (e : Exts) : (Cx e).P.funcs[105]? = some Tryz.f105 := Tryz.func105
theorem ext_105 {e : Exts} (he : Quiet e) : (Cx e).ext 105 = none := he _ (by decide) (by decide)
@[go_sem] theorem keep_106 (e : Exts) : (Cx e).keep 106 = [1, 2, 8, 9, 15, 0] := rfl
@[go_sem] theorem alter_106 (e : Exts) (d : Option Tmp) : (Cx e).alter 106 d = false := rfl
theorem fn_106 (e : Exts) : (Cx e).P.funcs[106]? = some Tryz.f106 := Tryz.func106
theorem ext_106 {e : Exts} (he : Quiet e) : (Cx e).ext 106 = none := he _ (by decide) (by decide)
@[go_sem] theorem keep_107 (e : Exts) : (Cx e).keep 107 = [1, 10, 16, 9, 2, 3, 0, 36, 41, 45, 65, 11, 69, 84, 104, 12, 109, 124, 8] := rfl
@[go_sem] theorem alter_107 (e : Exts) (d : Option Tmp) : (Cx e).alter 107 d = false := rfl
theorem fn_107 (e : Exts) : (Cx e).P.funcs[107]? = some Tryz.f107 := Tryz.func107
theorem ext_107 {e : Exts} (he : Quiet e) : (Cx e).ext 107 = none := he _ (by decide) (by decide)
@[go_sem] theorem keep_108 (e : Exts) : (Cx e).keep 108 = [0, 1, 3, 2, 11, 12, 4, 47, 65, 70, 10] := rfl
@[go_sem] theorem alter_108 (e : Exts) (d : Option Tmp) : (Cx e).alter 108 d = false := rfl
theorem fn_108 (e : Exts) : (Cx e).P.funcs[108]? = some Tryz.f108 := Tryz.func108
theorem ext_108 {e : Exts} (he : Quiet e) : (Cx e).ext 108 = none := he _ (by decide) (by decide)
@[go_sem] theorem keep_109 (e : Exts) : (Cx e).keep 109 = [0, 1, 3, 2, 12, 13, 4, 47, 66, 71, 120, 139, 144, 10, 11] := rfl
@[go_sem] theorem alter_109 (e : Exts) (d : Option Tmp) : (Cx e).alter 109 d = false := rfl
theorem fn_109 (e : Exts) : (Cx e).P.funcs[109]? = some Tryz.f109 := Tryz.func109
theorem ext_109 {e : Exts} (he : Quiet e) : (Cx e).ext 109 = none := he _ (by decide) (by decide)
@[go_sem] theorem keep_110 (e : Exts) : (Cx e).keep 110 = [0, 4, 8, 2] := rfl
@[go_sem] theorem alter_110 (e : Exts) (d : Option Tmp) : (Cx e).alter 110 d = false := rfl
theorem fn_110 (e : Exts) : (Cx e).P.funcs[110]? = some Tryz.f110 := Tryz.func110
theorem ext_110 {e : Exts} (he : Quiet e) : (Cx e).ext 110 = none := he _ (by decide) (by decide)
theorem pure_110 (e : Exts) (h : FuncId) (d : Option Tmp) : (Cx e).pure h 110 d = true := by simp [Cx, pureF, impF, impC]
@[go_sem] theorem keep_111 (e : Exts) : (Cx e).keep 111 = [0, 4, 8, 2, 14] := rfl
@[go_sem] theorem alter_111 (e : Exts) (d : Option Tmp) : (Cx e).alter 111 d = false := rfl
theorem fn_111 (e : Exts) : (Cx e).P.funcs[111]? = some Tryz.f111 := Tryz.func111
theorem ext_111 {e : Exts} (he : Quiet e) : (Cx e).ext 111 = none := he _ (by decide) (by decide)
theorem pure_111 (e : Exts) (h : FuncId) (d : Option Tmp) : (Cx e).pure h 111 d = true := by simp [Cx, pureF, impF, impC]
@[go_sem] theorem keep_112 (e : Exts) : (Cx e).keep 112 = [1, 3, 0, 4] := rfl
@[go_sem] theorem alter_112 (e : Exts) (d : Option Tmp) : (Cx e).alter 112 d = false := rfl
theorem fn_112 (e : Exts) : (Cx e).P.funcs[112]? = some Tryz.f112 := Tryz.func112
theorem ext_112 {e : Exts} (he : Quiet e) : (Cx e).ext 112 = none := he _ (by decide) (by decide)
@[go_sem] theorem keep_113 (e : Exts) : (Cx e).keep 113 = [0, 2, 4] := rfl
@[go_sem] theorem alter_113 (e : Exts) (d : Option Tmp) : (Cx e).alter 113 d = false := rfl
theorem fn_113 (e : Exts) : (Cx e).P.funcs[113]? = some Tryz.f113 := Tryz.func113
theorem ext_113 {e : Exts} (he : Quiet e) : (Cx e).ext 113 = none := he _ (by decide) (by decide)
@[go_sem] theorem keep_114 (e : Exts) : (Cx e).keep 114 = [1, 0, 3, 4] := rfl
@[go_sem] theorem alter_114 (e : Exts) (d : Option Tmp) : (Cx e).alter 114 d = false := rfl
theorem fn_114 (e : Exts) : (Cx e).P.funcs[114]? = some Tryz.f114 := Tryz.func114
theorem ext_114 {e : Exts} (he : Quiet e) : (Cx e).ext 114 = none := he _ (by decide) (by decide)
@[go_sem] theorem keep_115 (e : Exts) : (Cx e).keep 115 = [0, 2, 1, 4] := rfl
@[go_sem] theorem alter_115 (e : Exts) (d : Option Tmp) : (Cx e).alter 115 d = false := rfl
theorem fn_115 (e : Exts) : (Cx e).P.funcs[115]? = some Tryz.f115 := Tryz.func115
theorem ext_115 {e : Exts} (he : Quiet e) : (Cx e).ext 115 = none := he _ (by decide) (by decide)
@[go_sem] theorem keep_116 (e : Exts) : (Cx e).keep 116 = [1, 3, 0, 4] := rfl
@[go_sem] theorem alter_116 (e : Exts) (d : Option Tmp) : (Cx e).alter 116 d = false := rfl
theorem fn_116 (e : Exts) : (Cx e).P.funcs[116]? = some Tryz.f116 := Tryz.func116
theorem ext_116 {e : Exts} (he : Quiet e) : (Cx e).ext 116 = none := he _ (by decide) (by decide)
@[go_sem] theorem keep_117 (e : Exts) : (Cx e).keep 117 = [0, 2, 1, 4] := rfl
@[go_sem] theorem alter_117 (e : Exts) (d : Option Tmp) : (Cx e).alter 117 d = false := rfl
theorem fn_117 (e : Exts) : (Cx e).P.funcs[117]? = some Tryz.f117 := Tryz.func117
theorem ext_117 {e : Exts} (he : Quiet e) : (Cx e).ext 117 = none := he _ (by decide) (by decide)
@[go_sem] theorem keep_118 (e : Exts) : (Cx e).keep 118 = [2, 1, 12, 25, 0, 4, 3, 32, 10, 39, 14, 56, 13, 11, 75, 80, 97, 15, 17, 16, 18, 19, 125, 20] := rfl
@[go_sem] theorem alter_118 (e : Exts) (d : Option Tmp) : (Cx e).alter 118 d = false := rfl
theorem fn_118 (e : Exts) : (Cx e).P.funcs[118]? = some Tryz.f118 := Tryz.func118
theorem ext_118 {e : Exts} (he : Quiet e) : (Cx e).ext 118 = none := he _ (by decide) (by decide)
@[go_sem] theorem keep_119 (e : Exts) : (Cx e).keep 119 = [0, 2] := rfl
@[go_sem] theorem alter_119 (e : Exts) (d : Option Tmp) : (Cx e).alter 119 d = false := rfl
theorem fn_119 (e : Exts) : (Cx e).P.funcs[119]? = some Tryz.f119 := Tryz.func119
theorem ext_119 {e : Exts} (he : Quiet e) : (Cx e).ext 119 = none := he _ (by decide) (by decide)
theorem pure_119 (e : Exts) (h : FuncId) (d : Option Tmp) : (Cx e).pure h 119 d = true := by simp [Cx, pureF, impF, impC]
@[go_sem] theorem keep_120 (e : Exts) : (Cx e).keep 120 = [0, 8, 7, 9, 1, 5, 16, 4] := rfl
@[go_sem] theorem alter_120 (e : Exts) (d : Option Tmp) : (Cx e).alter 120 d = false := rfl
theorem fn_120 (e : Exts) : (Cx e).P.funcs[120]? = some Tryz.f120 := Tryz.func120
theorem ext_120 {e : Exts} (he : Quiet e) : (Cx e).ext 120 = none := he _ (by decide) (by decide)
@[go_sem] theorem keep_121 (e : Exts) : (Cx e).keep 121 = [1, 10, 11, 2, 18, 4, 0, 3, 40, 58] := rfl
@[go_sem] theorem alter_121 (e : Exts) (d : Option Tmp) : (Cx e).alter 121 d = false := rfl
theorem fn_121 (e : Exts) : (Cx e).P.funcs[121]? = some Tryz.f121 := Tryz.func121
theorem ext_121 {e : Exts} (he : Quiet e) : (Cx e).ext 121 = none := he _ (by decide) (by decide)
@[go_sem] theorem keep_122 (e : Exts) : (Cx e).keep 122 = [0, 2] := rfl
@[go_sem] theorem alter_122 (e : Exts) (d : Option Tmp) : (Cx e).alter 122 d = false := rfl
theorem fn_122 (e : Exts) : (Cx e).P.funcs[122]? = some Tryz.f122 := Tryz.func122
theorem ext_122 {e : Exts} (he : Quiet e) : (Cx e).ext 122 = none := he _ (by decide) (by decide)
@[go_sem] theorem keep_123 (e : Exts) : (Cx e).keep 123 = [0, 2] := rfl
@[go_sem] theorem alter_123 (e : Exts) (d : Option Tmp) : (Cx e).alter 123 d = false := rfl
theorem fn_123 (e : Exts) : (Cx e).P.funcs[123]? = some Tryz.f123 := Tryz.func123
theorem ext_123 {e : Exts} (he : Quiet e) : (Cx e).ext 123 = none := he _ (by decide) (by decide)
@[go_sem] theorem keep_124 (e : Exts) : (Cx e).keep 124 = [0, 1, 2, 3, 8] := rfl
@[go_sem] theorem alter_124 (e : Exts) (d : Option Tmp) : (Cx e).alter 124 d = false := rfl
theorem fn_124 (e : Exts) : (Cx e).P.funcs[124]? = some Tryz.f124 := Tryz.func124
theorem ext_124 {e : Exts} (he : Quiet e) : (Cx e).ext 124 = none := he _ (by decide) (by decide)
@[go_sem] theorem keep_125 (e : Exts) : (Cx e).keep 125 = [0, 1, 2, 4, 5, 3, 12] := rfl
@[go_sem] theorem alter_125 (e : Exts) (d : Option Tmp) : (Cx e).alter 125 d = false := rfl
theorem fn_125 (e : Exts) : (Cx e).P.funcs[125]? = some Tryz.f125 := Tryz.func125
theorem ext_125 {e : Exts} (he : Quiet e) : (Cx e).ext 125 = none := he _ (by decide) (by decide)
@[go_sem] theorem keep_126 (e : Exts) : (Cx e).keep 126 = [1, 8, 2, 14, 9, 3, 0, 34] := rfl
@[go_sem] theorem alter_126 (e : Exts) (d : Option Tmp) : (Cx e).alter 126 d = false := rfl
theorem fn_126 (e : Exts) : (Cx e).P.funcs[126]? = some Tryz.f126 := Tryz.func126
theorem ext_126 {e : Exts} (he : Quiet e) : (Cx e).ext 126 = none := he _ (by decide) (by decide)
@[go_sem] theorem keep_127 (e : Exts) : (Cx e).keep 127 = [1, 2, 10, 11, 21, 0, 8, 3, 12, 33, 9] := rfl
@[go_sem] theorem alter_127 (e : Exts) (d : Option Tmp) : (Cx e).alter 127 d = false := rfl
theorem fn_127 (e : Exts) : (Cx e).P.funcs[127]? = some Tryz.f127 := Tryz.func127
theorem ext_127 {e : Exts} (he : Quiet e) : (Cx e).ext 127 = none := he _ (by decide) (by decide)
@[go_sem] theorem keep_128 (e : Exts) : (Cx e).keep 128 = [2, 1, 8, 17, 11, 35, 9, 10, 12, 45, 0] := rfl
@[go_sem] theorem alter_128 (e : Exts) (d : Option Tmp) : (Cx e).alter 128 d = false := rfl
theorem fn_128 (e : Exts) : (Cx e).P.funcs[128]? = some Tryz.f128 := Tryz.func128
theorem ext_128 {e : Exts} (he : Quiet e) : (Cx e).ext 128 = none := he _ (by decide) (by decide)
@[go_sem] theorem keep_129 (e : Exts) : (Cx e).keep 129 = [2, 1, 10, 34, 36, 0, 12, 3, 11, 13, 14, 55, 57, 60, 8, 9] := rfl
@[go_sem] theorem alter_129 (e : Exts) (d : Option Tmp) : (Cx e).alter 129 d = false := rfl
theorem fn_129 (e : Exts) : (Cx e).P.funcs[129]? = some Tryz.f129 := Tryz.func129
theorem ext_129 {e : Exts} (he : Quiet e) : (Cx e).ext 129 = none := he _ (by decide) (by decide)
@[go_sem] theorem keep_130 (e : Exts) : (Cx e).keep 130 = [1, 2, 8, 9, 15, 0] := rfl
@[go_sem] theorem alter_130 (e : Exts) (d : Option Tmp) : (Cx e).alter 130 d = false := rfl
theorem fn_130 (e : Exts) : (Cx e).P.funcs[130]? = some Tryz.f130 := Tryz.func130
theorem ext_130 {e : Exts} (he : Quiet e) : (Cx e).ext 130 = none := he _ (by decide) (by decide)
@[go_sem] theorem keep_131 (e : Exts) : (Cx e).keep 131 = [1, 10, 16, 9, 2, 3, 0, 36, 41, 45, 65, 11, 69, 84, 104, 12, 109, 124, 8] := rfl
@[go_sem] theorem alter_131 (e : Exts) (d : Option Tmp) : (Cx e).alter 131 d = false := rfl
theorem fn_131 (e : Exts) : (Cx e).P.funcs[131]? = some Tryz.f131 := Tryz.func131
theorem ext_131 {e : Exts} (he : Quiet e) : (Cx e).ext 131 = none := he _ (by decide) (by decide)
@[go_sem] theorem keep_132 (e : Exts) : (Cx e).keep 132 = [0, 1, 3, 2, 11, 12, 4, 47, 65, 70, 10] := rfl
@[go_sem] theorem alter_132 (e : Exts) (d : Option Tmp) : (Cx e).alter 132 d = false := rfl
theorem fn_132 (e : Exts) : (Cx e).P.funcs[132]? = some Tryz.f132 := Tryz.func132
theorem ext_132 {e : Exts} (he : Quiet e) : (Cx e).ext 132 = none := he _ (by decide) (by decide)
@[go_sem] theorem keep_133 (e : Exts) : (Cx e).keep 133 = [0, 1, 3, 2, 12, 13, 4, 47, 66, 71, 120, 139, 144, 10, 11] := rfl
@[go_sem] theorem alter_133 (e : Exts) (d : Option Tmp) : (Cx e).alter 133 d = false := rfl
theorem fn_133 (e : Exts) : (Cx e).P.funcs[133]? = some Tryz.f133 := Tryz.func133
theorem ext_133 {e : Exts} (he : Quiet e) : (Cx e).ext 133 = none := he _ (by decide) (by decide)
@[go_sem] theorem keep_134 (e : Exts) : (Cx e).keep 134 = [4, 0, 2, 1, 22, 3, 10, 11] := rfl
@[go_sem] theorem alter_134 (e : Exts) (d : Option Tmp) : (Cx e).alter 134 d = false := rfl
theorem fn_134 (e : Exts) : (Cx e).P.funcs[134]? = some Tryz.f134 := Tryz.func134
theorem ext_134 {e : Exts} (he : Quiet e) : (Cx e).ext 134 = none := he _ (by decide) (by decide)
@[go_sem] theorem keep_135 (e : Exts) : (Cx e).keep 135 = [1, 10, 11, 2, 18, 4, 0, 3, 40, 58] := rfl
@[go_sem] theorem alter_135 (e : Exts) (d : Option Tmp) : (Cx e).alter 135 d = false := rfl
theorem fn_135 (e : Exts) : (Cx e).P.funcs[135]? = some Tryz.f135 := Tryz.func135
theorem ext_135 {e : Exts} (he : Quiet e) : (Cx e).ext 135 = none := he _ (by decide) (by decide)
@[go_sem] theorem keep_136 (e : Exts) : (Cx e).keep 136 = [0, 1, 2, 3, 8] := rfl
@[go_sem] theorem alter_136 (e : Exts) (d : Option Tmp) : (Cx e).alter 136 d = false := rfl
theorem fn_136 (e : Exts) : (Cx e).P.funcs[136]? = some Tryz.f136 := Tryz.func136
theorem ext_136 {e : Exts} (he : Quiet e) : (Cx e).ext 136 = none := he _ (by decide) (by decide)
@[go_sem] theorem keep_137 (e : Exts) : (Cx e).keep 137 = [0, 1, 2, 4, 5, 3, 12] := rfl
@[go_sem] theorem alter_137 (e : Exts) (d : Option Tmp) : (Cx e).alter 137 d = false := rfl
theorem fn_137 (e : Exts) : (Cx e).P.funcs[137]? = some Tryz.f137 := Tryz.func137
theorem ext_137 {e : Exts} (he : Quiet e) : (Cx e).ext 137 = none := he _ (by decide) (by decide)
@[go_sem] theorem keep_138 (e : Exts) : (Cx e).keep 138 = [4, 0, 2, 1, 22, 3, 10, 11] := rfl
@[go_sem] theorem alter_138 (e : Exts) (d : Option Tmp) : (Cx e).alter 138 d = false := rfl
theorem fn_138 (e : Exts) : (Cx e).P.funcs[138]? = some Tryz.f138 := Tryz.func138
theorem ext_138 {e : Exts} (he : Quiet e) : (Cx e).ext 138 = none := he _ (by decide) (by decide)
theorem isagg_1 : isAggT Tryz.prog 1 = some false := by kernel_rfl
@[go_sem] theorem part_1 (cs : List AV) (k : Nat) : partOf Tryz.prog 1 cs k = cs[k]? := partOf_one cs k isagg_1 size_1
@[go_sem] theorem store_1 (H : Heap) (b v k : Nat) (x : AV) : storeA Tryz.prog H 1 (.ptr b v k) x = if x.cells.length = 1 then storeCells H b v k x.cells else none := by unfold storeA; rw [size_1]
theorem isagg_2 : isAggT Tryz.prog 2 = some false := by kernel_rfl
@[go_sem] theorem part_2 (cs : List AV) (k : Nat) : partOf Tryz.prog 2 cs k = cs[k]? := partOf_one cs k isagg_2 size_2
@[go_sem] theorem store_2 (H : Heap) (b v k : Nat) (x : AV) : storeA Tryz.prog H 2 (.ptr b v k) x = if x.cells.length = 1 then storeCells H b v k x.cells else none := by unfold storeA; rw [size_2]
theorem isagg_3 : isAggT Tryz.prog 3 = some false := by kernel_rfl
@[go_sem] theorem part_3 (cs : List AV) (k : Nat) : partOf Tryz.prog 3 cs k = cs[k]? := partOf_one cs k isagg_3 size_3
@[go_sem] theorem store_3 (H : Heap) (b v k : Nat) (x : AV) : storeA Tryz.prog H 3 (.ptr b v k) x = if x.cells.length = 1 then storeCells H b v k x.cells else none := by unfold storeA; rw [size_3]
theorem isagg_4 : isAggT Tryz.prog 4 = some false := by kernel_rfl
@[go_sem] theorem part_4 (cs : List AV) (k : Nat) : partOf Tryz.prog 4 cs k = cs[k]? := partOf_one cs k isagg_4 size_4
@[go_sem] theorem store_4 (H : Heap) (b v k : Nat) (x : AV) : storeA Tryz.prog H 4 (.ptr b v k) x = if x.cells.length = 1 then storeCells H b v k x.cells else none := by unfold storeA; rw [size_4]
theorem isagg_5 : isAggT Tryz.prog 5 = some false := by kernel_rfl
@[go_sem] theorem part_5 (cs : List AV) (k : Nat) : partOf Tryz.prog 5 cs k = cs[k]? := partOf_one cs k isagg_5 size_5
@[go_sem] theorem store_5 (H : Heap) (b v k : Nat) (x : AV) : storeA Tryz.prog H 5 (.ptr b v k) x = if x.cells.length = 1 then storeCells H b v k x.cells else none := by unfold storeA; rw [size_5]
theorem isagg_6 : isAggT Tryz.prog 6 = some false := by kernel_rfl
@[go_sem] theorem part_6 (cs : List AV) (k : Nat) : partOf Tryz.prog 6 cs k = cs[k]? := partOf_one cs k isagg_6 size_6
@[go_sem] theorem store_6 (H : Heap) (b v k : Nat) (x : AV) : storeA Tryz.prog H 6 (.ptr b v k) x = if x.cells.length = 1 then storeCells H b v k x.cells else none := by unfold storeA; rw [size_6]
theorem isagg_7 : isAggT Tryz.prog 7 = some true := by kernel_rfl
@[go_sem] theorem part_7 (cs : List AV) (k : Nat) : partOf Tryz.prog 7 cs k = if k + 4 ≤ cs.length then some (.agg ((cs.drop k).take 4)) else none := partOf_agg cs k isagg_7 size_7
@[go_sem] theorem store_7 (H : Heap) (b v k : Nat) (x : AV) : storeA Tryz.prog H 7 (.ptr b v k) x = if x.cells.length = 4 then storeCells H b v k x.cells else none := by unfold storeA; rw [size_7]
theorem foff_7_0 : fieldOff Tryz.prog 7 0 = some (0, 1) := by kernel_rfl
@[go_sem] theorem fptr_7_0 (b v k : Nat) : fieldAddrA Tryz.prog 7 (.ptr b v k) 0 = some (.ptr b v (k + 0)) := fieldAddr_ptr foff_7_0 b v k
@[go_sem] theorem fro_7_0 (z : AV) (k : Nat) : fieldAddrA Tryz.prog 7 (.ro z k) 0 = some (.ro z (k + 0)) := fieldAddr_ro foff_7_0 z k
theorem foff_7_1 : fieldOff Tryz.prog 7 1 = some (1, 1) := by kernel_rfl
@[go_sem] theorem fptr_7_1 (b v k : Nat) : fieldAddrA Tryz.prog 7 (.ptr b v k) 1 = some (.ptr b v (k + 1)) := fieldAddr_ptr foff_7_1 b v k
@[go_sem] theorem fro_7_1 (z : AV) (k : Nat) : fieldAddrA Tryz.prog 7 (.ro z k) 1 = some (.ro z (k + 1)) := fieldAddr_ro foff_7_1 z k
theorem foff_7_2 : fieldOff Tryz.prog 7 2 = some (2, 1) := by kernel_rfl
@[go_sem] theorem fptr_7_2 (b v k : Nat) : fieldAddrA Tryz.prog 7 (.ptr b v k) 2 = some (.ptr b v (k + 2)) := fieldAddr_ptr foff_7_2 b v k
@[go_sem] theorem fro_7_2 (z : AV) (k : Nat) : fieldAddrA Tryz.prog 7 (.ro z k) 2 = some (.ro z (k + 2)) := fieldAddr_ro foff_7_2 z k
theorem foff_7_3 : fieldOff Tryz.prog 7 3 = some (3, 1) := by kernel_rfl
@[go_sem] theorem fptr_7_3 (b v k : Nat) : fieldAddrA Tryz.prog 7 (.ptr b v k) 3 = some (.ptr b v (k + 3)) := fieldAddr_ptr foff_7_3 b v k
@[go_sem] theorem fro_7_3 (z : AV) (k : Nat) : fieldAddrA Tryz.prog 7 (.ro z k) 3 = some (.ro z (k + 3)) := fieldAddr_ro foff_7_3 z k
@[go_sem] theorem build_7 (ps : List (Nat × AV)) : buildA Tryz.prog 7 ps = (fillA (fun i => ([(0, 1), (1, 1), (2, 1), (3, 1)] : List (Nat × Nat))[i]?) [.v (.int .i64 0), .v (.int .i64 0), .v (.bool false), .v (.int .u8 0)] ps).map .agg := by kernel_rfl
theorem isagg_8 : isAggT Tryz.prog 8 = some true := by kernel_rfl
@[go_sem] theorem part_8 (cs : List AV) (k : Nat) : partOf Tryz.prog 8 cs k = if k + 4 ≤ cs.length then some (.agg ((cs.drop k).take 4)) else none := partOf_agg cs k isagg_8 size_8
@[go_sem] theorem store_8 (H : Heap) (b v k : Nat) (x : AV) : storeA Tryz.prog H 8 (.ptr b v k) x = if x.cells.length = 4 then storeCells H b v k x.cells else none := by unfold storeA; rw [size_8]
theorem foff_8_0 : fieldOff Tryz.prog 8 0 = some (0, 1) := by kernel_rfl
@[go_sem] theorem fptr_8_0 (b v k : Nat) : fieldAddrA Tryz.prog 8 (.ptr b v k) 0 = some (.ptr b v (k + 0)) := fieldAddr_ptr foff_8_0 b v k
@[go_sem] theorem fro_8_0 (z : AV) (k : Nat) : fieldAddrA Tryz.prog 8 (.ro z k) 0 = some (.ro z (k + 0)) := fieldAddr_ro foff_8_0 z k
theorem foff_8_1 : fieldOff Tryz.prog 8 1 = some (1, 1) := by kernel_rfl
@[go_sem] theorem fptr_8_1 (b v k : Nat) : fieldAddrA Tryz.prog 8 (.ptr b v k) 1 = some (.ptr b v (k + 1)) := fieldAddr_ptr foff_8_1 b v k
@[go_sem] theorem fro_8_1 (z : AV) (k : Nat) : fieldAddrA Tryz.prog 8 (.ro z k) 1 = some (.ro z (k + 1)) := fieldAddr_ro foff_8_1 z k
theorem foff_8_2 : fieldOff Tryz.prog 8 2 = some (2, 1) := by kernel_rfl
@[go_sem] theorem fptr_8_2 (b v k : Nat) : fieldAddrA Tryz.prog 8 (.ptr b v k) 2 = some (.ptr b v (k + 2)) := fieldAddr_ptr foff_8_2 b v k
@[go_sem] theorem fro_8_2 (z : AV) (k : Nat) : fieldAddrA Tryz.prog 8 (.ro z k) 2 = some (.ro z (k + 2)) := fieldAddr_ro foff_8_2 z k
theorem foff_8_3 : fieldOff Tryz.prog 8 3 = some (3, 1) := by kernel_rfl
@[go_sem] theorem fptr_8_3 (b v k : Nat) : fieldAddrA Tryz.prog 8 (.ptr b v k) 3 = some (.ptr b v (k + 3)) := fieldAddr_ptr foff_8_3 b v k
@[go_sem] theorem fro_8_3 (z : AV) (k : Nat) : fieldAddrA Tryz.prog 8 (.ro z k) 3 = some (.ro z (k + 3)) := fieldAddr_ro foff_8_3 z k
@[go_sem] theorem build_8 (ps : List (Nat × AV)) : buildA Tryz.prog 8 ps = (fillA (fun i => ([(0, 1), (1, 1), (2, 1), (3, 1)] : List (Nat × Nat))[i]?) [.v (.int .i64 0), .v (.int .i64 0), .v (.bool false), .v (.int .u8 0)] ps).map .agg := by kernel_rfl
theorem isagg_9 : isAggT Tryz.prog 9 = some false := by kernel_rfl
@[go_sem] theorem part_9 (cs : List AV) (k : Nat) : partOf Tryz.prog 9 cs k = cs[k]? := partOf_one cs k isagg_9 size_9
@[go_sem] theorem store_9 (H : Heap) (b v k : Nat) (x : AV) : storeA Tryz.prog H 9 (.ptr b v k) x = if x.cells.length = 1 then storeCells H b v k x.cells else none := by unfold storeA; rw [size_9]
theorem und_9 : Tryz.prog.underlying 9 = some .string := by kernel_rfl
@[go_sem] theorem len_9 (H : Heap) (s : ByteArray) : lenA Tryz.prog H [9] [.v (.string s)] = some (.v (.int .i64 s.size)) := len_str und_9 H s []
@[go_sem] theorem idx_9 (s : ByteArray) (k : IntKind) (n : Int) : indexA Tryz.prog 9 (.v (.string s)) (.v (.int k n)) = if 0 ≤ n then (strAt s n.toNat).map fun b => .v (.int .u8 b.toNat) else none := index_str und_9 s k n
theorem isagg_10 : isAggT Tryz.prog 10 = some false := by kernel_rfl
@[go_sem] theorem part_10 (cs : List AV) (k : Nat) : partOf Tryz.prog 10 cs k = cs[k]? := partOf_one cs k isagg_10 size_10
@[go_sem] theorem store_10 (H : Heap) (b v k : Nat) (x : AV) : storeA Tryz.prog H 10 (.ptr b v k) x = if x.cells.length = 1 then storeCells H b v k x.cells else none := by unfold storeA; rw [size_10]
theorem und_10 : Tryz.prog.underlying 10 = some .string := by kernel_rfl
@[go_sem] theorem len_10 (H : Heap) (s : ByteArray) : lenA Tryz.prog H [10] [.v (.string s)] = some (.v (.int .i64 s.size)) := len_str und_10 H s []
@[go_sem] theorem idx_10 (s : ByteArray) (k : IntKind) (n : Int) : indexA Tryz.prog 10 (.v (.string s)) (.v (.int k n)) = if 0 ≤ n then (strAt s n.toNat).map fun b => .v (.int .u8 b.toNat) else none := index_str und_10 s k n
theorem isagg_11 : isAggT Tryz.prog 11 = some false := by kernel_rfl
@[go_sem] theorem part_11 (cs : List AV) (k : Nat) : partOf Tryz.prog 11 cs k = cs[k]? := partOf_one cs k isagg_11 size_11
@[go_sem] theorem store_11 (H : Heap) (b v k : Nat) (x : AV) : storeA Tryz.prog H 11 (.ptr b v k) x = if x.cells.length = 1 then storeCells H b v k x.cells else none := by unfold storeA; rw [size_11]
theorem und_11 : Tryz.prog.underlying 11 = some .string := by kernel_rfl
@[go_sem] theorem len_11 (H : Heap) (s : ByteArray) : lenA Tryz.prog H [11] [.v (.string s)] = some (.v (.int .i64 s.size)) := len_str und_11 H s []
@[go_sem] theorem idx_11 (s : ByteArray) (k : IntKind) (n : Int) : indexA Tryz.prog 11 (.v (.string s)) (.v (.int k n)) = if 0 ≤ n then (strAt s n.toNat).map fun b => .v (.int .u8 b.toNat) else none := index_str und_11 s k n
theorem isagg_12 : isAggT Tryz.prog 12 = some false := by kernel_rfl
@[go_sem] theorem part_12 (cs : List AV) (k : Nat) : partOf Tryz.prog 12 cs k = cs[k]? := partOf_one cs k isagg_12 size_12
@[go_sem] theorem store_12 (H : Heap) (b v k : Nat) (x : AV) : storeA Tryz.prog H 12 (.ptr b v k) x = if x.cells.length = 1 then storeCells H b v k x.cells else none := by unfold storeA; rw [size_12]
theorem isagg_13 : isAggT Tryz.prog 13 = some true := by kernel_rfl
@[go_sem] theorem part_13 (cs : List AV) (k : Nat) : partOf Tryz.prog 13 cs k = if k + 2 ≤ cs.length then some (.agg ((cs.drop k).take 2)) else none := partOf_agg cs k isagg_13 size_13
@[go_sem] theorem store_13 (H : Heap) (b v k : Nat) (x : AV) : storeA Tryz.prog H 13 (.ptr b v k) x = if x.cells.length = 2 then storeCells H b v k x.cells else none := by unfold storeA; rw [size_13]
theorem foff_13_0 : fieldOff Tryz.prog 13 0 = some (0, 1) := by kernel_rfl
@[go_sem] theorem fptr_13_0 (b v k : Nat) : fieldAddrA Tryz.prog 13 (.ptr b v k) 0 = some (.ptr b v (k + 0)) := fieldAddr_ptr foff_13_0 b v k
@[go_sem] theorem fro_13_0 (z : AV) (k : Nat) : fieldAddrA Tryz.prog 13 (.ro z k) 0 = some (.ro z (k + 0)) := fieldAddr_ro foff_13_0 z k
theorem foff_13_1 : fieldOff Tryz.prog 13 1 = some (1, 1) := by kernel_rfl
@[go_sem] theorem fptr_13_1 (b v k : Nat) : fieldAddrA Tryz.prog 13 (.ptr b v k) 1 = some (.ptr b v (k + 1)) := fieldAddr_ptr foff_13_1 b v k
@[go_sem] theorem fro_13_1 (z : AV) (k : Nat) : fieldAddrA Tryz.prog 13 (.ro z k) 1 = some (.ro z (k + 1)) := fieldAddr_ro foff_13_1 z k
@[go_sem] theorem build_13 (ps : List (Nat × AV)) : buildA Tryz.prog 13 ps = (fillA (fun i => ([(0, 1), (1, 1)] : List (Nat × Nat))[i]?) [.v (.string ⟨#[]⟩), .v (.int .u64 0)] ps).map .agg := by kernel_rfl
theorem isagg_14 : isAggT Tryz.prog 14 = some true := by kernel_rfl
@[go_sem] theorem part_14 (cs : List AV) (k : Nat) : partOf Tryz.prog 14 cs k = if k + 2 ≤ cs.length then some (.agg ((cs.drop k).take 2)) else none := partOf_agg cs k isagg_14 size_14
@[go_sem] theorem store_14 (H : Heap) (b v k : Nat) (x : AV) : storeA Tryz.prog H 14 (.ptr b v k) x = if x.cells.length = 2 then storeCells H b v k x.cells else none := by unfold storeA; rw [size_14]
theorem foff_14_0 : fieldOff Tryz.prog 14 0 = some (0, 1) := by kernel_rfl
@[go_sem] theorem fptr_14_0 (b v k : Nat) : fieldAddrA Tryz.prog 14 (.ptr b v k) 0 = some (.ptr b v (k + 0)) := fieldAddr_ptr foff_14_0 b v k
@[go_sem] theorem fro_14_0 (z : AV) (k : Nat) : fieldAddrA Tryz.prog 14 (.ro z k) 0 = some (.ro z (k + 0)) := fieldAddr_ro foff_14_0 z k
theorem foff_14_1 : fieldOff Tryz.prog 14 1 = some (1, 1) := by kernel_rfl
@[go_sem] theorem fptr_14_1 (b v k : Nat) : fieldAddrA Tryz.prog 14 (.ptr b v k) 1 = some (.ptr b v (k + 1)) := fieldAddr_ptr foff_14_1 b v k
@[go_sem] theorem fro_14_1 (z : AV) (k : Nat) : fieldAddrA Tryz.prog 14 (.ro z k) 1 = some (.ro z (k + 1)) := fieldAddr_ro foff_14_1 z k
@[go_sem] theorem build_14 (ps : List (Nat × AV)) : buildA Tryz.prog 14 ps = (fillA (fun i => ([(0, 1), (1, 1)] : List (Nat × Nat))[i]?) [.v (.string ⟨#[]⟩), .v (.int .u64 0)] ps).map .agg := by kernel_rfl
theorem isagg_15 : isAggT Tryz.prog 15 = some false := by kernel_rfl
@[go_sem] theorem part_15 (cs : List AV) (k : Nat) : partOf Tryz.prog 15 cs k = cs[k]? := partOf_one cs k isagg_15 size_15
@[go_sem] theorem store_15 (H : Heap) (b v k : Nat) (x : AV) : storeA Tryz.prog H 15 (.ptr b v k) x = if x.cells.length = 1 then storeCells H b v k x.cells else none := by unfold storeA; rw [size_15]
theorem isagg_16 : isAggT Tryz.prog 16 = some false := by kernel_rfl
@[go_sem] theorem part_16 (cs : List AV) (k : Nat) : partOf Tryz.prog 16 cs k = cs[k]? := partOf_one cs k isagg_16 size_16
@[go_sem] theorem store_16 (H : Heap) (b v k : Nat) (x : AV) : storeA Tryz.prog H 16 (.ptr b v k) x = if x.cells.length = 1 then storeCells H b v k x.cells else none := by unfold storeA; rw [size_16]
theorem isagg_17 : isAggT Tryz.prog 17 = some false := by kernel_rfl
@[go_sem] theorem part_17 (cs : List AV) (k : Nat) : partOf Tryz.prog 17 cs k = cs[k]? := partOf_one cs k isagg_17 size_17
@[go_sem] theorem store_17 (H : Heap) (b v k : Nat) (x : AV) : storeA Tryz.prog H 17 (.ptr b v k) x = if x.cells.length = 1 then storeCells H b v k x.cells else none := by unfold storeA; rw [size_17]
theorem isagg_18 : isAggT Tryz.prog 18 = some true := by kernel_rfl
@[go_sem] theorem part_18 (cs : List AV) (k : Nat) : partOf Tryz.prog 18 cs k = if k + 1 ≤ cs.length then some (.agg ((cs.drop k).take 1)) else none := partOf_agg cs k isagg_18 size_18
@[go_sem] theorem store_18 (H : Heap) (b v k : Nat) (x : AV) : storeA Tryz.prog H 18 (.ptr b v k) x = if x.cells.length = 1 then storeCells H b v k x.cells else none := by unfold storeA; rw [size_18]
theorem foff_18_0 : fieldOff Tryz.prog 18 0 = some (0, 1) := by kernel_rfl
@[go_sem] theorem fptr_18_0 (b v k : Nat) : fieldAddrA Tryz.prog 18 (.ptr b v k) 0 = some (.ptr b v (k + 0)) := fieldAddr_ptr foff_18_0 b v k
@[go_sem] theorem fro_18_0 (z : AV) (k : Nat) : fieldAddrA Tryz.prog 18 (.ro z k) 0 = some (.ro z (k + 0)) := fieldAddr_ro foff_18_0 z k
@[go_sem] theorem build_18 (ps : List (Nat × AV)) : buildA Tryz.prog 18 ps = (fillA (fun i => ([(0, 1)] : List (Nat × Nat))[i]?) [.v (.pointer none)] ps).map .agg := by kernel_rfl
theorem isagg_19 : isAggT Tryz.prog 19 = some true := by kernel_rfl
@[go_sem] theorem part_19 (cs : List AV) (k : Nat) : partOf Tryz.prog 19 cs k = if k + 1 ≤ cs.length then some (.agg ((cs.drop k).take 1)) else none := partOf_agg cs k isagg_19 size_19
@[go_sem] theorem store_19 (H : Heap) (b v k : Nat) (x : AV) : storeA Tryz.prog H 19 (.ptr b v k) x = if x.cells.length = 1 then storeCells H b v k x.cells else none := by unfold storeA; rw [size_19]
theorem foff_19_0 : fieldOff Tryz.prog 19 0 = some (0, 1) := by kernel_rfl
@[go_sem] theorem fptr_19_0 (b v k : Nat) : fieldAddrA Tryz.prog 19 (.ptr b v k) 0 = some (.ptr b v (k + 0)) := fieldAddr_ptr foff_19_0 b v k
@[go_sem] theorem fro_19_0 (z : AV) (k : Nat) : fieldAddrA Tryz.prog 19 (.ro z k) 0 = some (.ro z (k + 0)) := fieldAddr_ro foff_19_0 z k
@[go_sem] theorem build_19 (ps : List (Nat × AV)) : buildA Tryz.prog 19 ps = (fillA (fun i => ([(0, 1)] : List (Nat × Nat))[i]?) [.v (.pointer none)] ps).map .agg := by kernel_rfl
theorem isagg_20 : isAggT Tryz.prog 20 = some false := by kernel_rfl
@[go_sem] theorem part_20 (cs : List AV) (k : Nat) : partOf Tryz.prog 20 cs k = cs[k]? := partOf_one cs k isagg_20 size_20
@[go_sem] theorem store_20 (H : Heap) (b v k : Nat) (x : AV) : storeA Tryz.prog H 20 (.ptr b v k) x = if x.cells.length = 1 then storeCells H b v k x.cells else none := by unfold storeA; rw [size_20]
theorem isagg_21 : isAggT Tryz.prog 21 = some false := by kernel_rfl
@[go_sem] theorem part_21 (cs : List AV) (k : Nat) : partOf Tryz.prog 21 cs k = cs[k]? := partOf_one cs k isagg_21 size_21
@[go_sem] theorem store_21 (H : Heap) (b v k : Nat) (x : AV) : storeA Tryz.prog H 21 (.ptr b v k) x = if x.cells.length = 1 then storeCells H b v k x.cells else none := by unfold storeA; rw [size_21]
theorem isagg_22 : isAggT Tryz.prog 22 = some false := by kernel_rfl
@[go_sem] theorem part_22 (cs : List AV) (k : Nat) : partOf Tryz.prog 22 cs k = cs[k]? := partOf_one cs k isagg_22 size_22
@[go_sem] theorem store_22 (H : Heap) (b v k : Nat) (x : AV) : storeA Tryz.prog H 22 (.ptr b v k) x = if x.cells.length = 1 then storeCells H b v k x.cells else none := by unfold storeA; rw [size_22]
theorem und_22 : Tryz.prog.underlying 22 = some (.slice 46) := by kernel_rfl
@[go_sem] theorem len_22 (H : Heap) (x : AV) : lenA Tryz.prog H [22] [x] = slLen x := len_sl und_22 H x
@[go_sem] theorem idx_22 (x y : AV) : indexAddrA Tryz.prog 22 x y = slIdx 2 x y := idx_sl und_22 size_46 x y
@[go_sem] theorem bsl_22 (mt : Bool) (H : Heap) (slot len : Nat) (parts : List (Nat × AV)) : buildSliceA Tryz.prog mt H slot 22 len parts = if len * 2 ≤ 65536 then (fillA (fun i => some (i * 2, 2)) (repeatCells [.v (.int .i64 0), .v (.slice none 0 0)] len) parts).bind (bsFin mt 46 2 H slot len) else none := buildSl_eq und_22 size_46 zero_46 (by decide) rfl mt H slot len parts
theorem isagg_23 : isAggT Tryz.prog 23 = some true := by kernel_rfl
@[go_sem] theorem part_23 (cs : List AV) (k : Nat) : partOf Tryz.prog 23 cs k = if k + 1 ≤ cs.length then some (.agg ((cs.drop k).take 1)) else none := partOf_agg cs k isagg_23 size_23
@[go_sem] theorem store_23 (H : Heap) (b v k : Nat) (x : AV) : storeA Tryz.prog H 23 (.ptr b v k) x = if x.cells.length = 1 then storeCells H b v k x.cells else none := by unfold storeA; rw [size_23]
theorem foff_23_0 : fieldOff Tryz.prog 23 0 = some (0, 1) := by kernel_rfl
@[go_sem] theorem fptr_23_0 (b v k : Nat) : fieldAddrA Tryz.prog 23 (.ptr b v k) 0 = some (.ptr b v (k + 0)) := fieldAddr_ptr foff_23_0 b v k
@[go_sem] theorem fro_23_0 (z : AV) (k : Nat) : fieldAddrA Tryz.prog 23 (.ro z k) 0 = some (.ro z (k + 0)) := fieldAddr_ro foff_23_0 z k
@[go_sem] theorem build_23 (ps : List (Nat × AV)) : buildA Tryz.prog 23 ps = (fillA (fun i => ([(0, 1)] : List (Nat × Nat))[i]?) [.v (.slice none 0 0)] ps).map .agg := by kernel_rfl
theorem isagg_24 : isAggT Tryz.prog 24 = some true := by kernel_rfl
@[go_sem] theorem part_24 (cs : List AV) (k : Nat) : partOf Tryz.prog 24 cs k = if k + 1 ≤ cs.length then some (.agg ((cs.drop k).take 1)) else none := partOf_agg cs k isagg_24 size_24
@[go_sem] theorem store_24 (H : Heap) (b v k : Nat) (x : AV) : storeA Tryz.prog H 24 (.ptr b v k) x = if x.cells.length = 1 then storeCells H b v k x.cells else none := by unfold storeA; rw [size_24]
theorem foff_24_0 : fieldOff Tryz.prog 24 0 = some (0, 1) := by kernel_rfl
@[go_sem] theorem fptr_24_0 (b v k : Nat) : fieldAddrA Tryz.prog 24 (.ptr b v k) 0 = some (.ptr b v (k + 0)) := fieldAddr_ptr foff_24_0 b v k
@[go_sem] theorem fro_24_0 (z : AV) (k : Nat) : fieldAddrA Tryz.prog 24 (.ro z k) 0 = some (.ro z (k + 0)) := fieldAddr_ro foff_24_0 z k
@[go_sem] theorem build_24 (ps : List (Nat × AV)) : buildA Tryz.prog 24 ps = (fillA (fun i => ([(0, 1)] : List (Nat × Nat))[i]?) [.v (.slice none 0 0)] ps).map .agg := by kernel_rfl
theorem isagg_25 : isAggT Tryz.prog 25 = some false := by kernel_rfl
@[go_sem] theorem part_25 (cs : List AV) (k : Nat) : partOf Tryz.prog 25 cs k = cs[k]? := partOf_one cs k isagg_25 size_25
@[go_sem] theorem store_25 (H : Heap) (b v k : Nat) (x : AV) : storeA Tryz.prog H 25 (.ptr b v k) x = if x.cells.length = 1 then storeCells H b v k x.cells else none := by unfold storeA; rw [size_25]
theorem isagg_26 : isAggT Tryz.prog 26 = some false := by kernel_rfl
@[go_sem] theorem part_26 (cs : List AV) (k : Nat) : partOf Tryz.prog 26 cs k = cs[k]? := partOf_one cs k isagg_26 size_26
@[go_sem] theorem store_26 (H : Heap) (b v k : Nat) (x : AV) : storeA Tryz.prog H 26 (.ptr b v k) x = if x.cells.length = 1 then storeCells H b v k x.cells else none := by unfold storeA; rw [size_26]
theorem isagg_27 : isAggT Tryz.prog 27 = some false := by kernel_rfl
@[go_sem] theorem part_27 (cs : List AV) (k : Nat) : partOf Tryz.prog 27 cs k = cs[k]? := partOf_one cs k isagg_27 size_27
@[go_sem] theorem store_27 (H : Heap) (b v k : Nat) (x : AV) : storeA Tryz.prog H 27 (.ptr b v k) x = if x.cells.length = 1 then storeCells H b v k x.cells else none := by unfold storeA; rw [size_27]
theorem isagg_28 : isAggT Tryz.prog 28 = some false := by kernel_rfl
@[go_sem] theorem part_28 (cs : List AV) (k : Nat) : partOf Tryz.prog 28 cs k = cs[k]? := partOf_one cs k isagg_28 size_28
@[go_sem] theorem store_28 (H : Heap) (b v k : Nat) (x : AV) : storeA Tryz.prog H 28 (.ptr b v k) x = if x.cells.length = 1 then storeCells H b v k x.cells else none := by unfold storeA; rw [size_28]
theorem isagg_30 : isAggT Tryz.prog 30 = some false := by kernel_rfl
@[go_sem] theorem part_30 (cs : List AV) (k : Nat) : partOf Tryz.prog 30 cs k = cs[k]? := partOf_one cs k isagg_30 size_30
@[go_sem] theorem store_30 (H : Heap) (b v k : Nat) (x : AV) : storeA Tryz.prog H 30 (.ptr b v k) x = if x.cells.length = 1 then storeCells H b v k x.cells else none := by unfold storeA; rw [size_30]
theorem isagg_31 : isAggT Tryz.prog 31 = some true := by kernel_rfl
@[go_sem] theorem part_31 (cs : List AV) (k : Nat) : partOf Tryz.prog 31 cs k = if k + 3 ≤ cs.length then some (.agg ((cs.drop k).take 3)) else none := partOf_agg cs k isagg_31 size_31
@[go_sem] theorem store_31 (H : Heap) (b v k : Nat) (x : AV) : storeA Tryz.prog H 31 (.ptr b v k) x = if x.cells.length = 3 then storeCells H b v k x.cells else none := by unfold storeA; rw [size_31]
theorem foff_31_0 : fieldOff Tryz.prog 31 0 = some (0, 1) := by kernel_rfl
@[go_sem] theorem fptr_31_0 (b v k : Nat) : fieldAddrA Tryz.prog 31 (.ptr b v k) 0 = some (.ptr b v (k + 0)) := fieldAddr_ptr foff_31_0 b v k
@[go_sem] theorem fro_31_0 (z : AV) (k : Nat) : fieldAddrA Tryz.prog 31 (.ro z k) 0 = some (.ro z (k + 0)) := fieldAddr_ro foff_31_0 z k
theorem foff_31_1 : fieldOff Tryz.prog 31 1 = some (1, 1) := by kernel_rfl
@[go_sem] theorem fptr_31_1 (b v k : Nat) : fieldAddrA Tryz.prog 31 (.ptr b v k) 1 = some (.ptr b v (k + 1)) := fieldAddr_ptr foff_31_1 b v k
@[go_sem] theorem fro_31_1 (z : AV) (k : Nat) : fieldAddrA Tryz.prog 31 (.ro z k) 1 = some (.ro z (k + 1)) := fieldAddr_ro foff_31_1 z k
theorem foff_31_2 : fieldOff Tryz.prog 31 2 = some (2, 1) := by kernel_rfl
@[go_sem] theorem fptr_31_2 (b v k : Nat) : fieldAddrA Tryz.prog 31 (.ptr b v k) 2 = some (.ptr b v (k + 2)) := fieldAddr_ptr foff_31_2 b v k
@[go_sem] theorem fro_31_2 (z : AV) (k : Nat) : fieldAddrA Tryz.prog 31 (.ro z k) 2 = some (.ro z (k + 2)) := fieldAddr_ro foff_31_2 z k
@[go_sem] theorem build_31 (ps : List (Nat × AV)) : buildA Tryz.prog 31 ps = (fillA (fun i => ([(0, 1), (1, 1), (2, 1)] : List (Nat × Nat))[i]?) [.v (.int .i64 0), .v (.int .i64 0), .v (.int .i64 0)] ps).map .agg := by kernel_rfl
theorem isagg_32 : isAggT Tryz.prog 32 = some true := by kernel_rfl
@[go_sem] theorem part_32 (cs : List AV) (k : Nat) : partOf Tryz.prog 32 cs k = if k + 3 ≤ cs.length then some (.agg ((cs.drop k).take 3)) else none := partOf_agg cs k isagg_32 size_32
@[go_sem] theorem store_32 (H : Heap) (b v k : Nat) (x : AV) : storeA Tryz.prog H 32 (.ptr b v k) x = if x.cells.length = 3 then storeCells H b v k x.cells else none := by unfold storeA; rw [size_32]
theorem foff_32_0 : fieldOff Tryz.prog 32 0 = some (0, 1) := by kernel_rfl
@[go_sem] theorem fptr_32_0 (b v k : Nat) : fieldAddrA Tryz.prog 32 (.ptr b v k) 0 = some (.ptr b v (k + 0)) := fieldAddr_ptr foff_32_0 b v k
@[go_sem] theorem fro_32_0 (z : AV) (k : Nat) : fieldAddrA Tryz.prog 32 (.ro z k) 0 = some (.ro z (k + 0)) := fieldAddr_ro foff_32_0 z k
theorem foff_32_1 : fieldOff Tryz.prog 32 1 = some (1, 1) := by kernel_rfl
@[go_sem] theorem fptr_32_1 (b v k : Nat) : fieldAddrA Tryz.prog 32 (.ptr b v k) 1 = some (.ptr b v (k + 1)) := fieldAddr_ptr foff_32_1 b v k
@[go_sem] theorem fro_32_1 (z : AV) (k : Nat) : fieldAddrA Tryz.prog 32 (.ro z k) 1 = some (.ro z (k + 1)) := fieldAddr_ro foff_32_1 z k
theorem foff_32_2 : fieldOff Tryz.prog 32 2 = some (2, 1) := by kernel_rfl
@[go_sem] theorem fptr_32_2 (b v k : Nat) : fieldAddrA Tryz.prog 32 (.ptr b v k) 2 = some (.ptr b v (k + 2)) := fieldAddr_ptr foff_32_2 b v k
@[go_sem] theorem fro_32_2 (z : AV) (k : Nat) : fieldAddrA Tryz.prog 32 (.ro z k) 2 = some (.ro z (k + 2)) := fieldAddr_ro foff_32_2 z k
@[go_sem] theorem build_32 (ps : List (Nat × AV)) : buildA Tryz.prog 32 ps = (fillA (fun i => ([(0, 1), (1, 1), (2, 1)] : List (Nat × Nat))[i]?) [.v (.int .i64 0), .v (.int .i64 0), .v (.int .i64 0)] ps).map .agg := by kernel_rfl
theorem isagg_34 : isAggT Tryz.prog 34 = some false := by kernel_rfl
@[go_sem] theorem part_34 (cs : List AV) (k : Nat) : partOf Tryz.prog 34 cs k = cs[k]? := partOf_one cs k isagg_34 size_34
@[go_sem] theorem store_34 (H : Heap) (b v k : Nat) (x : AV) : storeA Tryz.prog H 34 (.ptr b v k) x = if x.cells.length = 1 then storeCells H b v k x.cells else none := by unfold storeA; rw [size_34]
theorem isagg_35 : isAggT Tryz.prog 35 = some false := by kernel_rfl
@[go_sem] theorem part_35 (cs : List AV) (k : Nat) : partOf Tryz.prog 35 cs k = cs[k]? := partOf_one cs k isagg_35 size_35
@[go_sem] theorem store_35 (H : Heap) (b v k : Nat) (x : AV) : storeA Tryz.prog H 35 (.ptr b v k) x = if x.cells.length = 1 then storeCells H b v k x.cells else none := by unfold storeA; rw [size_35]
theorem isagg_36 : isAggT Tryz.prog 36 = some false := by kernel_rfl
@[go_sem] theorem part_36 (cs : List AV) (k : Nat) : partOf Tryz.prog 36 cs k = cs[k]? := partOf_one cs k isagg_36 size_36
@[go_sem] theorem store_36 (H : Heap) (b v k : Nat) (x : AV) : storeA Tryz.prog H 36 (.ptr b v k) x = if x.cells.length = 1 then storeCells H b v k x.cells else none := by unfold storeA; rw [size_36]
theorem isagg_37 : isAggT Tryz.prog 37 = some false := by kernel_rfl
@[go_sem] theorem part_37 (cs : List AV) (k : Nat) : partOf Tryz.prog 37 cs k = cs[k]? := partOf_one cs k isagg_37 size_37
@[go_sem] theorem store_37 (H : Heap) (b v k : Nat) (x : AV) : storeA Tryz.prog H 37 (.ptr b v k) x = if x.cells.length = 1 then storeCells H b v k x.cells else none := by unfold storeA; rw [size_37]
theorem isagg_38 : isAggT Tryz.prog 38 = some false := by kernel_rfl
@[go_sem] theorem part_38 (cs : List AV) (k : Nat) : partOf Tryz.prog 38 cs k = cs[k]? := partOf_one cs k isagg_38 size_38
@[go_sem] theorem store_38 (H : Heap) (b v k : Nat) (x : AV) : storeA Tryz.prog H 38 (.ptr b v k) x = if x.cells.length = 1 then storeCells H b v k x.cells else none := by unfold storeA; rw [size_38]
theorem isagg_40 : isAggT Tryz.prog 40 = some false := by kernel_rfl
@[go_sem] theorem part_40 (cs : List AV) (k : Nat) : partOf Tryz.prog 40 cs k = cs[k]? := partOf_one cs k isagg_40 size_40
@[go_sem] theorem store_40 (H : Heap) (b v k : Nat) (x : AV) : storeA Tryz.prog H 40 (.ptr b v k) x = if x.cells.length = 1 then storeCells H b v k x.cells else none := by unfold storeA; rw [size_40]
theorem isagg_41 : isAggT Tryz.prog 41 = some false := by kernel_rfl
@[go_sem] theorem part_41 (cs : List AV) (k : Nat) : partOf Tryz.prog 41 cs k = cs[k]? := partOf_one cs k isagg_41 size_41
@[go_sem] theorem store_41 (H : Heap) (b v k : Nat) (x : AV) : storeA Tryz.prog H 41 (.ptr b v k) x = if x.cells.length = 1 then storeCells H b v k x.cells else none := by unfold storeA; rw [size_41]
theorem und_41 : Tryz.prog.underlying 41 = some (.slice 9) := by kernel_rfl
@[go_sem] theorem len_41 (H : Heap) (x : AV) : lenA Tryz.prog H [41] [x] = slLen x := len_sl und_41 H x
@[go_sem] theorem idx_41 (x y : AV) : indexAddrA Tryz.prog 41 x y = slIdx 1 x y := idx_sl und_41 size_9 x y
@[go_sem] theorem bsl_41 (mt : Bool) (H : Heap) (slot len : Nat) (parts : List (Nat × AV)) : buildSliceA Tryz.prog mt H slot 41 len parts = if len * 1 ≤ 65536 then (fillA (fun i => some (i * 1, 1)) (repeatCells [.v (.string ⟨#[]⟩)] len) parts).bind (bsFin mt 9 1 H slot len) else none := buildSl_eq und_41 size_9 zero_9 (by decide) rfl mt H slot len parts
theorem isagg_43 : isAggT Tryz.prog 43 = some false := by kernel_rfl
@[go_sem] theorem part_43 (cs : List AV) (k : Nat) : partOf Tryz.prog 43 cs k = cs[k]? := partOf_one cs k isagg_43 size_43
@[go_sem] theorem store_43 (H : Heap) (b v k : Nat) (x : AV) : storeA Tryz.prog H 43 (.ptr b v k) x = if x.cells.length = 1 then storeCells H b v k x.cells else none := by unfold storeA; rw [size_43]
theorem isagg_44 : isAggT Tryz.prog 44 = some false := by kernel_rfl
@[go_sem] theorem part_44 (cs : List AV) (k : Nat) : partOf Tryz.prog 44 cs k = cs[k]? := partOf_one cs k isagg_44 size_44
@[go_sem] theorem store_44 (H : Heap) (b v k : Nat) (x : AV) : storeA Tryz.prog H 44 (.ptr b v k) x = if x.cells.length = 1 then storeCells H b v k x.cells else none := by unfold storeA; rw [size_44]
theorem und_44 : Tryz.prog.underlying 44 = some (.slice 41) := by kernel_rfl
@[go_sem] theorem len_44 (H : Heap) (x : AV) : lenA Tryz.prog H [44] [x] = slLen x := len_sl und_44 H x
@[go_sem] theorem idx_44 (x y : AV) : indexAddrA Tryz.prog 44 x y = slIdx 1 x y := idx_sl und_44 size_41 x y
@[go_sem] theorem bsl_44 (mt : Bool) (H : Heap) (slot len : Nat) (parts : List (Nat × AV)) : buildSliceA Tryz.prog mt H slot 44 len parts = if len * 1 ≤ 65536 then (fillA (fun i => some (i * 1, 1)) (repeatCells [.v (.slice none 0 0)] len) parts).bind (bsFin mt 41 1 H slot len) else none := buildSl_eq und_44 size_41 zero_41 (by decide) rfl mt H slot len parts
theorem isagg_45 : isAggT Tryz.prog 45 = some true := by kernel_rfl
@[go_sem] theorem part_45 (cs : List AV) (k : Nat) : partOf Tryz.prog 45 cs k = if k + 2 ≤ cs.length then some (.agg ((cs.drop k).take 2)) else none := partOf_agg cs k isagg_45 size_45
@[go_sem] theorem store_45 (H : Heap) (b v k : Nat) (x : AV) : storeA Tryz.prog H 45 (.ptr b v k) x = if x.cells.length = 2 then storeCells H b v k x.cells else none := by unfold storeA; rw [size_45]
theorem foff_45_0 : fieldOff Tryz.prog 45 0 = some (0, 1) := by kernel_rfl
@[go_sem] theorem fptr_45_0 (b v k : Nat) : fieldAddrA Tryz.prog 45 (.ptr b v k) 0 = some (.ptr b v (k + 0)) := fieldAddr_ptr foff_45_0 b v k
@[go_sem] theorem fro_45_0 (z : AV) (k : Nat) : fieldAddrA Tryz.prog 45 (.ro z k) 0 = some (.ro z (k + 0)) := fieldAddr_ro foff_45_0 z k
theorem foff_45_1 : fieldOff Tryz.prog 45 1 = some (1, 1) := by kernel_rfl
@[go_sem] theorem fptr_45_1 (b v k : Nat) : fieldAddrA Tryz.prog 45 (.ptr b v k) 1 = some (.ptr b v (k + 1)) := fieldAddr_ptr foff_45_1 b v k
@[go_sem] theorem fro_45_1 (z : AV) (k : Nat) : fieldAddrA Tryz.prog 45 (.ro z k) 1 = some (.ro z (k + 1)) := fieldAddr_ro foff_45_1 z k
@[go_sem] theorem build_45 (ps : List (Nat × AV)) : buildA Tryz.prog 45 ps = (fillA (fun i => ([(0, 1), (1, 1)] : List (Nat × Nat))[i]?) [.v (.int .i64 0), .v (.slice none 0 0)] ps).map .agg := by kernel_rfl
theorem isagg_46 : isAggT Tryz.prog 46 = some true := by kernel_rfl
@[go_sem] theorem part_46 (cs : List AV) (k : Nat) : partOf Tryz.prog 46 cs k = if k + 2 ≤ cs.length then some (.agg ((cs.drop k).take 2)) else none := partOf_agg cs k isagg_46 size_46
@[go_sem] theorem store_46 (H : Heap) (b v k : Nat) (x : AV) : storeA Tryz.prog H 46 (.ptr b v k) x = if x.cells.length = 2 then storeCells H b v k x.cells else none := by unfold storeA; rw [size_46]
theorem foff_46_0 : fieldOff Tryz.prog 46 0 = some (0, 1) := by kernel_rfl
@[go_sem] theorem fptr_46_0 (b v k : Nat) : fieldAddrA Tryz.prog 46 (.ptr b v k) 0 = some (.ptr b v (k + 0)) := fieldAddr_ptr foff_46_0 b v k
@[go_sem] theorem fro_46_0 (z : AV) (k : Nat) : fieldAddrA Tryz.prog 46 (.ro z k) 0 = some (.ro z (k + 0)) := fieldAddr_ro foff_46_0 z k
theorem foff_46_1 : fieldOff Tryz.prog 46 1 = some (1, 1) := by kernel_rfl
@[go_sem] theorem fptr_46_1 (b v k : Nat) : fieldAddrA Tryz.prog 46 (.ptr b v k) 1 = some (.ptr b v (k + 1)) := fieldAddr_ptr foff_46_1 b v k
@[go_sem] theorem fro_46_1 (z : AV) (k : Nat) : fieldAddrA Tryz.prog 46 (.ro z k) 1 = some (.ro z (k + 1)) := fieldAddr_ro foff_46_1 z k
@[go_sem] theorem build_46 (ps : List (Nat × AV)) : buildA Tryz.prog 46 ps = (fillA (fun i => ([(0, 1), (1, 1)] : List (Nat × Nat))[i]?) [.v (.int .i64 0), .v (.slice none 0 0)] ps).map .agg := by kernel_rfl
theorem isagg_47 : isAggT Tryz.prog 47 = some false := by kernel_rfl
@[go_sem] theorem part_47 (cs : List AV) (k : Nat) : partOf Tryz.prog 47 cs k = cs[k]? := partOf_one cs k isagg_47 size_47
@[go_sem] theorem store_47 (H : Heap) (b v k : Nat) (x : AV) : storeA Tryz.prog H 47 (.ptr b v k) x = if x.cells.length = 1 then storeCells H b v k x.cells else none := by unfold storeA; rw [size_47]
theorem und_47 : Tryz.prog.underlying 47 = some (.slice 32) := by kernel_rfl
@[go_sem] theorem len_47 (H : Heap) (x : AV) : lenA Tryz.prog H [47] [x] = slLen x := len_sl und_47 H x
@[go_sem] theorem idx_47 (x y : AV) : indexAddrA Tryz.prog 47 x y = slIdx 3 x y := idx_sl und_47 size_32 x y
@[go_sem] theorem bsl_47 (mt : Bool) (H : Heap) (slot len : Nat) (parts : List (Nat × AV)) : buildSliceA Tryz.prog mt H slot 47 len parts = if len * 3 ≤ 65536 then (fillA (fun i => some (i * 3, 3)) (repeatCells [.v (.int .i64 0), .v (.int .i64 0), .v (.int .i64 0)] len) parts).bind (bsFin mt 32 3 H slot len) else none := buildSl_eq und_47 size_32 zero_32 (by decide) rfl mt H slot len parts
theorem isagg_49 : isAggT Tryz.prog 49 = some false := by kernel_rfl
@[go_sem] theorem part_49 (cs : List AV) (k : Nat) : partOf Tryz.prog 49 cs k = cs[k]? := partOf_one cs k isagg_49 size_49
@[go_sem] theorem store_49 (H : Heap) (b v k : Nat) (x : AV) : storeA Tryz.prog H 49 (.ptr b v k) x = if x.cells.length = 1 then storeCells H b v k x.cells else none := by unfold storeA; rw [size_49]
theorem isagg_50 : isAggT Tryz.prog 50 = some false := by kernel_rfl
@[go_sem] theorem part_50 (cs : List AV) (k : Nat) : partOf Tryz.prog 50 cs k = cs[k]? := partOf_one cs k isagg_50 size_50
@[go_sem] theorem store_50 (H : Heap) (b v k : Nat) (x : AV) : storeA Tryz.prog H 50 (.ptr b v k) x = if x.cells.length = 1 then storeCells H b v k x.cells else none := by unfold storeA; rw [size_50]
theorem isagg_51 : isAggT Tryz.prog 51 = some false := by kernel_rfl
@[go_sem] theorem part_51 (cs : List AV) (k : Nat) : partOf Tryz.prog 51 cs k = cs[k]? := partOf_one cs k isagg_51 size_51
@[go_sem] theorem store_51 (H : Heap) (b v k : Nat) (x : AV) : storeA Tryz.prog H 51 (.ptr b v k) x = if x.cells.length = 1 then storeCells H b v k x.cells else none := by unfold storeA; rw [size_51]
theorem und_51 : Tryz.prog.underlying 51 = some (.slice 65) := by kernel_rfl
@[go_sem] theorem len_51 (H : Heap) (x : AV) : lenA Tryz.prog H [51] [x] = slLen x := len_sl und_51 H x
@[go_sem] theorem idx_51 (x y : AV) : indexAddrA Tryz.prog 51 x y = slIdx 5 x y := idx_sl und_51 size_65 x y
@[go_sem] theorem bsl_51 (mt : Bool) (H : Heap) (slot len : Nat) (parts : List (Nat × AV)) : buildSliceA Tryz.prog mt H slot 51 len parts = if len * 5 ≤ 65536 then (fillA (fun i => some (i * 5, 5)) (repeatCells [.v (.int .i64 0), .v (.int .i64 0), .v (.int .i64 0), .v (.int .u8 0), .v (.string ⟨#[]⟩)] len) parts).bind (bsFin mt 65 5 H slot len) else none := buildSl_eq und_51 size_65 zero_65 (by decide) rfl mt H slot len parts
theorem isagg_52 : isAggT Tryz.prog 52 = some true := by kernel_rfl
@[go_sem] theorem part_52 (cs : List AV) (k : Nat) : partOf Tryz.prog 52 cs k = if k + 2 ≤ cs.length then some (.agg ((cs.drop k).take 2)) else none := partOf_agg cs k isagg_52 size_52
@[go_sem] theorem store_52 (H : Heap) (b v k : Nat) (x : AV) : storeA Tryz.prog H 52 (.ptr b v k) x = if x.cells.length = 2 then storeCells H b v k x.cells else none := by unfold storeA; rw [size_52]
theorem foff_52_0 : fieldOff Tryz.prog 52 0 = some (0, 1) := by kernel_rfl
@[go_sem] theorem fptr_52_0 (b v k : Nat) : fieldAddrA Tryz.prog 52 (.ptr b v k) 0 = some (.ptr b v (k + 0)) := fieldAddr_ptr foff_52_0 b v k
@[go_sem] theorem fro_52_0 (z : AV) (k : Nat) : fieldAddrA Tryz.prog 52 (.ro z k) 0 = some (.ro z (k + 0)) := fieldAddr_ro foff_52_0 z k
theorem foff_52_1 : fieldOff Tryz.prog 52 1 = some (1, 1) := by kernel_rfl
@[go_sem] theorem fptr_52_1 (b v k : Nat) : fieldAddrA Tryz.prog 52 (.ptr b v k) 1 = some (.ptr b v (k + 1)) := fieldAddr_ptr foff_52_1 b v k
@[go_sem] theorem fro_52_1 (z : AV) (k : Nat) : fieldAddrA Tryz.prog 52 (.ro z k) 1 = some (.ro z (k + 1)) := fieldAddr_ro foff_52_1 z k
@[go_sem] theorem build_52 (ps : List (Nat × AV)) : buildA Tryz.prog 52 ps = (fillA (fun i => ([(0, 1), (1, 1)] : List (Nat × Nat))[i]?) [.v (.int .i64 0), .v (.slice none 0 0)] ps).map .agg := by kernel_rfl
theorem isagg_53 : isAggT Tryz.prog 53 = some true := by kernel_rfl
@[go_sem] theorem part_53 (cs : List AV) (k : Nat) : partOf Tryz.prog 53 cs k = if k + 2 ≤ cs.length then some (.agg ((cs.drop k).take 2)) else none := partOf_agg cs k isagg_53 size_53
@[go_sem] theorem store_53 (H : Heap) (b v k : Nat) (x : AV) : storeA Tryz.prog H 53 (.ptr b v k) x = if x.cells.length = 2 then storeCells H b v k x.cells else none := by unfold storeA; rw [size_53]
theorem foff_53_0 : fieldOff Tryz.prog 53 0 = some (0, 1) := by kernel_rfl
@[go_sem] theorem fptr_53_0 (b v k : Nat) : fieldAddrA Tryz.prog 53 (.ptr b v k) 0 = some (.ptr b v (k + 0)) := fieldAddr_ptr foff_53_0 b v k
@[go_sem] theorem fro_53_0 (z : AV) (k : Nat) : fieldAddrA Tryz.prog 53 (.ro z k) 0 = some (.ro z (k + 0)) := fieldAddr_ro foff_53_0 z k
theorem foff_53_1 : fieldOff Tryz.prog 53 1 = some (1, 1) := by kernel_rfl
@[go_sem] theorem fptr_53_1 (b v k : Nat) : fieldAddrA Tryz.prog 53 (.ptr b v k) 1 = some (.ptr b v (k + 1)) := fieldAddr_ptr foff_53_1 b v k
@[go_sem] theorem fro_53_1 (z : AV) (k : Nat) : fieldAddrA Tryz.prog 53 (.ro z k) 1 = some (.ro z (k + 1)) := fieldAddr_ro foff_53_1 z k
@[go_sem] theorem build_53 (ps : List (Nat × AV)) : buildA Tryz.prog 53 ps = (fillA (fun i => ([(0, 1), (1, 1)] : List (Nat × Nat))[i]?) [.v (.int .i64 0), .v (.slice none 0 0)] ps).map .agg := by kernel_rfl
theorem isagg_55 : isAggT Tryz.prog 55 = some false := by kernel_rfl
@[go_sem] theorem part_55 (cs : List AV) (k : Nat) : partOf Tryz.prog 55 cs k = cs[k]? := partOf_one cs k isagg_55 size_55
@[go_sem] theorem store_55 (H : Heap) (b v k : Nat) (x : AV) : storeA Tryz.prog H 55 (.ptr b v k) x = if x.cells.length = 1 then storeCells H b v k x.cells else none := by unfold storeA; rw [size_55]
theorem isagg_56 : isAggT Tryz.prog 56 = some false := by kernel_rfl
@[go_sem] theorem part_56 (cs : List AV) (k : Nat) : partOf Tryz.prog 56 cs k = cs[k]? := partOf_one cs k isagg_56 size_56
@[go_sem] theorem store_56 (H : Heap) (b v k : Nat) (x : AV) : storeA Tryz.prog H 56 (.ptr b v k) x = if x.cells.length = 1 then storeCells H b v k x.cells else none := by unfold storeA; rw [size_56]
theorem isagg_57 : isAggT Tryz.prog 57 = some false := by kernel_rfl
@[go_sem] theorem part_57 (cs : List AV) (k : Nat) : partOf Tryz.prog 57 cs k = cs[k]? := partOf_one cs k isagg_57 size_57
@[go_sem] theorem store_57 (H : Heap) (b v k : Nat) (x : AV) : storeA Tryz.prog H 57 (.ptr b v k) x = if x.cells.length = 1 then storeCells H b v k x.cells else none := by unfold storeA; rw [size_57]
theorem isagg_59 : isAggT Tryz.prog 59 = some false := by kernel_rfl
@[go_sem] theorem part_59 (cs : List AV) (k : Nat) : partOf Tryz.prog 59 cs k = cs[k]? := partOf_one cs k isagg_59 size_59
@[go_sem] theorem store_59 (H : Heap) (b v k : Nat) (x : AV) : storeA Tryz.prog H 59 (.ptr b v k) x = if x.cells.length = 1 then storeCells H b v k x.cells else none := by unfold storeA; rw [size_59]
theorem isagg_60 : isAggT Tryz.prog 60 = some false := by kernel_rfl
@[go_sem] theorem part_60 (cs : List AV) (k : Nat) : partOf Tryz.prog 60 cs k = cs[k]? := partOf_one cs k isagg_60 size_60
@[go_sem] theorem store_60 (H : Heap) (b v k : Nat) (x : AV) : storeA Tryz.prog H 60 (.ptr b v k) x = if x.cells.length = 1 then storeCells H b v k x.cells else none := by unfold storeA; rw [size_60]
theorem isagg_61 : isAggT Tryz.prog 61 = some false := by kernel_rfl
@[go_sem] theorem part_61 (cs : List AV) (k : Nat) : partOf Tryz.prog 61 cs k = cs[k]? := partOf_one cs k isagg_61 size_61
@[go_sem] theorem store_61 (H : Heap) (b v k : Nat) (x : AV) : storeA Tryz.prog H 61 (.ptr b v k) x = if x.cells.length = 1 then storeCells H b v k x.cells else none := by unfold storeA; rw [size_61]
theorem isagg_62 : isAggT Tryz.prog 62 = some false := by kernel_rfl
@[go_sem] theorem part_62 (cs : List AV) (k : Nat) : partOf Tryz.prog 62 cs k = cs[k]? := partOf_one cs k isagg_62 size_62
@[go_sem] theorem store_62 (H : Heap) (b v k : Nat) (x : AV) : storeA Tryz.prog H 62 (.ptr b v k) x = if x.cells.length = 1 then storeCells H b v k x.cells else none := by unfold storeA; rw [size_62]
theorem isagg_63 : isAggT Tryz.prog 63 = some false := by kernel_rfl
@[go_sem] theorem part_63 (cs : List AV) (k : Nat) : partOf Tryz.prog 63 cs k = cs[k]? := partOf_one cs k isagg_63 size_63
@[go_sem] theorem store_63 (H : Heap) (b v k : Nat) (x : AV) : storeA Tryz.prog H 63 (.ptr b v k) x = if x.cells.length = 1 then storeCells H b v k x.cells else none := by unfold storeA; rw [size_63]
theorem isagg_64 : isAggT Tryz.prog 64 = some true := by kernel_rfl
@[go_sem] theorem part_64 (cs : List AV) (k : Nat) : partOf Tryz.prog 64 cs k = if k + 5 ≤ cs.length then some (.agg ((cs.drop k).take 5)) else none := partOf_agg cs k isagg_64 size_64
@[go_sem] theorem store_64 (H : Heap) (b v k : Nat) (x : AV) : storeA Tryz.prog H 64 (.ptr b v k) x = if x.cells.length = 5 then storeCells H b v k x.cells else none := by unfold storeA; rw [size_64]
theorem foff_64_0 : fieldOff Tryz.prog 64 0 = some (0, 3) := by kernel_rfl
@[go_sem] theorem fptr_64_0 (b v k : Nat) : fieldAddrA Tryz.prog 64 (.ptr b v k) 0 = some (.ptr b v (k + 0)) := fieldAddr_ptr foff_64_0 b v k
@[go_sem] theorem fro_64_0 (z : AV) (k : Nat) : fieldAddrA Tryz.prog 64 (.ro z k) 0 = some (.ro z (k + 0)) := fieldAddr_ro foff_64_0 z k
theorem foff_64_1 : fieldOff Tryz.prog 64 1 = some (3, 1) := by kernel_rfl
@[go_sem] theorem fptr_64_1 (b v k : Nat) : fieldAddrA Tryz.prog 64 (.ptr b v k) 1 = some (.ptr b v (k + 3)) := fieldAddr_ptr foff_64_1 b v k
@[go_sem] theorem fro_64_1 (z : AV) (k : Nat) : fieldAddrA Tryz.prog 64 (.ro z k) 1 = some (.ro z (k + 3)) := fieldAddr_ro foff_64_1 z k
theorem foff_64_2 : fieldOff Tryz.prog 64 2 = some (4, 1) := by kernel_rfl
@[go_sem] theorem fptr_64_2 (b v k : Nat) : fieldAddrA Tryz.prog 64 (.ptr b v k) 2 = some (.ptr b v (k + 4)) := fieldAddr_ptr foff_64_2 b v k
@[go_sem] theorem fro_64_2 (z : AV) (k : Nat) : fieldAddrA Tryz.prog 64 (.ro z k) 2 = some (.ro z (k + 4)) := fieldAddr_ro foff_64_2 z k
@[go_sem] theorem build_64 (ps : List (Nat × AV)) : buildA Tryz.prog 64 ps = (fillA (fun i => ([(0, 3), (3, 1), (4, 1)] : List (Nat × Nat))[i]?) [.v (.int .i64 0), .v (.int .i64 0), .v (.int .i64 0), .v (.int .u8 0), .v (.string ⟨#[]⟩)] ps).map .agg := by kernel_rfl
theorem isagg_65 : isAggT Tryz.prog 65 = some true := by kernel_rfl
@[go_sem] theorem part_65 (cs : List AV) (k : Nat) : partOf Tryz.prog 65 cs k = if k + 5 ≤ cs.length then some (.agg ((cs.drop k).take 5)) else none := partOf_agg cs k isagg_65 size_65
@[go_sem] theorem store_65 (H : Heap) (b v k : Nat) (x : AV) : storeA Tryz.prog H 65 (.ptr b v k) x = if x.cells.length = 5 then storeCells H b v k x.cells else none := by unfold storeA; rw [size_65]
theorem foff_65_0 : fieldOff Tryz.prog 65 0 = some (0, 3) := by kernel_rfl
@[go_sem] theorem fptr_65_0 (b v k : Nat) : fieldAddrA Tryz.prog 65 (.ptr b v k) 0 = some (.ptr b v (k + 0)) := fieldAddr_ptr foff_65_0 b v k
@[go_sem] theorem fro_65_0 (z : AV) (k : Nat) : fieldAddrA Tryz.prog 65 (.ro z k) 0 = some (.ro z (k + 0)) := fieldAddr_ro foff_65_0 z k
theorem foff_65_1 : fieldOff Tryz.prog 65 1 = some (3, 1) := by kernel_rfl
@[go_sem] theorem fptr_65_1 (b v k : Nat) : fieldAddrA Tryz.prog 65 (.ptr b v k) 1 = some (.ptr b v (k + 3)) := fieldAddr_ptr foff_65_1 b v k
@[go_sem] theorem fro_65_1 (z : AV) (k : Nat) : fieldAddrA Tryz.prog 65 (.ro z k) 1 = some (.ro z (k + 3)) := fieldAddr_ro foff_65_1 z k
theorem foff_65_2 : fieldOff Tryz.prog 65 2 = some (4, 1) := by kernel_rfl
@[go_sem] theorem fptr_65_2 (b v k : Nat) : fieldAddrA Tryz.prog 65 (.ptr b v k) 2 = some (.ptr b v (k + 4)) := fieldAddr_ptr foff_65_2 b v k
@[go_sem] theorem fro_65_2 (z : AV) (k : Nat) : fieldAddrA Tryz.prog 65 (.ro z k) 2 = some (.ro z (k + 4)) := fieldAddr_ro foff_65_2 z k
@[go_sem] theorem build_65 (ps : List (Nat × AV)) : buildA Tryz.prog 65 ps = (fillA (fun i => ([(0, 3), (3, 1), (4, 1)] : List (Nat × Nat))[i]?) [.v (.int .i64 0), .v (.int .i64 0), .v (.int .i64 0), .v (.int .u8 0), .v (.string ⟨#[]⟩)] ps).map .agg := by kernel_rfl
theorem isagg_66 : isAggT Tryz.prog 66 = some false := by kernel_rfl
@[go_sem] theorem part_66 (cs : List AV) (k : Nat) : partOf Tryz.prog 66 cs k = cs[k]? := partOf_one cs k isagg_66 size_66
@[go_sem] theorem store_66 (H : Heap) (b v k : Nat) (x : AV) : storeA Tryz.prog H 66 (.ptr b v k) x = if x.cells.length = 1 then storeCells H b v k x.cells else none := by unfold storeA; rw [size_66]
theorem isagg_67 : isAggT Tryz.prog 67 = some false := by kernel_rfl
@[go_sem] theorem part_67 (cs : List AV) (k : Nat) : partOf Tryz.prog 67 cs k = cs[k]? := partOf_one cs k isagg_67 size_67
@[go_sem] theorem store_67 (H : Heap) (b v k : Nat) (x : AV) : storeA Tryz.prog H 67 (.ptr b v k) x = if x.cells.length = 1 then storeCells H b v k x.cells else none := by unfold storeA; rw [size_67]
theorem isagg_68 : isAggT Tryz.prog 68 = some false := by kernel_rfl
@[go_sem] theorem part_68 (cs : List AV) (k : Nat) : partOf Tryz.prog 68 cs k = cs[k]? := partOf_one cs k isagg_68 size_68
@[go_sem] theorem store_68 (H : Heap) (b v k : Nat) (x : AV) : storeA Tryz.prog H 68 (.ptr b v k) x = if x.cells.length = 1 then storeCells H b v k x.cells else none := by unfold storeA; rw [size_68]
theorem isagg_69 : isAggT Tryz.prog 69 = some false := by kernel_rfl
@[go_sem] theorem part_69 (cs : List AV) (k : Nat) : partOf Tryz.prog 69 cs k = cs[k]? := partOf_one cs k isagg_69 size_69
@[go_sem] theorem store_69 (H : Heap) (b v k : Nat) (x : AV) : storeA Tryz.prog H 69 (.ptr b v k) x = if x.cells.length = 1 then storeCells H b v k x.cells else none := by unfold storeA; rw [size_69]
theorem und_69 : Tryz.prog.underlying 69 = some (.slice 53) := by kernel_rfl
@[go_sem] theorem len_69 (H : Heap) (x : AV) : lenA Tryz.prog H [69] [x] = slLen x := len_sl und_69 H x
@[go_sem] theorem idx_69 (x y : AV) : indexAddrA Tryz.prog 69 x y = slIdx 2 x y := idx_sl und_69 size_53 x y
@[go_sem] theorem bsl_69 (mt : Bool) (H : Heap) (slot len : Nat) (parts : List (Nat × AV)) : buildSliceA Tryz.prog mt H slot 69 len parts = if len * 2 ≤ 65536 then (fillA (fun i => some (i * 2, 2)) (repeatCells [.v (.int .i64 0), .v (.slice none 0 0)] len) parts).bind (bsFin mt 53 2 H slot len) else none := buildSl_eq und_69 size_53 zero_53 (by decide) rfl mt H slot len parts
theorem isagg_70 : isAggT Tryz.prog 70 = some false := by kernel_rfl
@[go_sem] theorem part_70 (cs : List AV) (k : Nat) : partOf Tryz.prog 70 cs k = cs[k]? := partOf_one cs k isagg_70 size_70
@[go_sem] theorem store_70 (H : Heap) (b v k : Nat) (x : AV) : storeA Tryz.prog H 70 (.ptr b v k) x = if x.cells.length = 1 then storeCells H b v k x.cells else none := by unfold storeA; rw [size_70]
theorem isagg_71 : isAggT Tryz.prog 71 = some false := by kernel_rfl
@[go_sem] theorem part_71 (cs : List AV) (k : Nat) : partOf Tryz.prog 71 cs k = cs[k]? := partOf_one cs k isagg_71 size_71
@[go_sem] theorem store_71 (H : Heap) (b v k : Nat) (x : AV) : storeA Tryz.prog H 71 (.ptr b v k) x = if x.cells.length = 1 then storeCells H b v k x.cells else none := by unfold storeA; rw [size_71]
theorem isagg_72 : isAggT Tryz.prog 72 = some false := by kernel_rfl
@[go_sem] theorem part_72 (cs : List AV) (k : Nat) : partOf Tryz.prog 72 cs k = cs[k]? := partOf_one cs k isagg_72 size_72
@[go_sem] theorem store_72 (H : Heap) (b v k : Nat) (x : AV) : storeA Tryz.prog H 72 (.ptr b v k) x = if x.cells.length = 1 then storeCells H b v k x.cells else none := by unfold storeA; rw [size_72]
theorem isagg_73 : isAggT Tryz.prog 73 = some false := by kernel_rfl
@[go_sem] theorem part_73 (cs : List AV) (k : Nat) : partOf Tryz.prog 73 cs k = cs[k]? := partOf_one cs k isagg_73 size_73
@[go_sem] theorem store_73 (H : Heap) (b v k : Nat) (x : AV) : storeA Tryz.prog H 73 (.ptr b v k) x = if x.cells.length = 1 then storeCells H b v k x.cells else none := by unfold storeA; rw [size_73]
theorem isagg_74 : isAggT Tryz.prog 74 = some false := by kernel_rfl
@[go_sem] theorem part_74 (cs : List AV) (k : Nat) : partOf Tryz.prog 74 cs k = cs[k]? := partOf_one cs k isagg_74 size_74
@[go_sem] theorem store_74 (H : Heap) (b v k : Nat) (x : AV) : storeA Tryz.prog H 74 (.ptr b v k) x = if x.cells.length = 1 then storeCells H b v k x.cells else none := by unfold storeA; rw [size_74]
theorem isagg_75 : isAggT Tryz.prog 75 = some false := by kernel_rfl
@[go_sem] theorem part_75 (cs : List AV) (k : Nat) : partOf Tryz.prog 75 cs k = cs[k]? := partOf_one cs k isagg_75 size_75
@[go_sem] theorem store_75 (H : Heap) (b v k : Nat) (x : AV) : storeA Tryz.prog H 75 (.ptr b v k) x = if x.cells.length = 1 then storeCells H b v k x.cells else none := by unfold storeA; rw [size_75]
theorem isagg_76 : isAggT Tryz.prog 76 = some false := by kernel_rfl
@[go_sem] theorem part_76 (cs : List AV) (k : Nat) : partOf Tryz.prog 76 cs k = cs[k]? := partOf_one cs k isagg_76 size_76
@[go_sem] theorem store_76 (H : Heap) (b v k : Nat) (x : AV) : storeA Tryz.prog H 76 (.ptr b v k) x = if x.cells.length = 1 then storeCells H b v k x.cells else none := by unfold storeA; rw [size_76]
theorem isagg_77 : isAggT Tryz.prog 77 = some false := by kernel_rfl
@[go_sem] theorem part_77 (cs : List AV) (k : Nat) : partOf Tryz.prog 77 cs k = cs[k]? := partOf_one cs k isagg_77 size_77
@[go_sem] theorem store_77 (H : Heap) (b v k : Nat) (x : AV) : storeA Tryz.prog H 77 (.ptr b v k) x = if x.cells.length = 1 then storeCells H b v k x.cells else none := by unfold storeA; rw [size_77]
theorem isagg_78 : isAggT Tryz.prog 78 = some true := by kernel_rfl
@[go_sem] theorem part_78 (cs : List AV) (k : Nat) : partOf Tryz.prog 78 cs k = if k + 1 ≤ cs.length then some (.agg ((cs.drop k).take 1)) else none := partOf_agg cs k isagg_78 size_78
@[go_sem] theorem store_78 (H : Heap) (b v k : Nat) (x : AV) : storeA Tryz.prog H 78 (.ptr b v k) x = if x.cells.length = 1 then storeCells H b v k x.cells else none := by unfold storeA; rw [size_78]
theorem foff_78_0 : fieldOff Tryz.prog 78 0 = some (0, 1) := by kernel_rfl
@[go_sem] theorem fptr_78_0 (b v k : Nat) : fieldAddrA Tryz.prog 78 (.ptr b v k) 0 = some (.ptr b v (k + 0)) := fieldAddr_ptr foff_78_0 b v k
@[go_sem] theorem fro_78_0 (z : AV) (k : Nat) : fieldAddrA Tryz.prog 78 (.ro z k) 0 = some (.ro z (k + 0)) := fieldAddr_ro foff_78_0 z k
@[go_sem] theorem build_78 (ps : List (Nat × AV)) : buildA Tryz.prog 78 ps = (fillA (fun i => ([(0, 1)] : List (Nat × Nat))[i]?) [.v (.slice none 0 0)] ps).map .agg := by kernel_rfl
theorem isagg_79 : isAggT Tryz.prog 79 = some true := by kernel_rfl
@[go_sem] theorem part_79 (cs : List AV) (k : Nat) : partOf Tryz.prog 79 cs k = if k + 1 ≤ cs.length then some (.agg ((cs.drop k).take 1)) else none := partOf_agg cs k isagg_79 size_79
@[go_sem] theorem store_79 (H : Heap) (b v k : Nat) (x : AV) : storeA Tryz.prog H 79 (.ptr b v k) x = if x.cells.length = 1 then storeCells H b v k x.cells else none := by unfold storeA; rw [size_79]
theorem foff_79_0 : fieldOff Tryz.prog 79 0 = some (0, 1) := by kernel_rfl
@[go_sem] theorem fptr_79_0 (b v k : Nat) : fieldAddrA Tryz.prog 79 (.ptr b v k) 0 = some (.ptr b v (k + 0)) := fieldAddr_ptr foff_79_0 b v k
@[go_sem] theorem fro_79_0 (z : AV) (k : Nat) : fieldAddrA Tryz.prog 79 (.ro z k) 0 = some (.ro z (k + 0)) := fieldAddr_ro foff_79_0 z k
@[go_sem] theorem build_79 (ps : List (Nat × AV)) : buildA Tryz.prog 79 ps = (fillA (fun i => ([(0, 1)] : List (Nat × Nat))[i]?) [.v (.slice none 0 0)] ps).map .agg := by kernel_rfl
theorem isagg_81 : isAggT Tryz.prog 81 = some false := by kernel_rfl
@[go_sem] theorem part_81 (cs : List AV) (k : Nat) : partOf Tryz.prog 81 cs k = cs[k]? := partOf_one cs k isagg_81 size_81
@[go_sem] theorem store_81 (H : Heap) (b v k : Nat) (x : AV) : storeA Tryz.prog H 81 (.ptr b v k) x = if x.cells.length = 1 then storeCells H b v k x.cells else none := by unfold storeA; rw [size_81]
theorem isagg_82 : isAggT Tryz.prog 82 = some false := by kernel_rfl
@[go_sem] theorem part_82 (cs : List AV) (k : Nat) : partOf Tryz.prog 82 cs k = cs[k]? := partOf_one cs k isagg_82 size_82
@[go_sem] theorem store_82 (H : Heap) (b v k : Nat) (x : AV) : storeA Tryz.prog H 82 (.ptr b v k) x = if x.cells.length = 1 then storeCells H b v k x.cells else none := by unfold storeA; rw [size_82]
theorem isagg_83 : isAggT Tryz.prog 83 = some false := by kernel_rfl
@[go_sem] theorem part_83 (cs : List AV) (k : Nat) : partOf Tryz.prog 83 cs k = cs[k]? := partOf_one cs k isagg_83 size_83
@[go_sem] theorem store_83 (H : Heap) (b v k : Nat) (x : AV) : storeA Tryz.prog H 83 (.ptr b v k) x = if x.cells.length = 1 then storeCells H b v k x.cells else none := by unfold storeA; rw [size_83]
theorem isagg_84 : isAggT Tryz.prog 84 = some false := by kernel_rfl
@[go_sem] theorem part_84 (cs : List AV) (k : Nat) : partOf Tryz.prog 84 cs k = cs[k]? := partOf_one cs k isagg_84 size_84
@[go_sem] theorem store_84 (H : Heap) (b v k : Nat) (x : AV) : storeA Tryz.prog H 84 (.ptr b v k) x = if x.cells.length = 1 then storeCells H b v k x.cells else none := by unfold storeA; rw [size_84]
theorem isagg_86 : isAggT Tryz.prog 86 = some false := by kernel_rfl
@[go_sem] theorem part_86 (cs : List AV) (k : Nat) : partOf Tryz.prog 86 cs k = cs[k]? := partOf_one cs k isagg_86 size_86
@[go_sem] theorem store_86 (H : Heap) (b v k : Nat) (x : AV) : storeA Tryz.prog H 86 (.ptr b v k) x = if x.cells.length = 1 then storeCells H b v k x.cells else none := by unfold storeA; rw [size_86]
theorem isagg_87 : isAggT Tryz.prog 87 = some false := by kernel_rfl
@[go_sem] theorem part_87 (cs : List AV) (k : Nat) : partOf Tryz.prog 87 cs k = cs[k]? := partOf_one cs k isagg_87 size_87
@[go_sem] theorem store_87 (H : Heap) (b v k : Nat) (x : AV) : storeA Tryz.prog H 87 (.ptr b v k) x = if x.cells.length = 1 then storeCells H b v k x.cells else none := by unfold storeA; rw [size_87]
theorem isagg_88 : isAggT Tryz.prog 88 = some false := by kernel_rfl
@[go_sem] theorem part_88 (cs : List AV) (k : Nat) : partOf Tryz.prog 88 cs k = cs[k]? := partOf_one cs k isagg_88 size_88
@[go_sem] theorem store_88 (H : Heap) (b v k : Nat) (x : AV) : storeA Tryz.prog H 88 (.ptr b v k) x = if x.cells.length = 1 then storeCells H b v k x.cells else none := by unfold storeA; rw [size_88]
theorem isagg_89 : isAggT Tryz.prog 89 = some false := by kernel_rfl
@[go_sem] theorem part_89 (cs : List AV) (k : Nat) : partOf Tryz.prog 89 cs k = cs[k]? := partOf_one cs k isagg_89 size_89
@[go_sem] theorem store_89 (H : Heap) (b v k : Nat) (x : AV) : storeA Tryz.prog H 89 (.ptr b v k) x = if x.cells.length = 1 then storeCells H b v k x.cells else none := by unfold storeA; rw [size_89]
theorem isagg_90 : isAggT Tryz.prog 90 = some false := by kernel_rfl
@[go_sem] theorem part_90 (cs : List AV) (k : Nat) : partOf Tryz.prog 90 cs k = cs[k]? := partOf_one cs k isagg_90 size_90
@[go_sem] theorem store_90 (H : Heap) (b v k : Nat) (x : AV) : storeA Tryz.prog H 90 (.ptr b v k) x = if x.cells.length = 1 then storeCells H b v k x.cells else none := by unfold storeA; rw [size_90]
theorem isagg_91 : isAggT Tryz.prog 91 = some false := by kernel_rfl
@[go_sem] theorem part_91 (cs : List AV) (k : Nat) : partOf Tryz.prog 91 cs k = cs[k]? := partOf_one cs k isagg_91 size_91
@[go_sem] theorem store_91 (H : Heap) (b v k : Nat) (x : AV) : storeA Tryz.prog H 91 (.ptr b v k) x = if x.cells.length = 1 then storeCells H b v k x.cells else none := by unfold storeA; rw [size_91]
theorem isagg_93 : isAggT Tryz.prog 93 = some false := by kernel_rfl
@[go_sem] theorem part_93 (cs : List AV) (k : Nat) : partOf Tryz.prog 93 cs k = cs[k]? := partOf_one cs k isagg_93 size_93
@[go_sem] theorem store_93 (H : Heap) (b v k : Nat) (x : AV) : storeA Tryz.prog H 93 (.ptr b v k) x = if x.cells.length = 1 then storeCells H b v k x.cells else none := by unfold storeA; rw [size_93]
theorem isagg_94 : isAggT Tryz.prog 94 = some false := by kernel_rfl
@[go_sem] theorem part_94 (cs : List AV) (k : Nat) : partOf Tryz.prog 94 cs k = cs[k]? := partOf_one cs k isagg_94 size_94
@[go_sem] theorem store_94 (H : Heap) (b v k : Nat) (x : AV) : storeA Tryz.prog H 94 (.ptr b v k) x = if x.cells.length = 1 then storeCells H b v k x.cells else none := by unfold storeA; rw [size_94]
theorem isagg_95 : isAggT Tryz.prog 95 = some false := by kernel_rfl
@[go_sem] theorem part_95 (cs : List AV) (k : Nat) : partOf Tryz.prog 95 cs k = cs[k]? := partOf_one cs k isagg_95 size_95
@[go_sem] theorem store_95 (H : Heap) (b v k : Nat) (x : AV) : storeA Tryz.prog H 95 (.ptr b v k) x = if x.cells.length = 1 then storeCells H b v k x.cells else none := by unfold storeA; rw [size_95]
theorem isagg_96 : isAggT Tryz.prog 96 = some false := by kernel_rfl
@[go_sem] theorem part_96 (cs : List AV) (k : Nat) : partOf Tryz.prog 96 cs k = cs[k]? := partOf_one cs k isagg_96 size_96
@[go_sem] theorem store_96 (H : Heap) (b v k : Nat) (x : AV) : storeA Tryz.prog H 96 (.ptr b v k) x = if x.cells.length = 1 then storeCells H b v k x.cells else none := by unfold storeA; rw [size_96]
theorem isagg_97 : isAggT Tryz.prog 97 = some false := by kernel_rfl
@[go_sem] theorem part_97 (cs : List AV) (k : Nat) : partOf Tryz.prog 97 cs k = cs[k]? := partOf_one cs k isagg_97 size_97
@[go_sem] theorem store_97 (H : Heap) (b v k : Nat) (x : AV) : storeA Tryz.prog H 97 (.ptr b v k) x = if x.cells.length = 1 then storeCells H b v k x.cells else none := by unfold storeA; rw [size_97]
theorem isagg_98 : isAggT Tryz.prog 98 = some false := by kernel_rfl
@[go_sem] theorem part_98 (cs : List AV) (k : Nat) : partOf Tryz.prog 98 cs k = cs[k]? := partOf_one cs k isagg_98 size_98
@[go_sem] theorem store_98 (H : Heap) (b v k : Nat) (x : AV) : storeA Tryz.prog H 98 (.ptr b v k) x = if x.cells.length = 1 then storeCells H b v k x.cells else none := by unfold storeA; rw [size_98]
theorem isagg_99 : isAggT Tryz.prog 99 = some false := by kernel_rfl
@[go_sem] theorem part_99 (cs : List AV) (k : Nat) : partOf Tryz.prog 99 cs k = cs[k]? := partOf_one cs k isagg_99 size_99
@[go_sem] theorem store_99 (H : Heap) (b v k : Nat) (x : AV) : storeA Tryz.prog H 99 (.ptr b v k) x = if x.cells.length = 1 then storeCells H b v k x.cells else none := by unfold storeA; rw [size_99]
theorem isagg_100 : isAggT Tryz.prog 100 = some false := by kernel_rfl
@[go_sem] theorem part_100 (cs : List AV) (k : Nat) : partOf Tryz.prog 100 cs k = cs[k]? := partOf_one cs k isagg_100 size_100
@[go_sem] theorem store_100 (H : Heap) (b v k : Nat) (x : AV) : storeA Tryz.prog H 100 (.ptr b v k) x = if x.cells.length = 1 then storeCells H b v k x.cells else none := by unfold storeA; rw [size_100]
theorem isagg_101 : isAggT Tryz.prog 101 = some true := by kernel_rfl
@[go_sem] theorem part_101 (cs : List AV) (k : Nat) : partOf Tryz.prog 101 cs k = if k + 12 ≤ cs.length then some (.agg ((cs.drop k).take 12)) else none := partOf_agg cs k isagg_101 size_101
@[go_sem] theorem store_101 (H : Heap) (b v k : Nat) (x : AV) : storeA Tryz.prog H 101 (.ptr b v k) x = if x.cells.length = 12 then storeCells H b v k x.cells else none := by unfold storeA; rw [size_101]
theorem isagg_102 : isAggT Tryz.prog 102 = some true := by kernel_rfl
@[go_sem] theorem part_102 (cs : List AV) (k : Nat) : partOf Tryz.prog 102 cs k = if k + 144 ≤ cs.length then some (.agg ((cs.drop k).take 144)) else none := partOf_agg cs k isagg_102 size_102
@[go_sem] theorem store_102 (H : Heap) (b v k : Nat) (x : AV) : storeA Tryz.prog H 102 (.ptr b v k) x = if x.cells.length = 144 then storeCells H b v k x.cells else none := by unfold storeA; rw [size_102]
theorem isagg_103 : isAggT Tryz.prog 103 = some true := by kernel_rfl
@[go_sem] theorem part_103 (cs : List AV) (k : Nat) : partOf Tryz.prog 103 cs k = if k + 146 ≤ cs.length then some (.agg ((cs.drop k).take 146)) else none := partOf_agg cs k isagg_103 size_103
@[go_sem] theorem store_103 (H : Heap) (b v k : Nat) (x : AV) : storeA Tryz.prog H 103 (.ptr b v k) x = if x.cells.length = 146 then storeCells H b v k x.cells else none := by unfold storeA; rw [size_103]
theorem foff_103_0 : fieldOff Tryz.prog 103 0 = some (0, 1) := by kernel_rfl
@[go_sem] theorem fptr_103_0 (b v k : Nat) : fieldAddrA Tryz.prog 103 (.ptr b v k) 0 = some (.ptr b v (k + 0)) := fieldAddr_ptr foff_103_0 b v k
@[go_sem] theorem fro_103_0 (z : AV) (k : Nat) : fieldAddrA Tryz.prog 103 (.ro z k) 0 = some (.ro z (k + 0)) := fieldAddr_ro foff_103_0 z k
theorem foff_103_1 : fieldOff Tryz.prog 103 1 = some (1, 1) := by kernel_rfl
@[go_sem] theorem fptr_103_1 (b v k : Nat) : fieldAddrA Tryz.prog 103 (.ptr b v k) 1 = some (.ptr b v (k + 1)) := fieldAddr_ptr foff_103_1 b v k
@[go_sem] theorem fro_103_1 (z : AV) (k : Nat) : fieldAddrA Tryz.prog 103 (.ro z k) 1 = some (.ro z (k + 1)) := fieldAddr_ro foff_103_1 z k
theorem foff_103_2 : fieldOff Tryz.prog 103 2 = some (2, 144) := by kernel_rfl
@[go_sem] theorem fptr_103_2 (b v k : Nat) : fieldAddrA Tryz.prog 103 (.ptr b v k) 2 = some (.ptr b v (k + 2)) := fieldAddr_ptr foff_103_2 b v k
@[go_sem] theorem fro_103_2 (z : AV) (k : Nat) : fieldAddrA Tryz.prog 103 (.ro z k) 2 = some (.ro z (k + 2)) := fieldAddr_ro foff_103_2 z k
@[go_sem] theorem build_103 (ps : List (Nat × AV)) : buildA Tryz.prog 103 ps = (fillA (fun i => ([(0, 1), (1, 1), (2, 144)] : List (Nat × Nat))[i]?) [.v (.slice none 0 0), .v (.slice none 0 0), .v (.int .i64 0), .v (.int .i64 0), .v (.int .i64 0), .v (.int .i64 0), .v (.int .i64 0), .v (.int .i64 0), .v (.int .i64 0), .v (.int .i64 0), .v (.int .i64 0), .v (.int .i64 0), .v (.int .i64 0), .v (.int .i64 0), .v (.int .i64 0), .v (.int .i64 0), .v (.int .i64 0), .v (.int .i64 0), .v (.int .i64 0), .v (.int .i64 0), .v (.int .i64 0), .v (.int .i64 0), .v (.int .i64 0), .v (.int .i64 0), .v (.int .i64 0), .v (.int .i64 0), .v (.int .i64 0), .v (.int .i64 0), .v (.int .i64 0), .v (.int .i64 0), .v (.int .i64 0), .v (.int .i64 0), .v (.int .i64 0), .v (.int .i64 0), .v (.int .i64 0), .v (.int .i64 0), .v (.int .i64 0), .v (.int .i64 0), .v (.int .i64 0), .v (.int .i64 0), .v (.int .i64 0), .v (.int .i64 0), .v (.int .i64 0), .v (.int .i64 0), .v (.int .i64 0), .v (.int .i64 0), .v (.int .i64 0), .v (.int .i64 0), .v (.int .i64 0), .v (.int .i64 0), .v (.int .i64 0), .v (.int .i64 0), .v (.int .i64 0), .v (.int .i64 0), .v (.int .i64 0), .v (.int .i64 0), .v (.int .i64 0), .v (.int .i64 0), .v (.int .i64 0), .v (.int .i64 0), .v (.int .i64 0), .v (.int .i64 0), .v (.int .i64 0), .v (.int .i64 0), .v (.int .i64 0), .v (.int .i64 0), .v (.int .i64 0), .v (.int .i64 0), .v (.int .i64 0), .v (.int .i64 0), .v (.int .i64 0), .v (.int .i64 0), .v (.int .i64 0), .v (.int .i64 0), .v (.int .i64 0), .v (.int .i64 0), .v (.int .i64 0), .v (.int .i64 0), .v (.int .i64 0), .v (.int .i64 0), .v (.int .i64 0), .v (.int .i64 0), .v (.int .i64 0), .v (.int .i64 0), .v (.int .i64 0), .v (.int .i64 0), .v (.int .i64 0), .v (.int .i64 0), .v (.int .i64 0), .v (.int .i64 0), .v (.int .i64 0), .v (.int .i64 0), .v (.int .i64 0), .v (.int .i64 0), .v (.int .i64 0), .v (.int .i64 0), .v (.int .i64 0), .v (.int .i64 0), .v (.int .i64 0), .v (.int .i64 0), .v (.int .i64 0), .v (.int .i64 0), .v (.int .i64 0), .v (.int .i64 0), .v (.int .i64 0), .v (.int .i64 0), .v (.int .i64 0), .v (.int .i64 0), .v (.int .i64 0), .v (.int .i64 0), .v (.int .i64 0), .v (.int .i64 0), .v (.int .i64 0), .v (.int .i64 0), .v (.int .i64 0), .v (.int .i64 0), .v (.int .i64 0), .v (.int .i64 0), .v (.int .i64 0), .v (.int .i64 0), .v (.int .i64 0), .v (.int .i64 0), .v (.int .i64 0), .v (.int .i64 0), .v (.int .i64 0), .v (.int .i64 0), .v (.int .i64 0), .v (.int .i64 0), .v (.int .i64 0), .v (.int .i64 0), .v (.int .i64 0), .v (.int .i64 0), .v (.int .i64 0), .v (.int .i64 0), .v (.int .i64 0), .v (.int .i64 0), .v (.int .i64 0), .v (.int .i64 0), .v (.int .i64 0), .v (.int .i64 0), .v (.int .i64 0), .v (.int .i64 0), .v (.int .i64 0), .v (.int .i64 0), .v (.int .i64 0), .v (.int .i64 0)] ps).map .agg := by kernel_rfl
theorem isagg_104 : isAggT Tryz.prog 104 = some true := by kernel_rfl
@[go_sem] theorem part_104 (cs : List AV) (k : Nat) : partOf Tryz.prog 104 cs k = if k + 146 ≤ cs.length then some (.agg ((cs.drop k).take 146)) else none := partOf_agg cs k isagg_104 size_104
@[go_sem] theorem store_104 (H : Heap) (b v k : Nat) (x : AV) : storeA Tryz.prog H 104 (.ptr b v k) x = if x.cells.length = 146 then storeCells H b v k x.cells else none := by unfold storeA; rw [size_104]
theorem foff_104_0 : fieldOff Tryz.prog 104 0 = some (0, 1) := by kernel_rfl
@[go_sem] theorem fptr_104_0 (b v k : Nat) : fieldAddrA Tryz.prog 104 (.ptr b v k) 0 = some (.ptr b v (k + 0)) := fieldAddr_ptr foff_104_0 b v k
@[go_sem] theorem fro_104_0 (z : AV) (k : Nat) : fieldAddrA Tryz.prog 104 (.ro z k) 0 = some (.ro z (k + 0)) := fieldAddr_ro foff_104_0 z k
theorem foff_104_1 : fieldOff Tryz.prog 104 1 = some (1, 1) := by kernel_rfl
@[go_sem] theorem fptr_104_1 (b v k : Nat) : fieldAddrA Tryz.prog 104 (.ptr b v k) 1 = some (.ptr b v (k + 1)) := fieldAddr_ptr foff_104_1 b v k
@[go_sem] theorem fro_104_1 (z : AV) (k : Nat) : fieldAddrA Tryz.prog 104 (.ro z k) 1 = some (.ro z (k + 1)) := fieldAddr_ro foff_104_1 z k
theorem foff_104_2 : fieldOff Tryz.prog 104 2 = some (2, 144) := by kernel_rfl
@[go_sem] theorem fptr_104_2 (b v k : Nat) : fieldAddrA Tryz.prog 104 (.ptr b v k) 2 = some (.ptr b v (k + 2)) := fieldAddr_ptr foff_104_2 b v k
@[go_sem] theorem fro_104_2 (z : AV) (k : Nat) : fieldAddrA Tryz.prog 104 (.ro z k) 2 = some (.ro z (k + 2)) := fieldAddr_ro foff_104_2 z k
@[go_sem] theorem build_104 (ps : List (Nat × AV)) : buildA Tryz.prog 104 ps = (fillA (fun i => ([(0, 1), (1, 1), (2, 144)] : List (Nat × Nat))[i]?) [.v (.slice none 0 0), .v (.slice none 0 0), .v (.int .i64 0), .v (.int .i64 0), .v (.int .i64 0), .v (.int .i64 0), .v (.int .i64 0), .v (.int .i64 0), .v (.int .i64 0), .v (.int .i64 0), .v (.int .i64 0), .v (.int .i64 0), .v (.int .i64 0), .v (.int .i64 0), .v (.int .i64 0), .v (.int .i64 0), .v (.int .i64 0), .v (.int .i64 0), .v (.int .i64 0), .v (.int .i64 0), .v (.int .i64 0), .v (.int .i64 0), .v (.int .i64 0), .v (.int .i64 0), .v (.int .i64 0), .v (.int .i64 0), .v (.int .i64 0), .v (.int .i64 0), .v (.int .i64 0), .v (.int .i64 0), .v (.int .i64 0), .v (.int .i64 0), .v (.int .i64 0), .v (.int .i64 0), .v (.int .i64 0), .v (.int .i64 0), .v (.int .i64 0), .v (.int .i64 0), .v (.int .i64 0), .v (.int .i64 0), .v (.int .i64 0), .v (.int .i64 0), .v (.int .i64 0), .v (.int .i64 0), .v (.int .i64 0), .v (.int .i64 0), .v (.int .i64 0), .v (.int .i64 0), .v (.int .i64 0), .v (.int .i64 0), .v (.int .i64 0), .v (.int .i64 0), .v (.int .i64 0), .v (.int .i64 0), .v (.int .i64 0), .v (.int .i64 0), .v (.int .i64 0), .v (.int .i64 0), .v (.int .i64 0), .v (.int .i64 0), .v (.int .i64 0), .v (.int .i64 0), .v (.int .i64 0), .v (.int .i64 0), .v (.int .i64 0), .v (.int .i64 0), .v (.int .i64 0), .v (.int .i64 0), .v (.int .i64 0), .v (.int .i64 0), .v (.int .i64 0), .v (.int .i64 0), .v (.int .i64 0), .v (.int .i64 0), .v (.int .i64 0), .v (.int .i64 0), .v (.int .i64 0), .v (.int .i64 0), .v (.int .i64 0), .v (.int .i64 0), .v (.int .i64 0), .v (.int .i64 0), .v (.int .i64 0), .v (.int .i64 0), .v (.int .i64 0), .v (.int .i64 0), .v (.int .i64 0), .v (.int .i64 0), .v (.int .i64 0), .v (.int .i64 0), .v (.int .i64 0), .v (.int .i64 0), .v (.int .i64 0), .v (.int .i64 0), .v (.int .i64 0), .v (.int .i64 0), .v (.int .i64 0), .v (.int .i64 0), .v (.int .i64 0), .v (.int .i64 0), .v (.int .i64 0), .v (.int .i64 0), .v (.int .i64 0), .v (.int .i64 0), .v (.int .i64 0), .v (.int .i64 0), .v (.int .i64 0), .v (.int .i64 0), .v (.int .i64 0), .v (.int .i64 0), .v (.int .i64 0), .v (.int .i64 0), .v (.int .i64 0), .v (.int .i64 0), .v (.int .i64 0), .v (.int .i64 0), .v (.int .i64 0), .v (.int .i64 0), .v (.int .i64 0), .v (.int .i64 0), .v (.int .i64 0), .v (.int .i64 0), .v (.int .i64 0), .v (.int .i64 0), .v (.int .i64 0), .v (.int .i64 0), .v (.int .i64 0), .v (.int .i64 0), .v (.int .i64 0), .v (.int .i64 0), .v (.int .i64 0), .v (.int .i64 0), .v (.int .i64 0), .v (.int .i64 0), .v (.int .i64 0), .v (.int .i64 0), .v (.int .i64 0), .v (.int .i64 0), .v (.int .i64 0), .v (.int .i64 0), .v (.int .i64 0), .v (.int .i64 0), .v (.int .i64 0), .v (.int .i64 0), .v (.int .i64 0), .v (.int .i64 0)] ps).map .agg := by kernel_rfl
theorem isagg_105 : isAggT Tryz.prog 105 = some false := by kernel_rfl
@[go_sem] theorem part_105 (cs : List AV) (k : Nat) : partOf Tryz.prog 105 cs k = cs[k]? := partOf_one cs k isagg_105 size_105
@[go_sem] theorem store_105 (H : Heap) (b v k : Nat) (x : AV) : storeA Tryz.prog H 105 (.ptr b v k) x = if x.cells.length = 1 then storeCells H b v k x.cells else none := by unfold storeA; rw [size_105]
theorem isagg_106 : isAggT Tryz.prog 106 = some false := by kernel_rfl
@[go_sem] theorem part_106 (cs : List AV) (k : Nat) : partOf Tryz.prog 106 cs k = cs[k]? := partOf_one cs k isagg_106 size_106
@[go_sem] theorem store_106 (H : Heap) (b v k : Nat) (x : AV) : storeA Tryz.prog H 106 (.ptr b v k) x = if x.cells.length = 1 then storeCells H b v k x.cells else none := by unfold storeA; rw [size_106]
theorem isagg_107 : isAggT Tryz.prog 107 = some false := by kernel_rfl
@[go_sem] theorem part_107 (cs : List AV) (k : Nat) : partOf Tryz.prog 107 cs k = cs[k]? := partOf_one cs k isagg_107 size_107
@[go_sem] theorem store_107 (H : Heap) (b v k : Nat) (x : AV) : storeA Tryz.prog H 107 (.ptr b v k) x = if x.cells.length = 1 then storeCells H b v k x.cells else none := by unfold storeA; rw [size_107]
theorem isagg_108 : isAggT Tryz.prog 108 = some false := by kernel_rfl
@[go_sem] theorem part_108 (cs : List AV) (k : Nat) : partOf Tryz.prog 108 cs k = cs[k]? := partOf_one cs k isagg_108 size_108
@[go_sem] theorem store_108 (H : Heap) (b v k : Nat) (x : AV) : storeA Tryz.prog H 108 (.ptr b v k) x = if x.cells.length = 1 then storeCells H b v k x.cells else none := by unfold storeA; rw [size_108]
theorem isagg_109 : isAggT Tryz.prog 109 = some false := by kernel_rfl
@[go_sem] theorem part_109 (cs : List AV) (k : Nat) : partOf Tryz.prog 109 cs k = cs[k]? := partOf_one cs k isagg_109 size_109
@[go_sem] theorem store_109 (H : Heap) (b v k : Nat) (x : AV) : storeA Tryz.prog H 109 (.ptr b v k) x = if x.cells.length = 1 then storeCells H b v k x.cells else none := by unfold storeA; rw [size_109]
theorem isagg_110 : isAggT Tryz.prog 110 = some false := by kernel_rfl
@[go_sem] theorem part_110 (cs : List AV) (k : Nat) : partOf Tryz.prog 110 cs k = cs[k]? := partOf_one cs k isagg_110 size_110
@[go_sem] theorem store_110 (H : Heap) (b v k : Nat) (x : AV) : storeA Tryz.prog H 110 (.ptr b v k) x = if x.cells.length = 1 then storeCells H b v k x.cells else none := by unfold storeA; rw [size_110]
theorem isagg_111 : isAggT Tryz.prog 111 = some false := by kernel_rfl
@[go_sem] theorem part_111 (cs : List AV) (k : Nat) : partOf Tryz.prog 111 cs k = cs[k]? := partOf_one cs k isagg_111 size_111
@[go_sem] theorem store_111 (H : Heap) (b v k : Nat) (x : AV) : storeA Tryz.prog H 111 (.ptr b v k) x = if x.cells.length = 1 then storeCells H b v k x.cells else none := by unfold storeA; rw [size_111]
theorem isagg_112 : isAggT Tryz.prog 112 = some false := by kernel_rfl
@[go_sem] theorem part_112 (cs : List AV) (k : Nat) : partOf Tryz.prog 112 cs k = cs[k]? := partOf_one cs k isagg_112 size_112
@[go_sem] theorem store_112 (H : Heap) (b v k : Nat) (x : AV) : storeA Tryz.prog H 112 (.ptr b v k) x = if x.cells.length = 1 then storeCells H b v k x.cells else none := by unfold storeA; rw [size_112]
theorem isagg_113 : isAggT Tryz.prog 113 = some false := by kernel_rfl
@[go_sem] theorem part_113 (cs : List AV) (k : Nat) : partOf Tryz.prog 113 cs k = cs[k]? := partOf_one cs k isagg_113 size_113
@[go_sem] theorem store_113 (H : Heap) (b v k : Nat) (x : AV) : storeA Tryz.prog H 113 (.ptr b v k) x = if x.cells.length = 1 then storeCells H b v k x.cells else none := by unfold storeA; rw [size_113]
theorem isagg_114 : isAggT Tryz.prog 114 = some false := by kernel_rfl
@[go_sem] theorem part_114 (cs : List AV) (k : Nat) : partOf Tryz.prog 114 cs k = cs[k]? := partOf_one cs k isagg_114 size_114
@[go_sem] theorem store_114 (H : Heap) (b v k : Nat) (x : AV) : storeA Tryz.prog H 114 (.ptr b v k) x = if x.cells.length = 1 then storeCells H b v k x.cells else none := by unfold storeA; rw [size_114]
theorem isagg_115 : isAggT Tryz.prog 115 = some false := by kernel_rfl
@[go_sem] theorem part_115 (cs : List AV) (k : Nat) : partOf Tryz.prog 115 cs k = cs[k]? := partOf_one cs k isagg_115 size_115
@[go_sem] theorem store_115 (H : Heap) (b v k : Nat) (x : AV) : storeA Tryz.prog H 115 (.ptr b v k) x = if x.cells.length = 1 then storeCells H b v k x.cells else none := by unfold storeA; rw [size_115]
theorem isagg_116 : isAggT Tryz.prog 116 = some false := by kernel_rfl
@[go_sem] theorem part_116 (cs : List AV) (k : Nat) : partOf Tryz.prog 116 cs k = cs[k]? := partOf_one cs k isagg_116 size_116
@[go_sem] theorem store_116 (H : Heap) (b v k : Nat) (x : AV) : storeA Tryz.prog H 116 (.ptr b v k) x = if x.cells.length = 1 then storeCells H b v k x.cells else none := by unfold storeA; rw [size_116]
theorem isagg_117 : isAggT Tryz.prog 117 = some false := by kernel_rfl
@[go_sem] theorem part_117 (cs : List AV) (k : Nat) : partOf Tryz.prog 117 cs k = cs[k]? := partOf_one cs k isagg_117 size_117
@[go_sem] theorem store_117 (H : Heap) (b v k : Nat) (x : AV) : storeA Tryz.prog H 117 (.ptr b v k) x = if x.cells.length = 1 then storeCells H b v k x.cells else none := by unfold storeA; rw [size_117]
theorem isagg_118 : isAggT Tryz.prog 118 = some false := by kernel_rfl
@[go_sem] theorem part_118 (cs : List AV) (k : Nat) : partOf Tryz.prog 118 cs k = cs[k]? := partOf_one cs k isagg_118 size_118
@[go_sem] theorem store_118 (H : Heap) (b v k : Nat) (x : AV) : storeA Tryz.prog H 118 (.ptr b v k) x = if x.cells.length = 1 then storeCells H b v k x.cells else none := by unfold storeA; rw [size_118]
theorem isagg_119 : isAggT Tryz.prog 119 = some true := by kernel_rfl
@[go_sem] theorem part_119 (cs : List AV) (k : Nat) : partOf Tryz.prog 119 cs k = if k + 2 ≤ cs.length then some (.agg ((cs.drop k).take 2)) else none := partOf_agg cs k isagg_119 size_119
@[go_sem] theorem store_119 (H : Heap) (b v k : Nat) (x : AV) : storeA Tryz.prog H 119 (.ptr b v k) x = if x.cells.length = 2 then storeCells H b v k x.cells else none := by unfold storeA; rw [size_119]
theorem foff_119_0 : fieldOff Tryz.prog 119 0 = some (0, 1) := by kernel_rfl
@[go_sem] theorem fptr_119_0 (b v k : Nat) : fieldAddrA Tryz.prog 119 (.ptr b v k) 0 = some (.ptr b v (k + 0)) := fieldAddr_ptr foff_119_0 b v k
@[go_sem] theorem fro_119_0 (z : AV) (k : Nat) : fieldAddrA Tryz.prog 119 (.ro z k) 0 = some (.ro z (k + 0)) := fieldAddr_ro foff_119_0 z k
theorem foff_119_1 : fieldOff Tryz.prog 119 1 = some (1, 1) := by kernel_rfl
@[go_sem] theorem fptr_119_1 (b v k : Nat) : fieldAddrA Tryz.prog 119 (.ptr b v k) 1 = some (.ptr b v (k + 1)) := fieldAddr_ptr foff_119_1 b v k
@[go_sem] theorem fro_119_1 (z : AV) (k : Nat) : fieldAddrA Tryz.prog 119 (.ro z k) 1 = some (.ro z (k + 1)) := fieldAddr_ro foff_119_1 z k
@[go_sem] theorem build_119 (ps : List (Nat × AV)) : buildA Tryz.prog 119 ps = (fillA (fun i => ([(0, 1), (1, 1)] : List (Nat × Nat))[i]?) [.v (.int .i64 0), .v (.int .i64 0)] ps).map .agg := by kernel_rfl
theorem isagg_120 : isAggT Tryz.prog 120 = some true := by kernel_rfl
@[go_sem] theorem part_120 (cs : List AV) (k : Nat) : partOf Tryz.prog 120 cs k = if k + 2 ≤ cs.length then some (.agg ((cs.drop k).take 2)) else none := partOf_agg cs k isagg_120 size_120
@[go_sem] theorem store_120 (H : Heap) (b v k : Nat) (x : AV) : storeA Tryz.prog H 120 (.ptr b v k) x = if x.cells.length = 2 then storeCells H b v k x.cells else none := by unfold storeA; rw [size_120]
theorem foff_120_0 : fieldOff Tryz.prog 120 0 = some (0, 1) := by kernel_rfl
@[go_sem] theorem fptr_120_0 (b v k : Nat) : fieldAddrA Tryz.prog 120 (.ptr b v k) 0 = some (.ptr b v (k + 0)) := fieldAddr_ptr foff_120_0 b v k
@[go_sem] theorem fro_120_0 (z : AV) (k : Nat) : fieldAddrA Tryz.prog 120 (.ro z k) 0 = some (.ro z (k + 0)) := fieldAddr_ro foff_120_0 z k
theorem foff_120_1 : fieldOff Tryz.prog 120 1 = some (1, 1) := by kernel_rfl
@[go_sem] theorem fptr_120_1 (b v k : Nat) : fieldAddrA Tryz.prog 120 (.ptr b v k) 1 = some (.ptr b v (k + 1)) := fieldAddr_ptr foff_120_1 b v k
@[go_sem] theorem fro_120_1 (z : AV) (k : Nat) : fieldAddrA Tryz.prog 120 (.ro z k) 1 = some (.ro z (k + 1)) := fieldAddr_ro foff_120_1 z k
@[go_sem] theorem build_120 (ps : List (Nat × AV)) : buildA Tryz.prog 120 ps = (fillA (fun i => ([(0, 1), (1, 1)] : List (Nat × Nat))[i]?) [.v (.int .i64 0), .v (.int .i64 0)] ps).map .agg := by kernel_rfl
theorem isagg_121 : isAggT Tryz.prog 121 = some false := by kernel_rfl
@[go_sem] theorem part_121 (cs : List AV) (k : Nat) : partOf Tryz.prog 121 cs k = cs[k]? := partOf_one cs k isagg_121 size_121
@[go_sem] theorem store_121 (H : Heap) (b v k : Nat) (x : AV) : storeA Tryz.prog H 121 (.ptr b v k) x = if x.cells.length = 1 then storeCells H b v k x.cells else none := by unfold storeA; rw [size_121]
theorem isagg_122 : isAggT Tryz.prog 122 = some false := by kernel_rfl
@[go_sem] theorem part_122 (cs : List AV) (k : Nat) : partOf Tryz.prog 122 cs k = cs[k]? := partOf_one cs k isagg_122 size_122
@[go_sem] theorem store_122 (H : Heap) (b v k : Nat) (x : AV) : storeA Tryz.prog H 122 (.ptr b v k) x = if x.cells.length = 1 then storeCells H b v k x.cells else none := by unfold storeA; rw [size_122]
theorem isagg_123 : isAggT Tryz.prog 123 = some false := by kernel_rfl
@[go_sem] theorem part_123 (cs : List AV) (k : Nat) : partOf Tryz.prog 123 cs k = cs[k]? := partOf_one cs k isagg_123 size_123
@[go_sem] theorem store_123 (H : Heap) (b v k : Nat) (x : AV) : storeA Tryz.prog H 123 (.ptr b v k) x = if x.cells.length = 1 then storeCells H b v k x.cells else none := by unfold storeA; rw [size_123]
theorem isagg_124 : isAggT Tryz.prog 124 = some false := by kernel_rfl
@[go_sem] theorem part_124 (cs : List AV) (k : Nat) : partOf Tryz.prog 124 cs k = cs[k]? := partOf_one cs k isagg_124 size_124
@[go_sem] theorem store_124 (H : Heap) (b v k : Nat) (x : AV) : storeA Tryz.prog H 124 (.ptr b v k) x = if x.cells.length = 1 then storeCells H b v k x.cells else none := by unfold storeA; rw [size_124]
theorem isagg_125 : isAggT Tryz.prog 125 = some false := by kernel_rfl
@[go_sem] theorem part_125 (cs : List AV) (k : Nat) : partOf Tryz.prog 125 cs k = cs[k]? := partOf_one cs k isagg_125 size_125
@[go_sem] theorem store_125 (H : Heap) (b v k : Nat) (x : AV) : storeA Tryz.prog H 125 (.ptr b v k) x = if x.cells.length = 1 then storeCells H b v k x.cells else none := by unfold storeA; rw [size_125]
theorem isagg_126 : isAggT Tryz.prog 126 = some false := by kernel_rfl
@[go_sem] theorem part_126 (cs : List AV) (k : Nat) : partOf Tryz.prog 126 cs k = cs[k]? := partOf_one cs k isagg_126 size_126
@[go_sem] theorem store_126 (H : Heap) (b v k : Nat) (x : AV) : storeA Tryz.prog H 126 (.ptr b v k) x = if x.cells.length = 1 then storeCells H b v k x.cells else none := by unfold storeA; rw [size_126]
theorem isagg_127 : isAggT Tryz.prog 127 = some false := by kernel_rfl
@[go_sem] theorem part_127 (cs : List AV) (k : Nat) : partOf Tryz.prog 127 cs k = cs[k]? := partOf_one cs k isagg_127 size_127
@[go_sem] theorem store_127 (H : Heap) (b v k : Nat) (x : AV) : storeA Tryz.prog H 127 (.ptr b v k) x = if x.cells.length = 1 then storeCells H b v k x.cells else none := by unfold storeA; rw [size_127]
theorem isagg_128 : isAggT Tryz.prog 128 = some false := by kernel_rfl
@[go_sem] theorem part_128 (cs : List AV) (k : Nat) : partOf Tryz.prog 128 cs k = cs[k]? := partOf_one cs k isagg_128 size_128
@[go_sem] theorem store_128 (H : Heap) (b v k : Nat) (x : AV) : storeA Tryz.prog H 128 (.ptr b v k) x = if x.cells.length = 1 then storeCells H b v k x.cells else none := by unfold storeA; rw [size_128]
theorem isagg_129 : isAggT Tryz.prog 129 = some false := by kernel_rfl
@[go_sem] theorem part_129 (cs : List AV) (k : Nat) : partOf Tryz.prog 129 cs k = cs[k]? := partOf_one cs k isagg_129 size_129
@[go_sem] theorem store_129 (H : Heap) (b v k : Nat) (x : AV) : storeA Tryz.prog H 129 (.ptr b v k) x = if x.cells.length = 1 then storeCells H b v k x.cells else none := by unfold storeA; rw [size_129]
theorem isagg_130 : isAggT Tryz.prog 130 = some false := by kernel_rfl
@[go_sem] theorem part_130 (cs : List AV) (k : Nat) : partOf Tryz.prog 130 cs k = cs[k]? := partOf_one cs k isagg_130 size_130
@[go_sem] theorem store_130 (H : Heap) (b v k : Nat) (x : AV) : storeA Tryz.prog H 130 (.ptr b v k) x = if x.cells.length = 1 then storeCells H b v k x.cells else none := by unfold storeA; rw [size_130]
theorem isagg_131 : isAggT Tryz.prog 131 = some false := by kernel_rfl
@[go_sem] theorem part_131 (cs : List AV) (k : Nat) : partOf Tryz.prog 131 cs k = cs[k]? := partOf_one cs k isagg_131 size_131
@[go_sem] theorem store_131 (H : Heap) (b v k : Nat) (x : AV) : storeA Tryz.prog H 131 (.ptr b v k) x = if x.cells.length = 1 then storeCells H b v k x.cells else none := by unfold storeA; rw [size_131]
theorem isagg_132 : isAggT Tryz.prog 132 = some false := by kernel_rfl
@[go_sem] theorem part_132 (cs : List AV) (k : Nat) : partOf Tryz.prog 132 cs k = cs[k]? := partOf_one cs k isagg_132 size_132
@[go_sem] theorem store_132 (H : Heap) (b v k : Nat) (x : AV) : storeA Tryz.prog H 132 (.ptr b v k) x = if x.cells.length = 1 then storeCells H b v k x.cells else none := by unfold storeA; rw [size_132]
theorem isagg_133 : isAggT Tryz.prog 133 = some false := by kernel_rfl
@[go_sem] theorem part_133 (cs : List AV) (k : Nat) : partOf Tryz.prog 133 cs k = cs[k]? := partOf_one cs k isagg_133 size_133
@[go_sem] theorem store_133 (H : Heap) (b v k : Nat) (x : AV) : storeA Tryz.prog H 133 (.ptr b v k) x = if x.cells.length = 1 then storeCells H b v k x.cells else none := by unfold storeA; rw [size_133]
theorem und_133 : Tryz.prog.underlying 133 = some (.slice 3) := by kernel_rfl
@[go_sem] theorem len_133 (H : Heap) (x : AV) : lenA Tryz.prog H [133] [x] = slLen x := len_sl und_133 H x
@[go_sem] theorem idx_133 (x y : AV) : indexAddrA Tryz.prog 133 x y = slIdx 1 x y := idx_sl und_133 size_3 x y
@[go_sem] theorem bsl_133 (mt : Bool) (H : Heap) (slot len : Nat) (parts : List (Nat × AV)) : buildSliceA Tryz.prog mt H slot 133 len parts = if len * 1 ≤ 65536 then (fillA (fun i => some (i * 1, 1)) (repeatCells [.v (.int .i64 0)] len) parts).bind (bsFin mt 3 1 H slot len) else none := buildSl_eq und_133 size_3 zero_3 (by decide) rfl mt H slot len parts
theorem isagg_134 : isAggT Tryz.prog 134 = some false := by kernel_rfl
@[go_sem] theorem part_134 (cs : List AV) (k : Nat) : partOf Tryz.prog 134 cs k = cs[k]? := partOf_one cs k isagg_134 size_134
@[go_sem] theorem store_134 (H : Heap) (b v k : Nat) (x : AV) : storeA Tryz.prog H 134 (.ptr b v k) x = if x.cells.length = 1 then storeCells H b v k x.cells else none := by unfold storeA; rw [size_134]
theorem isagg_135 : isAggT Tryz.prog 135 = some false := by kernel_rfl
@[go_sem] theorem part_135 (cs : List AV) (k : Nat) : partOf Tryz.prog 135 cs k = cs[k]? := partOf_one cs k isagg_135 size_135
@[go_sem] theorem store_135 (H : Heap) (b v k : Nat) (x : AV) : storeA Tryz.prog H 135 (.ptr b v k) x = if x.cells.length = 1 then storeCells H b v k x.cells else none := by unfold storeA; rw [size_135]
theorem isagg_136 : isAggT Tryz.prog 136 = some false := by kernel_rfl
@[go_sem] theorem part_136 (cs : List AV) (k : Nat) : partOf Tryz.prog 136 cs k = cs[k]? := partOf_one cs k isagg_136 size_136
@[go_sem] theorem store_136 (H : Heap) (b v k : Nat) (x : AV) : storeA Tryz.prog H 136 (.ptr b v k) x = if x.cells.length = 1 then storeCells H b v k x.cells else none := by unfold storeA; rw [size_136]
theorem isagg_137 : isAggT Tryz.prog 137 = some false := by kernel_rfl
@[go_sem] theorem part_137 (cs : List AV) (k : Nat) : partOf Tryz.prog 137 cs k = cs[k]? := partOf_one cs k isagg_137 size_137
@[go_sem] theorem store_137 (H : Heap) (b v k : Nat) (x : AV) : storeA Tryz.prog H 137 (.ptr b v k) x = if x.cells.length = 1 then storeCells H b v k x.cells else none := by unfold storeA; rw [size_137]
theorem isagg_138 : isAggT Tryz.prog 138 = some false := by kernel_rfl
@[go_sem] theorem part_138 (cs : List AV) (k : Nat) : partOf Tryz.prog 138 cs k = cs[k]? := partOf_one cs k isagg_138 size_138
@[go_sem] theorem store_138 (H : Heap) (b v k : Nat) (x : AV) : storeA Tryz.prog H 138 (.ptr b v k) x = if x.cells.length = 1 then storeCells H b v k x.cells else none := by unfold storeA; rw [size_138]
theorem isagg_139 : isAggT Tryz.prog 139 = some false := by kernel_rfl
@[go_sem] theorem part_139 (cs : List AV) (k : Nat) : partOf Tryz.prog 139 cs k = cs[k]? := partOf_one cs k isagg_139 size_139
@[go_sem] theorem store_139 (H : Heap) (b v k : Nat) (x : AV) : storeA Tryz.prog H 139 (.ptr b v k) x = if x.cells.length = 1 then storeCells H b v k x.cells else none := by unfold storeA; rw [size_139]
theorem isagg_140 : isAggT Tryz.prog 140 = some false := by kernel_rfl
@[go_sem] theorem part_140 (cs : List AV) (k : Nat) : partOf Tryz.prog 140 cs k = cs[k]? := partOf_one cs k isagg_140 size_140
@[go_sem] theorem store_140 (H : Heap) (b v k : Nat) (x : AV) : storeA Tryz.prog H 140 (.ptr b v k) x = if x.cells.length = 1 then storeCells H b v k x.cells else none := by unfold storeA; rw [size_140]
theorem isagg_141 : isAggT Tryz.prog 141 = some false := by kernel_rfl
@[go_sem] theorem part_141 (cs : List AV) (k : Nat) : partOf Tryz.prog 141 cs k = cs[k]? := partOf_one cs k isagg_141 size_141
@[go_sem] theorem store_141 (H : Heap) (b v k : Nat) (x : AV) : storeA Tryz.prog H 141 (.ptr b v k) x = if x.cells.length = 1 then storeCells H b v k x.cells else none := by unfold storeA; rw [size_141]
theorem isagg_142 : isAggT Tryz.prog 142 = some false := by kernel_rfl
@[go_sem] theorem part_142 (cs : List AV) (k : Nat) : partOf Tryz.prog 142 cs k = cs[k]? := partOf_one cs k isagg_142 size_142
@[go_sem] theorem store_142 (H : Heap) (b v k : Nat) (x : AV) : storeA Tryz.prog H 142 (.ptr b v k) x = if x.cells.length = 1 then storeCells H b v k x.cells else none := by unfold storeA; rw [size_142]
theorem isagg_143 : isAggT Tryz.prog 143 = some false := by kernel_rfl
@[go_sem] theorem part_143 (cs : List AV) (k : Nat) : partOf Tryz.prog 143 cs k = cs[k]? := partOf_one cs k isagg_143 size_143
@[go_sem] theorem store_143 (H : Heap) (b v k : Nat) (x : AV) : storeA Tryz.prog H 143 (.ptr b v k) x = if x.cells.length = 1 then storeCells H b v k x.cells else none := by unfold storeA; rw [size_143]
theorem isagg_144 : isAggT Tryz.prog 144 = some false := by kernel_rfl
@[go_sem] theorem part_144 (cs : List AV) (k : Nat) : partOf Tryz.prog 144 cs k = cs[k]? := partOf_one cs k isagg_144 size_144
@[go_sem] theorem store_144 (H : Heap) (b v k : Nat) (x : AV) : storeA Tryz.prog H 144 (.ptr b v k) x = if x.cells.length = 1 then storeCells H b v k x.cells else none := by unfold storeA; rw [size_144]
theorem isagg_145 : isAggT Tryz.prog 145 = some false := by kernel_rfl
@[go_sem] theorem part_145 (cs : List AV) (k : Nat) : partOf Tryz.prog 145 cs k = cs[k]? := partOf_one cs k isagg_145 size_145
@[go_sem] theorem store_145 (H : Heap) (b v k : Nat) (x : AV) : storeA Tryz.prog H 145 (.ptr b v k) x = if x.cells.length = 1 then storeCells H b v k x.cells else none := by unfold storeA; rw [size_145]
theorem isagg_146 : isAggT Tryz.prog 146 = some true := by kernel_rfl
@[go_sem] theorem part_146 (cs : List AV) (k : Nat) : partOf Tryz.prog 146 cs k = if k + 2 ≤ cs.length then some (.agg ((cs.drop k).take 2)) else none := partOf_agg cs k isagg_146 size_146
@[go_sem] theorem store_146 (H : Heap) (b v k : Nat) (x : AV) : storeA Tryz.prog H 146 (.ptr b v k) x = if x.cells.length = 2 then storeCells H b v k x.cells else none := by unfold storeA; rw [size_146]
theorem foff_146_0 : fieldOff Tryz.prog 146 0 = some (0, 1) := by kernel_rfl
@[go_sem] theorem fptr_146_0 (b v k : Nat) : fieldAddrA Tryz.prog 146 (.ptr b v k) 0 = some (.ptr b v (k + 0)) := fieldAddr_ptr foff_146_0 b v k
@[go_sem] theorem fro_146_0 (z : AV) (k : Nat) : fieldAddrA Tryz.prog 146 (.ro z k) 0 = some (.ro z (k + 0)) := fieldAddr_ro foff_146_0 z k
theorem foff_146_1 : fieldOff Tryz.prog 146 1 = some (1, 1) := by kernel_rfl
@[go_sem] theorem fptr_146_1 (b v k : Nat) : fieldAddrA Tryz.prog 146 (.ptr b v k) 1 = some (.ptr b v (k + 1)) := fieldAddr_ptr foff_146_1 b v k
@[go_sem] theorem fro_146_1 (z : AV) (k : Nat) : fieldAddrA Tryz.prog 146 (.ro z k) 1 = some (.ro z (k + 1)) := fieldAddr_ro foff_146_1 z k
@[go_sem] theorem build_146 (ps : List (Nat × AV)) : buildA Tryz.prog 146 ps = (fillA (fun i => ([(0, 1), (1, 1)] : List (Nat × Nat))[i]?) [.v .nilFunc, .v .nilFunc] ps).map .agg := by kernel_rfl
theorem isagg_147 : isAggT Tryz.prog 147 = some true := by kernel_rfl
@[go_sem] theorem part_147 (cs : List AV) (k : Nat) : partOf Tryz.prog 147 cs k = if k + 2 ≤ cs.length then some (.agg ((cs.drop k).take 2)) else none := partOf_agg cs k isagg_147 size_147
@[go_sem] theorem store_147 (H : Heap) (b v k : Nat) (x : AV) : storeA Tryz.prog H 147 (.ptr b v k) x = if x.cells.length = 2 then storeCells H b v k x.cells else none := by unfold storeA; rw [size_147]
theorem foff_147_0 : fieldOff Tryz.prog 147 0 = some (0, 1) := by kernel_rfl
@[go_sem] theorem fptr_147_0 (b v k : Nat) : fieldAddrA Tryz.prog 147 (.ptr b v k) 0 = some (.ptr b v (k + 0)) := fieldAddr_ptr foff_147_0 b v k
@[go_sem] theorem fro_147_0 (z : AV) (k : Nat) : fieldAddrA Tryz.prog 147 (.ro z k) 0 = some (.ro z (k + 0)) := fieldAddr_ro foff_147_0 z k
theorem foff_147_1 : fieldOff Tryz.prog 147 1 = some (1, 1) := by kernel_rfl
@[go_sem] theorem fptr_147_1 (b v k : Nat) : fieldAddrA Tryz.prog 147 (.ptr b v k) 1 = some (.ptr b v (k + 1)) := fieldAddr_ptr foff_147_1 b v k
@[go_sem] theorem fro_147_1 (z : AV) (k : Nat) : fieldAddrA Tryz.prog 147 (.ro z k) 1 = some (.ro z (k + 1)) := fieldAddr_ro foff_147_1 z k
@[go_sem] theorem build_147 (ps : List (Nat × AV)) : buildA Tryz.prog 147 ps = (fillA (fun i => ([(0, 1), (1, 1)] : List (Nat × Nat))[i]?) [.v .nilFunc, .v .nilFunc] ps).map .agg := by kernel_rfl
theorem isagg_148 : isAggT Tryz.prog 148 = some true := by kernel_rfl
@[go_sem] theorem part_148 (cs : List AV) (k : Nat) : partOf Tryz.prog 148 cs k = if k + 8 ≤ cs.length then some (.agg ((cs.drop k).take 8)) else none := partOf_agg cs k isagg_148 size_148
@[go_sem] theorem store_148 (H : Heap) (b v k : Nat) (x : AV) : storeA Tryz.prog H 148 (.ptr b v k) x = if x.cells.length = 8 then storeCells H b v k x.cells else none := by unfold storeA; rw [size_148]
theorem isagg_149 : isAggT Tryz.prog 149 = some false := by kernel_rfl
@[go_sem] theorem part_149 (cs : List AV) (k : Nat) : partOf Tryz.prog 149 cs k = cs[k]? := partOf_one cs k isagg_149 size_149
@[go_sem] theorem store_149 (H : Heap) (b v k : Nat) (x : AV) : storeA Tryz.prog H 149 (.ptr b v k) x = if x.cells.length = 1 then storeCells H b v k x.cells else none := by unfold storeA; rw [size_149]
theorem isagg_150 : isAggT Tryz.prog 150 = some true := by kernel_rfl
@[go_sem] theorem part_150 (cs : List AV) (k : Nat) : partOf Tryz.prog 150 cs k = if k + 2 ≤ cs.length then some (.agg ((cs.drop k).take 2)) else none := partOf_agg cs k isagg_150 size_150
@[go_sem] theorem store_150 (H : Heap) (b v k : Nat) (x : AV) : storeA Tryz.prog H 150 (.ptr b v k) x = if x.cells.length = 2 then storeCells H b v k x.cells else none := by unfold storeA; rw [size_150]
theorem foff_150_0 : fieldOff Tryz.prog 150 0 = some (0, 1) := by kernel_rfl
@[go_sem] theorem fptr_150_0 (b v k : Nat) : fieldAddrA Tryz.prog 150 (.ptr b v k) 0 = some (.ptr b v (k + 0)) := fieldAddr_ptr foff_150_0 b v k
@[go_sem] theorem fro_150_0 (z : AV) (k : Nat) : fieldAddrA Tryz.prog 150 (.ro z k) 0 = some (.ro z (k + 0)) := fieldAddr_ro foff_150_0 z k
theorem foff_150_1 : fieldOff Tryz.prog 150 1 = some (1, 1) := by kernel_rfl
@[go_sem] theorem fptr_150_1 (b v k : Nat) : fieldAddrA Tryz.prog 150 (.ptr b v k) 1 = some (.ptr b v (k + 1)) := fieldAddr_ptr foff_150_1 b v k
@[go_sem] theorem fro_150_1 (z : AV) (k : Nat) : fieldAddrA Tryz.prog 150 (.ro z k) 1 = some (.ro z (k + 1)) := fieldAddr_ro foff_150_1 z k
@[go_sem] theorem build_150 (ps : List (Nat × AV)) : buildA Tryz.prog 150 ps = (fillA (fun i => ([(0, 1), (1, 1)] : List (Nat × Nat))[i]?) [.v (.slice none 0 0), .v (.slice none 0 0)] ps).map .agg := by kernel_rfl
theorem isagg_151 : isAggT Tryz.prog 151 = some true := by kernel_rfl
@[go_sem] theorem part_151 (cs : List AV) (k : Nat) : partOf Tryz.prog 151 cs k = if k + 2 ≤ cs.length then some (.agg ((cs.drop k).take 2)) else none := partOf_agg cs k isagg_151 size_151
@[go_sem] theorem store_151 (H : Heap) (b v k : Nat) (x : AV) : storeA Tryz.prog H 151 (.ptr b v k) x = if x.cells.length = 2 then storeCells H b v k x.cells else none := by unfold storeA; rw [size_151]
theorem foff_151_0 : fieldOff Tryz.prog 151 0 = some (0, 1) := by kernel_rfl
@[go_sem] theorem fptr_151_0 (b v k : Nat) : fieldAddrA Tryz.prog 151 (.ptr b v k) 0 = some (.ptr b v (k + 0)) := fieldAddr_ptr foff_151_0 b v k
@[go_sem] theorem fro_151_0 (z : AV) (k : Nat) : fieldAddrA Tryz.prog 151 (.ro z k) 0 = some (.ro z (k + 0)) := fieldAddr_ro foff_151_0 z k
theorem foff_151_1 : fieldOff Tryz.prog 151 1 = some (1, 1) := by kernel_rfl
@[go_sem] theorem fptr_151_1 (b v k : Nat) : fieldAddrA Tryz.prog 151 (.ptr b v k) 1 = some (.ptr b v (k + 1)) := fieldAddr_ptr foff_151_1 b v k
@[go_sem] theorem fro_151_1 (z : AV) (k : Nat) : fieldAddrA Tryz.prog 151 (.ro z k) 1 = some (.ro z (k + 1)) := fieldAddr_ro foff_151_1 z k
@[go_sem] theorem build_151 (ps : List (Nat × AV)) : buildA Tryz.prog 151 ps = (fillA (fun i => ([(0, 1), (1, 1)] : List (Nat × Nat))[i]?) [.v (.slice none 0 0), .v (.slice none 0 0)] ps).map .agg := by kernel_rfl
theorem isagg_152 : isAggT Tryz.prog 152 = some false := by kernel_rfl
@[go_sem] theorem part_152 (cs : List AV) (k : Nat) : partOf Tryz.prog 152 cs k = cs[k]? := partOf_one cs k isagg_152 size_152
@[go_sem] theorem store_152 (H : Heap) (b v k : Nat) (x : AV) : storeA Tryz.prog H 152 (.ptr b v k) x = if x.cells.length = 1 then storeCells H b v k x.cells else none := by unfold storeA; rw [size_152]
theorem isagg_153 : isAggT Tryz.prog 153 = some false := by kernel_rfl
@[go_sem] theorem part_153 (cs : List AV) (k : Nat) : partOf Tryz.prog 153 cs k = cs[k]? := partOf_one cs k isagg_153 size_153
@[go_sem] theorem store_153 (H : Heap) (b v k : Nat) (x : AV) : storeA Tryz.prog H 153 (.ptr b v k) x = if x.cells.length = 1 then storeCells H b v k x.cells else none := by unfold storeA; rw [size_153]
theorem isagg_154 : isAggT Tryz.prog 154 = some false := by kernel_rfl
@[go_sem] theorem part_154 (cs : List AV) (k : Nat) : partOf Tryz.prog 154 cs k = cs[k]? := partOf_one cs k isagg_154 size_154
@[go_sem] theorem store_154 (H : Heap) (b v k : Nat) (x : AV) : storeA Tryz.prog H 154 (.ptr b v k) x = if x.cells.length = 1 then storeCells H b v k x.cells else none := by unfold storeA; rw [size_154]
theorem isagg_155 : isAggT Tryz.prog 155 = some false := by kernel_rfl
@[go_sem] theorem part_155 (cs : List AV) (k : Nat) : partOf Tryz.prog 155 cs k = cs[k]? := partOf_one cs k isagg_155 size_155
@[go_sem] theorem store_155 (H : Heap) (b v k : Nat) (x : AV) : storeA Tryz.prog H 155 (.ptr b v k) x = if x.cells.length = 1 then storeCells H b v k x.cells else none := by unfold storeA; rw [size_155]
theorem isagg_156 : isAggT Tryz.prog 156 = some false := by kernel_rfl
@[go_sem] theorem part_156 (cs : List AV) (k : Nat) : partOf Tryz.prog 156 cs k = cs[k]? := partOf_one cs k isagg_156 size_156
@[go_sem] theorem store_156 (H : Heap) (b v k : Nat) (x : AV) : storeA Tryz.prog H 156 (.ptr b v k) x = if x.cells.length = 1 then storeCells H b v k x.cells else none := by unfold storeA; rw [size_156]
theorem isagg_157 : isAggT Tryz.prog 157 = some false := by kernel_rfl
@[go_sem] theorem part_157 (cs : List AV) (k : Nat) : partOf Tryz.prog 157 cs k = cs[k]? := partOf_one cs k isagg_157 size_157
@[go_sem] theorem store_157 (H : Heap) (b v k : Nat) (x : AV) : storeA Tryz.prog H 157 (.ptr b v k) x = if x.cells.length = 1 then storeCells H b v k x.cells else none := by unfold storeA; rw [size_157]
theorem isagg_158 : isAggT Tryz.prog 158 = some false := by kernel_rfl
@[go_sem] theorem part_158 (cs : List AV) (k : Nat) : partOf Tryz.prog 158 cs k = cs[k]? := partOf_one cs k isagg_158 size_158
@[go_sem] theorem store_158 (H : Heap) (b v k : Nat) (x : AV) : storeA Tryz.prog H 158 (.ptr b v k) x = if x.cells.length = 1 then storeCells H b v k x.cells else none := by unfold storeA; rw [size_158]
theorem isagg_159 : isAggT Tryz.prog 159 = some false := by kernel_rfl
@[go_sem] theorem part_159 (cs : List AV) (k : Nat) : partOf Tryz.prog 159 cs k = cs[k]? := partOf_one cs k isagg_159 size_159
@[go_sem] theorem store_159 (H : Heap) (b v k : Nat) (x : AV) : storeA Tryz.prog H 159 (.ptr b v k) x = if x.cells.length = 1 then storeCells H b v k x.cells else none := by unfold storeA; rw [size_159]
theorem isagg_160 : isAggT Tryz.prog 160 = some false := by kernel_rfl
@[go_sem] theorem part_160 (cs : List AV) (k : Nat) : partOf Tryz.prog 160 cs k = cs[k]? := partOf_one cs k isagg_160 size_160
@[go_sem] theorem store_160 (H : Heap) (b v k : Nat) (x : AV) : storeA Tryz.prog H 160 (.ptr b v k) x = if x.cells.length = 1 then storeCells H b v k x.cells else none := by unfold storeA; rw [size_160]
theorem isagg_162 : isAggT Tryz.prog 162 = some false := by kernel_rfl
@[go_sem] theorem part_162 (cs : List AV) (k : Nat) : partOf Tryz.prog 162 cs k = cs[k]? := partOf_one cs k isagg_162 size_162
@[go_sem] theorem store_162 (H : Heap) (b v k : Nat) (x : AV) : storeA Tryz.prog H 162 (.ptr b v k) x = if x.cells.length = 1 then storeCells H b v k x.cells else none := by unfold storeA; rw [size_162]
theorem isagg_163 : isAggT Tryz.prog 163 = some false := by kernel_rfl
@[go_sem] theorem part_163 (cs : List AV) (k : Nat) : partOf Tryz.prog 163 cs k = cs[k]? := partOf_one cs k isagg_163 size_163
@[go_sem] theorem store_163 (H : Heap) (b v k : Nat) (x : AV) : storeA Tryz.prog H 163 (.ptr b v k) x = if x.cells.length = 1 then storeCells H b v k x.cells else none := by unfold storeA; rw [size_163]
theorem isagg_164 : isAggT Tryz.prog 164 = some false := by kernel_rfl
@[go_sem] theorem part_164 (cs : List AV) (k : Nat) : partOf Tryz.prog 164 cs k = cs[k]? := partOf_one cs k isagg_164 size_164
@[go_sem] theorem store_164 (H : Heap) (b v k : Nat) (x : AV) : storeA Tryz.prog H 164 (.ptr b v k) x = if x.cells.length = 1 then storeCells H b v k x.cells else none := by unfold storeA; rw [size_164]
theorem isagg_166 : isAggT Tryz.prog 166 = some false := by kernel_rfl
@[go_sem] theorem part_166 (cs : List AV) (k : Nat) : partOf Tryz.prog 166 cs k = cs[k]? := partOf_one cs k isagg_166 size_166
@[go_sem] theorem store_166 (H : Heap) (b v k : Nat) (x : AV) : storeA Tryz.prog H 166 (.ptr b v k) x = if x.cells.length = 1 then storeCells H b v k x.cells else none := by unfold storeA; rw [size_166]
theorem isagg_167 : isAggT Tryz.prog 167 = some false := by kernel_rfl
@[go_sem] theorem part_167 (cs : List AV) (k : Nat) : partOf Tryz.prog 167 cs k = cs[k]? := partOf_one cs k isagg_167 size_167
@[go_sem] theorem store_167 (H : Heap) (b v k : Nat) (x : AV) : storeA Tryz.prog H 167 (.ptr b v k) x = if x.cells.length = 1 then storeCells H b v k x.cells else none := by unfold storeA; rw [size_167]
theorem isagg_168 : isAggT Tryz.prog 168 = some false := by kernel_rfl
@[go_sem] theorem part_168 (cs : List AV) (k : Nat) : partOf Tryz.prog 168 cs k = cs[k]? := partOf_one cs k isagg_168 size_168
@[go_sem] theorem store_168 (H : Heap) (b v k : Nat) (x : AV) : storeA Tryz.prog H 168 (.ptr b v k) x = if x.cells.length = 1 then storeCells H b v k x.cells else none := by unfold storeA; rw [size_168]
theorem isagg_169 : isAggT Tryz.prog 169 = some false := by kernel_rfl
@[go_sem] theorem part_169 (cs : List AV) (k : Nat) : partOf Tryz.prog 169 cs k = cs[k]? := partOf_one cs k isagg_169 size_169
@[go_sem] theorem store_169 (H : Heap) (b v k : Nat) (x : AV) : storeA Tryz.prog H 169 (.ptr b v k) x = if x.cells.length = 1 then storeCells H b v k x.cells else none := by unfold storeA; rw [size_169]
theorem isagg_170 : isAggT Tryz.prog 170 = some false := by kernel_rfl
@[go_sem] theorem part_170 (cs : List AV) (k : Nat) : partOf Tryz.prog 170 cs k = cs[k]? := partOf_one cs k isagg_170 size_170
@[go_sem] theorem store_170 (H : Heap) (b v k : Nat) (x : AV) : storeA Tryz.prog H 170 (.ptr b v k) x = if x.cells.length = 1 then storeCells H b v k x.cells else none := by unfold storeA; rw [size_170]
theorem isagg_171 : isAggT Tryz.prog 171 = some false := by kernel_rfl
@[go_sem] theorem part_171 (cs : List AV) (k : Nat) : partOf Tryz.prog 171 cs k = cs[k]? := partOf_one cs k isagg_171 size_171
@[go_sem] theorem store_171 (H : Heap) (b v k : Nat) (x : AV) : storeA Tryz.prog H 171 (.ptr b v k) x = if x.cells.length = 1 then storeCells H b v k x.cells else none := by unfold storeA; rw [size_171]
theorem isagg_172 : isAggT Tryz.prog 172 = some false := by kernel_rfl
@[go_sem] theorem part_172 (cs : List AV) (k : Nat) : partOf Tryz.prog 172 cs k = cs[k]? := partOf_one cs k isagg_172 size_172
@[go_sem] theorem store_172 (H : Heap) (b v k : Nat) (x : AV) : storeA Tryz.prog H 172 (.ptr b v k) x = if x.cells.length = 1 then storeCells H b v k x.cells else none := by unfold storeA; rw [size_172]
theorem isagg_173 : isAggT Tryz.prog 173 = some false := by kernel_rfl
@[go_sem] theorem part_173 (cs : List AV) (k : Nat) : partOf Tryz.prog 173 cs k = cs[k]? := partOf_one cs k isagg_173 size_173
@[go_sem] theorem store_173 (H : Heap) (b v k : Nat) (x : AV) : storeA Tryz.prog H 173 (.ptr b v k) x = if x.cells.length = 1 then storeCells H b v k x.cells else none := by unfold storeA; rw [size_173]
theorem isagg_174 : isAggT Tryz.prog 174 = some false := by kernel_rfl
@[go_sem] theorem part_174 (cs : List AV) (k : Nat) : partOf Tryz.prog 174 cs k = cs[k]? := partOf_one cs k isagg_174 size_174
@[go_sem] theorem store_174 (H : Heap) (b v k : Nat) (x : AV) : storeA Tryz.prog H 174 (.ptr b v k) x = if x.cells.length = 1 then storeCells H b v k x.cells else none := by unfold storeA; rw [size_174]
theorem isagg_175 : isAggT Tryz.prog 175 = some false := by kernel_rfl
@[go_sem] theorem part_175 (cs : List AV) (k : Nat) : partOf Tryz.prog 175 cs k = cs[k]? := partOf_one cs k isagg_175 size_175
@[go_sem] theorem store_175 (H : Heap) (b v k : Nat) (x : AV) : storeA Tryz.prog H 175 (.ptr b v k) x = if x.cells.length = 1 then storeCells H b v k x.cells else none := by unfold storeA; rw [size_175]
theorem isagg_176 : isAggT Tryz.prog 176 = some false := by kernel_rfl
@[go_sem] theorem part_176 (cs : List AV) (k : Nat) : partOf Tryz.prog 176 cs k = cs[k]? := partOf_one cs k isagg_176 size_176
@[go_sem] theorem store_176 (H : Heap) (b v k : Nat) (x : AV) : storeA Tryz.prog H 176 (.ptr b v k) x = if x.cells.length = 1 then storeCells H b v k x.cells else none := by unfold storeA; rw [size_176]
theorem isagg_177 : isAggT Tryz.prog 177 = some false := by kernel_rfl
@[go_sem] theorem part_177 (cs : List AV) (k : Nat) : partOf Tryz.prog 177 cs k = cs[k]? := partOf_one cs k isagg_177 size_177
@[go_sem] theorem store_177 (H : Heap) (b v k : Nat) (x : AV) : storeA Tryz.prog H 177 (.ptr b v k) x = if x.cells.length = 1 then storeCells H b v k x.cells else none := by unfold storeA; rw [size_177]
theorem isagg_178 : isAggT Tryz.prog 178 = some false := by kernel_rfl
@[go_sem] theorem part_178 (cs : List AV) (k : Nat) : partOf Tryz.prog 178 cs k = cs[k]? := partOf_one cs k isagg_178 size_178
@[go_sem] theorem store_178 (H : Heap) (b v k : Nat) (x : AV) : storeA Tryz.prog H 178 (.ptr b v k) x = if x.cells.length = 1 then storeCells H b v k x.cells else none := by unfold storeA; rw [size_178]
theorem isagg_179 : isAggT Tryz.prog 179 = some false := by kernel_rfl
@[go_sem] theorem part_179 (cs : List AV) (k : Nat) : partOf Tryz.prog 179 cs k = cs[k]? := partOf_one cs k isagg_179 size_179
@[go_sem] theorem store_179 (H : Heap) (b v k : Nat) (x : AV) : storeA Tryz.prog H 179 (.ptr b v k) x = if x.cells.length = 1 then storeCells H b v k x.cells else none := by unfold storeA; rw [size_179]
theorem isagg_180 : isAggT Tryz.prog 180 = some false := by kernel_rfl
@[go_sem] theorem part_180 (cs : List AV) (k : Nat) : partOf Tryz.prog 180 cs k = cs[k]? := partOf_one cs k isagg_180 size_180
@[go_sem] theorem store_180 (H : Heap) (b v k : Nat) (x : AV) : storeA Tryz.prog H 180 (.ptr b v k) x = if x.cells.length = 1 then storeCells H b v k x.cells else none := by unfold storeA; rw [size_180]
theorem isagg_181 : isAggT Tryz.prog 181 = some false := by kernel_rfl
@[go_sem] theorem part_181 (cs : List AV) (k : Nat) : partOf Tryz.prog 181 cs k = cs[k]? := partOf_one cs k isagg_181 size_181
@[go_sem] theorem store_181 (H : Heap) (b v k : Nat) (x : AV) : storeA Tryz.prog H 181 (.ptr b v k) x = if x.cells.length = 1 then storeCells H b v k x.cells else none := by unfold storeA; rw [size_181]
theorem isagg_182 : isAggT Tryz.prog 182 = some false := by kernel_rfl
@[go_sem] theorem part_182 (cs : List AV) (k : Nat) : partOf Tryz.prog 182 cs k = cs[k]? := partOf_one cs k isagg_182 size_182
@[go_sem] theorem store_182 (H : Heap) (b v k : Nat) (x : AV) : storeA Tryz.prog H 182 (.ptr b v k) x = if x.cells.length = 1 then storeCells H b v k x.cells else none := by unfold storeA; rw [size_182]
theorem isagg_183 : isAggT Tryz.prog 183 = some false := by kernel_rfl
@[go_sem] theorem part_183 (cs : List AV) (k : Nat) : partOf Tryz.prog 183 cs k = cs[k]? := partOf_one cs k isagg_183 size_183
@[go_sem] theorem store_183 (H : Heap) (b v k : Nat) (x : AV) : storeA Tryz.prog H 183 (.ptr b v k) x = if x.cells.length = 1 then storeCells H b v k x.cells else none := by unfold storeA; rw [size_183]
theorem isagg_184 : isAggT Tryz.prog 184 = some false := by kernel_rfl
@[go_sem] theorem part_184 (cs : List AV) (k : Nat) : partOf Tryz.prog 184 cs k = cs[k]? := partOf_one cs k isagg_184 size_184
@[go_sem] theorem store_184 (H : Heap) (b v k : Nat) (x : AV) : storeA Tryz.prog H 184 (.ptr b v k) x = if x.cells.length = 1 then storeCells H b v k x.cells else none := by unfold storeA; rw [size_184]
theorem isagg_186 : isAggT Tryz.prog 186 = some false := by kernel_rfl
@[go_sem] theorem part_186 (cs : List AV) (k : Nat) : partOf Tryz.prog 186 cs k = cs[k]? := partOf_one cs k isagg_186 size_186
@[go_sem] theorem store_186 (H : Heap) (b v k : Nat) (x : AV) : storeA Tryz.prog H 186 (.ptr b v k) x = if x.cells.length = 1 then storeCells H b v k x.cells else none := by unfold storeA; rw [size_186]
theorem isagg_187 : isAggT Tryz.prog 187 = some false := by kernel_rfl
@[go_sem] theorem part_187 (cs : List AV) (k : Nat) : partOf Tryz.prog 187 cs k = cs[k]? := partOf_one cs k isagg_187 size_187
@[go_sem] theorem store_187 (H : Heap) (b v k : Nat) (x : AV) : storeA Tryz.prog H 187 (.ptr b v k) x = if x.cells.length = 1 then storeCells H b v k x.cells else none := by unfold storeA; rw [size_187]
theorem isagg_188 : isAggT Tryz.prog 188 = some false := by kernel_rfl
@[go_sem] theorem part_188 (cs : List AV) (k : Nat) : partOf Tryz.prog 188 cs k = cs[k]? := partOf_one cs k isagg_188 size_188
@[go_sem] theorem store_188 (H : Heap) (b v k : Nat) (x : AV) : storeA Tryz.prog H 188 (.ptr b v k) x = if x.cells.length = 1 then storeCells H b v k x.cells else none := by unfold storeA; rw [size_188]
theorem isagg_189 : isAggT Tryz.prog 189 = some false := by kernel_rfl
@[go_sem] theorem part_189 (cs : List AV) (k : Nat) : partOf Tryz.prog 189 cs k = cs[k]? := partOf_one cs k isagg_189 size_189
@[go_sem] theorem store_189 (H : Heap) (b v k : Nat) (x : AV) : storeA Tryz.prog H 189 (.ptr b v k) x = if x.cells.length = 1 then storeCells H b v k x.cells else none := by unfold storeA; rw [size_189]
theorem isagg_190 : isAggT Tryz.prog 190 = some false := by kernel_rfl
@[go_sem] theorem part_190 (cs : List AV) (k : Nat) : partOf Tryz.prog 190 cs k = cs[k]? := partOf_one cs k isagg_190 size_190
@[go_sem] theorem store_190 (H : Heap) (b v k : Nat) (x : AV) : storeA Tryz.prog H 190 (.ptr b v k) x = if x.cells.length = 1 then storeCells H b v k x.cells else none := by unfold storeA; rw [size_190]
theorem isagg_191 : isAggT Tryz.prog 191 = some true := by kernel_rfl
@[go_sem] theorem part_191 (cs : List AV) (k : Nat) : partOf Tryz.prog 191 cs k = if k + 4 ≤ cs.length then some (.agg ((cs.drop k).take 4)) else none := partOf_agg cs k isagg_191 size_191
@[go_sem] theorem store_191 (H : Heap) (b v k : Nat) (x : AV) : storeA Tryz.prog H 191 (.ptr b v k) x = if x.cells.length = 4 then storeCells H b v k x.cells else none := by unfold storeA; rw [size_191]
theorem foff_191_0 : fieldOff Tryz.prog 191 0 = some (0, 1) := by kernel_rfl
@[go_sem] theorem fptr_191_0 (b v k : Nat) : fieldAddrA Tryz.prog 191 (.ptr b v k) 0 = some (.ptr b v (k + 0)) := fieldAddr_ptr foff_191_0 b v k
@[go_sem] theorem fro_191_0 (z : AV) (k : Nat) : fieldAddrA Tryz.prog 191 (.ro z k) 0 = some (.ro z (k + 0)) := fieldAddr_ro foff_191_0 z k
theorem foff_191_1 : fieldOff Tryz.prog 191 1 = some (1, 1) := by kernel_rfl
@[go_sem] theorem fptr_191_1 (b v k : Nat) : fieldAddrA Tryz.prog 191 (.ptr b v k) 1 = some (.ptr b v (k + 1)) := fieldAddr_ptr foff_191_1 b v k
@[go_sem] theorem fro_191_1 (z : AV) (k : Nat) : fieldAddrA Tryz.prog 191 (.ro z k) 1 = some (.ro z (k + 1)) := fieldAddr_ro foff_191_1 z k
theorem foff_191_2 : fieldOff Tryz.prog 191 2 = some (2, 1) := by kernel_rfl
@[go_sem] theorem fptr_191_2 (b v k : Nat) : fieldAddrA Tryz.prog 191 (.ptr b v k) 2 = some (.ptr b v (k + 2)) := fieldAddr_ptr foff_191_2 b v k
@[go_sem] theorem fro_191_2 (z : AV) (k : Nat) : fieldAddrA Tryz.prog 191 (.ro z k) 2 = some (.ro z (k + 2)) := fieldAddr_ro foff_191_2 z k
theorem foff_191_3 : fieldOff Tryz.prog 191 3 = some (3, 1) := by kernel_rfl
@[go_sem] theorem fptr_191_3 (b v k : Nat) : fieldAddrA Tryz.prog 191 (.ptr b v k) 3 = some (.ptr b v (k + 3)) := fieldAddr_ptr foff_191_3 b v k
@[go_sem] theorem fro_191_3 (z : AV) (k : Nat) : fieldAddrA Tryz.prog 191 (.ro z k) 3 = some (.ro z (k + 3)) := fieldAddr_ro foff_191_3 z k
@[go_sem] theorem build_191 (ps : List (Nat × AV)) : buildA Tryz.prog 191 ps = (fillA (fun i => ([(0, 1), (1, 1), (2, 1), (3, 1)] : List (Nat × Nat))[i]?) [.v (.pointer none), .v (.pointer none), .v (.pointer none), .v (.string ⟨#[]⟩)] ps).map .agg := by kernel_rfl
theorem isagg_192 : isAggT Tryz.prog 192 = some true := by kernel_rfl
@[go_sem] theorem part_192 (cs : List AV) (k : Nat) : partOf Tryz.prog 192 cs k = if k + 4 ≤ cs.length then some (.agg ((cs.drop k).take 4)) else none := partOf_agg cs k isagg_192 size_192
@[go_sem] theorem store_192 (H : Heap) (b v k : Nat) (x : AV) : storeA Tryz.prog H 192 (.ptr b v k) x = if x.cells.length = 4 then storeCells H b v k x.cells else none := by unfold storeA; rw [size_192]
theorem foff_192_0 : fieldOff Tryz.prog 192 0 = some (0, 1) := by kernel_rfl
@[go_sem] theorem fptr_192_0 (b v k : Nat) : fieldAddrA Tryz.prog 192 (.ptr b v k) 0 = some (.ptr b v (k + 0)) := fieldAddr_ptr foff_192_0 b v k
@[go_sem] theorem fro_192_0 (z : AV) (k : Nat) : fieldAddrA Tryz.prog 192 (.ro z k) 0 = some (.ro z (k + 0)) := fieldAddr_ro foff_192_0 z k
theorem foff_192_1 : fieldOff Tryz.prog 192 1 = some (1, 1) := by kernel_rfl
@[go_sem] theorem fptr_192_1 (b v k : Nat) : fieldAddrA Tryz.prog 192 (.ptr b v k) 1 = some (.ptr b v (k + 1)) := fieldAddr_ptr foff_192_1 b v k
@[go_sem] theorem fro_192_1 (z : AV) (k : Nat) : fieldAddrA Tryz.prog 192 (.ro z k) 1 = some (.ro z (k + 1)) := fieldAddr_ro foff_192_1 z k
theorem foff_192_2 : fieldOff Tryz.prog 192 2 = some (2, 1) := by kernel_rfl
@[go_sem] theorem fptr_192_2 (b v k : Nat) : fieldAddrA Tryz.prog 192 (.ptr b v k) 2 = some (.ptr b v (k + 2)) := fieldAddr_ptr foff_192_2 b v k
@[go_sem] theorem fro_192_2 (z : AV) (k : Nat) : fieldAddrA Tryz.prog 192 (.ro z k) 2 = some (.ro z (k + 2)) := fieldAddr_ro foff_192_2 z k
theorem foff_192_3 : fieldOff Tryz.prog 192 3 = some (3, 1) := by kernel_rfl
@[go_sem] theorem fptr_192_3 (b v k : Nat) : fieldAddrA Tryz.prog 192 (.ptr b v k) 3 = some (.ptr b v (k + 3)) := fieldAddr_ptr foff_192_3 b v k
@[go_sem] theorem fro_192_3 (z : AV) (k : Nat) : fieldAddrA Tryz.prog 192 (.ro z k) 3 = some (.ro z (k + 3)) := fieldAddr_ro foff_192_3 z k
@[go_sem] theorem build_192 (ps : List (Nat × AV)) : buildA Tryz.prog 192 ps = (fillA (fun i => ([(0, 1), (1, 1), (2, 1), (3, 1)] : List (Nat × Nat))[i]?) [.v (.pointer none), .v (.pointer none), .v (.pointer none), .v (.string ⟨#[]⟩)] ps).map .agg := by kernel_rfl
theorem isagg_193 : isAggT Tryz.prog 193 = some true := by kernel_rfl
@[go_sem] theorem part_193 (cs : List AV) (k : Nat) : partOf Tryz.prog 193 cs k = if k + 0 ≤ cs.length then some (.agg ((cs.drop k).take 0)) else none := partOf_agg cs k isagg_193 size_193
@[go_sem] theorem store_193 (H : Heap) (b v k : Nat) (x : AV) : storeA Tryz.prog H 193 (.ptr b v k) x = if x.cells.length = 0 then storeCells H b v k x.cells else none := by unfold storeA; rw [size_193]
theorem isagg_194 : isAggT Tryz.prog 194 = some true := by kernel_rfl
@[go_sem] theorem part_194 (cs : List AV) (k : Nat) : partOf Tryz.prog 194 cs k = if k + 0 ≤ cs.length then some (.agg ((cs.drop k).take 0)) else none := partOf_agg cs k isagg_194 size_194
@[go_sem] theorem store_194 (H : Heap) (b v k : Nat) (x : AV) : storeA Tryz.prog H 194 (.ptr b v k) x = if x.cells.length = 0 then storeCells H b v k x.cells else none := by unfold storeA; rw [size_194]
@[go_sem] theorem build_194 (ps : List (Nat × AV)) : buildA Tryz.prog 194 ps = (fillA (fun i => ([(0, 0)] : List (Nat × Nat))[i]?) [] ps).map .agg := by kernel_rfl
theorem isagg_195 : isAggT Tryz.prog 195 = some true := by kernel_rfl
@[go_sem] theorem part_195 (cs : List AV) (k : Nat) : partOf Tryz.prog 195 cs k = if k + 0 ≤ cs.length then some (.agg ((cs.drop k).take 0)) else none := partOf_agg cs k isagg_195 size_195
@[go_sem] theorem store_195 (H : Heap) (b v k : Nat) (x : AV) : storeA Tryz.prog H 195 (.ptr b v k) x = if x.cells.length = 0 then storeCells H b v k x.cells else none := by unfold storeA; rw [size_195]
@[go_sem] theorem build_195 (ps : List (Nat × AV)) : buildA Tryz.prog 195 ps = (fillA (fun i => ([(0, 0)] : List (Nat × Nat))[i]?) [] ps).map .agg := by kernel_rfl
theorem isagg_196 : isAggT Tryz.prog 196 = some false := by kernel_rfl
@[go_sem] theorem part_196 (cs : List AV) (k : Nat) : partOf Tryz.prog 196 cs k = cs[k]? := partOf_one cs k isagg_196 size_196
@[go_sem] theorem store_196 (H : Heap) (b v k : Nat) (x : AV) : storeA Tryz.prog H 196 (.ptr b v k) x = if x.cells.length = 1 then storeCells H b v k x.cells else none := by unfold storeA; rw [size_196]
theorem isagg_197 : isAggT Tryz.prog 197 = some false := by kernel_rfl
@[go_sem] theorem part_197 (cs : List AV) (k : Nat) : partOf Tryz.prog 197 cs k = cs[k]? := partOf_one cs k isagg_197 size_197
@[go_sem] theorem store_197 (H : Heap) (b v k : Nat) (x : AV) : storeA Tryz.prog H 197 (.ptr b v k) x = if x.cells.length = 1 then storeCells H b v k x.cells else none := by unfold storeA; rw [size_197]
theorem isagg_198 : isAggT Tryz.prog 198 = some false := by kernel_rfl
@[go_sem] theorem part_198 (cs : List AV) (k : Nat) : partOf Tryz.prog 198 cs k = cs[k]? := partOf_one cs k isagg_198 size_198
@[go_sem] theorem store_198 (H : Heap) (b v k : Nat) (x : AV) : storeA Tryz.prog H 198 (.ptr b v k) x = if x.cells.length = 1 then storeCells H b v k x.cells else none := by unfold storeA; rw [size_198]
theorem isagg_199 : isAggT Tryz.prog 199 = some false := by kernel_rfl
@[go_sem] theorem part_199 (cs : List AV) (k : Nat) : partOf Tryz.prog 199 cs k = cs[k]? := partOf_one cs k isagg_199 size_199
@[go_sem] theorem store_199 (H : Heap) (b v k : Nat) (x : AV) : storeA Tryz.prog H 199 (.ptr b v k) x = if x.cells.length = 1 then storeCells H b v k x.cells else none := by unfold storeA; rw [size_199]
theorem isagg_200 : isAggT Tryz.prog 200 = some false := by kernel_rfl
@[go_sem] theorem part_200 (cs : List AV) (k : Nat) : partOf Tryz.prog 200 cs k = cs[k]? := partOf_one cs k isagg_200 size_200
@[go_sem] theorem store_200 (H : Heap) (b v k : Nat) (x : AV) : storeA Tryz.prog H 200 (.ptr b v k) x = if x.cells.length = 1 then storeCells H b v k x.cells else none := by unfold storeA; rw [size_200]
theorem isagg_201 : isAggT Tryz.prog 201 = some false := by kernel_rfl
@[go_sem] theorem part_201 (cs : List AV) (k : Nat) : partOf Tryz.prog 201 cs k = cs[k]? := partOf_one cs k isagg_201 size_201
@[go_sem] theorem store_201 (H : Heap) (b v k : Nat) (x : AV) : storeA Tryz.prog H 201 (.ptr b v k) x = if x.cells.length = 1 then storeCells H b v k x.cells else none := by unfold storeA; rw [size_201]
theorem isagg_202 : isAggT Tryz.prog 202 = some false := by kernel_rfl
@[go_sem] theorem part_202 (cs : List AV) (k : Nat) : partOf Tryz.prog 202 cs k = cs[k]? := partOf_one cs k isagg_202 size_202
@[go_sem] theorem store_202 (H : Heap) (b v k : Nat) (x : AV) : storeA Tryz.prog H 202 (.ptr b v k) x = if x.cells.length = 1 then storeCells H b v k x.cells else none := by unfold storeA; rw [size_202]
theorem isagg_203 : isAggT Tryz.prog 203 = some true := by kernel_rfl
@[go_sem] theorem part_203 (cs : List AV) (k : Nat) : partOf Tryz.prog 203 cs k = if k + 11 ≤ cs.length then some (.agg ((cs.drop k).take 11)) else none := partOf_agg cs k isagg_203 size_203
@[go_sem] theorem store_203 (H : Heap) (b v k : Nat) (x : AV) : storeA Tryz.prog H 203 (.ptr b v k) x = if x.cells.length = 11 then storeCells H b v k x.cells else none := by unfold storeA; rw [size_203]
theorem foff_203_0 : fieldOff Tryz.prog 203 0 = some (0, 1) := by kernel_rfl
@[go_sem] theorem fptr_203_0 (b v k : Nat) : fieldAddrA Tryz.prog 203 (.ptr b v k) 0 = some (.ptr b v (k + 0)) := fieldAddr_ptr foff_203_0 b v k
@[go_sem] theorem fro_203_0 (z : AV) (k : Nat) : fieldAddrA Tryz.prog 203 (.ro z k) 0 = some (.ro z (k + 0)) := fieldAddr_ro foff_203_0 z k
theorem foff_203_1 : fieldOff Tryz.prog 203 1 = some (1, 1) := by kernel_rfl
@[go_sem] theorem fptr_203_1 (b v k : Nat) : fieldAddrA Tryz.prog 203 (.ptr b v k) 1 = some (.ptr b v (k + 1)) := fieldAddr_ptr foff_203_1 b v k
@[go_sem] theorem fro_203_1 (z : AV) (k : Nat) : fieldAddrA Tryz.prog 203 (.ro z k) 1 = some (.ro z (k + 1)) := fieldAddr_ro foff_203_1 z k
theorem foff_203_2 : fieldOff Tryz.prog 203 2 = some (2, 1) := by kernel_rfl
@[go_sem] theorem fptr_203_2 (b v k : Nat) : fieldAddrA Tryz.prog 203 (.ptr b v k) 2 = some (.ptr b v (k + 2)) := fieldAddr_ptr foff_203_2 b v k
@[go_sem] theorem fro_203_2 (z : AV) (k : Nat) : fieldAddrA Tryz.prog 203 (.ro z k) 2 = some (.ro z (k + 2)) := fieldAddr_ro foff_203_2 z k
theorem foff_203_3 : fieldOff Tryz.prog 203 3 = some (3, 1) := by kernel_rfl
@[go_sem] theorem fptr_203_3 (b v k : Nat) : fieldAddrA Tryz.prog 203 (.ptr b v k) 3 = some (.ptr b v (k + 3)) := fieldAddr_ptr foff_203_3 b v k
@[go_sem] theorem fro_203_3 (z : AV) (k : Nat) : fieldAddrA Tryz.prog 203 (.ro z k) 3 = some (.ro z (k + 3)) := fieldAddr_ro foff_203_3 z k
theorem foff_203_4 : fieldOff Tryz.prog 203 4 = some (4, 1) := by kernel_rfl
@[go_sem] theorem fptr_203_4 (b v k : Nat) : fieldAddrA Tryz.prog 203 (.ptr b v k) 4 = some (.ptr b v (k + 4)) := fieldAddr_ptr foff_203_4 b v k
@[go_sem] theorem fro_203_4 (z : AV) (k : Nat) : fieldAddrA Tryz.prog 203 (.ro z k) 4 = some (.ro z (k + 4)) := fieldAddr_ro foff_203_4 z k
theorem foff_203_5 : fieldOff Tryz.prog 203 5 = some (5, 1) := by kernel_rfl
@[go_sem] theorem fptr_203_5 (b v k : Nat) : fieldAddrA Tryz.prog 203 (.ptr b v k) 5 = some (.ptr b v (k + 5)) := fieldAddr_ptr foff_203_5 b v k
@[go_sem] theorem fro_203_5 (z : AV) (k : Nat) : fieldAddrA Tryz.prog 203 (.ro z k) 5 = some (.ro z (k + 5)) := fieldAddr_ro foff_203_5 z k
theorem foff_203_6 : fieldOff Tryz.prog 203 6 = some (6, 1) := by kernel_rfl
@[go_sem] theorem fptr_203_6 (b v k : Nat) : fieldAddrA Tryz.prog 203 (.ptr b v k) 6 = some (.ptr b v (k + 6)) := fieldAddr_ptr foff_203_6 b v k
@[go_sem] theorem fro_203_6 (z : AV) (k : Nat) : fieldAddrA Tryz.prog 203 (.ro z k) 6 = some (.ro z (k + 6)) := fieldAddr_ro foff_203_6 z k
theorem foff_203_7 : fieldOff Tryz.prog 203 7 = some (7, 1) := by kernel_rfl
@[go_sem] theorem fptr_203_7 (b v k : Nat) : fieldAddrA Tryz.prog 203 (.ptr b v k) 7 = some (.ptr b v (k + 7)) := fieldAddr_ptr foff_203_7 b v k
@[go_sem] theorem fro_203_7 (z : AV) (k : Nat) : fieldAddrA Tryz.prog 203 (.ro z k) 7 = some (.ro z (k + 7)) := fieldAddr_ro foff_203_7 z k
theorem foff_203_8 : fieldOff Tryz.prog 203 8 = some (8, 1) := by kernel_rfl
@[go_sem] theorem fptr_203_8 (b v k : Nat) : fieldAddrA Tryz.prog 203 (.ptr b v k) 8 = some (.ptr b v (k + 8)) := fieldAddr_ptr foff_203_8 b v k
@[go_sem] theorem fro_203_8 (z : AV) (k : Nat) : fieldAddrA Tryz.prog 203 (.ro z k) 8 = some (.ro z (k + 8)) := fieldAddr_ro foff_203_8 z k
theorem foff_203_9 : fieldOff Tryz.prog 203 9 = some (9, 1) := by kernel_rfl
@[go_sem] theorem fptr_203_9 (b v k : Nat) : fieldAddrA Tryz.prog 203 (.ptr b v k) 9 = some (.ptr b v (k + 9)) := fieldAddr_ptr foff_203_9 b v k
@[go_sem] theorem fro_203_9 (z : AV) (k : Nat) : fieldAddrA Tryz.prog 203 (.ro z k) 9 = some (.ro z (k + 9)) := fieldAddr_ro foff_203_9 z k
theorem foff_203_10 : fieldOff Tryz.prog 203 10 = some (10, 1) := by kernel_rfl
@[go_sem] theorem fptr_203_10 (b v k : Nat) : fieldAddrA Tryz.prog 203 (.ptr b v k) 10 = some (.ptr b v (k + 10)) := fieldAddr_ptr foff_203_10 b v k
@[go_sem] theorem fro_203_10 (z : AV) (k : Nat) : fieldAddrA Tryz.prog 203 (.ro z k) 10 = some (.ro z (k + 10)) := fieldAddr_ro foff_203_10 z k
@[go_sem] theorem build_203 (ps : List (Nat × AV)) : buildA Tryz.prog 203 ps = (fillA (fun i => ([(0, 1), (1, 1), (2, 1), (3, 1), (4, 1), (5, 1), (6, 1), (7, 1), (8, 1), (9, 1), (10, 1)] : List (Nat × Nat))[i]?) [.v (.int .u64 0), .v (.int .u64 0), .v (.int .u32 0), .v (.int .u8 0), .v (.int .u8 0), .v (.int .u8 0), .v (.int .u8 0), .v .nilFunc, .v (.pointer none), .v (.int .i32 0), .v (.int .i32 0)] ps).map .agg := by kernel_rfl
theorem isagg_204 : isAggT Tryz.prog 204 = some true := by kernel_rfl
@[go_sem] theorem part_204 (cs : List AV) (k : Nat) : partOf Tryz.prog 204 cs k = if k + 11 ≤ cs.length then some (.agg ((cs.drop k).take 11)) else none := partOf_agg cs k isagg_204 size_204
@[go_sem] theorem store_204 (H : Heap) (b v k : Nat) (x : AV) : storeA Tryz.prog H 204 (.ptr b v k) x = if x.cells.length = 11 then storeCells H b v k x.cells else none := by unfold storeA; rw [size_204]
theorem foff_204_0 : fieldOff Tryz.prog 204 0 = some (0, 1) := by kernel_rfl
@[go_sem] theorem fptr_204_0 (b v k : Nat) : fieldAddrA Tryz.prog 204 (.ptr b v k) 0 = some (.ptr b v (k + 0)) := fieldAddr_ptr foff_204_0 b v k
@[go_sem] theorem fro_204_0 (z : AV) (k : Nat) : fieldAddrA Tryz.prog 204 (.ro z k) 0 = some (.ro z (k + 0)) := fieldAddr_ro foff_204_0 z k
theorem foff_204_1 : fieldOff Tryz.prog 204 1 = some (1, 1) := by kernel_rfl
@[go_sem] theorem fptr_204_1 (b v k : Nat) : fieldAddrA Tryz.prog 204 (.ptr b v k) 1 = some (.ptr b v (k + 1)) := fieldAddr_ptr foff_204_1 b v k
@[go_sem] theorem fro_204_1 (z : AV) (k : Nat) : fieldAddrA Tryz.prog 204 (.ro z k) 1 = some (.ro z (k + 1)) := fieldAddr_ro foff_204_1 z k
theorem foff_204_2 : fieldOff Tryz.prog 204 2 = some (2, 1) := by kernel_rfl
@[go_sem] theorem fptr_204_2 (b v k : Nat) : fieldAddrA Tryz.prog 204 (.ptr b v k) 2 = some (.ptr b v (k + 2)) := fieldAddr_ptr foff_204_2 b v k
@[go_sem] theorem fro_204_2 (z : AV) (k : Nat) : fieldAddrA Tryz.prog 204 (.ro z k) 2 = some (.ro z (k + 2)) := fieldAddr_ro foff_204_2 z k
theorem foff_204_3 : fieldOff Tryz.prog 204 3 = some (3, 1) := by kernel_rfl
@[go_sem] theorem fptr_204_3 (b v k : Nat) : fieldAddrA Tryz.prog 204 (.ptr b v k) 3 = some (.ptr b v (k + 3)) := fieldAddr_ptr foff_204_3 b v k
@[go_sem] theorem fro_204_3 (z : AV) (k : Nat) : fieldAddrA Tryz.prog 204 (.ro z k) 3 = some (.ro z (k + 3)) := fieldAddr_ro foff_204_3 z k
theorem foff_204_4 : fieldOff Tryz.prog 204 4 = some (4, 1) := by kernel_rfl
@[go_sem] theorem fptr_204_4 (b v k : Nat) : fieldAddrA Tryz.prog 204 (.ptr b v k) 4 = some (.ptr b v (k + 4)) := fieldAddr_ptr foff_204_4 b v k
@[go_sem] theorem fro_204_4 (z : AV) (k : Nat) : fieldAddrA Tryz.prog 204 (.ro z k) 4 = some (.ro z (k + 4)) := fieldAddr_ro foff_204_4 z k
theorem foff_204_5 : fieldOff Tryz.prog 204 5 = some (5, 1) := by kernel_rfl
@[go_sem] theorem fptr_204_5 (b v k : Nat) : fieldAddrA Tryz.prog 204 (.ptr b v k) 5 = some (.ptr b v (k + 5)) := fieldAddr_ptr foff_204_5 b v k
@[go_sem] theorem fro_204_5 (z : AV) (k : Nat) : fieldAddrA Tryz.prog 204 (.ro z k) 5 = some (.ro z (k + 5)) := fieldAddr_ro foff_204_5 z k
theorem foff_204_6 : fieldOff Tryz.prog 204 6 = some (6, 1) := by kernel_rfl
@[go_sem] theorem fptr_204_6 (b v k : Nat) : fieldAddrA Tryz.prog 204 (.ptr b v k) 6 = some (.ptr b v (k + 6)) := fieldAddr_ptr foff_204_6 b v k
@[go_sem] theorem fro_204_6 (z : AV) (k : Nat) : fieldAddrA Tryz.prog 204 (.ro z k) 6 = some (.ro z (k + 6)) := fieldAddr_ro foff_204_6 z k
theorem foff_204_7 : fieldOff Tryz.prog 204 7 = some (7, 1) := by kernel_rfl
@[go_sem] theorem fptr_204_7 (b v k : Nat) : fieldAddrA Tryz.prog 204 (.ptr b v k) 7 = some (.ptr b v (k + 7)) := fieldAddr_ptr foff_204_7 b v k
@[go_sem] theorem fro_204_7 (z : AV) (k : Nat) : fieldAddrA Tryz.prog 204 (.ro z k) 7 = some (.ro z (k + 7)) := fieldAddr_ro foff_204_7 z k
theorem foff_204_8 : fieldOff Tryz.prog 204 8 = some (8, 1) := by kernel_rfl
@[go_sem] theorem fptr_204_8 (b v k : Nat) : fieldAddrA Tryz.prog 204 (.ptr b v k) 8 = some (.ptr b v (k + 8)) := fieldAddr_ptr foff_204_8 b v k
@[go_sem] theorem fro_204_8 (z : AV) (k : Nat) : fieldAddrA Tryz.prog 204 (.ro z k) 8 = some (.ro z (k + 8)) := fieldAddr_ro foff_204_8 z k
theorem foff_204_9 : fieldOff Tryz.prog 204 9 = some (9, 1) := by kernel_rfl
@[go_sem] theorem fptr_204_9 (b v k : Nat) : fieldAddrA Tryz.prog 204 (.ptr b v k) 9 = some (.ptr b v (k + 9)) := fieldAddr_ptr foff_204_9 b v k
@[go_sem] theorem fro_204_9 (z : AV) (k : Nat) : fieldAddrA Tryz.prog 204 (.ro z k) 9 = some (.ro z (k + 9)) := fieldAddr_ro foff_204_9 z k
theorem foff_204_10 : fieldOff Tryz.prog 204 10 = some (10, 1) := by kernel_rfl
@[go_sem] theorem fptr_204_10 (b v k : Nat) : fieldAddrA Tryz.prog 204 (.ptr b v k) 10 = some (.ptr b v (k + 10)) := fieldAddr_ptr foff_204_10 b v k
@[go_sem] theorem fro_204_10 (z : AV) (k : Nat) : fieldAddrA Tryz.prog 204 (.ro z k) 10 = some (.ro z (k + 10)) := fieldAddr_ro foff_204_10 z k
@[go_sem] theorem build_204 (ps : List (Nat × AV)) : buildA Tryz.prog 204 ps = (fillA (fun i => ([(0, 1), (1, 1), (2, 1), (3, 1), (4, 1), (5, 1), (6, 1), (7, 1), (8, 1), (9, 1), (10, 1)] : List (Nat × Nat))[i]?) [.v (.int .u64 0), .v (.int .u64 0), .v (.int .u32 0), .v (.int .u8 0), .v (.int .u8 0), .v (.int .u8 0), .v (.int .u8 0), .v .nilFunc, .v (.pointer none), .v (.int .i32 0), .v (.int .i32 0)] ps).map .agg := by kernel_rfl
end Go.Ev
namespace Go.Ev
open Go.Proofs
set_option maxRecDepth 100000
set_option linter.unusedSimpArgs false
def firstLoop : Code → Option Code
  | .loop b => some b
  | .seq a b => (firstLoop a).orElse fun _ => firstLoop b
  | .block _ a => firstLoop a
  | .scope a => firstLoop a
  | .cond _ a b => (firstLoop a).orElse fun _ => firstLoop b
  | _ => none

def withinB (lo hi : Int) (ns : List Int) : Bool := ns.all fun n => decide (lo ≤ n) && decide (n ≤ hi)
def intA (n : Int) : AV := .v (.int .i64 n)
noncomputable def body69 : Code := ((Tryz.f69.body.bind firstLoop).getD .skip)
theorem loop69 {e : Exts} (lo hi : Int) (ns : List Int) (x : AV) (hx : SlOf 1 (ns.map intA) x) (hn : ns.length < 2 ^ 63) (H : Heap) (hH : H = ⟨[some (AObj.cells 0 0 120 1 false [intA lo, intA hi])], 0⟩) (K : Post) :
    ∀ m j : Nat, j + m = ns.length → (withinB lo hi (ns.drop j) = true → ∀ l, AtK K (.exit 0) ⟨24, l, []⟩ H) → (withinB lo hi (ns.drop j) = false → ∀ l, assoc 4 l = some (.v (.bool false)) → AtK K .ret ⟨24, l, []⟩ H) →
    Lp (Cx e) 69 none [0, 1, 2, 4, 7, 8, 9] body69 ⟨24, [(0, .agg [intA lo, intA hi]), (1, x), (2, .ptr 0 0 0), (4, .v (.bool false)), (7, x), (8, intA ns.length), (9, intA j)], []⟩ H K := by
  intro m
  induction m with
  | zero =>
    intro j hj h1 h2
    rw [Lp_step]
    generalize hK : loopK (Cx e) 69 none [0, 1, 2, 4, 7, 8, 9] body69 H.size K = KK
    unfold body69
    simp -implicitDefEqProofs only [Tryz.f69, firstLoop, Option.orElse_some, Option.orElse_none, Option.getD_some, intA, go_sem, repeatCells, splice, chunk, bsFin, ne_eq, not_true_eq_false, not_false_eq_true, List.headD_cons, Bool.false_eq_true, Nat.le_refl, Nat.zero_mul, Nat.one_mul, Nat.mul_one, assoc_setI, assoc_keep, ↓reduceIte, Nat.reduceEqDiff, Nat.reduceLT, Nat.reduceLeDiff, Nat.reduceAdd, Nat.reduceSub, Nat.reduceMul, decide_true, decide_false, Bool.not_true, Bool.not_false, List.mem_cons, List.not_mem_nil, true_or, or_true, false_or, or_false, and_true, true_and, and_self, List.getElem?_cons_succ, List.getElem?_cons_zero, Option.bind_some, Option.map_some, Option.map_none, List.map_cons, List.map_nil, List.length_cons, List.length_nil, List.filterMap_cons, List.filterMap_nil, List.cons_append, List.nil_append, List.append_nil, Nat.zero_add, Nat.add_zero, List.take_succ_cons, List.take_zero, List.take_nil, List.drop_succ_cons, List.drop_zero, List.drop_nil, List.all_cons, List.all_nil, Bool.and_true, Bool.true_and, Bool.false_and, Bool.and_false, reduceCtorEq, beq_iff_eq, beq_self_eq_true]
    obtain rfl : j = ns.length := by omega
    simp -implicitDefEqProofs only [go_sem, repeatCells, splice, chunk, bsFin, ne_eq, not_true_eq_false, not_false_eq_true, List.headD_cons, Bool.false_eq_true, Nat.le_refl, Nat.zero_mul, Nat.one_mul, Nat.mul_one, assoc_setI, assoc_keep, ↓reduceIte, Nat.reduceEqDiff, Nat.reduceLT, Nat.reduceLeDiff, Nat.reduceAdd, Nat.reduceSub, Nat.reduceMul, decide_true, decide_false, Bool.not_true, Bool.not_false, List.mem_cons, List.not_mem_nil, true_or, or_true, false_or, or_false, and_true, true_and, and_self, List.getElem?_cons_succ, List.getElem?_cons_zero, Option.bind_some, Option.map_some, Option.map_none, List.map_cons, List.map_nil, List.length_cons, List.length_nil, List.filterMap_cons, List.filterMap_nil, List.cons_append, List.nil_append, List.append_nil, Nat.zero_add, Nat.add_zero, List.take_succ_cons, List.take_zero, List.take_nil, List.drop_succ_cons, List.drop_zero, List.drop_nil, List.all_cons, List.all_nil, Bool.and_true, Bool.true_and, Bool.false_and, Bool.and_false, reduceCtorEq, beq_iff_eq, beq_self_eq_true, Int.lt_irrefl]
    subst hK
    simp -implicitDefEqProofs only [go_sem, repeatCells, splice, chunk, bsFin, ne_eq, not_true_eq_false, not_false_eq_true, List.headD_cons, Bool.false_eq_true, Nat.le_refl, Nat.zero_mul, Nat.one_mul, Nat.mul_one, assoc_setI, assoc_keep, ↓reduceIte, Nat.reduceEqDiff, Nat.reduceLT, Nat.reduceLeDiff, Nat.reduceAdd, Nat.reduceSub, Nat.reduceMul, decide_true, decide_false, Bool.not_true, Bool.not_false, List.mem_cons, List.not_mem_nil, true_or, or_true, false_or, or_false, and_true, true_and, and_self, List.getElem?_cons_succ, List.getElem?_cons_zero, Option.bind_some, Option.map_some, Option.map_none, List.map_cons, List.map_nil, List.length_cons, List.length_nil, List.filterMap_cons, List.filterMap_nil, List.cons_append, List.nil_append, List.append_nil, Nat.zero_add, Nat.add_zero, List.take_succ_cons, List.take_zero, List.take_nil, List.drop_succ_cons, List.drop_zero, List.drop_nil, List.all_cons, List.all_nil, Bool.and_true, Bool.true_and, Bool.false_and, Bool.and_false, reduceCtorEq, beq_iff_eq, beq_self_eq_true]
    exact h1 (by simp [withinB]) _
  | succ m ih =>
    intro j hj h1 h2
    rw [Lp_step]
    generalize hK : loopK (Cx e) 69 none [0, 1, 2, 4, 7, 8, 9] body69 H.size K = KK
    unfold body69
    have hlt : (j : Int) < (ns.length : Int) := by omega
    have hy : (ns.map intA)[j]? = some (intA ns[j]) := by rw [List.getElem?_map, List.getElem?_eq_getElem (by omega)]; rfl
    have hw := wrap_succ j (by omega)
    have hd : withinB lo hi (ns.drop j) = ((decide (lo ≤ ns[j]) && decide (ns[j] ≤ hi)) && withinB lo hi (ns.drop (j + 1))) := by
      rw [List.drop_eq_getElem_cons (by omega : j < ns.length)]; rfl
    simp only [Tryz.f69, firstLoop, Option.orElse_some, Option.orElse_none, Option.getD_some, Option.bind_some]
    by_cases c1 : ns[j] < lo
    · simp -implicitDefEqProofs only [go_sem, repeatCells, splice, chunk, bsFin, ne_eq, not_true_eq_false, not_false_eq_true, List.headD_cons, Bool.false_eq_true, Nat.le_refl, Nat.zero_mul, Nat.one_mul, Nat.mul_one, assoc_setI, assoc_keep, ↓reduceIte, Nat.reduceEqDiff, Nat.reduceLT, Nat.reduceLeDiff, Nat.reduceAdd, Nat.reduceSub, Nat.reduceMul, decide_true, decide_false, Bool.not_true, Bool.not_false, List.mem_cons, List.not_mem_nil, true_or, or_true, false_or, or_false, and_true, true_and, and_self, List.getElem?_cons_succ, List.getElem?_cons_zero, Option.bind_some, Option.map_some, Option.map_none, List.map_cons, List.map_nil, List.length_cons, List.length_nil, List.filterMap_cons, List.filterMap_nil, List.cons_append, List.nil_append, List.append_nil, Nat.zero_add, Nat.add_zero, List.take_succ_cons, List.take_zero, List.take_nil, List.drop_succ_cons, List.drop_zero, List.drop_nil, List.all_cons, List.all_nil, Bool.and_true, Bool.true_and, Bool.false_and, Bool.and_false, reduceCtorEq, beq_iff_eq, beq_self_eq_true, hH, intA, hlt, hw, hx.idx hy, c1]
      subst hK
      simp -implicitDefEqProofs only [go_sem, repeatCells, splice, chunk, bsFin, ne_eq, not_true_eq_false, not_false_eq_true, List.headD_cons, Bool.false_eq_true, Nat.le_refl, Nat.zero_mul, Nat.one_mul, Nat.mul_one, assoc_setI, assoc_keep, ↓reduceIte, Nat.reduceEqDiff, Nat.reduceLT, Nat.reduceLeDiff, Nat.reduceAdd, Nat.reduceSub, Nat.reduceMul, decide_true, decide_false, Bool.not_true, Bool.not_false, List.mem_cons, List.not_mem_nil, true_or, or_true, false_or, or_false, and_true, true_and, and_self, List.getElem?_cons_succ, List.getElem?_cons_zero, Option.bind_some, Option.map_some, Option.map_none, List.map_cons, List.map_nil, List.length_cons, List.length_nil, List.filterMap_cons, List.filterMap_nil, List.cons_append, List.nil_append, List.append_nil, Nat.zero_add, Nat.add_zero, List.take_succ_cons, List.take_zero, List.take_nil, List.drop_succ_cons, List.drop_zero, List.drop_nil, List.all_cons, List.all_nil, Bool.and_true, Bool.true_and, Bool.false_and, Bool.and_false, reduceCtorEq, beq_iff_eq, beq_self_eq_true]
      rw [← intA, ← intA, ← hH]
      exact h2 (by rw [hd]; simp; omega) _ rfl
    · by_cases c2 : hi < ns[j]
      · simp -implicitDefEqProofs only [go_sem, repeatCells, splice, chunk, bsFin, ne_eq, not_true_eq_false, not_false_eq_true, List.headD_cons, Bool.false_eq_true, Nat.le_refl, Nat.zero_mul, Nat.one_mul, Nat.mul_one, assoc_setI, assoc_keep, ↓reduceIte, Nat.reduceEqDiff, Nat.reduceLT, Nat.reduceLeDiff, Nat.reduceAdd, Nat.reduceSub, Nat.reduceMul, decide_true, decide_false, Bool.not_true, Bool.not_false, List.mem_cons, List.not_mem_nil, true_or, or_true, false_or, or_false, and_true, true_and, and_self, List.getElem?_cons_succ, List.getElem?_cons_zero, Option.bind_some, Option.map_some, Option.map_none, List.map_cons, List.map_nil, List.length_cons, List.length_nil, List.filterMap_cons, List.filterMap_nil, List.cons_append, List.nil_append, List.append_nil, Nat.zero_add, Nat.add_zero, List.take_succ_cons, List.take_zero, List.take_nil, List.drop_succ_cons, List.drop_zero, List.drop_nil, List.all_cons, List.all_nil, Bool.and_true, Bool.true_and, Bool.false_and, Bool.and_false, reduceCtorEq, beq_iff_eq, beq_self_eq_true, hH, intA, hlt, hw, hx.idx hy, c1, c2]
        subst hK
        simp -implicitDefEqProofs only [go_sem, repeatCells, splice, chunk, bsFin, ne_eq, not_true_eq_false, not_false_eq_true, List.headD_cons, Bool.false_eq_true, Nat.le_refl, Nat.zero_mul, Nat.one_mul, Nat.mul_one, assoc_setI, assoc_keep, ↓reduceIte, Nat.reduceEqDiff, Nat.reduceLT, Nat.reduceLeDiff, Nat.reduceAdd, Nat.reduceSub, Nat.reduceMul, decide_true, decide_false, Bool.not_true, Bool.not_false, List.mem_cons, List.not_mem_nil, true_or, or_true, false_or, or_false, and_true, true_and, and_self, List.getElem?_cons_succ, List.getElem?_cons_zero, Option.bind_some, Option.map_some, Option.map_none, List.map_cons, List.map_nil, List.length_cons, List.length_nil, List.filterMap_cons, List.filterMap_nil, List.cons_append, List.nil_append, List.append_nil, Nat.zero_add, Nat.add_zero, List.take_succ_cons, List.take_zero, List.take_nil, List.drop_succ_cons, List.drop_zero, List.drop_nil, List.all_cons, List.all_nil, Bool.and_true, Bool.true_and, Bool.false_and, Bool.and_false, reduceCtorEq, beq_iff_eq, beq_self_eq_true]
        rw [← intA, ← intA, ← hH]
        exact h2 (by rw [hd]; simp; omega) _ rfl
      · simp -implicitDefEqProofs only [go_sem, repeatCells, splice, chunk, bsFin, ne_eq, not_true_eq_false, not_false_eq_true, List.headD_cons, Bool.false_eq_true, Nat.le_refl, Nat.zero_mul, Nat.one_mul, Nat.mul_one, assoc_setI, assoc_keep, ↓reduceIte, Nat.reduceEqDiff, Nat.reduceLT, Nat.reduceLeDiff, Nat.reduceAdd, Nat.reduceSub, Nat.reduceMul, decide_true, decide_false, Bool.not_true, Bool.not_false, List.mem_cons, List.not_mem_nil, true_or, or_true, false_or, or_false, and_true, true_and, and_self, List.getElem?_cons_succ, List.getElem?_cons_zero, Option.bind_some, Option.map_some, Option.map_none, List.map_cons, List.map_nil, List.length_cons, List.length_nil, List.filterMap_cons, List.filterMap_nil, List.cons_append, List.nil_append, List.append_nil, Nat.zero_add, Nat.add_zero, List.take_succ_cons, List.take_zero, List.take_nil, List.drop_succ_cons, List.drop_zero, List.drop_nil, List.all_cons, List.all_nil, Bool.and_true, Bool.true_and, Bool.false_and, Bool.and_false, reduceCtorEq, beq_iff_eq, beq_self_eq_true, hH, intA, hlt, hw, hx.idx hy, c1, c2]
        subst hK
        simp -implicitDefEqProofs only [go_sem, repeatCells, splice, chunk, bsFin, ne_eq, not_true_eq_false, not_false_eq_true, List.headD_cons, Bool.false_eq_true, Nat.le_refl, Nat.zero_mul, Nat.one_mul, Nat.mul_one, assoc_setI, assoc_keep, ↓reduceIte, Nat.reduceEqDiff, Nat.reduceLT, Nat.reduceLeDiff, Nat.reduceAdd, Nat.reduceSub, Nat.reduceMul, decide_true, decide_false, Bool.not_true, Bool.not_false, List.mem_cons, List.not_mem_nil, true_or, or_true, false_or, or_false, and_true, true_and, and_self, List.getElem?_cons_succ, List.getElem?_cons_zero, Option.bind_some, Option.map_some, Option.map_none, List.map_cons, List.map_nil, List.length_cons, List.length_nil, List.filterMap_cons, List.filterMap_nil, List.cons_append, List.nil_append, List.append_nil, Nat.zero_add, Nat.add_zero, List.take_succ_cons, List.take_zero, List.take_nil, List.drop_succ_cons, List.drop_zero, List.drop_nil, List.all_cons, List.all_nil, Bool.and_true, Bool.true_and, Bool.false_and, Bool.and_false, reduceCtorEq, beq_iff_eq, beq_self_eq_true, hH]
        have hd' : withinB lo hi (ns.drop j) = withinB lo hi (ns.drop (j + 1)) := by rw [hd]; simp; omega
        rw [hd'] at h1 h2
        have := ih (j + 1) (by omega) h1 h2
        rw [hH] at this
        exact this
set_option maxHeartbeats 1000000 in
theorem ans69 {e : Exts} (lo hi : Int) (ns : List Int) (hn : ns.length < 2 ^ 63) (x : AV) (hx : SlOf 1 (ns.map intA) x) : Ans (Cx e) 69 [.agg [intA lo, intA hi], x] (.v (.bool (withinB lo hi ns))) := by
  unfold Ans
  rw [fn_step (fn_69 e) (show Tryz.f69.body = some _ from rfl)]
  simp -implicitDefEqProofs only [Tryz.f69, intA, go_sem, repeatCells, splice, chunk, bsFin, ne_eq, not_true_eq_false, not_false_eq_true, List.headD_cons, Bool.false_eq_true, Nat.le_refl, Nat.zero_mul, Nat.one_mul, Nat.mul_one, assoc_setI, assoc_keep, ↓reduceIte, Nat.reduceEqDiff, Nat.reduceLT, Nat.reduceLeDiff, Nat.reduceAdd, Nat.reduceSub, Nat.reduceMul, decide_true, decide_false, Bool.not_true, Bool.not_false, List.mem_cons, List.not_mem_nil, true_or, or_true, false_or, or_false, and_true, true_and, and_self, List.getElem?_cons_succ, List.getElem?_cons_zero, Option.bind_some, Option.map_some, Option.map_none, List.map_cons, List.map_nil, List.length_cons, List.length_nil, List.filterMap_cons, List.filterMap_nil, List.cons_append, List.nil_append, List.append_nil, Nat.zero_add, Nat.add_zero, List.take_succ_cons, List.take_zero, List.take_nil, List.drop_succ_cons, List.drop_zero, List.drop_nil, List.all_cons, List.all_nil, Bool.and_true, Bool.true_and, Bool.false_and, Bool.and_false, reduceCtorEq, beq_iff_eq, beq_self_eq_true, hx.len, List.length_map]
  refine loop69 lo hi ns x hx hn _ rfl _ ns.length 0 (by omega) ?_ ?_
  · intro h l
    simp -implicitDefEqProofs only [go_sem, repeatCells, splice, chunk, bsFin, ne_eq, not_true_eq_false, not_false_eq_true, List.headD_cons, Bool.false_eq_true, Nat.le_refl, Nat.zero_mul, Nat.one_mul, Nat.mul_one, assoc_setI, assoc_keep, ↓reduceIte, Nat.reduceEqDiff, Nat.reduceLT, Nat.reduceLeDiff, Nat.reduceAdd, Nat.reduceSub, Nat.reduceMul, decide_true, decide_false, Bool.not_true, Bool.not_false, List.mem_cons, List.not_mem_nil, true_or, or_true, false_or, or_false, and_true, true_and, and_self, List.getElem?_cons_succ, List.getElem?_cons_zero, Option.bind_some, Option.map_some, Option.map_none, List.map_cons, List.map_nil, List.length_cons, List.length_nil, List.filterMap_cons, List.filterMap_nil, List.cons_append, List.nil_append, List.append_nil, Nat.zero_add, Nat.add_zero, List.take_succ_cons, List.take_zero, List.take_nil, List.drop_succ_cons, List.drop_zero, List.drop_nil, List.all_cons, List.all_nil, Bool.and_true, Bool.true_and, Bool.false_and, Bool.and_false, reduceCtorEq, beq_iff_eq, beq_self_eq_true]
    rw [List.drop_zero] at h
    rw [h]
  · intro h l hl
    rw [List.drop_zero] at h
    simp -implicitDefEqProofs only [go_sem, repeatCells, splice, chunk, bsFin, ne_eq, not_true_eq_false, not_false_eq_true, List.headD_cons, Bool.false_eq_true, Nat.le_refl, Nat.zero_mul, Nat.one_mul, Nat.mul_one, assoc_setI, assoc_keep, ↓reduceIte, Nat.reduceEqDiff, Nat.reduceLT, Nat.reduceLeDiff, Nat.reduceAdd, Nat.reduceSub, Nat.reduceMul, decide_true, decide_false, Bool.not_true, Bool.not_false, List.mem_cons, List.not_mem_nil, true_or, or_true, false_or, or_false, and_true, true_and, and_self, List.getElem?_cons_succ, List.getElem?_cons_zero, Option.bind_some, Option.map_some, Option.map_none, List.map_cons, List.map_nil, List.length_cons, List.length_nil, List.filterMap_cons, List.filterMap_nil, List.cons_append, List.nil_append, List.append_nil, Nat.zero_add, Nat.add_zero, List.take_succ_cons, List.take_zero, List.take_nil, List.drop_succ_cons, List.drop_zero, List.drop_nil, List.all_cons, List.all_nil, Bool.and_true, Bool.true_and, Bool.false_and, Bool.and_false, reduceCtorEq, beq_iff_eq, beq_self_eq_true, hl]
    rw [h]

/-! ### isWord -/
def letter (c : UInt8) : Bool := decide (97 ≤ (c.toNat : Int)) && decide ((c.toNat : Int) ≤ 122)
def lettersB (s : ByteArray) (j : Nat) : Bool := (s.data.toList.drop j).all letter
def wordB (s : ByteArray) : Bool := withinB 1 12 [(s.size : Int)] && lettersB s 0
noncomputable def body49 : Code := ((Tryz.f49.body.bind firstLoop).getD .skip)
theorem strAt_lt (s : ByteArray) (j : Nat) (h : j < s.size) : strAt s j = some (s.data.toList[j]'(by simpa using h)) := by
  unfold strAt; exact List.getElem?_eq_getElem _
set_option maxHeartbeats 1000000 in
theorem loop49 {e : Exts} (s : ByteArray) (hn : s.size < 2 ^ 63) (H : Heap) (K : Post) :
    ∀ m j : Nat, j + m = s.size → (lettersB s j = true → ∀ l, AtK K (.exit 0) ⟨26, l, []⟩ H) → (lettersB s j = false → ∀ l, assoc 2 l = some (.v (.bool false)) → AtK K .ret ⟨26, l, []⟩ H) →
    Lp (Cx e) 49 none [0, 2, 9, 11, 12] body49 ⟨26, [(0, .v (.string s)), (2, .v (.bool false)), (9, .v (.bool false)), (11, intA s.size), (12, intA j)], []⟩ H K := by
  intro m
  induction m with
  | zero =>
    intro j hj h1 h2
    rw [Lp_step]
    generalize hK : loopK (Cx e) 49 none [0, 2, 9, 11, 12] body49 H.size K = KK
    unfold body49
    obtain rfl : j = s.size := by omega
    simp -implicitDefEqProofs only [Tryz.f49, firstLoop, Option.orElse_some, Option.orElse_none, Option.getD_some, intA, go_sem, repeatCells, splice, chunk, bsFin, ne_eq, not_true_eq_false, not_false_eq_true, List.headD_cons, Bool.false_eq_true, Nat.le_refl, Nat.zero_mul, Nat.one_mul, Nat.mul_one, assoc_setI, assoc_keep, ↓reduceIte, Nat.reduceEqDiff, Nat.reduceLT, Nat.reduceLeDiff, Nat.reduceAdd, Nat.reduceSub, Nat.reduceMul, decide_true, decide_false, Bool.not_true, Bool.not_false, List.mem_cons, List.not_mem_nil, true_or, or_true, false_or, or_false, and_true, true_and, and_self, List.getElem?_cons_succ, List.getElem?_cons_zero, Option.bind_some, Option.map_some, Option.map_none, List.map_cons, List.map_nil, List.length_cons, List.length_nil, List.filterMap_cons, List.filterMap_nil, List.cons_append, List.nil_append, List.append_nil, Nat.zero_add, Nat.add_zero, List.take_succ_cons, List.take_zero, List.take_nil, List.drop_succ_cons, List.drop_zero, List.drop_nil, List.all_cons, List.all_nil, Bool.and_true, Bool.true_and, Bool.false_and, Bool.and_false, reduceCtorEq, beq_iff_eq, beq_self_eq_true, Int.lt_irrefl]
    subst hK
    simp -implicitDefEqProofs only [go_sem, repeatCells, splice, chunk, bsFin, ne_eq, not_true_eq_false, not_false_eq_true, List.headD_cons, Bool.false_eq_true, Nat.le_refl, Nat.zero_mul, Nat.one_mul, Nat.mul_one, assoc_setI, assoc_keep, ↓reduceIte, Nat.reduceEqDiff, Nat.reduceLT, Nat.reduceLeDiff, Nat.reduceAdd, Nat.reduceSub, Nat.reduceMul, decide_true, decide_false, Bool.not_true, Bool.not_false, List.mem_cons, List.not_mem_nil, true_or, or_true, false_or, or_false, and_true, true_and, and_self, List.getElem?_cons_succ, List.getElem?_cons_zero, Option.bind_some, Option.map_some, Option.map_none, List.map_cons, List.map_nil, List.length_cons, List.length_nil, List.filterMap_cons, List.filterMap_nil, List.cons_append, List.nil_append, List.append_nil, Nat.zero_add, Nat.add_zero, List.take_succ_cons, List.take_zero, List.take_nil, List.drop_succ_cons, List.drop_zero, List.drop_nil, List.all_cons, List.all_nil, Bool.and_true, Bool.true_and, Bool.false_and, Bool.and_false, reduceCtorEq, beq_iff_eq, beq_self_eq_true]
    exact h1 (by unfold lettersB; rw [List.drop_of_length_le (by simp)]; rfl) _
  | succ m ih =>
    intro j hj h1 h2
    rw [Lp_step]
    generalize hK : loopK (Cx e) 49 none [0, 2, 9, 11, 12] body49 H.size K = KK
    unfold body49
    have hlt : (j : Int) < (s.size : Int) := by omega
    have hy := strAt_lt s j (by omega)
    have hjl : j < s.data.toList.length := by simp; omega
    have hw := wrap_succ j (by omega)
    have hj0 : (0 : Int) ≤ (j : Int) := by omega
    generalize hc : s.data.toList[j] = c at hy
    have hd : lettersB s j = (letter c && lettersB s (j + 1)) := by
      unfold lettersB
      rw [List.drop_eq_getElem_cons (by simp; omega), ← hc]; rfl
    simp only [Tryz.f49, firstLoop, Option.orElse_some, Option.orElse_none, Option.getD_some, Option.bind_some]
    by_cases c1 : (c.toNat : Int) < 97
    · simp -implicitDefEqProofs only [go_sem, repeatCells, splice, chunk, bsFin, ne_eq, not_true_eq_false, not_false_eq_true, List.headD_cons, Bool.false_eq_true, Nat.le_refl, Nat.zero_mul, Nat.one_mul, Nat.mul_one, assoc_setI, assoc_keep, ↓reduceIte, Nat.reduceEqDiff, Nat.reduceLT, Nat.reduceLeDiff, Nat.reduceAdd, Nat.reduceSub, Nat.reduceMul, decide_true, decide_false, Bool.not_true, Bool.not_false, List.mem_cons, List.not_mem_nil, true_or, or_true, false_or, or_false, and_true, true_and, and_self, List.getElem?_cons_succ, List.getElem?_cons_zero, Option.bind_some, Option.map_some, Option.map_none, List.map_cons, List.map_nil, List.length_cons, List.length_nil, List.filterMap_cons, List.filterMap_nil, List.cons_append, List.nil_append, List.append_nil, Nat.zero_add, Nat.add_zero, List.take_succ_cons, List.take_zero, List.take_nil, List.drop_succ_cons, List.drop_zero, List.drop_nil, List.all_cons, List.all_nil, Bool.and_true, Bool.true_and, Bool.false_and, Bool.and_false, reduceCtorEq, beq_iff_eq, beq_self_eq_true, intA, hlt, hw, hy, c1, hj0, Int.toNat_natCast]
      subst hK
      simp -implicitDefEqProofs only [go_sem, repeatCells, splice, chunk, bsFin, ne_eq, not_true_eq_false, not_false_eq_true, List.headD_cons, Bool.false_eq_true, Nat.le_refl, Nat.zero_mul, Nat.one_mul, Nat.mul_one, assoc_setI, assoc_keep, ↓reduceIte, Nat.reduceEqDiff, Nat.reduceLT, Nat.reduceLeDiff, Nat.reduceAdd, Nat.reduceSub, Nat.reduceMul, decide_true, decide_false, Bool.not_true, Bool.not_false, List.mem_cons, List.not_mem_nil, true_or, or_true, false_or, or_false, and_true, true_and, and_self, List.getElem?_cons_succ, List.getElem?_cons_zero, Option.bind_some, Option.map_some, Option.map_none, List.map_cons, List.map_nil, List.length_cons, List.length_nil, List.filterMap_cons, List.filterMap_nil, List.cons_append, List.nil_append, List.append_nil, Nat.zero_add, Nat.add_zero, List.take_succ_cons, List.take_zero, List.take_nil, List.drop_succ_cons, List.drop_zero, List.drop_nil, List.all_cons, List.all_nil, Bool.and_true, Bool.true_and, Bool.false_and, Bool.and_false, reduceCtorEq, beq_iff_eq, beq_self_eq_true]
      exact h2 (by rw [hd]; simp [letter]; omega) _ rfl
    · by_cases c2 : 122 < (c.toNat : Int)
      · simp -implicitDefEqProofs only [go_sem, repeatCells, splice, chunk, bsFin, ne_eq, not_true_eq_false, not_false_eq_true, List.headD_cons, Bool.false_eq_true, Nat.le_refl, Nat.zero_mul, Nat.one_mul, Nat.mul_one, assoc_setI, assoc_keep, ↓reduceIte, Nat.reduceEqDiff, Nat.reduceLT, Nat.reduceLeDiff, Nat.reduceAdd, Nat.reduceSub, Nat.reduceMul, decide_true, decide_false, Bool.not_true, Bool.not_false, List.mem_cons, List.not_mem_nil, true_or, or_true, false_or, or_false, and_true, true_and, and_self, List.getElem?_cons_succ, List.getElem?_cons_zero, Option.bind_some, Option.map_some, Option.map_none, List.map_cons, List.map_nil, List.length_cons, List.length_nil, List.filterMap_cons, List.filterMap_nil, List.cons_append, List.nil_append, List.append_nil, Nat.zero_add, Nat.add_zero, List.take_succ_cons, List.take_zero, List.take_nil, List.drop_succ_cons, List.drop_zero, List.drop_nil, List.all_cons, List.all_nil, Bool.and_true, Bool.true_and, Bool.false_and, Bool.and_false, reduceCtorEq, beq_iff_eq, beq_self_eq_true, intA, hlt, hw, hy, c1, c2, hj0, Int.toNat_natCast]
        subst hK
        simp -implicitDefEqProofs only [go_sem, repeatCells, splice, chunk, bsFin, ne_eq, not_true_eq_false, not_false_eq_true, List.headD_cons, Bool.false_eq_true, Nat.le_refl, Nat.zero_mul, Nat.one_mul, Nat.mul_one, assoc_setI, assoc_keep, ↓reduceIte, Nat.reduceEqDiff, Nat.reduceLT, Nat.reduceLeDiff, Nat.reduceAdd, Nat.reduceSub, Nat.reduceMul, decide_true, decide_false, Bool.not_true, Bool.not_false, List.mem_cons, List.not_mem_nil, true_or, or_true, false_or, or_false, and_true, true_and, and_self, List.getElem?_cons_succ, List.getElem?_cons_zero, Option.bind_some, Option.map_some, Option.map_none, List.map_cons, List.map_nil, List.length_cons, List.length_nil, List.filterMap_cons, List.filterMap_nil, List.cons_append, List.nil_append, List.append_nil, Nat.zero_add, Nat.add_zero, List.take_succ_cons, List.take_zero, List.take_nil, List.drop_succ_cons, List.drop_zero, List.drop_nil, List.all_cons, List.all_nil, Bool.and_true, Bool.true_and, Bool.false_and, Bool.and_false, reduceCtorEq, beq_iff_eq, beq_self_eq_true]
        exact h2 (by rw [hd]; simp [letter]; omega) _ rfl
      · simp -implicitDefEqProofs only [go_sem, repeatCells, splice, chunk, bsFin, ne_eq, not_true_eq_false, not_false_eq_true, List.headD_cons, Bool.false_eq_true, Nat.le_refl, Nat.zero_mul, Nat.one_mul, Nat.mul_one, assoc_setI, assoc_keep, ↓reduceIte, Nat.reduceEqDiff, Nat.reduceLT, Nat.reduceLeDiff, Nat.reduceAdd, Nat.reduceSub, Nat.reduceMul, decide_true, decide_false, Bool.not_true, Bool.not_false, List.mem_cons, List.not_mem_nil, true_or, or_true, false_or, or_false, and_true, true_and, and_self, List.getElem?_cons_succ, List.getElem?_cons_zero, Option.bind_some, Option.map_some, Option.map_none, List.map_cons, List.map_nil, List.length_cons, List.length_nil, List.filterMap_cons, List.filterMap_nil, List.cons_append, List.nil_append, List.append_nil, Nat.zero_add, Nat.add_zero, List.take_succ_cons, List.take_zero, List.take_nil, List.drop_succ_cons, List.drop_zero, List.drop_nil, List.all_cons, List.all_nil, Bool.and_true, Bool.true_and, Bool.false_and, Bool.and_false, reduceCtorEq, beq_iff_eq, beq_self_eq_true, intA, hlt, hw, hy, c1, c2, hj0, Int.toNat_natCast]
        subst hK
        simp -implicitDefEqProofs only [go_sem, repeatCells, splice, chunk, bsFin, ne_eq, not_true_eq_false, not_false_eq_true, List.headD_cons, Bool.false_eq_true, Nat.le_refl, Nat.zero_mul, Nat.one_mul, Nat.mul_one, assoc_setI, assoc_keep, ↓reduceIte, Nat.reduceEqDiff, Nat.reduceLT, Nat.reduceLeDiff, Nat.reduceAdd, Nat.reduceSub, Nat.reduceMul, decide_true, decide_false, Bool.not_true, Bool.not_false, List.mem_cons, List.not_mem_nil, true_or, or_true, false_or, or_false, and_true, true_and, and_self, List.getElem?_cons_succ, List.getElem?_cons_zero, Option.bind_some, Option.map_some, Option.map_none, List.map_cons, List.map_nil, List.length_cons, List.length_nil, List.filterMap_cons, List.filterMap_nil, List.cons_append, List.nil_append, List.append_nil, Nat.zero_add, Nat.add_zero, List.take_succ_cons, List.take_zero, List.take_nil, List.drop_succ_cons, List.drop_zero, List.drop_nil, List.all_cons, List.all_nil, Bool.and_true, Bool.true_and, Bool.false_and, Bool.and_false, reduceCtorEq, beq_iff_eq, beq_self_eq_true]
        have hd' : lettersB s j = lettersB s (j + 1) := by rw [hd]; simp [letter]; omega
        rw [hd'] at h1 h2
        exact ih (j + 1) (by omega) h1 h2
theorem call69 {e : Exts} (he : Quiet e) (lo hi : Int) (ns : List Int) (hn : ns.length < 2 ^ 63) (x : AV) (hx : SlOf 1 (ns.map intA) x) (me : FuncId) (d : Option Tmp) (H : Heap) : callA (Cx e) (lim (Cx e)) me 69 d [.agg [intA lo, intA hi], x] H = some (.v (.bool (withinB lo hi ns)), H) :=
  (ans69 lo hi ns hn x hx).call (ext_69 he) (pure_69 _ _ _) (by simp only [boundL_cons, bound_agg, intA, bound_v, boundL_nil, hx.bound]; rfl) H
set_option maxHeartbeats 1000000 in
theorem ans49 {e : Exts} (he : Quiet e) (s : ByteArray) (hn : s.size < 2 ^ 63) : Ans (Cx e) 49 [.v (.string s)] (.v (.bool (wordB s))) := by
  unfold Ans
  rw [fn_step (fn_49 e) (show Tryz.f49.body = some _ from rfl)]
  have hc : callA (Cx e) (lim (Cx e)) 49 69 (some 8) [.agg [.v (.int .i64 1), .v (.int .i64 12)], .vs 1 [.v (.int .i64 s.size)] (some 1)] { objs := [], lock := 0 } = some (.v (.bool (withinB 1 12 [(s.size : Int)])), { objs := [], lock := 0 }) :=
    call69 he 1 12 [(s.size : Int)] (by simp) _ (Or.inr ⟨_, rfl⟩) _ _ _
  by_cases hw : withinB 1 12 [(s.size : Int)] = true
  · rw [hw] at hc
    simp -implicitDefEqProofs only [Tryz.f49, go_sem, repeatCells, splice, chunk, bsFin, ne_eq, not_true_eq_false, not_false_eq_true, List.headD_cons, Bool.false_eq_true, Nat.le_refl, Nat.zero_mul, Nat.one_mul, Nat.mul_one, assoc_setI, assoc_keep, ↓reduceIte, Nat.reduceEqDiff, Nat.reduceLT, Nat.reduceLeDiff, Nat.reduceAdd, Nat.reduceSub, Nat.reduceMul, decide_true, decide_false, Bool.not_true, Bool.not_false, List.mem_cons, List.not_mem_nil, true_or, or_true, false_or, or_false, and_true, true_and, and_self, List.getElem?_cons_succ, List.getElem?_cons_zero, Option.bind_some, Option.map_some, Option.map_none, List.map_cons, List.map_nil, List.length_cons, List.length_nil, List.filterMap_cons, List.filterMap_nil, List.cons_append, List.nil_append, List.append_nil, Nat.zero_add, Nat.add_zero, List.take_succ_cons, List.take_zero, List.take_nil, List.drop_succ_cons, List.drop_zero, List.drop_nil, List.all_cons, List.all_nil, Bool.and_true, Bool.true_and, Bool.false_and, Bool.and_false, reduceCtorEq, beq_iff_eq, beq_self_eq_true, hc]
    refine loop49 s hn _ _ s.size 0 (by omega) ?_ ?_
    · intro h l
      simp -implicitDefEqProofs only [go_sem, repeatCells, splice, chunk, bsFin, ne_eq, not_true_eq_false, not_false_eq_true, List.headD_cons, Bool.false_eq_true, Nat.le_refl, Nat.zero_mul, Nat.one_mul, Nat.mul_one, assoc_setI, assoc_keep, ↓reduceIte, Nat.reduceEqDiff, Nat.reduceLT, Nat.reduceLeDiff, Nat.reduceAdd, Nat.reduceSub, Nat.reduceMul, decide_true, decide_false, Bool.not_true, Bool.not_false, List.mem_cons, List.not_mem_nil, true_or, or_true, false_or, or_false, and_true, true_and, and_self, List.getElem?_cons_succ, List.getElem?_cons_zero, Option.bind_some, Option.map_some, Option.map_none, List.map_cons, List.map_nil, List.length_cons, List.length_nil, List.filterMap_cons, List.filterMap_nil, List.cons_append, List.nil_append, List.append_nil, Nat.zero_add, Nat.add_zero, List.take_succ_cons, List.take_zero, List.take_nil, List.drop_succ_cons, List.drop_zero, List.drop_nil, List.all_cons, List.all_nil, Bool.and_true, Bool.true_and, Bool.false_and, Bool.and_false, reduceCtorEq, beq_iff_eq, beq_self_eq_true]
      unfold wordB; rw [hw, h]; rfl
    · intro h l hl
      simp -implicitDefEqProofs only [go_sem, repeatCells, splice, chunk, bsFin, ne_eq, not_true_eq_false, not_false_eq_true, List.headD_cons, Bool.false_eq_true, Nat.le_refl, Nat.zero_mul, Nat.one_mul, Nat.mul_one, assoc_setI, assoc_keep, ↓reduceIte, Nat.reduceEqDiff, Nat.reduceLT, Nat.reduceLeDiff, Nat.reduceAdd, Nat.reduceSub, Nat.reduceMul, decide_true, decide_false, Bool.not_true, Bool.not_false, List.mem_cons, List.not_mem_nil, true_or, or_true, false_or, or_false, and_true, true_and, and_self, List.getElem?_cons_succ, List.getElem?_cons_zero, Option.bind_some, Option.map_some, Option.map_none, List.map_cons, List.map_nil, List.length_cons, List.length_nil, List.filterMap_cons, List.filterMap_nil, List.cons_append, List.nil_append, List.append_nil, Nat.zero_add, Nat.add_zero, List.take_succ_cons, List.take_zero, List.take_nil, List.drop_succ_cons, List.drop_zero, List.drop_nil, List.all_cons, List.all_nil, Bool.and_true, Bool.true_and, Bool.false_and, Bool.and_false, reduceCtorEq, beq_iff_eq, beq_self_eq_true, hl]
      unfold wordB; rw [hw, h]; rfl
  · simp only [Bool.not_eq_true] at hw
    rw [hw] at hc
    simp -implicitDefEqProofs only [Tryz.f49, go_sem, repeatCells, splice, chunk, bsFin, ne_eq, not_true_eq_false, not_false_eq_true, List.headD_cons, Bool.false_eq_true, Nat.le_refl, Nat.zero_mul, Nat.one_mul, Nat.mul_one, assoc_setI, assoc_keep, ↓reduceIte, Nat.reduceEqDiff, Nat.reduceLT, Nat.reduceLeDiff, Nat.reduceAdd, Nat.reduceSub, Nat.reduceMul, decide_true, decide_false, Bool.not_true, Bool.not_false, List.mem_cons, List.not_mem_nil, true_or, or_true, false_or, or_false, and_true, true_and, and_self, List.getElem?_cons_succ, List.getElem?_cons_zero, Option.bind_some, Option.map_some, Option.map_none, List.map_cons, List.map_nil, List.length_cons, List.length_nil, List.filterMap_cons, List.filterMap_nil, List.cons_append, List.nil_append, List.append_nil, Nat.zero_add, Nat.add_zero, List.take_succ_cons, List.take_zero, List.take_nil, List.drop_succ_cons, List.drop_zero, List.drop_nil, List.all_cons, List.all_nil, Bool.and_true, Bool.true_and, Bool.false_and, Bool.and_false, reduceCtorEq, beq_iff_eq, beq_self_eq_true, hc]
    unfold wordB; rw [hw]; rfl
theorem call49 {e : Exts} (he : Quiet e) (s : ByteArray) (hn : s.size < 2 ^ 63) (me : FuncId) (d : Option Tmp) (H : Heap) : callA (Cx e) (lim (Cx e)) me 49 d [.v (.string s)] H = some (.v (.bool (wordB s)), H) :=
  (ans49 he s hn).call (ext_49 he) (pure_49 _ _ _) rfl H
end Go.Ev
