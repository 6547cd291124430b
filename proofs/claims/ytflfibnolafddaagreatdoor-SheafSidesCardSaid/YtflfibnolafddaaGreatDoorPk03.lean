/- What the proof of this claim stands on, part 4: an evaluator of the model, proved right, and what it answers for functions of the program. -/
import Derived.Test.YtflfibnolafddaaGreatDoorPk02
import Derived.Shelf.Strings.Builder1
import Derived.Shelf.Strings.OnBuilder
import Derived.Test.YtflfibnolafddaaGreatDoorProg
set_option maxHeartbeats 8000000
set_option maxRecDepth 1000000
set_option linter.unusedSimpArgs false
namespace Go.Proofs
open Go.Shelf
open Go.RowKit in
open Go.RowKit in
open Go.RowKit in
open Go.RowKit in
def Tryz.lays156_ren : Go.Shelf.Ren := ⟨fun | 156 => 88 | 165 => 107 | 166 => 40 | 169 => 43 | 240 => 66 | 241 => 133 | 276 => 84 | 277 => 161 | n => n,fun | 31 => 22 | 9 => 9 | 3 => 3 | 4 => 4 | 0 => 0 | 20 => 20 | 72 => 88 | 76 => 91 | 70 => 86 | 37 => 33 | 75 => 90 | 127 => 134 | 164 => 162 | 5 => 5 | 80 => 95 | n => n,fun | n => n⟩
theorem Tryz.lays156 : Go.Proofs.Lays.n156 Tryz.prog Tryz.lays156_ren := {
 mixed := by kernel_rfl
 f156 := Tryz.func88.trans (congrArg some (by kernel_rfl))
 f165 := Tryz.func107.trans (congrArg some (by kernel_rfl))
 f166 := Tryz.func40.trans (congrArg some (by kernel_rfl))
 f169 := Tryz.func43.trans (congrArg some (by kernel_rfl))
 f240 := Tryz.func66.trans (congrArg some (by kernel_rfl))
 f241 := Tryz.func133.trans (congrArg some (by kernel_rfl))
 f276 := Tryz.func84.trans (congrArg some (by kernel_rfl))
 f277 := Tryz.func161.trans (congrArg some (by kernel_rfl))
 t0 := Tryz.underlying0
 a0 := Tryz.isAgg0
 z0 := Tryz.sizeOf0
 v0 := Tryz.zeroValue0
 t3 := Tryz.underlying3
 a3 := Tryz.isAgg3
 z3 := Tryz.sizeOf3
 v3 := Tryz.zeroValue3
 t4 := Tryz.underlying4
 a4 := Tryz.isAgg4
 z4 := Tryz.sizeOf4
 v4 := Tryz.zeroValue4
 t9 := Tryz.underlying9
 a9 := Tryz.isAgg9
 z9 := Tryz.sizeOf9
 v9 := Tryz.zeroValue9
 t20 := Tryz.underlying20
 a20 := Tryz.isAgg20
 z20 := Tryz.sizeOf20
 v20 := Tryz.zeroValue20
 t31 := Tryz.underlying22
 a31 := Tryz.isAgg22
 z31 := Tryz.sizeOf22
 v31 := Tryz.zeroValue22
 t37 := Tryz.underlying33
 a37 := Tryz.isAgg33
 z37 := Tryz.sizeOf33
 v37 := Tryz.zeroValue33
 t70 := Tryz.underlying86
 a70 := Tryz.isAgg86
 z70 := Tryz.sizeOf86
 v70 := Tryz.zeroValue86
 t72 := Tryz.underlying88
 a72 := Tryz.isAgg88
 z72 := Tryz.sizeOf88
 v72 := Tryz.zeroValue88
 t75 := Tryz.underlying90
 a75 := Tryz.isAgg90
 z75 := Tryz.sizeOf90
 v75 := Tryz.zeroValue90
 t76 := Tryz.underlying91
 a76 := Tryz.isAgg91
 z76 := Tryz.sizeOf91
 v76 := Tryz.zeroValue91
 t127 := Tryz.underlying134
 a127 := Tryz.isAgg134
 z127 := Tryz.sizeOf134
 v127 := Tryz.zeroValue134
 t164 := Tryz.underlying162
 a164 := Tryz.isAgg162
 z164 := Tryz.sizeOf162
 v164 := Tryz.zeroValue162 }
theorem Tryz.Builder_Extra_156 : Builder.Extra Tryz.prog Tryz.lays156_ren := {
 sizeBuilder := by kernel_rfl
 liesBuilder := by kernel_rfl
 t5 := Tryz.underlying5
 a5 := Tryz.isAgg5
 z5 := Tryz.sizeOf5
 v5 := Tryz.zeroValue5
 infoByte := by kernel_rfl
 cellsByte := by kernel_rfl
 sizeByte := by kernel_rfl
 neB5 := by decide }
open Go.RowKit in
theorem Tryz.strings_Join_none (a : Option Addr) (c : Nat) (sep : ByteArray) (w : World) :
  Calls Tryz.prog 88 #[.slice a 0 c,.string sep] w fun e w' => e = .returned (.string ⟨#[]⟩) ∧ w' = w := Any.strings_Join_none Tryz.lays156 Tryz.Builder_Extra_156 a c sep w
open Go.RowKit in
theorem Tryz.strings_Join (bk o c : Nat) (xs : List ByteArray) (sep : ByteArray) (w : World) (hcells : ∀ (j : Nat) x,xs[j]? = some x → w.cell? ⟨bk,o + j,none⟩ = some (.string x)) (hbk : bk < w.heap.size) (hN : xs.length ≤ 140737488355328) (hcap : xs.length ≤ c) (hlen : (Lib.join (xs.map (·.data.toList)) sep.data.toList).length ≤ 140737488355328) :
  Calls Tryz.prog 88 #[.slice (some ⟨bk,o,none⟩) xs.length c,.string sep] w fun e w' => e = .returned (.string ⟨(Lib.join (xs.map (·.data.toList)) sep.data.toList).toArray⟩) ∧ Below w.heap.size w w' := Any.strings_Join Tryz.lays156 Tryz.Builder_Extra_156 bk o c xs sep w hcells hbk hN hcap hlen
end Go.Proofs
namespace Go.Ev.Cl
open Go.Proofs
def impF : List Nat := [40,43,52,66,100,112,116,120,135,138,143,144,147,150,154,155,157,158,160,166,179,180,182,190,197,198,199,200,201,202,203,204,215,216,217,218,219,224]
def impC : List (Nat × Nat × Nat) := [(93,117,7)]
def altF : List Nat := []
def altC : List (Nat × Nat) := []
def nearF : List Nat := [46]
def nearC : List (Nat × Nat) := []
def keepF : Nat → List Nat
 | 2 => []
 | 3 => [0,5,25,7,33,6,10,9,8,58,1,11,74,73,75,17,80,15,14,13,16,12,4]
 | 4 => [0,7,30,9,38,8,46,1,10,53,52,54,11,12,13,82,14,2,100,17,16,15,131,171,6]
 | 5 => [0,5,30,7,38,1,8,50,49,51,9,10,11,6,73,14,13,12,100,119,17,16,15,4]
 | 6 => [0,1,9,33,11,10,51,12,14,13,69,2,3,15,16,17,100,18,20,19,126,8]
 | 7 => [0,1,2,7,33,9,11,8,10,12,13,14,15,6]
 | 8 => [0,1,2,7,35,9,8,55,11,13,15,17,110,14,12,16,10,6]
 | 9 => [0,3,1,2,7,39,9,48,8,76,11,84,10,90,89,91,12,14,16,13,15,116,134,18,17,20,19,21,6]
 | 10 => [0,2,5,25,1,6,8,10,9,7,72,77,76,78,11,13,15,12,14,105,17,4]
 | 11 => [2,1,3,5,4,7,6,8,9,11,10,139,12,13,14,15,16,17,18,19,20,21,0]
 | 12 => [0,2]
 | 13 => [0,4,10,14,13,15,6,5,26,2,3]
 | 14 => [0,9,2,3,11,12,13,6,5,4]
 | 15 => [0,1,10,5,14,25,4]
 | 16 => [0,2,7,16,4,1,8,22,6,28,9,5]
 | 17 => [1,3,0,23,6,4,5]
 | 18 => [0,1,2,20,21,30,6,7]
 | 19 => [1,0,2,6]
 | 20 => [0,1,7,6,24,4,5]
 | 21 => [0,1,2]
 | 22 => [0,1,4,2]
 | 23 => [0,1,12,3,17,26,2]
 | 24 => [0,2,1,7,15,6,4,5]
 | 25 => [0,1,4,5,2,3]
 | 26 => [0,2,1,7,15,4,6,5]
 | 27 => [0,1,2,3,22,5,27,6,7,59,4]
 | 28 => [0,2]
 | 29 => [0]
 | 30 => [0,1,2,3,6,11,4,5]
 | 31 => [0]
 | 32 => [0]
 | 33 => [0,1,4,8,2,3]
 | 34 => [0,1,2,3,6,11,4,5]
 | 35 => [0]
 | 36 => [0,4,11,15,14,16,13,6,31,7,37,2,3]
 | 37 => [0,1,2,6]
 | 38 => [3,0,8,17,4,24,42,2]
 | 39 => [0,5,2]
 | 40 => [0,1,4,5]
 | 41 => [0,1,4]
 | 42 => [0,2]
 | 43 => [0,2]
 | 44 => [0,1,2]
 | 45 => [0,1,4,21,2,5,37,36,38,35,7,44,3]
 | 46 => [0,2,1,20,19,21,18,5,7,4]
 | 47 => [0,1,5,6,4]
 | 48 => [0,1,2]
 | 49 => [0,1,2,6]
 | 50 => [0,8,11,10,12,4,22,28,27,29,5,41,3,2]
 | 51 => [0,1,10,13,12,14,5,24,4]
 | 52 => [0,4,2]
 | 53 => [1,2,5,4,13,23,0,8,31,6,7]
 | 54 => [0,1,4,11,2]
 | 55 => [0,6,3,10,18,2]
 | 56 => [0,2,7,14,4,6,1,25,5]
 | 57 => [0,1,2,3,6,4]
 | 58 => [0,1,18,17,19,16,4,6,3,2]
 | 59 => [0,1,4,2]
 | 60 => [0,1,11,10,12,9,3,5,27,26,28,25,7,2]
 | 61 => [0,1,2,3,6,4]
 | 62 => [0,1,11,10,12,9,3,5,32,31,33,30,7,2]
 | 63 => [0,9,8,10,7,4,6,20,2]
 | 64 => [0,1,9,8,10,7,6,2,22,4]
 | 65 => [0,8,7,9,6,3,5,24,34,2]
 | 66 => [0,6,19]
 | 67 => [1,0,13,12,14,5,6,4]
 | 68 => [7,8,1,3,4,6,19,5,0,30]
 | 69 => [0,6,7,1,29,4,5]
 | 70 => [0,1,2,4]
 | 71 => [1,0,3,4]
 | 72 => [7,0,1,2,25,6]
 | 73 => [0,1,4]
 | 74 => [0,1,4]
 | 75 => [0,1,17,5,27,4,7,6,49,2,3]
 | 76 => [0,1,2,7,14,4,6,3,20,5]
 | 77 => [0,8,7,9,6,5,13,3,2]
 | 78 => [0,8,7,9,6,3,5,2]
 | 79 => [0,1,2]
 | 80 => [0,1,6,2,3]
 | 81 => [0,1,2,6,17,4,3,25,24,26,23,9,33,32,34,31,11,40,39,41,38,7,8,10,12,13,73,5]
 | 82 => [0,1,17,18,3,5,26,4,35,2]
 | 83 => [0,1,2,3,6,12,4,5]
 | 85 => [0,1,4]
 | 86 => [0,11,10,12,9,3,5,20,27,26,28,25,6,8,2]
 | 87 => [0,1,3,2,30,35,36,37,5,7,4]
 | 88 => [0,12,13,15,1,22,29,5,41,40,42,39,7,49,8,65,64,66,63,10,4]
 | 89 => [0,2]
 | 90 => [0,1,11,15,14,16,13,4,3,38,2]
 | 91 => [0,2]
 | 92 => [0,1,10,14,13,15,12,5,7,2,27,4]
 | 93 => [0,1,2,5,4]
 | 94 => [0,1,2]
 | 95 => [0,7,6,8,5,4,26,2]
 | 96 => [0,8,7,9,6,5,3,14,2]
 | 97 => [0,1,4]
 | 98 => [0,1,2,3,4]
 | 99 => [0,1,4]
 | 100 => [1,6,0,16,4]
 | 101 => [0,2]
 | 102 => [0,1,12,11,13,10,2,7,8,5,42,4]
 | 103 => [3,0,9,4,5,38,2]
 | 104 => [0,1,2,15,14,16,13,5,7,29,30,31,8,10,9,3,4]
 | 105 => [0,1,2]
 | 106 => [0,2]
 | 107 => [0,1,7,21]
 | 108 => [0,2]
 | 109 => [0,1,9,8,10,7,6,2,22,4]
 | 110 => [1,0,3,4]
 | 111 => [0,12,15,14,16,4,25,31,30,32,29,6,37,3,2]
 | 112 => [0,1,4]
 | 113 => [0,1,2]
 | 114 => [0,1,2]
 | 115 => [0,1,3,2,4]
 | 116 => [0,5,1,4]
 | 117 => [0,1,2]
 | 118 => [0,1,2,3,4]
 | 119 => [0,1,5,11,6,12,13,16,19,4]
 | 120 => [0,11,10,12,9,3,5,20,21,22,7,31,2]
 | 121 => [0,10,9,11,8,1,6,17,5,7,4]
 | 122 => [1,2,0,4]
 | 123 => [0,2]
 | 124 => [0,5,2,8,10,11,3,14]
 | 125 => [0,1,4]
 | 127 => [0]
 | 128 => [0,1,3,2,13,5,27,4]
 | 129 => [0,1,2,3,4]
 | 130 => [0,1,15,14,16,13,6,8,9,5,4]
 | 131 => [1,0,11,10,12,9,7,8,3,24,5,4]
 | 132 => [1,10,9,11,8,4,18,17,19,0,3,5,31]
 | 133 => [0,1,4]
 | 134 => [1,11,0,17,23,6,7,5,34,9,4]
 | 135 => [0,1,4]
 | 136 => [0,2,1,3]
 | 137 => [0,9,12,11,13,3,24,2]
 | 138 => [0,8,7,9,1,5,16,4]
 | 139 => [0,1,9,8,10,7,6,2,22,4]
 | 140 => [0]
 | 141 => [0,2]
 | 142 => [0]
 | 143 => [0,2]
 | 144 => [0,4,1]
 | 145 => [1,7,6,8,5,0,4,14]
 | 146 => [0,2]
 | 147 => [0,1,2]
 | 148 => [0,1,9,8,10,7,6,2,22,4]
 | 149 => [0,1,12,21,6,34,5,4]
 | 150 => [0,1,4]
 | 152 => [1,3,0,4]
 | 153 => [1,0,4]
 | 154 => [0,2,4]
 | 155 => [0,2,1,4]
 | 156 => [1,0,3,4]
 | 157 => [0,2,1,4]
 | 158 => [0,2,1,4]
 | 159 => [1,3,0,4]
 | 160 => [0,2,1,4]
 | 162 => [0,4,2]
 | 163 => [0,3,2]
 | 164 => [0,4,20,1,5,7,6,9,8,11,10,99,12,13,15,14,139,16,161]
 | 165 => [2,28,3,30,1,34,15,46,13,16,12,14,17,68,18,89,4,94,0,10,11]
 | 166 => [0,8,7,9,1,5,16,4]
 | 167 => [0,1,3,4]
 | 168 => [0,2]
 | 169 => [0,1,2]
 | 170 => [0,2,3,1,6]
 | 171 => [0,1,3,2,4]
 | 172 => [0,1,2,3,4]
 | 173 => [0,2,3,1,5,6]
 | 174 => [0,1,2,3,4]
 | 175 => [0,1,2,3,4]
 | 176 => [0,2,3,5,6]
 | 177 => [0,1,3,4]
 | 178 => [0,2,6]
 | 179 => [0,1,6,7,2,5,4]
 | 180 => [2,1,12,25,0,4,3,32,10,39,14,56,13,11,75,80,97,15,17,16,18,19,125,20]
 | 181 => [0,2]
 | 182 => [1,3,8,0,18]
 | 183 => [0,1,13,4]
 | 184 => [0,1,16,4]
 | 185 => [4,0,9,5,16,2,3]
 | 186 => [0,7,1,12,4]
 | 187 => [0,7,1,15,4]
 | 188 => [0,9,1,5,18,6,4]
 | 189 => [0,9,5,17,1,26,6,4]
 | 190 => [0,1,2,4,3,5,6]
 | 191 => [0,2]
 | 192 => [0,4,8,2,14]
 | 193 => [0,3,2]
 | 194 => [0,2]
 | 195 => [0,2]
 | 196 => [1,0,3,4]
 | 197 => [1,8,2,14,9,3,0,34]
 | 198 => [1,2,10,11,21,0,8,3,12,33,9]
 | 199 => [2,1,8,17,11,35,9,10,12,45,0]
 | 200 => [2,1,10,34,36,0,12,3,11,13,14,55,57,60,8,9]
 | 201 => [1,2,8,9,15,0]
 | 202 => [1,10,16,9,2,3,0,36,41,45,65,11,69,84,104,12,109,124,8]
 | 203 => [0,1,3,2,11,12,4,47,65,70,10]
 | 204 => [0,1,3,2,12,13,4,47,66,71,120,139,144,10,11]
 | 205 => [0,4,8,2]
 | 206 => [0,1,4]
 | 207 => [0,10,2,3]
 | 208 => [0,1,4]
 | 209 => [0,4,10,5,2,18,6,27,33,35,3,48]
 | 210 => [1,11,2,14,0,6,25,7,33,3,8,42]
 | 211 => [0,1,4]
 | 212 => [0,4,2]
 | 213 => [0,4,2]
 | 214 => [1,0,8,7,9,3,5,16,4]
 | 215 => [1,10,11,2,18,4,0,3,40,58]
 | 216 => [0,2]
 | 217 => [0,2]
 | 218 => [0,1,2,3,8]
 | 219 => [0,1,2,4,5,3,12]
 | 220 => [0,4,16,5,6,23,7,8,45,10,9,57,59,11,75,77,12,98,2,3]
 | 221 => [1,160,0,171,175,177,176,6,181,5,183,7,8,9,26,33,11,43,12,51,64,10,98,13,108,124,14,15,139,16,143,156,4]
 | 222 => [0,2]
 | 223 => [1,5,0,16,24,31,36,8,9,59,6,64,11,73,7,93,10,107,12,114,132,13,139,4]
 | 224 => [4,0,2,1,22,3,10,11]
 | 225 => [0,3,10,2]
 | 226 => [0,2]
 | 228 => [1,9,7,20,8,0,5,39,10,44,6,77,4]
 | 229 => [5,0,12,4,8,25,30,6,7,2,3]
 | 256 => []
 | _ => []
def isImp (me f : Nat) (d : Option Nat) : Bool := impF.any (Nat.beq f) || impC.any fun t => Nat.beq t.1 me && Nat.beq t.2.1 f && (match d with | some d => Nat.beq t.2.2 d | none => false)
noncomputable def CC : Cfg := { P := Tryz.prog,pure := fun me f d => !(isImp me f d),alter := fun me d => altF.any (Nat.beq me) || (match d with | some d => altC.any fun t => Nat.beq t.1 me && Nat.beq t.2 d | none => false),keep := keepF,ext := fun f' => if Nat.beq f' 88 then some joinStr else if Nat.beq f' 126 then some idxStr else if Nat.beq f' 151 then some cmpStr else none,exh := fun f' => if Nat.beq f' 88 then some joinH else (fun _ => none) f',near := fun me d => nearF.any (Nat.beq me) || (match d with | some d => nearC.any fun t => Nat.beq t.1 me && Nat.beq t.2 d | none => false),lay := fun f' => if Nat.beq f' 66 then some (ccA 88) else none }
theorem mixedC : CC.P.follows .mixedOrders = true := by show Tryz.prog.follows .mixedOrders = true;kernel_rfl
theorem nogo_allC : (Tryz.prog.funcs.toList.all fun fn => !(fn.body.isSome && (fn.name == "runtime.NumGoroutine"))) = true := by kernel_rfl
theorem nogoC : NoGo CC.P := by
 intro f fn hf hb
 have h := List.all_eq_true.1 nogo_allC fn (by
  have : Tryz.prog.funcs[f]? = some fn := hf
  exact List.mem_of_getElem? (by simpa using this))
 rw [hb] at h
 simpa using h
theorem extOKZ0 : ExtOK { CC with ext := fun _ => none,exh := fun _ => none,lay := fun _ => none } := by
 exact ⟨fun _ _ h => (nomatch h),fun _ _ h => (nomatch h),fun _ _ h => (nomatch h)⟩
theorem extOKZ : ExtOK { CC with ext := fun _ => none,exh := fun _ => none } := by
 refine extOK_lay (C := { CC with ext := fun _ => none,exh := fun _ => none,lay := fun _ => none }) (f := 66) (g := ccA 88) rfl ?_ extOKZ0 rfl rfl rfl
 intro args H v H' h
 exact lay_cc Go.Proofs.Tryz.lays156 Go.Proofs.Tryz.Builder_Extra_156 (f := 66) rfl ⟨_,Tryz.func66,by kernel_rfl,by kernel_rfl⟩ h
theorem extOKJ : ExtOK { CC with ext := fun _ => none,exh := fun f' => if Nat.beq f' 88 then some joinH else (fun _ => none) f' } := by
 refine extOK_exh (C := { CC with ext := fun _ => none,exh := fun _ => none }) (f := 88) (g := joinH) rfl ?_ extOKZ rfl rfl rfl
 intro args v H h Z ρ w vals hs hl
 exact exh_join Go.Proofs.Tryz.lays156 Go.Proofs.Tryz.Builder_Extra_156 (f := 88) rfl ⟨_,Tryz.func88,by kernel_rfl,by kernel_rfl⟩ h Z ρ w vals hs hl
theorem extOKN : ExtOK (CC.more fun _ => none) := extOKJ
theorem extOKE0 : ExtOK (CC.more (fun f' => if Nat.beq f' 151 then some cmpStr else none)) := by
 refine extOK_more (C := CC.more (fun _ => none)) (f := 151) (g := cmpStr) rfl ?_ extOKN rfl
 intro args v h Z ρ H w vals hs hl
 exact ext_cmp (fn := Tryz.f151) Tryz.func151 (by kernel_rfl) (by kernel_rfl) (by kernel_rfl) (by kernel_rfl) h Z ρ H w vals hs hl
theorem extOKE1 : ExtOK (CC.more (fun f' => if Nat.beq f' 126 then some idxStr else if Nat.beq f' 151 then some cmpStr else none)) := by
 refine extOK_more (C := CC.more (fun f' => if Nat.beq f' 151 then some cmpStr else none)) (f := 126) (g := idxStr) rfl ?_ extOKE0 rfl
 intro args v h Z ρ H w vals hs hl
 exact ext_idx (fn := Tryz.f126) Tryz.func126 (by kernel_rfl) (by kernel_rfl) (by kernel_rfl) (by kernel_rfl) h Z ρ H w vals hs hl
theorem extOKE2 : ExtOK (CC.more (fun f' => if Nat.beq f' 88 then some joinStr else if Nat.beq f' 126 then some idxStr else if Nat.beq f' 151 then some cmpStr else none)) := by
 refine extOK_more (C := CC.more (fun f' => if Nat.beq f' 126 then some idxStr else if Nat.beq f' 151 then some cmpStr else none)) (f := 88) (g := joinStr) rfl ?_ extOKE1 rfl
 intro args v h Z ρ H w vals hs hl
 exact ext_join Go.Proofs.Tryz.lays156 Go.Proofs.Tryz.Builder_Extra_156 (f := 88) rfl ⟨_,Tryz.func88,by kernel_rfl,by kernel_rfl⟩ h Z ρ H w vals hs hl
theorem extOKC : ExtOK CC := extOKE2
abbrev Good (t : Tell) : Prop := GoodC CC t
theorem good {t : Tell} (T : List Tell) (hT : AllG CC T) (TH : List TellH) (hH : AllH CC TH) (h : ansC (evT (CC.more2 (tabExt CC.ext T) (tabExh CC.exh T TH)) 1000 (.call t.f t.K { objs := [],lock := 0 })) = some t.R) (hb : boundL t.K = 0) : Good t :=
 goodC nogoC mixedC extOKC T hT TH hH 1000 h hb
end Go.Ev.Cl
namespace Go.Ev.Cl
def q0 : AV := .v (.string ⟨⟨[97,98]⟩⟩)
def q1 : AV := .v (.string ⟨⟨[98]⟩⟩)
def q2 : AV := .vs 1 [q0,q1] (some 2)
def q3 : AV := .v (.int .i64 0)
def q4 : AV := .v (.string ⟨⟨[115,103]⟩⟩)
def q5 : AV := .v (.string ⟨⟨[97,98,32,115,103,10]⟩⟩)
def q6 : AV := .v (.int .i64 1)
def q7 : AV := .v (.string ⟨⟨[101,97]⟩⟩)
def q8 : AV := .v (.string ⟨⟨[98,32,101,97,10]⟩⟩)
def q9 : AV := .v (.string ⟨⟨[97,98,32,115,103,10,98,32,101,97,10]⟩⟩)
def q10 : AV := .vs 1 [q0] (some 1)
def q11 : AV := .v (.string ⟨⟨[97,98,32,115,103,10,98,32,101,97]⟩⟩)
def q12 : AV := .v (.string ⟨⟨[]⟩⟩)
def q13 : AV := .v (.string ⟨⟨[98,32,101,97]⟩⟩)
def q14 : AV := .vs 1 [q0] none
def q15 : AV := .v (.slice none 0 0)
def q16 : AV := .agg [q2,q15]
def q17 : AV := .vs 1 [q0,q1] none
def q18 : AV := .v (.string ⟨⟨[99]⟩⟩)
def q19 : AV := .vs 1 [q0,q18,q1] (some 3)
def q20 : AV := .vs 1 [q18] none
def q21 : AV := .agg [q6,q3,q20]
def q22 : AV := .agg [q17,.vs 3 [q21] none]
def q23 : AV := .vs 1 [q18] (some 1)
def q24 : AV := .agg [q3,q6,q15]
def q25 : AV := .vs 1 [q0,q18,q1] none
def q26 : AV := .vs 1 [] none
def q27 : AV := .vs 1 [q18,q1] none
def q28 : AV := .agg [q6,q3,q23]
def q29 : AV := .vs 3 [q28,q24] (some 2)
def q30 : AV := .agg [q2,q29]
def q31 : AV := .tup [.agg [q2,q29,.vs 1 [q17,q25,q27] none],q3]
def q32 : AV := .agg [q25,.vs 3 [q24] none]
def q33 : AV := .v (.string ⟨⟨[116,104,101]⟩⟩)
def q34 : AV := .v (.string ⟨⟨[115,101,97]⟩⟩)
def q35 : AV := .v (.string ⟨⟨[105,115]⟩⟩)
def q36 : AV := .v (.string ⟨⟨[111,108,100]⟩⟩)
def q37 : AV := .vs 1 [q33,q34,q35,q36] (some 4)
def q38 : AV := .vs 1 [q36,q33,q34] (some 3)
def q39 : AV := .vs 1 [q37,q38] (some 2)
def q40 : AV := .v (.string ⟨⟨[97,110,100]⟩⟩)
def q41 : AV := .vs 1 [q34,q40,q34] (some 3)
def q42 : AV := .vs 1 [q41] (some 1)
def q43 : AV := .v (.int .i64 7)
def q44 : AV := .v (.int .i64 3)
def q45 : AV := .agg [.vs 2 [.agg [q43,q39],.agg [q44,q42]] (some 2)]
def q46 : AV := .tup [q45,q3]
def q47 : AV := .agg [q3,q3,q44]
def q48 : AV := .v (.string ⟨⟨[99,111,108,100]⟩⟩)
def q49 : AV := .v (.int .u8 3)
def q50 : AV := .agg [q3,q3,q44,q49,q48]
def q51 : AV := .agg [q3,q6,q6]
def q52 : AV := .v (.int .u8 1)
def q53 : AV := .agg [q3,q6,q6,q52,q12]
def q54 : AV := .agg [q6,q3,q44]
def q55 : AV := .v (.string ⟨⟨[115,97,108,116]⟩⟩)
def q56 : AV := .v (.int .u8 2)
def q57 : AV := .agg [q6,q3,q44,q56,q55]
def q58 : AV := .vs 5 [q50,q53,q57] (some 3)
def q59 : AV := .v (.int .i64 (-1))
def q60 : AV := .agg [q3,q3,q3]
def q61 : AV := .vs 5 [q50] none
def q62 : AV := .vs 1 [q33,q34,q35,q48] none
def q63 : AV := .agg [q3,q6,q3]
def q64 : AV := .vs 5 [q53] none
def q65 : AV := .vs 1 [q36,q34] none
def q66 : AV := .agg [q6,q3,q3]
def q67 : AV := .vs 5 [q57] none
def q68 : AV := .vs 1 [q34,q40,q34,q55] none
def q69 : AV := .v (.int .i64 4)
def q70 : AV := .agg [q69,q58]
def q71 : AV := .v (.string ⟨⟨[52]⟩⟩)
def q72 : AV := .v (.string ⟨⟨[99,111,112,121]⟩⟩)
def q73 : AV := .v (.string ⟨⟨[99,111,112,121,32,52]⟩⟩)
def q74 : AV := .v (.string ⟨⟨[48,32,48,32,51]⟩⟩)
def q75 : AV := .v (.string ⟨⟨[111,116,104,101,114]⟩⟩)
def q76 : AV := .v (.string ⟨⟨[111,116,104,101,114,32,48,32,48,32,51,32,99,111,108,100]⟩⟩)
def q77 : AV := .v (.string ⟨⟨[48,32,49,32,49]⟩⟩)
def q78 : AV := .v (.string ⟨⟨[111,109,105,116]⟩⟩)
def q79 : AV := .v (.string ⟨⟨[111,109,105,116,32,48,32,49,32,49]⟩⟩)
def q80 : AV := .v (.string ⟨⟨[49,32,48,32,51]⟩⟩)
def q81 : AV := .v (.string ⟨⟨[112,117,116]⟩⟩)
def q82 : AV := .v (.string ⟨⟨[112,117,116,32,49,32,48,32,51,32,115,97,108,116]⟩⟩)
def q83 : AV := .vs 1 [q73,q76,q79,q82] none
def q84 : AV := .v (.string ⟨⟨[55]⟩⟩)
def q85 : AV := .v (.string ⟨⟨[99,104,97,112,116,101,114]⟩⟩)
def q86 : AV := .v (.string ⟨⟨[99,104,97,112,116,101,114,32,55]⟩⟩)
def q87 : AV := .v (.string ⟨⟨[116,104,101,32,115,101,97,32,105,115,32,111,108,100]⟩⟩)
def q88 : AV := .v (.string ⟨⟨[108,105,110,101]⟩⟩)
def q89 : AV := .v (.string ⟨⟨[108,105,110,101,32,116,104,101,32,115,101,97,32,105,115,32,111,108,100]⟩⟩)
def q90 : AV := .v (.string ⟨⟨[111,108,100,32,116,104,101,32,115,101,97]⟩⟩)
def q91 : AV := .v (.string ⟨⟨[108,105,110,101,32,111,108,100,32,116,104,101,32,115,101,97]⟩⟩)
def q92 : AV := .v (.string ⟨⟨[51]⟩⟩)
def q93 : AV := .v (.string ⟨⟨[99,104,97,112,116,101,114,32,51]⟩⟩)
def q94 : AV := .v (.string ⟨⟨[115,101,97,32,97,110,100,32,115,101,97]⟩⟩)
def q95 : AV := .v (.string ⟨⟨[108,105,110,101,32,115,101,97,32,97,110,100,32,115,101,97]⟩⟩)
def q96 : AV := .vs 1 [q86,q89,q91,q93,q95] none
def q97 : AV := .v (.string ⟨⟨[97,98,99,100,101,102,103,104,105,106,107,108,109,110,111,112,113,114,115,116,117,118,119,120,121,122]⟩⟩)
def q98 : AV := .v (.string ⟨⟨[115]⟩⟩)
def q99 : AV := .v (.int .i64 2)
def q100 : AV := .agg [q98,q12,q99]
def q101 : AV := .v (.string ⟨⟨[108,100]⟩⟩)
def q102 : AV := .v (.string ⟨⟨[108,100,101]⟩⟩)
def q103 : AV := .agg [q101,q102,q6]
def q104 : AV := .vs 3 [q100,q103] (some 2)
def q105 : AV := .agg [q34,q52]
def q106 : AV := .v (.string ⟨⟨[97,103,101]⟩⟩)
def q107 : AV := .agg [q106,q49]
def q108 : AV := .v (.string ⟨⟨[115,101,101]⟩⟩)
def q109 : AV := .agg [q108,q56]
def q110 : AV := .agg [q6,q52,q34,q3,q3,q3,q34,q52,q3]
def q111 : AV := .agg [q99,q56,q36,q3,q6,q3,q106,q49,q3]
def q112 : AV := .agg [q44,q49,q12,q6,q3,q99,q108,q56,q3]
def q113 : AV := .v (.int .i64 5)
def q114 : AV := .v (.int .u8 0)
def q115 : AV := .agg [q113,.v (.int .u8 4),q12,q3,q3,q3,q12,q114,q44]
def q116 : AV := .agg [q104,.vs 9 [q110,q111,q112,q115] (some 4)]
def q117 : AV := .agg [q3,q3,q99]
def q118 : AV := .agg [q6,q3,q99]
def q119 : AV := .v (.string ⟨⟨[50]⟩⟩)
def q120 : AV := .v (.string ⟨⟨[99,117,116]⟩⟩)
def q121 : AV := .v (.string ⟨⟨[99,117,116,32,115,32,50]⟩⟩)
def q122 : AV := .v (.string ⟨⟨[49]⟩⟩)
def q123 : AV := .v (.string ⟨⟨[99,117,116,32,108,100,32,108,100,101,32,49]⟩⟩)
def q124 : AV := .v (.string ⟨⟨[48,32,48,32,48]⟩⟩)
def q125 : AV := .v (.string ⟨⟨[115,101,97,32,49]⟩⟩)
def q126 : AV := .v (.string ⟨⟨[102,111,114,109]⟩⟩)
def q127 : AV := .v (.string ⟨⟨[102,111,114,109,32,49,32,115,101,97,32,115,101,97,32,49]⟩⟩)
def q128 : AV := .v (.string ⟨⟨[48,32,49,32,48]⟩⟩)
def q129 : AV := .v (.string ⟨⟨[97,103,101,32,51]⟩⟩)
def q130 : AV := .v (.string ⟨⟨[102,114,111,109]⟩⟩)
def q131 : AV := .v (.string ⟨⟨[102,114,111,109,32,50,32,48,32,49,32,48,32,111,108,100,32,97,103,101,32,51]⟩⟩)
def q132 : AV := .v (.string ⟨⟨[49,32,48,32,50]⟩⟩)
def q133 : AV := .v (.string ⟨⟨[115,101,101,32,50]⟩⟩)
def q134 : AV := .v (.string ⟨⟨[112,108,97,99,101]⟩⟩)
def q135 : AV := .v (.string ⟨⟨[112,108,97,99,101,32,51,32,49,32,48,32,50,32,115,101,101,32,50]⟩⟩)
def q136 : AV := .v (.string ⟨⟨[53]⟩⟩)
def q137 : AV := .v (.string ⟨⟨[48]⟩⟩)
def q138 : AV := .v (.string ⟨⟨[118,111,105,100]⟩⟩)
def q139 : AV := .v (.string ⟨⟨[118,111,105,100,32,53,32,51]⟩⟩)
def q140 : AV := .vs 1 [q121,q123,q127,q131,q135,q139] none
def q141 : AV := .v (.string ⟨⟨[111,108,100,32,111,108,100]⟩⟩)
def q142 : AV := .agg [q3,q3,q99,q35,q34,q141]
def q143 : AV := .vs 6 [q142] (some 1)
def q144 : AV := .v (.string ⟨⟨[48,32,48,32,50]⟩⟩)
def q145 : AV := .v (.string ⟨⟨[115,108,105,112]⟩⟩)
def q146 : AV := .v (.string ⟨⟨[115,108,105,112,32,48,32,48,32,50,32,105,115]⟩⟩)
def q147 : AV := .v (.string ⟨⟨[98,101,102,111,114,101]⟩⟩)
def q148 : AV := .v (.string ⟨⟨[98,101,102,111,114,101,32,115,101,97]⟩⟩)
def q149 : AV := .v (.string ⟨⟨[97,102,116,101,114]⟩⟩)
def q150 : AV := .v (.string ⟨⟨[97,102,116,101,114,32,111,108,100,32,111,108,100]⟩⟩)
def q151 : AV := .vs 1 [q146,q148,q150] none
def q152 : AV := .v (.string ⟨⟨[97]⟩⟩)
def q153 : AV := .vs 1 [q152,q1,q18] (some 3)
def q154 : AV := .v (.string ⟨⟨[120]⟩⟩)
def q155 : AV := .vs 1 [q154,q1,q18] (some 3)
def q156 : AV := .vs 1 [q152,q1] (some 2)
def q157 : AV := .vs 1 [q154] none
def q158 : AV := .agg [q3,q6,q157]
def q159 : AV := .vs 1 [] (some 0)
def q160 : AV := .agg [q99,q6,q159]
def q161 : AV := .vs 1 [q152,q1] none
def q162 : AV := .vs 1 [q154,q1] none
def q163 : AV := .tup [q162,q3]
def q164 : AV := .vs 1 [q73,q76,q79,q82] (some 4)
def q165 : AV := .vs 1 [q86,q89,q91,q93,q95] (some 5)
def q166 : AV := .vs 1 [q121,q123,q127,q131,q135,q139] (some 6)
def q167 : AV := .vs 1 [q146,q148,q150] (some 3)
def q168 : AV := .vs 1 [q154,q1] (some 2)
def t0 : Tell := ⟨50,[q2],(.v (.bool true))⟩
def t1 : Tell := ⟨39,[q2],q3⟩
def t2 : Tell := ⟨67,[q0,q3],q4⟩
def t3 : Tell := ⟨41,[q0,q3],q5⟩
def t4 : Tell := ⟨67,[q1,q6],q7⟩
def t5 : Tell := ⟨41,[q1,q6],q8⟩
def t6 : Tell := ⟨13,[q2],(.tup [q9,q3])⟩
def t7 : Tell := ⟨50,[q10],(.v (.bool true))⟩
def t8 : Tell := ⟨69,[q11,q3],(.tup [q0,.v (.bool true)])⟩
def t9 : Tell := ⟨50,[.vs 1 [q12] (some 1)],(.v (.bool false))⟩
def t10 : Tell := ⟨69,[q13,q6],(.tup [q12,.v (.bool false)])⟩
def t11 : Tell := ⟨14,[q11],(.tup [q14,.v (.int .i64 6),q3])⟩
def t12 : Tell := ⟨45,[q16],(.tup [.agg [q2,q15,.vs 1 [q17] none],q3])⟩
def t13 : Tell := ⟨50,[q19],(.v (.bool true))⟩
def t14 : Tell := ⟨39,[q19],q3⟩
def t15 : Tell := ⟨47,[q17,q19],q21⟩
def t16 : Tell := ⟨16,[q16,q19],(.tup [q22,q3])⟩
def t17 : Tell := ⟨50,[q23],(.v (.bool true))⟩
def t18 : Tell := ⟨50,[q15],(.v (.bool true))⟩
def t19 : Tell := ⟨70,[q24,q25],(.v (.bool true))⟩
def t20 : Tell := ⟨86,[.vs 1 [q26,q15,q27] (some 3)],q27⟩
def t21 : Tell := ⟨71,[q25,q24],q27⟩
def t22 : Tell := ⟨45,[q30],q31⟩
def t23 : Tell := ⟨56,[q30,q6],q31⟩
def t24 : Tell := ⟨24,[q30,q6],(.tup [q25,q3])⟩
def t25 : Tell := ⟨26,[q30,q6],(.tup [q32,q3])⟩
def t26 : Tell := ⟨137,[q33],(.v (.bool true))⟩
def t27 : Tell := ⟨137,[q34],(.v (.bool true))⟩
def t28 : Tell := ⟨137,[q35],(.v (.bool true))⟩
def t29 : Tell := ⟨137,[q36],(.v (.bool true))⟩
def t30 : Tell := ⟨111,[q39],(.v (.bool true))⟩
def t31 : Tell := ⟨137,[q40],(.v (.bool true))⟩
def t32 : Tell := ⟨111,[q42],(.v (.bool true))⟩
def t33 : Tell := ⟨90,[q45],(.v (.bool true))⟩
def t34 : Tell := ⟨80,[q45],q46⟩
def t35 : Tell := ⟨128,[q45,q47],q37⟩
def t36 : Tell := ⟨137,[q48],(.v (.bool true))⟩
def t37 : Tell := ⟨159,[q37,q50],(.v (.bool true))⟩
def t38 : Tell := ⟨128,[q45,q51],q38⟩
def t39 : Tell := ⟨152,[q38,q53],(.v (.bool true))⟩
def t40 : Tell := ⟨128,[q45,q54],q41⟩
def t41 : Tell := ⟨137,[q55],(.v (.bool true))⟩
def t42 : Tell := ⟨156,[q41,q57],(.v (.bool true))⟩
def t43 : Tell := ⟨102,[q45,q58],(.v (.bool true))⟩
def t44 : Tell := ⟨129,[q47,q51],q59⟩
def t45 : Tell := ⟨129,[q51,q54],q59⟩
def t46 : Tell := ⟨103,[q58],(.v (.bool true))⟩
def t47 : Tell := ⟨131,[q58,q60],q61⟩
def t48 : Tell := ⟨130,[q37,q61],q62⟩
def t49 : Tell := ⟨131,[q58,q63],q64⟩
def t50 : Tell := ⟨130,[q38,q64],q65⟩
def t51 : Tell := ⟨131,[q58,q66],q67⟩
def t52 : Tell := ⟨130,[q41,q67],q68⟩
def t53 : Tell := ⟨104,[q45,q70],(.agg [.vs 2 [.agg [q43,.vs 1 [q62,q65] none],.agg [q44,.vs 1 [q68] none]] none])⟩
def t54 : Tell := ⟨87,[q45,q70],(.v (.bool true))⟩
def t55 : Tell := ⟨76,[q45,q70],q46⟩
def t56 : Tell := ⟨57,[q45,q70],q3⟩
def t57 : Tell := ⟨78,[.vs 1 [q69] (some 1)],q71⟩
def t58 : Tell := ⟨77,[.vs 1 [q72,q71] (some 2)],q73⟩
def t59 : Tell := ⟨78,[.vs 1 [q3,q3,q44] (some 3)],q74⟩
def t60 : Tell := ⟨79,[q47],q74⟩
def t61 : Tell := ⟨77,[.vs 1 [q75,q74,q48] (some 3)],q76⟩
def t62 : Tell := ⟨78,[.vs 1 [q3,q6,q6] (some 3)],q77⟩
def t63 : Tell := ⟨79,[q51],q77⟩
def t64 : Tell := ⟨77,[.vs 1 [q78,q77,q12] (some 3)],q79⟩
def t65 : Tell := ⟨78,[.vs 1 [q6,q3,q44] (some 3)],q80⟩
def t66 : Tell := ⟨79,[q54],q80⟩
def t67 : Tell := ⟨77,[.vs 1 [q81,q80,q55] (some 3)],q82⟩
def t68 : Tell := ⟨58,[q70],q83⟩
def t69 : Tell := ⟨30,[q45,q70],(.tup [q83,q3])⟩
def t70 : Tell := ⟨59,[q45],q3⟩
def t71 : Tell := ⟨78,[.vs 1 [q43] (some 1)],q84⟩
def t72 : Tell := ⟨77,[.vs 1 [q85,q84] (some 2)],q86⟩
def t73 : Tell := ⟨77,[q37],q87⟩
def t74 : Tell := ⟨77,[.vs 1 [q88,q87] (some 2)],q89⟩
def t75 : Tell := ⟨77,[q38],q90⟩
def t76 : Tell := ⟨77,[.vs 1 [q88,q90] (some 2)],q91⟩
def t77 : Tell := ⟨78,[.vs 1 [q44] (some 1)],q92⟩
def t78 : Tell := ⟨77,[.vs 1 [q85,q92] (some 2)],q93⟩
def t79 : Tell := ⟨77,[q41],q94⟩
def t80 : Tell := ⟨77,[.vs 1 [q88,q94] (some 2)],q95⟩
def t81 : Tell := ⟨60,[q45],q96⟩
def t82 : Tell := ⟨33,[q45],(.tup [q96,q3])⟩
def t83 : Tell := ⟨185,[q97],(.tup [.agg [.v (.bool false),.v (.bool false),.v (.bool false),.v (.bool false),.v (.bool false),.v (.bool false),.v (.bool false),.v (.bool false),.v (.bool false),.v (.bool false),.v (.bool false),.v (.bool false),.v (.bool false),.v (.bool false),.v (.bool false),.v (.bool false),.v (.bool false),.v (.bool false),.v (.bool false),.v (.bool false),.v (.bool false),.v (.bool false),.v (.bool false),.v (.bool false),.v (.bool false),.v (.bool false),.v (.bool false),.v (.bool false),.v (.bool false),.v (.bool false),.v (.bool false),.v (.bool false),.v (.bool false),.v (.bool false),.v (.bool false),.v (.bool false),.v (.bool false),.v (.bool false),.v (.bool false),.v (.bool false),.v (.bool false),.v (.bool false),.v (.bool false),.v (.bool false),.v (.bool false),.v (.bool false),.v (.bool false),.v (.bool false),.v (.bool false),.v (.bool false),.v (.bool false),.v (.bool false),.v (.bool false),.v (.bool false),.v (.bool false),.v (.bool false),.v (.bool false),.v (.bool false),.v (.bool false),.v (.bool false),.v (.bool false),.v (.bool false),.v (.bool false),.v (.bool false),.v (.bool false),.v (.bool false),.v (.bool false),.v (.bool false),.v (.bool false),.v (.bool false),.v (.bool false),.v (.bool false),.v (.bool false),.v (.bool false),.v (.bool false),.v (.bool false),.v (.bool false),.v (.bool false),.v (.bool false),.v (.bool false),.v (.bool false),.v (.bool false),.v (.bool false),.v (.bool false),.v (.bool false),.v (.bool false),.v (.bool false),.v (.bool false),.v (.bool false),.v (.bool false),.v (.bool false),.v (.bool false),.v (.bool false),.v (.bool false),.v (.bool false),.v (.bool false),.v (.bool false),.v (.bool true),.v (.bool true),.v (.bool true),.v (.bool true),.v (.bool true),.v (.bool true),.v (.bool true),.v (.bool true),.v (.bool true),.v (.bool true),.v (.bool true),.v (.bool true),.v (.bool true),.v (.bool true),.v (.bool true),.v (.bool true),.v (.bool true),.v (.bool true),.v (.bool true),.v (.bool true),.v (.bool true),.v (.bool true),.v (.bool true),.v (.bool true),.v (.bool true),.v (.bool true),.v (.bool false),.v (.bool false),.v (.bool false),.v (.bool false),.v (.bool false),.v (.bool false),.v (.bool false),.v (.bool false),.v (.bool false),.v (.bool false),.v (.bool false),.v (.bool false),.v (.bool false),.v (.bool false),.v (.bool false),.v (.bool false),.v (.bool false),.v (.bool false),.v (.bool false),.v (.bool false),.v (.bool false),.v (.bool false),.v (.bool false),.v (.bool false),.v (.bool false),.v (.bool false),.v (.bool false),.v (.bool false),.v (.bool false),.v (.bool false),.v (.bool false),.v (.bool false),.v (.bool false),.v (.bool false),.v (.bool false),.v (.bool false),.v (.bool false),.v (.bool false),.v (.bool false),.v (.bool false),.v (.bool false),.v (.bool false),.v (.bool false),.v (.bool false),.v (.bool false),.v (.bool false),.v (.bool false),.v (.bool false),.v (.bool false),.v (.bool false),.v (.bool false),.v (.bool false),.v (.bool false),.v (.bool false),.v (.bool false),.v (.bool false),.v (.bool false),.v (.bool false),.v (.bool false),.v (.bool false),.v (.bool false),.v (.bool false),.v (.bool false),.v (.bool false),.v (.bool false),.v (.bool false),.v (.bool false),.v (.bool false),.v (.bool false),.v (.bool false),.v (.bool false),.v (.bool false),.v (.bool false),.v (.bool false),.v (.bool false),.v (.bool false),.v (.bool false),.v (.bool false),.v (.bool false),.v (.bool false),.v (.bool false),.v (.bool false),.v (.bool false),.v (.bool false),.v (.bool false),.v (.bool false),.v (.bool false),.v (.bool false),.v (.bool false),.v (.bool false),.v (.bool false),.v (.bool false),.v (.bool false),.v (.bool false),.v (.bool false),.v (.bool false),.v (.bool false),.v (.bool false),.v (.bool false),.v (.bool false),.v (.bool false),.v (.bool false),.v (.bool false),.v (.bool false),.v (.bool false),.v (.bool false),.v (.bool false),.v (.bool false),.v (.bool false),.v (.bool false),.v (.bool false),.v (.bool false),.v (.bool false),.v (.bool false),.v (.bool false),.v (.bool false),.v (.bool false),.v (.bool false),.v (.bool false),.v (.bool false),.v (.bool false),.v (.bool false),.v (.bool false),.v (.bool false),.v (.bool false),.v (.bool false),.v (.bool false),.v (.bool false),.v (.bool false),.v (.bool false),.v (.bool false),.v (.bool false),.v (.bool false)],.v (.bool true)])⟩
def t84 : Tell := ⟨149,[q98,q97],q12⟩
def t85 : Tell := ⟨141,[q98],(.v (.bool true))⟩
def t86 : Tell := ⟨149,[q12,q97],q12⟩
def t87 : Tell := ⟨141,[q12],(.v (.bool true))⟩
def t88 : Tell := ⟨114,[q100],(.v (.bool true))⟩
def t89 : Tell := ⟨113,[q100],(.v (.bool false))⟩
def t90 : Tell := ⟨149,[q101,q97],q12⟩
def t91 : Tell := ⟨141,[q101],(.v (.bool true))⟩
def t92 : Tell := ⟨149,[q102,q97],q12⟩
def t93 : Tell := ⟨141,[q102],(.v (.bool true))⟩
def t94 : Tell := ⟨114,[q103],(.v (.bool true))⟩
def t95 : Tell := ⟨113,[q103],(.v (.bool false))⟩
def t96 : Tell := ⟨91,[q104],(.v (.bool true))⟩
def t97 : Tell := ⟨149,[q34,q97],q12⟩
def t98 : Tell := ⟨141,[q34],(.v (.bool true))⟩
def t99 : Tell := ⟨168,[q34],(.v (.bool true))⟩
def t100 : Tell := ⟨169,[q105],(.v (.bool true))⟩
def t101 : Tell := ⟨149,[q36,q97],q12⟩
def t102 : Tell := ⟨141,[q36],(.v (.bool true))⟩
def t103 : Tell := ⟨168,[q36],(.v (.bool true))⟩
def t104 : Tell := ⟨149,[q106,q97],q12⟩
def t105 : Tell := ⟨141,[q106],(.v (.bool true))⟩
def t106 : Tell := ⟨168,[q106],(.v (.bool true))⟩
def t107 : Tell := ⟨169,[q107],(.v (.bool true))⟩
def t108 : Tell := ⟨149,[q108,q97],q12⟩
def t109 : Tell := ⟨141,[q108],(.v (.bool true))⟩
def t110 : Tell := ⟨168,[q108],(.v (.bool true))⟩
def t111 : Tell := ⟨169,[q109],(.v (.bool true))⟩
def t112 : Tell := ⟨81,[q45,q116],(.tup [.agg [q104,.vs 9 [q110,q111,q112,q115] none,.vs 9 [q110,q111,q115] none,.vs 3 [q60,.agg [q3,q3,q6],q117,q47,q63,q51,.agg [q3,q6,q99],q66,.agg [q6,q3,q6],q118] none,.vs 1 [q33,q34,q35,q36,q36,q33,q34,q34,q40,q34] none],q3])⟩
def t113 : Tell := ⟨61,[q45,q116],q3⟩
def t114 : Tell := ⟨78,[.vs 1 [q99] (some 1)],q119⟩
def t115 : Tell := ⟨77,[.vs 1 [q120,q98,q12,q119] (some 4)],q121⟩
def t116 : Tell := ⟨78,[.vs 1 [q6] (some 1)],q122⟩
def t117 : Tell := ⟨77,[.vs 1 [q120,q101,q102,q122] (some 4)],q123⟩
def t118 : Tell := ⟨78,[.vs 1 [q3,q3,q3] (some 3)],q124⟩
def t119 : Tell := ⟨79,[q60],q124⟩
def t120 : Tell := ⟨77,[.vs 1 [q34,q122] (some 2)],q125⟩
def t121 : Tell := ⟨94,[q105],q125⟩
def t122 : Tell := ⟨77,[.vs 1 [q126,q122,q34,q125] (some 4)],q127⟩
def t123 : Tell := ⟨82,[q110],q127⟩
def t124 : Tell := ⟨78,[.vs 1 [q3,q6,q3] (some 3)],q128⟩
def t125 : Tell := ⟨79,[q63],q128⟩
def t126 : Tell := ⟨77,[.vs 1 [q106,q92] (some 2)],q129⟩
def t127 : Tell := ⟨94,[q107],q129⟩
def t128 : Tell := ⟨77,[.vs 1 [q130,q119,q128,q36,q129] (some 5)],q131⟩
def t129 : Tell := ⟨82,[q111],q131⟩
def t130 : Tell := ⟨78,[.vs 1 [q6,q3,q99] (some 3)],q132⟩
def t131 : Tell := ⟨79,[q118],q132⟩
def t132 : Tell := ⟨77,[.vs 1 [q108,q119] (some 2)],q133⟩
def t133 : Tell := ⟨94,[q109],q133⟩
def t134 : Tell := ⟨77,[.vs 1 [q134,q92,q132,q133] (some 4)],q135⟩
def t135 : Tell := ⟨82,[q112],q135⟩
def t136 : Tell := ⟨78,[.vs 1 [q113] (some 1)],q136⟩
def t137 : Tell := ⟨78,[.vs 1 [q3] (some 1)],q137⟩
def t138 : Tell := ⟨77,[.vs 1 [q12,q137] (some 2)],q137⟩
def t139 : Tell := ⟨94,[.agg [q12,q114]],q137⟩
def t140 : Tell := ⟨77,[.vs 1 [q138,q136,q92] (some 3)],q139⟩
def t141 : Tell := ⟨82,[q115],q139⟩
def t142 : Tell := ⟨62,[q116],q140⟩
def t143 : Tell := ⟨34,[q45,q116],(.tup [q140,q3])⟩
def t144 : Tell := ⟨149,[q35,q97],q12⟩
def t145 : Tell := ⟨123,[q35],(.v (.bool true))⟩
def t146 : Tell := ⟨123,[q34],(.v (.bool true))⟩
def t147 : Tell := ⟨124,[q34],(.v (.bool true))⟩
def t148 : Tell := ⟨123,[q36],(.v (.bool true))⟩
def t149 : Tell := ⟨124,[q141],(.v (.bool true))⟩
def t150 : Tell := ⟨95,[.vs 6 [q142,q142] (some 2)],q3⟩
def t151 : Tell := ⟨98,[q117,q117],q3⟩
def t152 : Tell := ⟨83,[q142,q142],(.tup [q3,q3])⟩
def t153 : Tell := ⟨63,[q143],q3⟩
def t154 : Tell := ⟨78,[.vs 1 [q3,q3,q99] (some 3)],q144⟩
def t155 : Tell := ⟨79,[q117],q144⟩
def t156 : Tell := ⟨77,[.vs 1 [q145,q144,q35] (some 3)],q146⟩
def t157 : Tell := ⟨77,[.vs 1 [q147,q34] (some 2)],q148⟩
def t158 : Tell := ⟨77,[.vs 1 [q149,q141] (some 2)],q150⟩
def t159 : Tell := ⟨65,[q143],q151⟩
def t160 : Tell := ⟨36,[q143],(.tup [q151,q3])⟩
def t161 : Tell := ⟨50,[q153],(.v (.bool true))⟩
def t162 : Tell := ⟨50,[q155],(.v (.bool true))⟩
def t163 : Tell := ⟨50,[q156],(.v (.bool true))⟩
def t164 : Tell := ⟨47,[q153,q155],q158⟩
def t165 : Tell := ⟨47,[q153,q156],q160⟩
def t166 : Tell := ⟨86,[.vs 1 [.vs 1 [q152,q1] (some 3),q159,q159] (some 3)],q161⟩
def t167 : Tell := ⟨71,[q153,q160],q161⟩
def t168 : Tell := ⟨86,[.vs 1 [q26,q157,.vs 1 [q1] none] (some 3)],q162⟩
def t169 : Tell := ⟨71,[q161,q158],q162⟩
def t170 : Tell := ⟨53,[q153,q158,q160],q163⟩
def t171 : Tell := ⟨18,[q153,q155,q156],q163⟩
def t172 : Tell := ⟨15,[q14,q10],(.v (.bool true))⟩
def t173 : Tell := ⟨19,[q14,q3,q10],(.v (.bool true))⟩
def t174 : Tell := ⟨15,[q17,q2],(.v (.bool true))⟩
def t175 : Tell := ⟨15,[q20,q23],(.v (.bool true))⟩
def t176 : Tell := ⟨27,[q22,.agg [q2,.vs 3 [q28] (some 2)]],(.v (.bool true))⟩
def t177 : Tell := ⟨15,[q25,q19],(.v (.bool true))⟩
def t178 : Tell := ⟨19,[q25,q3,q19],(.v (.bool true))⟩
def t179 : Tell := ⟨15,[q15,q15],(.v (.bool true))⟩
def t180 : Tell := ⟨27,[q32,.agg [q19,.vs 3 [q24] (some 1)]],(.v (.bool true))⟩
def t181 : Tell := ⟨15,[q83,q164],(.v (.bool true))⟩
def t182 : Tell := ⟨19,[q83,q3,q164],(.v (.bool true))⟩
def t183 : Tell := ⟨15,[q96,q165],(.v (.bool true))⟩
def t184 : Tell := ⟨19,[q96,q3,q165],(.v (.bool true))⟩
def t185 : Tell := ⟨15,[q140,q166],(.v (.bool true))⟩
def t186 : Tell := ⟨19,[q140,q3,q166],(.v (.bool true))⟩
def t187 : Tell := ⟨15,[q151,q167],(.v (.bool true))⟩
def t188 : Tell := ⟨19,[q151,q3,q167],(.v (.bool true))⟩
def t189 : Tell := ⟨15,[q162,q168],(.v (.bool true))⟩
def t190 : Tell := ⟨19,[q162,q3,q168],(.v (.bool true))⟩
end Go.Ev.Cl
namespace Go.Ev.Cl
theorem g0 : Good t0 := good [] trivial [] trivial (by kernel_rfl) (by kernel_rfl)
theorem g1 : Good t1 := good [t0] ⟨g0,trivial⟩ [] trivial (by kernel_rfl) (by kernel_rfl)
theorem g2 : Good t2 := good [] trivial [] trivial (by kernel_rfl) (by kernel_rfl)
theorem g3 : Good t3 := good [t2] ⟨g2,trivial⟩ [] trivial (by kernel_rfl) (by kernel_rfl)
theorem g4 : Good t4 := good [] trivial [] trivial (by kernel_rfl) (by kernel_rfl)
theorem g5 : Good t5 := good [t4] ⟨g4,trivial⟩ [] trivial (by kernel_rfl) (by kernel_rfl)
theorem g6 : Good t6 := good [t1,t3,t5] ⟨g1,g3,g5,trivial⟩ [] trivial (by kernel_rfl) (by kernel_rfl)
theorem g7 : Good t7 := good [] trivial [] trivial (by kernel_rfl) (by kernel_rfl)
theorem g8 : Good t8 := good [t3,t7] ⟨g3,g7,trivial⟩ [] trivial (by kernel_rfl) (by kernel_rfl)
theorem g9 : Good t9 := good [] trivial [] trivial (by kernel_rfl) (by kernel_rfl)
theorem g10 : Good t10 := good [t9] ⟨g9,trivial⟩ [] trivial (by kernel_rfl) (by kernel_rfl)
theorem g11 : Good t11 := good [t3,t8,t10] ⟨g3,g8,g10,trivial⟩ [] trivial (by kernel_rfl) (by kernel_rfl)
theorem g12 : Good t12 := good [t0] ⟨g0,trivial⟩ [] trivial (by kernel_rfl) (by kernel_rfl)
theorem g13 : Good t13 := good [] trivial [] trivial (by kernel_rfl) (by kernel_rfl)
theorem g14 : Good t14 := good [t13] ⟨g13,trivial⟩ [] trivial (by kernel_rfl) (by kernel_rfl)
theorem g15 : Good t15 := good [] trivial [] trivial (by kernel_rfl) (by kernel_rfl)
theorem g16 : Good t16 := good [t12,t14,t15] ⟨g12,g14,g15,trivial⟩ [] trivial (by kernel_rfl) (by kernel_rfl)
theorem g17 : Good t17 := good [] trivial [] trivial (by kernel_rfl) (by kernel_rfl)
theorem g18 : Good t18 := good [] trivial [] trivial (by kernel_rfl) (by kernel_rfl)
theorem g19 : Good t19 := good [t18] ⟨g18,trivial⟩ [] trivial (by kernel_rfl) (by kernel_rfl)
theorem g20 : Good t20 := good [] trivial [] trivial (by kernel_rfl) (by kernel_rfl)
theorem g21 : Good t21 := good [t20] ⟨g20,trivial⟩ [] trivial (by kernel_rfl) (by kernel_rfl)
theorem g22 : Good t22 := good [t0,t17,t19,t21] ⟨g0,g17,g19,g21,trivial⟩ [] trivial (by kernel_rfl) (by kernel_rfl)
theorem g23 : Good t23 := good [t22] ⟨g22,trivial⟩ [] trivial (by kernel_rfl) (by kernel_rfl)
theorem g24 : Good t24 := good [t23] ⟨g23,trivial⟩ [] trivial (by kernel_rfl) (by kernel_rfl)
theorem g25 : Good t25 := good [t23] ⟨g23,trivial⟩ [] trivial (by kernel_rfl) (by kernel_rfl)
theorem g26 : Good t26 := good [] trivial [] trivial (by kernel_rfl) (by kernel_rfl)
theorem g27 : Good t27 := good [] trivial [] trivial (by kernel_rfl) (by kernel_rfl)
theorem g28 : Good t28 := good [] trivial [] trivial (by kernel_rfl) (by kernel_rfl)
theorem g29 : Good t29 := good [] trivial [] trivial (by kernel_rfl) (by kernel_rfl)
theorem g30 : Good t30 := good [t26,t27,t28,t29] ⟨g26,g27,g28,g29,trivial⟩ [] trivial (by kernel_rfl) (by kernel_rfl)
theorem g31 : Good t31 := good [] trivial [] trivial (by kernel_rfl) (by kernel_rfl)
theorem g32 : Good t32 := good [t27,t31] ⟨g27,g31,trivial⟩ [] trivial (by kernel_rfl) (by kernel_rfl)
theorem g33 : Good t33 := good [t30,t32] ⟨g30,g32,trivial⟩ [] trivial (by kernel_rfl) (by kernel_rfl)
theorem g34 : Good t34 := good [t33] ⟨g33,trivial⟩ [] trivial (by kernel_rfl) (by kernel_rfl)
theorem g35 : Good t35 := good [] trivial [] trivial (by kernel_rfl) (by kernel_rfl)
theorem g36 : Good t36 := good [] trivial [] trivial (by kernel_rfl) (by kernel_rfl)
theorem g37 : Good t37 := good [t36] ⟨g36,trivial⟩ [] trivial (by kernel_rfl) (by kernel_rfl)
theorem g38 : Good t38 := good [] trivial [] trivial (by kernel_rfl) (by kernel_rfl)
theorem g39 : Good t39 := good [] trivial [] trivial (by kernel_rfl) (by kernel_rfl)
theorem g40 : Good t40 := good [] trivial [] trivial (by kernel_rfl) (by kernel_rfl)
theorem g41 : Good t41 := good [] trivial [] trivial (by kernel_rfl) (by kernel_rfl)
theorem g42 : Good t42 := good [t41] ⟨g41,trivial⟩ [] trivial (by kernel_rfl) (by kernel_rfl)
theorem g43 : Good t43 := good [t35,t37,t38,t39,t40,t42] ⟨g35,g37,g38,g39,g40,g42,trivial⟩ [] trivial (by kernel_rfl) (by kernel_rfl)
theorem g44 : Good t44 := good [] trivial [] trivial (by kernel_rfl) (by kernel_rfl)
theorem g45 : Good t45 := good [] trivial [] trivial (by kernel_rfl) (by kernel_rfl)
theorem g46 : Good t46 := good [t44,t45] ⟨g44,g45,trivial⟩ [] trivial (by kernel_rfl) (by kernel_rfl)
theorem g47 : Good t47 := good [] trivial [] trivial (by kernel_rfl) (by kernel_rfl)
theorem g48 : Good t48 := good [] trivial [] trivial (by kernel_rfl) (by kernel_rfl)
theorem g49 : Good t49 := good [] trivial [] trivial (by kernel_rfl) (by kernel_rfl)
theorem g50 : Good t50 := good [] trivial [] trivial (by kernel_rfl) (by kernel_rfl)
theorem g51 : Good t51 := good [] trivial [] trivial (by kernel_rfl) (by kernel_rfl)
theorem g52 : Good t52 := good [] trivial [] trivial (by kernel_rfl) (by kernel_rfl)
theorem g53 : Good t53 := good [t47,t48,t49,t50,t51,t52] ⟨g47,g48,g49,g50,g51,g52,trivial⟩ [] trivial (by kernel_rfl) (by kernel_rfl)
theorem g54 : Good t54 := good [t43,t46,t53] ⟨g43,g46,g53,trivial⟩ [] trivial (by kernel_rfl) (by kernel_rfl)
theorem g55 : Good t55 := good [t34,t54] ⟨g34,g54,trivial⟩ [] trivial (by kernel_rfl) (by kernel_rfl)
theorem g56 : Good t56 := good [t55] ⟨g55,trivial⟩ [] trivial (by kernel_rfl) (by kernel_rfl)
theorem g57 : Good t57 := good [] trivial [] trivial (by kernel_rfl) (by kernel_rfl)
theorem g58 : Good t58 := good [] trivial [] trivial (by kernel_rfl) (by kernel_rfl)
theorem g59 : Good t59 := good [] trivial [] trivial (by kernel_rfl) (by kernel_rfl)
theorem g60 : Good t60 := good [t59] ⟨g59,trivial⟩ [] trivial (by kernel_rfl) (by kernel_rfl)
theorem g61 : Good t61 := good [] trivial [] trivial (by kernel_rfl) (by kernel_rfl)
theorem g62 : Good t62 := good [] trivial [] trivial (by kernel_rfl) (by kernel_rfl)
theorem g63 : Good t63 := good [t62] ⟨g62,trivial⟩ [] trivial (by kernel_rfl) (by kernel_rfl)
theorem g64 : Good t64 := good [] trivial [] trivial (by kernel_rfl) (by kernel_rfl)
theorem g65 : Good t65 := good [] trivial [] trivial (by kernel_rfl) (by kernel_rfl)
theorem g66 : Good t66 := good [t65] ⟨g65,trivial⟩ [] trivial (by kernel_rfl) (by kernel_rfl)
theorem g67 : Good t67 := good [] trivial [] trivial (by kernel_rfl) (by kernel_rfl)
theorem g68 : Good t68 := good [t57,t58,t60,t61,t63,t64,t66,t67] ⟨g57,g58,g60,g61,g63,g64,g66,g67,trivial⟩ [] trivial (by kernel_rfl) (by kernel_rfl)
theorem g69 : Good t69 := good [t56,t68] ⟨g56,g68,trivial⟩ [] trivial (by kernel_rfl) (by kernel_rfl)
theorem g70 : Good t70 := good [t34] ⟨g34,trivial⟩ [] trivial (by kernel_rfl) (by kernel_rfl)
theorem g71 : Good t71 := good [] trivial [] trivial (by kernel_rfl) (by kernel_rfl)
theorem g72 : Good t72 := good [] trivial [] trivial (by kernel_rfl) (by kernel_rfl)
theorem g73 : Good t73 := good [] trivial [] trivial (by kernel_rfl) (by kernel_rfl)
theorem g74 : Good t74 := good [] trivial [] trivial (by kernel_rfl) (by kernel_rfl)
theorem g75 : Good t75 := good [] trivial [] trivial (by kernel_rfl) (by kernel_rfl)
theorem g76 : Good t76 := good [] trivial [] trivial (by kernel_rfl) (by kernel_rfl)
theorem g77 : Good t77 := good [] trivial [] trivial (by kernel_rfl) (by kernel_rfl)
theorem g78 : Good t78 := good [] trivial [] trivial (by kernel_rfl) (by kernel_rfl)
theorem g79 : Good t79 := good [] trivial [] trivial (by kernel_rfl) (by kernel_rfl)
theorem g80 : Good t80 := good [] trivial [] trivial (by kernel_rfl) (by kernel_rfl)
theorem g81 : Good t81 := good [t71,t72,t73,t74,t75,t76,t77,t78,t79,t80] ⟨g71,g72,g73,g74,g75,g76,g77,g78,g79,g80,trivial⟩ [] trivial (by kernel_rfl) (by kernel_rfl)
theorem g82 : Good t82 := good [t70,t81] ⟨g70,g81,trivial⟩ [] trivial (by kernel_rfl) (by kernel_rfl)
theorem g83 : Good t83 := good [] trivial [] trivial (by kernel_rfl) (by kernel_rfl)
theorem g84 : Good t84 := good [t83] ⟨g83,trivial⟩ [] trivial (by kernel_rfl) (by kernel_rfl)
theorem g85 : Good t85 := good [t84] ⟨g84,trivial⟩ [] trivial (by kernel_rfl) (by kernel_rfl)
theorem g86 : Good t86 := good [] trivial [] trivial (by kernel_rfl) (by kernel_rfl)
theorem g87 : Good t87 := good [t86] ⟨g86,trivial⟩ [] trivial (by kernel_rfl) (by kernel_rfl)
theorem g88 : Good t88 := good [t85,t87] ⟨g85,g87,trivial⟩ [] trivial (by kernel_rfl) (by kernel_rfl)
theorem g89 : Good t89 := good [t88] ⟨g88,trivial⟩ [] trivial (by kernel_rfl) (by kernel_rfl)
theorem g90 : Good t90 := good [t83] ⟨g83,trivial⟩ [] trivial (by kernel_rfl) (by kernel_rfl)
theorem g91 : Good t91 := good [t90] ⟨g90,trivial⟩ [] trivial (by kernel_rfl) (by kernel_rfl)
theorem g92 : Good t92 := good [t83] ⟨g83,trivial⟩ [] trivial (by kernel_rfl) (by kernel_rfl)
theorem g93 : Good t93 := good [t92] ⟨g92,trivial⟩ [] trivial (by kernel_rfl) (by kernel_rfl)
theorem g94 : Good t94 := good [t91,t93] ⟨g91,g93,trivial⟩ [] trivial (by kernel_rfl) (by kernel_rfl)
theorem g95 : Good t95 := good [t94] ⟨g94,trivial⟩ [] trivial (by kernel_rfl) (by kernel_rfl)
theorem g96 : Good t96 := good [t89,t95] ⟨g89,g95,trivial⟩ [] trivial (by kernel_rfl) (by kernel_rfl)
theorem g97 : Good t97 := good [t83] ⟨g83,trivial⟩ [] trivial (by kernel_rfl) (by kernel_rfl)
theorem g98 : Good t98 := good [t97] ⟨g97,trivial⟩ [] trivial (by kernel_rfl) (by kernel_rfl)
theorem g99 : Good t99 := good [t98] ⟨g98,trivial⟩ [] trivial (by kernel_rfl) (by kernel_rfl)
theorem g100 : Good t100 := good [t99] ⟨g99,trivial⟩ [] trivial (by kernel_rfl) (by kernel_rfl)
theorem g101 : Good t101 := good [t83] ⟨g83,trivial⟩ [] trivial (by kernel_rfl) (by kernel_rfl)
theorem g102 : Good t102 := good [t101] ⟨g101,trivial⟩ [] trivial (by kernel_rfl) (by kernel_rfl)
theorem g103 : Good t103 := good [t102] ⟨g102,trivial⟩ [] trivial (by kernel_rfl) (by kernel_rfl)
theorem g104 : Good t104 := good [t83] ⟨g83,trivial⟩ [] trivial (by kernel_rfl) (by kernel_rfl)
theorem g105 : Good t105 := good [t104] ⟨g104,trivial⟩ [] trivial (by kernel_rfl) (by kernel_rfl)
theorem g106 : Good t106 := good [t105] ⟨g105,trivial⟩ [] trivial (by kernel_rfl) (by kernel_rfl)
theorem g107 : Good t107 := good [t106] ⟨g106,trivial⟩ [] trivial (by kernel_rfl) (by kernel_rfl)
theorem g108 : Good t108 := good [t83] ⟨g83,trivial⟩ [] trivial (by kernel_rfl) (by kernel_rfl)
theorem g109 : Good t109 := good [t108] ⟨g108,trivial⟩ [] trivial (by kernel_rfl) (by kernel_rfl)
theorem g110 : Good t110 := good [t109] ⟨g109,trivial⟩ [] trivial (by kernel_rfl) (by kernel_rfl)
theorem g111 : Good t111 := good [t110] ⟨g110,trivial⟩ [] trivial (by kernel_rfl) (by kernel_rfl)
theorem g112 : Good t112 := good [t70,t96,t99,t100,t103,t107,t111] ⟨g70,g96,g99,g100,g103,g107,g111,trivial⟩ [] trivial (by kernel_rfl) (by kernel_rfl)
theorem g113 : Good t113 := good [t112] ⟨g112,trivial⟩ [] trivial (by kernel_rfl) (by kernel_rfl)
theorem g114 : Good t114 := good [] trivial [] trivial (by kernel_rfl) (by kernel_rfl)
theorem g115 : Good t115 := good [] trivial [] trivial (by kernel_rfl) (by kernel_rfl)
theorem g116 : Good t116 := good [] trivial [] trivial (by kernel_rfl) (by kernel_rfl)
theorem g117 : Good t117 := good [] trivial [] trivial (by kernel_rfl) (by kernel_rfl)
theorem g118 : Good t118 := good [] trivial [] trivial (by kernel_rfl) (by kernel_rfl)
theorem g119 : Good t119 := good [t118] ⟨g118,trivial⟩ [] trivial (by kernel_rfl) (by kernel_rfl)
theorem g120 : Good t120 := good [] trivial [] trivial (by kernel_rfl) (by kernel_rfl)
theorem g121 : Good t121 := good [t116,t120] ⟨g116,g120,trivial⟩ [] trivial (by kernel_rfl) (by kernel_rfl)
theorem g122 : Good t122 := good [] trivial [] trivial (by kernel_rfl) (by kernel_rfl)
theorem g123 : Good t123 := good [t116,t119,t121,t122] ⟨g116,g119,g121,g122,trivial⟩ [] trivial (by kernel_rfl) (by kernel_rfl)
theorem g124 : Good t124 := good [] trivial [] trivial (by kernel_rfl) (by kernel_rfl)
theorem g125 : Good t125 := good [t124] ⟨g124,trivial⟩ [] trivial (by kernel_rfl) (by kernel_rfl)
theorem g126 : Good t126 := good [] trivial [] trivial (by kernel_rfl) (by kernel_rfl)
theorem g127 : Good t127 := good [t77,t126] ⟨g77,g126,trivial⟩ [] trivial (by kernel_rfl) (by kernel_rfl)
theorem g128 : Good t128 := good [] trivial [] trivial (by kernel_rfl) (by kernel_rfl)
theorem g129 : Good t129 := good [t114,t125,t127,t128] ⟨g114,g125,g127,g128,trivial⟩ [] trivial (by kernel_rfl) (by kernel_rfl)
theorem g130 : Good t130 := good [] trivial [] trivial (by kernel_rfl) (by kernel_rfl)
theorem g131 : Good t131 := good [t130] ⟨g130,trivial⟩ [] trivial (by kernel_rfl) (by kernel_rfl)
theorem g132 : Good t132 := good [] trivial [] trivial (by kernel_rfl) (by kernel_rfl)
theorem g133 : Good t133 := good [t114,t132] ⟨g114,g132,trivial⟩ [] trivial (by kernel_rfl) (by kernel_rfl)
theorem g134 : Good t134 := good [] trivial [] trivial (by kernel_rfl) (by kernel_rfl)
theorem g135 : Good t135 := good [t77,t131,t133,t134] ⟨g77,g131,g133,g134,trivial⟩ [] trivial (by kernel_rfl) (by kernel_rfl)
theorem g136 : Good t136 := good [] trivial [] trivial (by kernel_rfl) (by kernel_rfl)
theorem g137 : Good t137 := good [] trivial [] trivial (by kernel_rfl) (by kernel_rfl)
theorem g138 : Good t138 := good [] trivial [] trivial (by kernel_rfl) (by kernel_rfl)
theorem g139 : Good t139 := good [t137,t138] ⟨g137,g138,trivial⟩ [] trivial (by kernel_rfl) (by kernel_rfl)
theorem g140 : Good t140 := good [] trivial [] trivial (by kernel_rfl) (by kernel_rfl)
theorem g141 : Good t141 := good [t77,t119,t136,t139,t140] ⟨g77,g119,g136,g139,g140,trivial⟩ [] trivial (by kernel_rfl) (by kernel_rfl)
theorem g142 : Good t142 := good [t114,t115,t116,t117,t123,t129,t135,t141] ⟨g114,g115,g116,g117,g123,g129,g135,g141,trivial⟩ [] trivial (by kernel_rfl) (by kernel_rfl)
theorem g143 : Good t143 := good [t113,t142] ⟨g113,g142,trivial⟩ [] trivial (by kernel_rfl) (by kernel_rfl)
theorem g144 : Good t144 := good [t83] ⟨g83,trivial⟩ [] trivial (by kernel_rfl) (by kernel_rfl)
theorem g145 : Good t145 := good [t144] ⟨g144,trivial⟩ [] trivial (by kernel_rfl) (by kernel_rfl)
theorem g146 : Good t146 := good [t97] ⟨g97,trivial⟩ [] trivial (by kernel_rfl) (by kernel_rfl)
theorem g147 : Good t147 := good [t146] ⟨g146,trivial⟩ [] trivial (by kernel_rfl) (by kernel_rfl)
theorem g148 : Good t148 := good [t101] ⟨g101,trivial⟩ [] trivial (by kernel_rfl) (by kernel_rfl)
theorem g149 : Good t149 := good [t148] ⟨g148,trivial⟩ [] trivial (by kernel_rfl) (by kernel_rfl)
theorem g150 : Good t150 := good [t145,t147,t149] ⟨g145,g147,g149,trivial⟩ [] trivial (by kernel_rfl) (by kernel_rfl)
theorem g151 : Good t151 := good [] trivial [] trivial (by kernel_rfl) (by kernel_rfl)
theorem g152 : Good t152 := good [t150,t151] ⟨g150,g151,trivial⟩ [] trivial (by kernel_rfl) (by kernel_rfl)
theorem g153 : Good t153 := good [t152] ⟨g152,trivial⟩ [] trivial (by kernel_rfl) (by kernel_rfl)
theorem g154 : Good t154 := good [] trivial [] trivial (by kernel_rfl) (by kernel_rfl)
theorem g155 : Good t155 := good [t154] ⟨g154,trivial⟩ [] trivial (by kernel_rfl) (by kernel_rfl)
theorem g156 : Good t156 := good [] trivial [] trivial (by kernel_rfl) (by kernel_rfl)
theorem g157 : Good t157 := good [] trivial [] trivial (by kernel_rfl) (by kernel_rfl)
theorem g158 : Good t158 := good [] trivial [] trivial (by kernel_rfl) (by kernel_rfl)
theorem g159 : Good t159 := good [t155,t156,t157,t158] ⟨g155,g156,g157,g158,trivial⟩ [] trivial (by kernel_rfl) (by kernel_rfl)
theorem g160 : Good t160 := good [t153,t159] ⟨g153,g159,trivial⟩ [] trivial (by kernel_rfl) (by kernel_rfl)
theorem g161 : Good t161 := good [] trivial [] trivial (by kernel_rfl) (by kernel_rfl)
theorem g162 : Good t162 := good [] trivial [] trivial (by kernel_rfl) (by kernel_rfl)
theorem g163 : Good t163 := good [] trivial [] trivial (by kernel_rfl) (by kernel_rfl)
theorem g164 : Good t164 := good [] trivial [] trivial (by kernel_rfl) (by kernel_rfl)
theorem g165 : Good t165 := good [] trivial [] trivial (by kernel_rfl) (by kernel_rfl)
theorem g166 : Good t166 := good [] trivial [] trivial (by kernel_rfl) (by kernel_rfl)
theorem g167 : Good t167 := good [t166] ⟨g166,trivial⟩ [] trivial (by kernel_rfl) (by kernel_rfl)
theorem g168 : Good t168 := good [] trivial [] trivial (by kernel_rfl) (by kernel_rfl)
theorem g169 : Good t169 := good [t168] ⟨g168,trivial⟩ [] trivial (by kernel_rfl) (by kernel_rfl)
theorem g170 : Good t170 := good [t167,t169] ⟨g167,g169,trivial⟩ [] trivial (by kernel_rfl) (by kernel_rfl)
theorem g171 : Good t171 := good [t161,t162,t163,t164,t165,t170] ⟨g161,g162,g163,g164,g165,g170,trivial⟩ [] trivial (by kernel_rfl) (by kernel_rfl)
theorem g172 : Good t172 := good [] trivial [] trivial (by kernel_rfl) (by kernel_rfl)
theorem g173 : Good t173 := good [t172] ⟨g172,trivial⟩ [] trivial (by kernel_rfl) (by kernel_rfl)
theorem g174 : Good t174 := good [] trivial [] trivial (by kernel_rfl) (by kernel_rfl)
theorem g175 : Good t175 := good [] trivial [] trivial (by kernel_rfl) (by kernel_rfl)
theorem g176 : Good t176 := good [t174,t175] ⟨g174,g175,trivial⟩ [] trivial (by kernel_rfl) (by kernel_rfl)
theorem g177 : Good t177 := good [] trivial [] trivial (by kernel_rfl) (by kernel_rfl)
theorem g178 : Good t178 := good [t177] ⟨g177,trivial⟩ [] trivial (by kernel_rfl) (by kernel_rfl)
theorem g179 : Good t179 := good [] trivial [] trivial (by kernel_rfl) (by kernel_rfl)
theorem g180 : Good t180 := good [t177,t179] ⟨g177,g179,trivial⟩ [] trivial (by kernel_rfl) (by kernel_rfl)
theorem g181 : Good t181 := good [] trivial [] trivial (by kernel_rfl) (by kernel_rfl)
theorem g182 : Good t182 := good [t181] ⟨g181,trivial⟩ [] trivial (by kernel_rfl) (by kernel_rfl)
theorem g183 : Good t183 := good [] trivial [] trivial (by kernel_rfl) (by kernel_rfl)
theorem g184 : Good t184 := good [t183] ⟨g183,trivial⟩ [] trivial (by kernel_rfl) (by kernel_rfl)
theorem g185 : Good t185 := good [] trivial [] trivial (by kernel_rfl) (by kernel_rfl)
theorem g186 : Good t186 := good [t185] ⟨g185,trivial⟩ [] trivial (by kernel_rfl) (by kernel_rfl)
theorem g187 : Good t187 := good [] trivial [] trivial (by kernel_rfl) (by kernel_rfl)
theorem g188 : Good t188 := good [t187] ⟨g187,trivial⟩ [] trivial (by kernel_rfl) (by kernel_rfl)
theorem g189 : Good t189 := good [] trivial [] trivial (by kernel_rfl) (by kernel_rfl)
theorem g190 : Good t190 := good [t189] ⟨g189,trivial⟩ [] trivial (by kernel_rfl) (by kernel_rfl)
end Go.Ev.Cl
namespace Go.Ev.Cl
theorem gAll : Good ⟨11,[],.v (.bool true)⟩ := good [t6,t11,t16,t24,t25,t69,t82,t143,t160,t171,t173,t176,t178,t180,t182,t184,t186,t188,t190] ⟨g6,g11,g16,g24,g25,g69,g82,g143,g160,g171,g173,g176,g178,g180,g182,g184,g186,g188,g190,trivial⟩ [] trivial (by kernel_rfl) (by kernel_rfl)
end Go.Ev.Cl
namespace Go.Ev
open Go.Proofs
noncomputable def eN : Exts := ⟨fun _ => none⟩
theorem extOKN0 : ExtOK { Cx eN with lay := fun _ => none } := ⟨fun _ _ h => (nomatch h),fun _ _ h => (nomatch h),fun _ _ h => (nomatch h)⟩
theorem extOKN : ExtOK (Cx eN) := by
 refine extOK_lay (C := { Cx eN with lay := fun _ => none }) (f := 66) (g := ccA 88) rfl ?_ extOKN0 rfl rfl rfl
 intro args H v H' h
 exact lay_cc Go.Proofs.Tryz.lays156 Go.Proofs.Tryz.Builder_Extra_156 (f := 66) rfl ⟨_,Tryz.func66,by kernel_rfl,by kernel_rfl⟩ h
noncomputable def eA0 : Exts := eN.more 11 (atArgs [] (.v (.bool true)))
theorem extOKA0 : ExtOK (Cx eA0) := by
 refine extOK_more (C := Cx eN) (f := 11) (g := atArgs [] (.v (.bool true))) rfl ?_ extOKN rfl
 intro args v h Z ρ H w vals hs hl
 obtain ⟨⟨e,x,he,ha⟩, -⟩ := Cl.gAll
 obtain ⟨rfl,rfl⟩ := atArgs_some h
 exact ext_of_ans (C := Cl.CC.more2 e x) Cl.nogoC Cl.mixedC he ha rfl Z ρ H w vals hs hl
noncomputable def eA : Exts := eA0.more 126 idxStr
theorem extOKA : ExtOK (Cx eA) := by
 refine extOK_more (C := Cx eA0) (f := 126) (g := idxStr) rfl ?_ extOKA0 rfl
 intro args v h Z ρ H w vals hs hl
 exact ext_idx (fn := Tryz.f126) Tryz.func126 (by kernel_rfl) (by kernel_rfl) (by kernel_rfl) (by kernel_rfl) h Z ρ H w vals hs hl
theorem quietA : Quiet eA := by
 intro f h1 h2 h3 h4
 show (if Nat.beq f 126 then _ else if Nat.beq f 11 then _ else none) = none
 rw [if_neg (fun h => h4 (Nat.eq_of_beq_eq_true h))]
 rw [if_neg (fun h => h1 (Nat.eq_of_beq_eq_true h))]
theorem eA11 : eA.x 11 = some (atArgs [] (.v (.bool true))) := rfl
theorem call11 (me : FuncId) (d : Option Tmp) (H : Heap) : callA (Cx eA) (lim (Cx eA)) me 11 d [] H = some (.v (.bool true),H) :=
 ext_call (show (Cx eA).ext 11 = some (atArgs [] (.v (.bool true))) from eA11) rfl H
end Go.Ev
namespace Go.Ev
open Go.Proofs
attribute [local irreducible] Wp WpS
theorem mrgL_comm (o : List ByteArray) (h k : Hnk) : mrgL o h k = mrgL o k h := by
 unfold mrgL
 by_cases h1 : k.1 < h.1
 ·rw [if_pos h1,if_neg (by omega)]
 ·rw [if_neg h1]
  by_cases h2 : h.1 < k.1
  ·rw [if_pos h2]
  ·rw [if_neg h2]
   unfold mrgA
   rw [if_pos (by omega),if_pos (by omega)]
theorem mergeL_ok {o a b : List ByteArray} (h : rowsB o = true ∧ rowsB a = true ∧ rowsB b = true) : mergeL o a b = if a = o ∨ a = b then (b,0) else if b = o then (a,0) else mrgL o (hunkL o a) (hunkL o b) := if_pos h
theorem mergeL_bad {o a b : List ByteArray} (h : ¬ (rowsB o = true ∧ rowsB a = true ∧ rowsB b = true)) : mergeL o a b = ([],110) := if_neg h
theorem mergeL_comm (o a b : List ByteArray) : mergeL o a b = mergeL o b a := by
 by_cases h : rowsB o = true ∧ rowsB a = true ∧ rowsB b = true
 ·rw [mergeL_ok h,mergeL_ok ⟨h.1,h.2.2,h.2.1⟩]
  by_cases e1 : a = o
  ·rw [if_pos (Or.inl e1)]
   by_cases e2 : b = o
   ·rw [if_pos (Or.inl e2),e1,e2]
   ·have e3 : b ≠ a := fun e3 => e2 (e3.trans e1)
    rw [if_neg (by rintro (h | h);exact e2 h;exact e3 h),if_pos e1]
  ·by_cases e2 : a = b
   ·rw [if_pos (Or.inr e2),if_pos (Or.inr e2.symm),e2]
   ·rw [if_neg (by rintro (h | h);exact e1 h;exact e2 h)]
    by_cases e3 : b = o
    ·rw [if_pos e3,if_pos (Or.inl e3)]
    ·rw [if_neg e3,if_neg (by rintro (h | h);exact e3 h;exact e2 h.symm),if_neg e1,mrgL_comm]
 ·rw [mergeL_bad h,mergeL_bad (fun h2 => h ⟨h2.1,h2.2.2,h2.2.1⟩)]
theorem mergeL_same1 {o a : List ByteArray} (ho : rowsB o = true) (ha : rowsB a = true) : mergeL o a o = (a,0) := by
 rw [mergeL_ok ⟨ho,ha,ho⟩]
 by_cases e1 : a = o
 ·rw [if_pos (Or.inl e1),e1]
 ·rw [if_neg (by rintro (h | h) <;> exact e1 h),if_pos rfl]
theorem mergeL_same2 {o a : List ByteArray} (ho : rowsB o = true) (ha : rowsB a = true) : mergeL o a a = (a,0) := by
 rw [mergeL_ok ⟨ho,ha,ha⟩,if_pos (Or.inr rfl)]
theorem mrgA_err (o : List ByteArray) (h k : Hnk) : (mrgA o h k).2 = 0 ∨ (mrgA o h k).2 = 113 ∨ (mrgA o h k).2 = 110 := by
 unfold mrgA
 split
 ·exact Or.inr (Or.inl rfl)
 ·split
  ·exact Or.inr (Or.inr rfl)
  ·exact Or.inl rfl
theorem mergeL_err (o a b : List ByteArray) : (mergeL o a b).2 = 0 ∨ (mergeL o a b).2 = 113 ∨ (mergeL o a b).2 = 110 := by
 unfold mergeL
 split
 ·split
  ·exact Or.inl rfl
  ·split
   ·exact Or.inl rfl
   ·unfold mrgL
    split <;> exact mrgA_err ..
 ·exact Or.inr (Or.inr rfl)
theorem mrgA_len (o : List ByteArray) (h k : Hnk) : (mrgA o h k).1.length ≤ 200 := by
 unfold mrgA
 split
 ·exact Nat.zero_le _
 ·split
  ·exact Nat.zero_le _
  ·exact Nat.le_of_not_lt ‹_›
theorem ans18_len (o a b : List ByteArray) (_lo : o.length ≤ 200) (la : a.length ≤ 200) (lb : b.length ≤ 200) : (mergeL o a b).1.length ≤ 200 := by
 unfold mergeL
 split
 ·split
  ·exact lb
  ·split
   ·exact la
   ·unfold mrgL
    split <;> exact mrgA_len ..
 ·exact Nat.zero_le _
theorem ans19 {e : Exts} (he : Quiet e) (l m : List ByteArray) (hl : l.length < 2 ^ 63) (x y : AV) (hx : SlOf 1 (strs l) x) (hy : SlOf 1 (strs m) y) (n : Nat) : Ans (Cx e) 19 [x,.v (.int .i64 n),y] (.v (.bool (decide (n = 0) && decide (l = m)))) := by
 have c15 := fun me d H => call15 he l m hl x y hx hy me d H
 unfold Ans
 rw [fn_step (fn_19 e) (show Tryz.f19.body = some _ from rfl)]
 by_cases h : n = 0
 ·subst h
  have hi : ((0 : Nat) : Int) = 0 := rfl
  simp -implicitDefEqProofs only [Tryz.f19,go_sem,↓reduceIte,Int.reduceEq,Int.reduceLT,Int.reduceLE,List.reduceReplicate,intA,setT_nil,setT_cons,hx.cells,hx.flat,hx.bound,hy.cells,hy.flat,hy.bound,hi,c15,decide_true,decide_false,Bool.true_and,Bool.false_and,↓boolP_bool,↓iteB_true,↓iteB_false]
 ·have hi : ¬ (n : Int) = 0 := by omega
  simp -implicitDefEqProofs only [Tryz.f19,go_sem,↓reduceIte,Int.reduceEq,Int.reduceLT,Int.reduceLE,List.reduceReplicate,intA,setT_nil,setT_cons,hx.cells,hx.flat,hx.bound,hy.cells,hy.flat,hy.bound,hi,h,c15,decide_true,decide_false,Bool.true_and,Bool.false_and,↓boolP_bool,↓iteB_true,↓iteB_false]
theorem ans7 (o : List ByteArray) (ho : FitsR o) (x : AV) (hx : SlOf 1 (strs o) x) (a : List ByteArray) (ha : FitsR a) (y : AV) (hy : SlOf 1 (strs a) y) (b : List ByteArray) (hb : FitsR b) (z : AV) (hz : SlOf 1 (strs b) z) : Ans (Cx eA) 7 [x,y,z] (.v (.bool true)) := by
 have he := quietA
 have c12x := fun me d H => call12 he o ho x hx me d H
 have c12y := fun me d H => call12 he a ha y hy me d H
 have c12z := fun me d H => call12 he b hb z hz me d H
 unfold Ans
 rw [fn_step (fn_7 eA) (show Tryz.f7.body = some _ from rfl)]
 have bad : rowsB o = false ∨ (rowsB o = true ∧ rowsB a = false) ∨ (rowsB o = true ∧ rowsB a = true ∧ rowsB b = false) ∨ (rowsB o = true ∧ rowsB a = true ∧ rowsB b = true) := by
  cases rowsB o <;> cases rowsB a <;> cases rowsB b <;> simp
 rcases bad with h1 | ⟨h1,h2⟩ | ⟨h1,h2,h3⟩ | ⟨h1,h2,h3⟩
 ·rw [h1] at c12x
  simp -implicitDefEqProofs only [Tryz.f7,go_sem,↓reduceIte,Int.reduceEq,Int.reduceLT,Int.reduceLE,List.reduceReplicate,intA,setT_nil,setT_cons,c12x,c12y,c12z,hx.cells,hx.flat,hx.bound,hy.cells,hy.flat,hy.bound,hz.cells,hz.flat,hz.bound,call11,Bool.not_false,Bool.not_true,↓boolP_bool,↓iteB_true,↓iteB_false]
 ·rw [h1] at c12x
  rw [h2] at c12y
  simp -implicitDefEqProofs only [Tryz.f7,go_sem,↓reduceIte,Int.reduceEq,Int.reduceLT,Int.reduceLE,List.reduceReplicate,intA,setT_nil,setT_cons,c12x,c12y,c12z,hx.cells,hx.flat,hx.bound,hy.cells,hy.flat,hy.bound,hz.cells,hz.flat,hz.bound,call11,Bool.not_false,Bool.not_true,↓boolP_bool,↓iteB_true,↓iteB_false]
 ·rw [h1] at c12x
  rw [h2] at c12y
  rw [h3] at c12z
  simp -implicitDefEqProofs only [Tryz.f7,go_sem,↓reduceIte,Int.reduceEq,Int.reduceLT,Int.reduceLE,List.reduceReplicate,intA,setT_nil,setT_cons,c12x,c12y,c12z,hx.cells,hx.flat,hx.bound,hy.cells,hy.flat,hy.bound,hz.cells,hz.flat,hz.bound,call11,Bool.not_false,Bool.not_true,↓boolP_bool,↓iteB_true,↓iteB_false]
 ·rw [h1] at c12x
  rw [h2] at c12y
  rw [h3] at c12z
  obtain ⟨lo, -⟩ := rows_of h1
  obtain ⟨la, -⟩ := rows_of h2
  obtain ⟨lb, -⟩ := rows_of h3
  obtain ⟨v1,hv1,ha1⟩ := ans18 he o a b ho ha hb x y z hx hy hz
  obtain ⟨v2,hv2,ha2⟩ := ans18 he o b a ho hb ha x z y hx hz hy
  obtain ⟨v3,hv3,ha3⟩ := ans18 he o a o ho ha ho x y x hx hy hx
  obtain ⟨v4,hv4,ha4⟩ := ans18 he o a a ho ha ha x y y hx hy hy
  rw [mergeL_comm o b a] at hv2 ha2
  rw [mergeL_same1 h1 h2] at hv3 ha3
  rw [mergeL_same2 h1 h2] at hv4 ha4
  have hml : (mergeL o a b).1.length < 2 ^ 63 := by
   have := ans18_len o a b lo la lb
   omega
  have k1 := fun me d H => ha1.call (me := me) (d := d) (ext_18 he) (pure_18 _ _ _) (by simp only [boundL_cons,hx.bound,hy.bound,hz.bound,boundL_nil];rfl) H
  have k2 := fun me d H => ha2.call (me := me) (d := d) (ext_18 he) (pure_18 _ _ _) (by simp only [boundL_cons,hx.bound,hy.bound,hz.bound,boundL_nil];rfl) H
  have k3 := fun me d H => ha3.call (me := me) (d := d) (ext_18 he) (pure_18 _ _ _) (by simp only [boundL_cons,hx.bound,hy.bound,hz.bound,boundL_nil];rfl) H
  have k4 := fun me d H => ha4.call (me := me) (d := d) (ext_18 he) (pure_18 _ _ _) (by simp only [boundL_cons,hx.bound,hy.bound,hz.bound,boundL_nil];rfl) H
  have c15 := fun me d H => call15 he _ _ hml v1 v2 hv1 hv2 me d H
  have c19a := fun me d H => (ans19 he a a (by omega) v3 y hv3 hy 0).call (me := me) (d := d) (ext_19 he) (pure_19 _ _ _) (by simp only [boundL_cons,hv3.bound,hy.bound,boundL_nil];rfl) H
  have c19b := fun me d H => (ans19 he a a (by omega) v4 y hv4 hy 0).call (me := me) (d := d) (ext_19 he) (pure_19 _ _ _) (by simp only [boundL_cons,hv4.bound,hy.bound,boundL_nil];rfl) H
  rw [decide_eq_true (rfl : (mergeL o a b).1 = (mergeL o a b).1)] at c15
  simp only [decide_true,Bool.true_and] at c19a c19b
  obtain ⟨n,hn⟩ : ∃ n,(mergeL o a b).2 = n := ⟨_,rfl⟩
  have hn3 := mergeL_err o a b
  rw [hn] at k1 k2 hn3
  have i0 : ((0 : Nat) : Int) = 0 := rfl
  have i1 : ((110 : Nat) : Int) = 110 := rfl
  have i2 : ((113 : Nat) : Int) = 113 := rfl
  rw [i0] at c19a c19b k3 k4
  rcases hn3 with rfl | rfl | rfl
  ·simp -implicitDefEqProofs only [Tryz.f7,go_sem,↓reduceIte,Int.reduceEq,Int.reduceLT,Int.reduceLE,List.reduceReplicate,intA,setT_nil,setT_cons,c12x,c12y,c12z,hx.cells,hx.flat,hx.bound,hy.cells,hy.flat,hy.bound,hz.cells,hz.flat,hz.bound,call11,i0,i1,i2,k1,k2,k3,k4,c15,c19a,c19b,hv1.cells,hv1.flat,hv1.bound,hv2.cells,hv2.flat,hv2.bound,hv3.cells,hv3.flat,hv3.bound,hv4.cells,hv4.flat,hv4.bound,decide_true,decide_false,Bool.not_false,Bool.not_true,↓boolP_bool,↓iteB_true,↓iteB_false]
  ·simp -implicitDefEqProofs only [Tryz.f7,go_sem,↓reduceIte,Int.reduceEq,Int.reduceLT,Int.reduceLE,List.reduceReplicate,intA,setT_nil,setT_cons,c12x,c12y,c12z,hx.cells,hx.flat,hx.bound,hy.cells,hy.flat,hy.bound,hz.cells,hz.flat,hz.bound,call11,i0,i1,i2,k1,k2,k3,k4,c15,c19a,c19b,hv1.cells,hv1.flat,hv1.bound,hv2.cells,hv2.flat,hv2.bound,hv3.cells,hv3.flat,hv3.bound,hv4.cells,hv4.flat,hv4.bound,decide_true,decide_false,Bool.not_false,Bool.not_true,↓boolP_bool,↓iteB_true,↓iteB_false]
  ·simp -implicitDefEqProofs only [Tryz.f7,go_sem,↓reduceIte,Int.reduceEq,Int.reduceLT,Int.reduceLE,List.reduceReplicate,intA,setT_nil,setT_cons,c12x,c12y,c12z,hx.cells,hx.flat,hx.bound,hy.cells,hy.flat,hy.bound,hz.cells,hz.flat,hz.bound,call11,i0,i1,i2,k1,k2,k3,k4,c15,c19a,c19b,hv1.cells,hv1.flat,hv1.bound,hv2.cells,hv2.flat,hv2.bound,hv3.cells,hv3.flat,hv3.bound,hv4.cells,hv4.flat,hv4.bound,decide_true,decide_false,Bool.not_false,Bool.not_true,↓boolP_bool,↓iteB_true,↓iteB_false]
end Go.Ev
namespace Go.Ev
open Go.Proofs
def All2 {α β : Type} (R : α → β → Prop) (l : List α) (m : List β) : Prop := l.length = m.length ∧ ∀ (i : Nat) a b,l[i]? = some a → m[i]? = some b → R a b
theorem All2.get {α β : Type} {R : α → β → Prop} {l : List α} {m : List β} (h : All2 R l m) {i : Nat} {a : α} (ha : l[i]? = some a) : ∃ b,m[i]? = some b ∧ R a b := by
 have hi := (List.getElem?_eq_some_iff.1 ha).1
 exact ⟨m[i]'(h.1 ▸ hi),List.getElem?_eq_getElem _,h.2 i a _ ha (List.getElem?_eq_getElem _)⟩
theorem all2_of {α β : Type} {R : α → β → Prop} : ∀ (xs : List β),(∀ y ∈ xs,∃ a,R a y) → ∃ l,All2 R l xs
 | [],_ => ⟨[],rfl,fun i a b h => by simp at h⟩
 | y :: r,h => by
  obtain ⟨a,ha⟩ := h y List.mem_cons_self
  obtain ⟨l,hl⟩ := all2_of r fun z hz => h z (List.mem_cons_of_mem _ hz)
  refine ⟨a :: l,by simp [hl.1],fun i x z hx hz => ?_⟩
  cases i with
  | zero => simp at hx hz;subst hx;subst hz;exact ha
  | succ i => exact hl.2 i x z (by simpa using hx) (by simpa using hz)
theorem All2.mem_left {α β : Type} {R : α → β → Prop} {l : List α} {m : List β} (h : All2 R l m) {a : α} (ha : a ∈ l) : ∃ b ∈ m,R a b := by
 obtain ⟨i,hi⟩ := List.getElem?_of_mem ha
 obtain ⟨b,hb,hr⟩ := h.get hi
 exact ⟨b,List.mem_of_getElem? hb,hr⟩
theorem plain_slice {P : Program} {N t e c : Nat} {cs : List AV} (hu : P.underlying t = some (.slice e)) (hc : P.cellsOf e = c) (h : Plain P (N + 1) t cs) : ∃ x xs,cs = [x] ∧ SlOf c xs x ∧ xs.length ≤ maxLen ∧ ∀ y ∈ xs,∃ d,y = elemOf d ∧ d.length = c ∧ Plain P N e d := by
 unfold Plain at h;rw [hu] at h;subst hc;exact h
theorem plain_string {P : Program} {N t : Nat} {cs : List AV} (hu : P.underlying t = some .string) (h : Plain P (N + 1) t cs) : ∃ s,cs = [.v (.string s)] ∧ s.size ≤ maxLen := by
 unfold Plain at h;rw [hu] at h;exact h
theorem maxLen_lt : maxLen < 2 ^ 63 := by decide
theorem line_of {N : Nat} {cs : List AV} (h : Plain Tryz.prog (N + 2) 22 cs) : ∃ ws x,cs = [x] ∧ SlOf 1 (strs ws) x ∧ FitsR ws := by
 obtain ⟨x,xs,rfl,hx,hlen,hxs⟩ := plain_slice (c := 1) (by kernel_rfl : Tryz.prog.underlying 22 = some (.slice 9)) (by kernel_rfl) h
 have key : ∀ y ∈ xs,∃ s : ByteArray,y = .v (.string s) ∧ s.size ≤ maxLen := by
  intro y hy
  obtain ⟨d,rfl, -,hd⟩ := hxs y hy
  obtain ⟨s,rfl,hs⟩ := plain_string (by kernel_rfl : Tryz.prog.underlying 9 = some .string) hd
  exact ⟨s,rfl,hs⟩
 obtain ⟨ws,hws⟩ := all2_of (R := fun (s : ByteArray) y => y = AV.v (.string s) ∧ s.size ≤ maxLen) xs key
 have he : xs = strs ws := by
  unfold strs
  apply List.ext_getElem?
  intro i
  rw [List.getElem?_map]
  cases hi : ws[i]? with
  | none =>
   rw [List.getElem?_eq_none_iff] at hi
   rw [Option.map_none,List.getElem?_eq_none_iff]
   rw [← hws.1];exact hi
  | some s =>
   obtain ⟨b,hb,rfl, -⟩ := hws.get hi
   rw [hb];rfl
 have := maxLen_lt
 subst he
 refine ⟨ws,x,rfl,hx,by rw [strs_len] at hlen;omega,fun s hs => ?_⟩
 obtain ⟨b, -, -,h2⟩ := hws.mem_left hs
 omega
theorem rows_arg {N : Nat} {x : AV} (h : Arg Tryz.prog (N + 2) 22 x) : ∃ l,SlOf 1 (strs l) x ∧ FitsR l := by
 unfold Arg at h
 have hu : Tryz.prog.underlying 22 = some (.slice 9) := by kernel_rfl
 rw [hu] at h
 obtain ⟨ws,y,hy,h1,h2⟩ := line_of h
 simp only [List.cons.injEq,and_true] at hy
 subst hy
 exact ⟨ws,h1,h2⟩
theorem freeze_to_v {H : Heap} {K : Nat} {x : AV} {y : Value} (h : freezeV H K x = some (.v y)) : x = .v y := by
 cases K with
 | zero => cases h
 | succ K =>
  unfold freezeV at h
  cases x with
  | v z => simpa using h
  | ro z k => simp at h
  | vs s l c => simp at h
  | agg l => simp only [Option.map_eq_some_iff] at h;obtain ⟨_,_,h⟩ := h;cases h
  | tup l => simp only [Option.map_eq_some_iff] at h;obtain ⟨_,_,h⟩ := h;cases h
  | ifc t z => simp only [Option.map_eq_some_iff] at h;obtain ⟨_,_,h⟩ := h;cases h
  | mp b => simp only at h;split at h <;> simp at h
  | yld b => simp only at h;split at h <;> simp at h
  | fn f a b => simp only at h;split at h <;> simp at h
  | ptr b v k =>
   simp only at h
   split at h
   ·simp at h
   ·split at h
    ·split at h
     ·split at h <;> simp at h
     ·simp at h
    ·simp at h
  | sl b v off len c =>
   simp only at h
   split at h
   ·simp at h
   ·split at h
    ·split at h
     ·split at h
      ·simp at h
      ·split at h
       ·split at h <;> simp at h
       ·simp at h
     ·simp at h
    ·simp at h
theorem Ans.lim {C : Cfg} {f : FuncId} {args : List AV} (h : Ans C f args (.v (.bool true))) : ∃ H',Go.Ev.lim C (.call f args { objs := [],lock := 0 }) = some (.ret (.v (.bool true)) H') := by
 obtain ⟨x,H,h1,h2⟩ := Ans.iff.1 h
 rw [freeze_to_v h2] at h1
 exact ⟨H,h1⟩
theorem mixed (e : Exts) : (Cx e).P.follows .mixedOrders = true := by show Tryz.prog.follows .mixedOrders = true;kernel_rfl
theorem nogo_all : (Tryz.prog.funcs.toList.all fun fn => !(fn.body.isSome && (fn.name == "runtime.NumGoroutine"))) = true := by kernel_rfl
theorem nogo (e : Exts) : NoGo (Cx e).P := by
 intro f fn hf hb
 have h := List.all_eq_true.1 nogo_all fn (by
  have : Tryz.prog.funcs[f]? = some fn := hf
  exact List.mem_of_getElem? (by simpa using this))
 rw [hb] at h
 simpa using h
end Go.Ev
