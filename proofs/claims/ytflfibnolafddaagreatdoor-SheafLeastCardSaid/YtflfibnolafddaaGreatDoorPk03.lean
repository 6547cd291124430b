/- What the proof of this claim stands on, part 4: an evaluator of the model, proved right, and what it answers for functions of the program. -/
import Derived.Test.YtflfibnolafddaaGreatDoorPk02
import Derived.Shelf.Strings.Builder1
import Derived.Shelf.Strings.OnBuilder
import Derived.Test.YtflfibnolafddaaGreatDoorProg
set_option maxHeartbeats 8000000
set_option maxRecDepth 1000000
set_option linter.unusedSimpArgs false
namespace Go.Ev
open Go.Proofs Go.Shelf Go.RowKit
def joinH (args : List AV) (H : Heap) : Option AV :=
 match args with
 | [.sl b ver off len _,.v (.string sep)] =>
  match H.get b with
  | some (.cells v _ _ _ _ cs) =>
   if v = ver then
    match strsOf ((cs.drop off).take len) with
    | some l => if l.length = len ∧ l.length ≤ 100000 ∧ (Lib.join (l.map (·.data.toList)) sep.data.toList).length ≤ 100000 then some (.v (.string ⟨(Lib.join (l.map (·.data.toList)) sep.data.toList).toArray⟩)) else none
    | none => none
   else none
  | _ => none
 | _ => none
theorem exh_join {P : Program} {ρn : Ren} (L : Lays.n156 P ρn) (X : Builder.Extra P ρn) {f : FuncId} (hf : ρn.f 156 = f) (hbody : HasBody P f)
  {args : List AV} {v : AV} {H : Heap} (h : joinH args H = some v) (Z : Fzn) (ρ : Pls) (w : World) (vals : List Value) (hs : Sim Z ρ H w) (hl : RepL Z ρ args vals) : FnMeets P f vals w (After Z ρ H w v H) := by
 subst hf
 unfold joinH at h
 split at h
 ·rename_i b ver off len cap sep
  obtain ⟨v1,ws,rfl,hv1,hl⟩ := hl.uncons
  obtain ⟨v2,ws,rfl,hv2,hl⟩ := hl.uncons
  have : ws = [] := List.length_eq_zero_iff.1 hl.1.symm
  subst this
  obtain ⟨rfl, -⟩ := hv2.v_inv
  split at h
  ·rename_i vr m t sz g cs hg
   split at h
   ·rename_i hver
    subst hver
    split at h
    ·rename_i l hstr
     split at h
     ·rename_i hc
      simp only [Option.some.injEq] at h
      subst h
      have hxs := strsOf_some hstr
      refine Or.inr ⟨hbody.run _ _, ?_⟩
      cases hv1 with
      | sl hp hcap hcn hle =>
       rename_i c pl
       obtain ⟨pl',obj,q1,q2,q3,q4⟩ := hs.objs b _ hg rfl
       simp only [AObj.ver] at q1
       rw [hp] at q1;cases q1
       cases obj <;> simp only [RepO] at q3
       rename_i arr e fz
       obtain ⟨⟨rfl, -⟩,q5,q6,q7,pre,us,post,q8,q9,q10,q11,q12⟩ := q3
       have hblk := (Array.getElem?_eq_some_iff.1 q2).1
       have hget : ∀ (j : Nat) (x : ByteArray),l[j]? = some x → w.cell? ⟨pl.blk,pl.base + off + j,none⟩ = some (.string x) := by
        intro j x hj
        have hjl := (List.getElem?_eq_some_iff.1 hj).1
        have h1 : ((cs.drop off).take len)[j]? = some (.v (.string x)) := by rw [hxs,List.getElem?_map,hj];rfl
        have h2 : cs[off + j]? = some (.v (.string x)) := by
         rw [List.getElem?_take,if_pos (by omega),List.getElem?_drop] at h1;exact h1
        obtain ⟨y,h3,h4⟩ := q12.get h2
        obtain ⟨rfl, -⟩ := h4.v_inv
        have := cell_at q2 q8 h3
        rw [q9] at this
        rw [Nat.add_assoc];exact this
       have hcall := Any.strings_Join L X pl.blk (pl.base + off) c l sep w hget hblk (by have := hc.2.1;omega) (by omega) (by have := hc.2.2;omega)
       rw [hc.1] at hcall
       refine Calls.mono' hcall ?_
       rintro e w' ⟨rfl,hb⟩
       exact ⟨_,rfl,Z,ρ,.v rfl,hs.below hb,Ext.below hb⟩
     ·cases h
    ·cases h
   ·cases h
  ·cases h
 ·cases h
theorem extOK_exh {C C' : Cfg} (hP : C'.P = C.P) {f : FuncId} {g : List AV → Heap → Option AV} (hg : ∀ args v H,g args H = some v → ∀ (Z : Fzn) (ρ : Pls) (w : World) (vals : List Value),Sim Z ρ H w → RepL Z ρ args vals → FnMeets C.P f vals w (After Z ρ H w v H))
  (hext : ExtOK C) (he : C'.ext = C.ext := by rfl) (hlay : C'.lay = C.lay := by rfl) (hexh : C'.exh = fun f' => if Nat.beq f' f then some g else C.exh f') : ExtOK C' := by
 refine ⟨fun f' g' hf' => by rw [hP];rw [he] at hf';exact hext.ext f' g' hf',fun f' g' hf' => by rw [hP];rw [hlay] at hf';exact hext.lay f' g' hf',fun f' g' hf' args v H hv Z ρ w vals hs hl => ?_⟩
 rw [hP]
 rw [hexh] at hf'
 simp only at hf'
 split at hf'
 ·rename_i hb
  have := Nat.eq_of_beq_eq_true hb
  subst this
  simp only [Option.some.injEq] at hf'
  subst hf'
  exact hg args v H hv Z ρ w vals hs hl
 ·exact hext.exh f' g' hf' args v H hv Z ρ w vals hs hl
end Go.Ev
namespace Go.Proofs
open Go.Shelf
open Go.RowKit in
open Go.RowKit in
open Go.RowKit in
open Go.RowKit in
def Tryz.lays156_ren : Go.Shelf.Ren := ⟨fun | 156 => 88 | 165 => 107 | 166 => 40 | 169 => 43 | 240 => 66 | 241 => 133 | 276 => 84 | 277 => 161 | n => n,fun | 31 => 22 | 9 => 9 | 3 => 3 | 4 => 4 | 0 => 0 | 20 => 20 | 72 => 88 | 76 => 91 | 70 => 86 | 37 => 33 | 75 => 90 | 127 => 134 | 164 => 162 | 5 => 5 | 80 => 95 | n => n,fun | n => n⟩
theorem Tryz.lays156 : Go.Proofs.Lays.n156 Tryz.prog Tryz.lays156_ren := {
 mixed := by kernel_rfl
 f156 := Tryz.func88.trans (congrArg some (by kernel_rfl))
 f165 := Tryz.func107.trans (congrArg some (by kernel_rfl))
 f166 := Tryz.func40.trans (congrArg some (by kernel_rfl))
 f169 := Tryz.func43.trans (congrArg some (by kernel_rfl))
 f240 := Tryz.func66.trans (congrArg some (by kernel_rfl))
 f241 := Tryz.func133.trans (congrArg some (by kernel_rfl))
 f276 := Tryz.func84.trans (congrArg some (by kernel_rfl))
 f277 := Tryz.func161.trans (congrArg some (by kernel_rfl))
 t0 := Tryz.underlying0
 a0 := Tryz.isAgg0
 z0 := Tryz.sizeOf0
 v0 := Tryz.zeroValue0
 t3 := Tryz.underlying3
 a3 := Tryz.isAgg3
 z3 := Tryz.sizeOf3
 v3 := Tryz.zeroValue3
 t4 := Tryz.underlying4
 a4 := Tryz.isAgg4
 z4 := Tryz.sizeOf4
 v4 := Tryz.zeroValue4
 t9 := Tryz.underlying9
 a9 := Tryz.isAgg9
 z9 := Tryz.sizeOf9
 v9 := Tryz.zeroValue9
 t20 := Tryz.underlying20
 a20 := Tryz.isAgg20
 z20 := Tryz.sizeOf20
 v20 := Tryz.zeroValue20
 t31 := Tryz.underlying22
 a31 := Tryz.isAgg22
 z31 := Tryz.sizeOf22
 v31 := Tryz.zeroValue22
 t37 := Tryz.underlying33
 a37 := Tryz.isAgg33
 z37 := Tryz.sizeOf33
 v37 := Tryz.zeroValue33
 t70 := Tryz.underlying86
 a70 := Tryz.isAgg86
 z70 := Tryz.sizeOf86
 v70 := Tryz.zeroValue86
 t72 := Tryz.underlying88
 a72 := Tryz.isAgg88
 z72 := Tryz.sizeOf88
 v72 := Tryz.zeroValue88
 t75 := Tryz.underlying90
 a75 := Tryz.isAgg90
 z75 := Tryz.sizeOf90
 v75 := Tryz.zeroValue90
 t76 := Tryz.underlying91
 a76 := Tryz.isAgg91
 z76 := Tryz.sizeOf91
 v76 := Tryz.zeroValue91
 t127 := Tryz.underlying134
 a127 := Tryz.isAgg134
 z127 := Tryz.sizeOf134
 v127 := Tryz.zeroValue134
 t164 := Tryz.underlying162
 a164 := Tryz.isAgg162
 z164 := Tryz.sizeOf162
 v164 := Tryz.zeroValue162 }
theorem Tryz.Builder_Extra_156 : Builder.Extra Tryz.prog Tryz.lays156_ren := {
 sizeBuilder := by kernel_rfl
 liesBuilder := by kernel_rfl
 t5 := Tryz.underlying5
 a5 := Tryz.isAgg5
 z5 := Tryz.sizeOf5
 v5 := Tryz.zeroValue5
 infoByte := by kernel_rfl
 cellsByte := by kernel_rfl
 sizeByte := by kernel_rfl
 neB5 := by decide }
open Go.RowKit in
theorem Tryz.strings_Join_none (a : Option Addr) (c : Nat) (sep : ByteArray) (w : World) :
  Calls Tryz.prog 88 #[.slice a 0 c,.string sep] w fun e w' => e = .returned (.string ⟨#[]⟩) ∧ w' = w := Any.strings_Join_none Tryz.lays156 Tryz.Builder_Extra_156 a c sep w
open Go.RowKit in
theorem Tryz.strings_Join (bk o c : Nat) (xs : List ByteArray) (sep : ByteArray) (w : World) (hcells : ∀ (j : Nat) x,xs[j]? = some x → w.cell? ⟨bk,o + j,none⟩ = some (.string x)) (hbk : bk < w.heap.size) (hN : xs.length ≤ 140737488355328) (hcap : xs.length ≤ c) (hlen : (Lib.join (xs.map (·.data.toList)) sep.data.toList).length ≤ 140737488355328) :
  Calls Tryz.prog 88 #[.slice (some ⟨bk,o,none⟩) xs.length c,.string sep] w fun e w' => e = .returned (.string ⟨(Lib.join (xs.map (·.data.toList)) sep.data.toList).toArray⟩) ∧ Below w.heap.size w w' := Any.strings_Join Tryz.lays156 Tryz.Builder_Extra_156 bk o c xs sep w hcells hbk hN hcap hlen
end Go.Proofs
namespace Go.Ev.Cl
open Go.Proofs
def impF : List Nat := [40,43,52,66,100,112,116,120,135,138,143,144,147,150,154,155,157,158,160,166,179,180,182,190,197,198,199,200,201,202,203,204,215,216,217,218,219,224]
def impC : List (Nat × Nat × Nat) := [(93,117,7)]
def altF : List Nat := []
def altC : List (Nat × Nat) := []
def nearF : List Nat := [46]
def nearC : List (Nat × Nat) := []
def keepF : Nat → List Nat
 | 2 => []
 | 3 => [0,5,25,7,33,6,10,9,8,58,1,11,74,73,75,17,80,15,14,13,16,12,4]
 | 4 => [0,7,30,9,38,8,46,1,10,53,52,54,11,12,13,82,14,2,100,17,16,15,131,171,6]
 | 5 => [0,5,30,7,38,1,8,50,49,51,9,10,11,6,73,14,13,12,100,119,17,16,15,4]
 | 6 => [0,1,9,33,11,10,51,12,14,13,69,2,3,15,16,17,100,18,20,19,126,8]
 | 7 => [0,1,2,7,33,9,11,8,10,12,13,14,15,6]
 | 8 => [0,1,2,7,35,9,8,55,11,13,15,17,110,14,12,16,10,6]
 | 9 => [0,3,1,2,7,39,9,48,8,76,11,84,10,90,89,91,12,14,16,13,15,116,134,18,17,20,19,21,6]
 | 10 => [0,2,5,25,1,6,8,10,9,7,72,77,76,78,11,13,15,12,14,105,17,4]
 | 11 => [2,1,3,5,4,7,6,8,9,11,10,139,12,13,14,15,16,17,18,19,20,21,0]
 | 12 => [0,2]
 | 13 => [0,4,10,14,13,15,6,5,26,2,3]
 | 14 => [0,9,2,3,11,12,13,6,5,4]
 | 15 => [0,1,10,5,14,25,4]
 | 16 => [0,2,7,16,4,1,8,22,6,28,9,5]
 | 17 => [1,3,0,23,6,4,5]
 | 18 => [0,1,2,20,21,30,6,7]
 | 19 => [1,0,2,6]
 | 20 => [0,1,7,6,24,4,5]
 | 21 => [0,1,2]
 | 22 => [0,1,4,2]
 | 23 => [0,1,12,3,17,26,2]
 | 24 => [0,2,1,7,15,6,4,5]
 | 25 => [0,1,4,5,2,3]
 | 26 => [0,2,1,7,15,4,6,5]
 | 27 => [0,1,2,3,22,5,27,6,7,59,4]
 | 28 => [0,2]
 | 29 => [0]
 | 30 => [0,1,2,3,6,11,4,5]
 | 31 => [0]
 | 32 => [0]
 | 33 => [0,1,4,8,2,3]
 | 34 => [0,1,2,3,6,11,4,5]
 | 35 => [0]
 | 36 => [0,4,11,15,14,16,13,6,31,7,37,2,3]
 | 37 => [0,1,2,6]
 | 38 => [3,0,8,17,4,24,42,2]
 | 39 => [0,5,2]
 | 40 => [0,1,4,5]
 | 41 => [0,1,4]
 | 42 => [0,2]
 | 43 => [0,2]
 | 44 => [0,1,2]
 | 45 => [0,1,4,21,2,5,37,36,38,35,7,44,3]
 | 46 => [0,2,1,20,19,21,18,5,7,4]
 | 47 => [0,1,5,6,4]
 | 48 => [0,1,2]
 | 49 => [0,1,2,6]
 | 50 => [0,8,11,10,12,4,22,28,27,29,5,41,3,2]
 | 51 => [0,1,10,13,12,14,5,24,4]
 | 52 => [0,4,2]
 | 53 => [1,2,5,4,13,23,0,8,31,6,7]
 | 54 => [0,1,4,11,2]
 | 55 => [0,6,3,10,18,2]
 | 56 => [0,2,7,14,4,6,1,25,5]
 | 57 => [0,1,2,3,6,4]
 | 58 => [0,1,18,17,19,16,4,6,3,2]
 | 59 => [0,1,4,2]
 | 60 => [0,1,11,10,12,9,3,5,27,26,28,25,7,2]
 | 61 => [0,1,2,3,6,4]
 | 62 => [0,1,11,10,12,9,3,5,32,31,33,30,7,2]
 | 63 => [0,9,8,10,7,4,6,20,2]
 | 64 => [0,1,9,8,10,7,6,2,22,4]
 | 65 => [0,8,7,9,6,3,5,24,34,2]
 | 66 => [0,6,19]
 | 67 => [1,0,13,12,14,5,6,4]
 | 68 => [7,8,1,3,4,6,19,5,0,30]
 | 69 => [0,6,7,1,29,4,5]
 | 70 => [0,1,2,4]
 | 71 => [1,0,3,4]
 | 72 => [7,0,1,2,25,6]
 | 73 => [0,1,4]
 | 74 => [0,1,4]
 | 75 => [0,1,17,5,27,4,7,6,49,2,3]
 | 76 => [0,1,2,7,14,4,6,3,20,5]
 | 77 => [0,8,7,9,6,5,13,3,2]
 | 78 => [0,8,7,9,6,3,5,2]
 | 79 => [0,1,2]
 | 80 => [0,1,6,2,3]
 | 81 => [0,1,2,6,17,4,3,25,24,26,23,9,33,32,34,31,11,40,39,41,38,7,8,10,12,13,73,5]
 | 82 => [0,1,17,18,3,5,26,4,35,2]
 | 83 => [0,1,2,3,6,12,4,5]
 | 85 => [0,1,4]
 | 86 => [0,11,10,12,9,3,5,20,27,26,28,25,6,8,2]
 | 87 => [0,1,3,2,30,35,36,37,5,7,4]
 | 88 => [0,12,13,15,1,22,29,5,41,40,42,39,7,49,8,65,64,66,63,10,4]
 | 89 => [0,2]
 | 90 => [0,1,11,15,14,16,13,4,3,38,2]
 | 91 => [0,2]
 | 92 => [0,1,10,14,13,15,12,5,7,2,27,4]
 | 93 => [0,1,2,5,4]
 | 94 => [0,1,2]
 | 95 => [0,7,6,8,5,4,26,2]
 | 96 => [0,8,7,9,6,5,3,14,2]
 | 97 => [0,1,4]
 | 98 => [0,1,2,3,4]
 | 99 => [0,1,4]
 | 100 => [1,6,0,16,4]
 | 101 => [0,2]
 | 102 => [0,1,12,11,13,10,2,7,8,5,42,4]
 | 103 => [3,0,9,4,5,38,2]
 | 104 => [0,1,2,15,14,16,13,5,7,29,30,31,8,10,9,3,4]
 | 105 => [0,1,2]
 | 106 => [0,2]
 | 107 => [0,1,7,21]
 | 108 => [0,2]
 | 109 => [0,1,9,8,10,7,6,2,22,4]
 | 110 => [1,0,3,4]
 | 111 => [0,12,15,14,16,4,25,31,30,32,29,6,37,3,2]
 | 112 => [0,1,4]
 | 113 => [0,1,2]
 | 114 => [0,1,2]
 | 115 => [0,1,3,2,4]
 | 116 => [0,5,1,4]
 | 117 => [0,1,2]
 | 118 => [0,1,2,3,4]
 | 119 => [0,1,5,11,6,12,13,16,19,4]
 | 120 => [0,11,10,12,9,3,5,20,21,22,7,31,2]
 | 121 => [0,10,9,11,8,1,6,17,5,7,4]
 | 122 => [1,2,0,4]
 | 123 => [0,2]
 | 124 => [0,5,2,8,10,11,3,14]
 | 125 => [0,1,4]
 | 127 => [0]
 | 128 => [0,1,3,2,13,5,27,4]
 | 129 => [0,1,2,3,4]
 | 130 => [0,1,15,14,16,13,6,8,9,5,4]
 | 131 => [1,0,11,10,12,9,7,8,3,24,5,4]
 | 132 => [1,10,9,11,8,4,18,17,19,0,3,5,31]
 | 133 => [0,1,4]
 | 134 => [1,11,0,17,23,6,7,5,34,9,4]
 | 135 => [0,1,4]
 | 136 => [0,2,1,3]
 | 137 => [0,9,12,11,13,3,24,2]
 | 138 => [0,8,7,9,1,5,16,4]
 | 139 => [0,1,9,8,10,7,6,2,22,4]
 | 140 => [0]
 | 141 => [0,2]
 | 142 => [0]
 | 143 => [0,2]
 | 144 => [0,4,1]
 | 145 => [1,7,6,8,5,0,4,14]
 | 146 => [0,2]
 | 147 => [0,1,2]
 | 148 => [0,1,9,8,10,7,6,2,22,4]
 | 149 => [0,1,12,21,6,34,5,4]
 | 150 => [0,1,4]
 | 152 => [1,3,0,4]
 | 153 => [1,0,4]
 | 154 => [0,2,4]
 | 155 => [0,2,1,4]
 | 156 => [1,0,3,4]
 | 157 => [0,2,1,4]
 | 158 => [0,2,1,4]
 | 159 => [1,3,0,4]
 | 160 => [0,2,1,4]
 | 162 => [0,4,2]
 | 163 => [0,3,2]
 | 164 => [0,4,20,1,5,7,6,9,8,11,10,99,12,13,15,14,139,16,161]
 | 165 => [2,28,3,30,1,34,15,46,13,16,12,14,17,68,18,89,4,94,0,10,11]
 | 166 => [0,8,7,9,1,5,16,4]
 | 167 => [0,1,3,4]
 | 168 => [0,2]
 | 169 => [0,1,2]
 | 170 => [0,2,3,1,6]
 | 171 => [0,1,3,2,4]
 | 172 => [0,1,2,3,4]
 | 173 => [0,2,3,1,5,6]
 | 174 => [0,1,2,3,4]
 | 175 => [0,1,2,3,4]
 | 176 => [0,2,3,5,6]
 | 177 => [0,1,3,4]
 | 178 => [0,2,6]
 | 179 => [0,1,6,7,2,5,4]
 | 180 => [2,1,12,25,0,4,3,32,10,39,14,56,13,11,75,80,97,15,17,16,18,19,125,20]
 | 181 => [0,2]
 | 182 => [1,3,8,0,18]
 | 183 => [0,1,13,4]
 | 184 => [0,1,16,4]
 | 185 => [4,0,9,5,16,2,3]
 | 186 => [0,7,1,12,4]
 | 187 => [0,7,1,15,4]
 | 188 => [0,9,1,5,18,6,4]
 | 189 => [0,9,5,17,1,26,6,4]
 | 190 => [0,1,2,4,3,5,6]
 | 191 => [0,2]
 | 192 => [0,4,8,2,14]
 | 193 => [0,3,2]
 | 194 => [0,2]
 | 195 => [0,2]
 | 196 => [1,0,3,4]
 | 197 => [1,8,2,14,9,3,0,34]
 | 198 => [1,2,10,11,21,0,8,3,12,33,9]
 | 199 => [2,1,8,17,11,35,9,10,12,45,0]
 | 200 => [2,1,10,34,36,0,12,3,11,13,14,55,57,60,8,9]
 | 201 => [1,2,8,9,15,0]
 | 202 => [1,10,16,9,2,3,0,36,41,45,65,11,69,84,104,12,109,124,8]
 | 203 => [0,1,3,2,11,12,4,47,65,70,10]
 | 204 => [0,1,3,2,12,13,4,47,66,71,120,139,144,10,11]
 | 205 => [0,4,8,2]
 | 206 => [0,1,4]
 | 207 => [0,10,2,3]
 | 208 => [0,1,4]
 | 209 => [0,4,10,5,2,18,6,27,33,35,3,48]
 | 210 => [1,11,2,14,0,6,25,7,33,3,8,42]
 | 211 => [0,1,4]
 | 212 => [0,4,2]
 | 213 => [0,4,2]
 | 214 => [1,0,8,7,9,3,5,16,4]
 | 215 => [1,10,11,2,18,4,0,3,40,58]
 | 216 => [0,2]
 | 217 => [0,2]
 | 218 => [0,1,2,3,8]
 | 219 => [0,1,2,4,5,3,12]
 | 220 => [0,4,16,5,6,23,7,8,45,10,9,57,59,11,75,77,12,98,2,3]
 | 221 => [1,160,0,171,175,177,176,6,181,5,183,7,8,9,26,33,11,43,12,51,64,10,98,13,108,124,14,15,139,16,143,156,4]
 | 222 => [0,2]
 | 223 => [1,5,0,16,24,31,36,8,9,59,6,64,11,73,7,93,10,107,12,114,132,13,139,4]
 | 224 => [4,0,2,1,22,3,10,11]
 | 225 => [0,3,10,2]
 | 226 => [0,2]
 | 228 => [1,9,7,20,8,0,5,39,10,44,6,77,4]
 | 229 => [5,0,12,4,8,25,30,6,7,2,3]
 | 256 => []
 | _ => []
def isImp (me f : Nat) (d : Option Nat) : Bool := impF.any (Nat.beq f) || impC.any fun t => Nat.beq t.1 me && Nat.beq t.2.1 f && (match d with | some d => Nat.beq t.2.2 d | none => false)
noncomputable def CC : Cfg := { P := Tryz.prog,pure := fun me f d => !(isImp me f d),alter := fun me d => altF.any (Nat.beq me) || (match d with | some d => altC.any fun t => Nat.beq t.1 me && Nat.beq t.2 d | none => false),keep := keepF,ext := fun f' => if Nat.beq f' 88 then some joinStr else if Nat.beq f' 126 then some idxStr else if Nat.beq f' 151 then some cmpStr else none,exh := fun f' => if Nat.beq f' 88 then some joinH else (fun _ => none) f',near := fun me d => nearF.any (Nat.beq me) || (match d with | some d => nearC.any fun t => Nat.beq t.1 me && Nat.beq t.2 d | none => false),lay := fun f' => if Nat.beq f' 66 then some (ccA 88) else none }
theorem mixedC : CC.P.follows .mixedOrders = true := by show Tryz.prog.follows .mixedOrders = true;kernel_rfl
theorem nogo_allC : (Tryz.prog.funcs.toList.all fun fn => !(fn.body.isSome && (fn.name == "runtime.NumGoroutine"))) = true := by kernel_rfl
theorem nogoC : NoGo CC.P := by
 intro f fn hf hb
 have h := List.all_eq_true.1 nogo_allC fn (by
  have : Tryz.prog.funcs[f]? = some fn := hf
  exact List.mem_of_getElem? (by simpa using this))
 rw [hb] at h
 simpa using h
theorem extOKZ0 : ExtOK { CC with ext := fun _ => none,exh := fun _ => none,lay := fun _ => none } := by
 exact ⟨fun _ _ h => (nomatch h),fun _ _ h => (nomatch h),fun _ _ h => (nomatch h)⟩
theorem extOKZ : ExtOK { CC with ext := fun _ => none,exh := fun _ => none } := by
 refine extOK_lay (C := { CC with ext := fun _ => none,exh := fun _ => none,lay := fun _ => none }) (f := 66) (g := ccA 88) rfl ?_ extOKZ0 rfl rfl rfl
 intro args H v H' h
 exact lay_cc Go.Proofs.Tryz.lays156 Go.Proofs.Tryz.Builder_Extra_156 (f := 66) rfl ⟨_,Tryz.func66,by kernel_rfl,by kernel_rfl⟩ h
theorem extOKJ : ExtOK { CC with ext := fun _ => none,exh := fun f' => if Nat.beq f' 88 then some joinH else (fun _ => none) f' } := by
 refine extOK_exh (C := { CC with ext := fun _ => none,exh := fun _ => none }) (f := 88) (g := joinH) rfl ?_ extOKZ rfl rfl rfl
 intro args v H h Z ρ w vals hs hl
 exact exh_join Go.Proofs.Tryz.lays156 Go.Proofs.Tryz.Builder_Extra_156 (f := 88) rfl ⟨_,Tryz.func88,by kernel_rfl,by kernel_rfl⟩ h Z ρ w vals hs hl
theorem extOKN : ExtOK (CC.more fun _ => none) := extOKJ
theorem extOKE0 : ExtOK (CC.more (fun f' => if Nat.beq f' 151 then some cmpStr else none)) := by
 refine extOK_more (C := CC.more (fun _ => none)) (f := 151) (g := cmpStr) rfl ?_ extOKN rfl
 intro args v h Z ρ H w vals hs hl
 exact ext_cmp (fn := Tryz.f151) Tryz.func151 (by kernel_rfl) (by kernel_rfl) (by kernel_rfl) (by kernel_rfl) h Z ρ H w vals hs hl
theorem extOKE1 : ExtOK (CC.more (fun f' => if Nat.beq f' 126 then some idxStr else if Nat.beq f' 151 then some cmpStr else none)) := by
 refine extOK_more (C := CC.more (fun f' => if Nat.beq f' 151 then some cmpStr else none)) (f := 126) (g := idxStr) rfl ?_ extOKE0 rfl
 intro args v h Z ρ H w vals hs hl
 exact ext_idx (fn := Tryz.f126) Tryz.func126 (by kernel_rfl) (by kernel_rfl) (by kernel_rfl) (by kernel_rfl) h Z ρ H w vals hs hl
theorem extOKE2 : ExtOK (CC.more (fun f' => if Nat.beq f' 88 then some joinStr else if Nat.beq f' 126 then some idxStr else if Nat.beq f' 151 then some cmpStr else none)) := by
 refine extOK_more (C := CC.more (fun f' => if Nat.beq f' 126 then some idxStr else if Nat.beq f' 151 then some cmpStr else none)) (f := 88) (g := joinStr) rfl ?_ extOKE1 rfl
 intro args v h Z ρ H w vals hs hl
 exact ext_join Go.Proofs.Tryz.lays156 Go.Proofs.Tryz.Builder_Extra_156 (f := 88) rfl ⟨_,Tryz.func88,by kernel_rfl,by kernel_rfl⟩ h Z ρ H w vals hs hl
theorem extOKC : ExtOK CC := extOKE2
abbrev Good (t : Tell) : Prop := GoodC CC t
theorem good {t : Tell} (T : List Tell) (hT : AllG CC T) (TH : List TellH) (hH : AllH CC TH) (h : ansC (evT (CC.more2 (tabExt CC.ext T) (tabExh CC.exh T TH)) 1000 (.call t.f t.K { objs := [],lock := 0 })) = some t.R) (hb : boundL t.K = 0) : Good t :=
 goodC nogoC mixedC extOKC T hT TH hH 1000 h hb
end Go.Ev.Cl
namespace Go.Ev.Cl
def q0 : AV := .v (.string ⟨⟨[97,98]⟩⟩)
def q1 : AV := .v (.string ⟨⟨[98]⟩⟩)
def q2 : AV := .vs 1 [q0,q1] (some 2)
def q3 : AV := .v (.int .i64 0)
def q4 : AV := .v (.string ⟨⟨[115,103]⟩⟩)
def q5 : AV := .v (.string ⟨⟨[97,98,32,115,103,10]⟩⟩)
def q6 : AV := .v (.int .i64 1)
def q7 : AV := .v (.string ⟨⟨[101,97]⟩⟩)
def q8 : AV := .v (.string ⟨⟨[98,32,101,97,10]⟩⟩)
def q9 : AV := .v (.string ⟨⟨[97,98,32,115,103,10,98,32,101,97,10]⟩⟩)
def q10 : AV := .vs 1 [q0] (some 1)
def q11 : AV := .v (.string ⟨⟨[97,98,32,115,103,10,98,32,101,97]⟩⟩)
def q12 : AV := .v (.string ⟨⟨[]⟩⟩)
def q13 : AV := .v (.string ⟨⟨[98,32,101,97]⟩⟩)
def q14 : AV := .vs 1 [q0] none
def q15 : AV := .v (.slice none 0 0)
def q16 : AV := .agg [q2,q15]
def q17 : AV := .vs 1 [q0,q1] none
def q18 : AV := .v (.string ⟨⟨[99]⟩⟩)
def q19 : AV := .vs 1 [q0,q18,q1] (some 3)
def q20 : AV := .vs 1 [q18] none
def q21 : AV := .agg [q6,q3,q20]
def q22 : AV := .agg [q17,.vs 3 [q21] none]
def q23 : AV := .vs 1 [q18] (some 1)
def q24 : AV := .agg [q3,q6,q15]
def q25 : AV := .vs 1 [q0,q18,q1] none
def q26 : AV := .vs 1 [] none
def q27 : AV := .vs 1 [q18,q1] none
def q28 : AV := .agg [q6,q3,q23]
def q29 : AV := .vs 3 [q28,q24] (some 2)
def q30 : AV := .agg [q2,q29]
def q31 : AV := .tup [.agg [q2,q29,.vs 1 [q17,q25,q27] none],q3]
def q32 : AV := .agg [q25,.vs 3 [q24] none]
def q33 : AV := .v (.string ⟨⟨[116,104,101]⟩⟩)
def q34 : AV := .v (.string ⟨⟨[115,101,97]⟩⟩)
def q35 : AV := .v (.string ⟨⟨[105,115]⟩⟩)
def q36 : AV := .v (.string ⟨⟨[111,108,100]⟩⟩)
def q37 : AV := .vs 1 [q33,q34,q35,q36] (some 4)
def q38 : AV := .vs 1 [q36,q33,q34] (some 3)
def q39 : AV := .vs 1 [q37,q38] (some 2)
def q40 : AV := .v (.string ⟨⟨[97,110,100]⟩⟩)
def q41 : AV := .vs 1 [q34,q40,q34] (some 3)
def q42 : AV := .vs 1 [q41] (some 1)
def q43 : AV := .v (.int .i64 7)
def q44 : AV := .v (.int .i64 3)
def q45 : AV := .agg [.vs 2 [.agg [q43,q39],.agg [q44,q42]] (some 2)]
def q46 : AV := .tup [q45,q3]
def q47 : AV := .agg [q3,q3,q44]
def q48 : AV := .v (.string ⟨⟨[99,111,108,100]⟩⟩)
def q49 : AV := .v (.int .u8 3)
def q50 : AV := .agg [q3,q3,q44,q49,q48]
def q51 : AV := .agg [q3,q6,q6]
def q52 : AV := .v (.int .u8 1)
def q53 : AV := .agg [q3,q6,q6,q52,q12]
def q54 : AV := .agg [q6,q3,q44]
def q55 : AV := .v (.string ⟨⟨[115,97,108,116]⟩⟩)
def q56 : AV := .v (.int .u8 2)
def q57 : AV := .agg [q6,q3,q44,q56,q55]
def q58 : AV := .vs 5 [q50,q53,q57] (some 3)
def q59 : AV := .v (.int .i64 (-1))
def q60 : AV := .agg [q3,q3,q3]
def q61 : AV := .vs 5 [q50] none
def q62 : AV := .vs 1 [q33,q34,q35,q48] none
def q63 : AV := .agg [q3,q6,q3]
def q64 : AV := .vs 5 [q53] none
def q65 : AV := .vs 1 [q36,q34] none
def q66 : AV := .agg [q6,q3,q3]
def q67 : AV := .vs 5 [q57] none
def q68 : AV := .vs 1 [q34,q40,q34,q55] none
def q69 : AV := .v (.int .i64 4)
def q70 : AV := .agg [q69,q58]
def q71 : AV := .v (.string ⟨⟨[52]⟩⟩)
def q72 : AV := .v (.string ⟨⟨[99,111,112,121]⟩⟩)
def q73 : AV := .v (.string ⟨⟨[99,111,112,121,32,52]⟩⟩)
def q74 : AV := .v (.string ⟨⟨[48,32,48,32,51]⟩⟩)
def q75 : AV := .v (.string ⟨⟨[111,116,104,101,114]⟩⟩)
def q76 : AV := .v (.string ⟨⟨[111,116,104,101,114,32,48,32,48,32,51,32,99,111,108,100]⟩⟩)
def q77 : AV := .v (.string ⟨⟨[48,32,49,32,49]⟩⟩)
def q78 : AV := .v (.string ⟨⟨[111,109,105,116]⟩⟩)
def q79 : AV := .v (.string ⟨⟨[111,109,105,116,32,48,32,49,32,49]⟩⟩)
def q80 : AV := .v (.string ⟨⟨[49,32,48,32,51]⟩⟩)
def q81 : AV := .v (.string ⟨⟨[112,117,116]⟩⟩)
def q82 : AV := .v (.string ⟨⟨[112,117,116,32,49,32,48,32,51,32,115,97,108,116]⟩⟩)
def q83 : AV := .vs 1 [q73,q76,q79,q82] none
def q84 : AV := .v (.string ⟨⟨[55]⟩⟩)
def q85 : AV := .v (.string ⟨⟨[99,104,97,112,116,101,114]⟩⟩)
def q86 : AV := .v (.string ⟨⟨[99,104,97,112,116,101,114,32,55]⟩⟩)
def q87 : AV := .v (.string ⟨⟨[116,104,101,32,115,101,97,32,105,115,32,111,108,100]⟩⟩)
def q88 : AV := .v (.string ⟨⟨[108,105,110,101]⟩⟩)
def q89 : AV := .v (.string ⟨⟨[108,105,110,101,32,116,104,101,32,115,101,97,32,105,115,32,111,108,100]⟩⟩)
def q90 : AV := .v (.string ⟨⟨[111,108,100,32,116,104,101,32,115,101,97]⟩⟩)
def q91 : AV := .v (.string ⟨⟨[108,105,110,101,32,111,108,100,32,116,104,101,32,115,101,97]⟩⟩)
def q92 : AV := .v (.string ⟨⟨[51]⟩⟩)
def q93 : AV := .v (.string ⟨⟨[99,104,97,112,116,101,114,32,51]⟩⟩)
def q94 : AV := .v (.string ⟨⟨[115,101,97,32,97,110,100,32,115,101,97]⟩⟩)
def q95 : AV := .v (.string ⟨⟨[108,105,110,101,32,115,101,97,32,97,110,100,32,115,101,97]⟩⟩)
def q96 : AV := .vs 1 [q86,q89,q91,q93,q95] none
def q97 : AV := .v (.string ⟨⟨[97,98,99,100,101,102,103,104,105,106,107,108,109,110,111,112,113,114,115,116,117,118,119,120,121,122]⟩⟩)
def q98 : AV := .v (.string ⟨⟨[115]⟩⟩)
def q99 : AV := .v (.int .i64 2)
def q100 : AV := .agg [q98,q12,q99]
def q101 : AV := .v (.string ⟨⟨[108,100]⟩⟩)
def q102 : AV := .v (.string ⟨⟨[108,100,101]⟩⟩)
def q103 : AV := .agg [q101,q102,q6]
def q104 : AV := .vs 3 [q100,q103] (some 2)
def q105 : AV := .agg [q34,q52]
def q106 : AV := .v (.string ⟨⟨[97,103,101]⟩⟩)
def q107 : AV := .agg [q106,q49]
def q108 : AV := .v (.string ⟨⟨[115,101,101]⟩⟩)
def q109 : AV := .agg [q108,q56]
def q110 : AV := .agg [q6,q52,q34,q3,q3,q3,q34,q52,q3]
def q111 : AV := .agg [q99,q56,q36,q3,q6,q3,q106,q49,q3]
def q112 : AV := .agg [q44,q49,q12,q6,q3,q99,q108,q56,q3]
def q113 : AV := .v (.int .i64 5)
def q114 : AV := .v (.int .u8 0)
def q115 : AV := .agg [q113,.v (.int .u8 4),q12,q3,q3,q3,q12,q114,q44]
def q116 : AV := .agg [q104,.vs 9 [q110,q111,q112,q115] (some 4)]
def q117 : AV := .agg [q3,q3,q99]
def q118 : AV := .agg [q6,q3,q99]
def q119 : AV := .v (.string ⟨⟨[50]⟩⟩)
def q120 : AV := .v (.string ⟨⟨[99,117,116]⟩⟩)
def q121 : AV := .v (.string ⟨⟨[99,117,116,32,115,32,50]⟩⟩)
def q122 : AV := .v (.string ⟨⟨[49]⟩⟩)
def q123 : AV := .v (.string ⟨⟨[99,117,116,32,108,100,32,108,100,101,32,49]⟩⟩)
def q124 : AV := .v (.string ⟨⟨[48,32,48,32,48]⟩⟩)
def q125 : AV := .v (.string ⟨⟨[115,101,97,32,49]⟩⟩)
def q126 : AV := .v (.string ⟨⟨[102,111,114,109]⟩⟩)
def q127 : AV := .v (.string ⟨⟨[102,111,114,109,32,49,32,115,101,97,32,115,101,97,32,49]⟩⟩)
def q128 : AV := .v (.string ⟨⟨[48,32,49,32,48]⟩⟩)
def q129 : AV := .v (.string ⟨⟨[97,103,101,32,51]⟩⟩)
def q130 : AV := .v (.string ⟨⟨[102,114,111,109]⟩⟩)
def q131 : AV := .v (.string ⟨⟨[102,114,111,109,32,50,32,48,32,49,32,48,32,111,108,100,32,97,103,101,32,51]⟩⟩)
def q132 : AV := .v (.string ⟨⟨[49,32,48,32,50]⟩⟩)
def q133 : AV := .v (.string ⟨⟨[115,101,101,32,50]⟩⟩)
def q134 : AV := .v (.string ⟨⟨[112,108,97,99,101]⟩⟩)
def q135 : AV := .v (.string ⟨⟨[112,108,97,99,101,32,51,32,49,32,48,32,50,32,115,101,101,32,50]⟩⟩)
def q136 : AV := .v (.string ⟨⟨[53]⟩⟩)
def q137 : AV := .v (.string ⟨⟨[48]⟩⟩)
def q138 : AV := .v (.string ⟨⟨[118,111,105,100]⟩⟩)
def q139 : AV := .v (.string ⟨⟨[118,111,105,100,32,53,32,51]⟩⟩)
def q140 : AV := .vs 1 [q121,q123,q127,q131,q135,q139] none
def q141 : AV := .v (.string ⟨⟨[111,108,100,32,111,108,100]⟩⟩)
def q142 : AV := .agg [q3,q3,q99,q35,q34,q141]
def q143 : AV := .vs 6 [q142] (some 1)
def q144 : AV := .v (.string ⟨⟨[48,32,48,32,50]⟩⟩)
def q145 : AV := .v (.string ⟨⟨[115,108,105,112]⟩⟩)
def q146 : AV := .v (.string ⟨⟨[115,108,105,112,32,48,32,48,32,50,32,105,115]⟩⟩)
def q147 : AV := .v (.string ⟨⟨[98,101,102,111,114,101]⟩⟩)
def q148 : AV := .v (.string ⟨⟨[98,101,102,111,114,101,32,115,101,97]⟩⟩)
def q149 : AV := .v (.string ⟨⟨[97,102,116,101,114]⟩⟩)
def q150 : AV := .v (.string ⟨⟨[97,102,116,101,114,32,111,108,100,32,111,108,100]⟩⟩)
def q151 : AV := .vs 1 [q146,q148,q150] none
def q152 : AV := .v (.string ⟨⟨[97]⟩⟩)
def q153 : AV := .vs 1 [q152,q1,q18] (some 3)
def q154 : AV := .v (.string ⟨⟨[120]⟩⟩)
def q155 : AV := .vs 1 [q154,q1,q18] (some 3)
def q156 : AV := .vs 1 [q152,q1] (some 2)
def q157 : AV := .vs 1 [q154] none
def q158 : AV := .agg [q3,q6,q157]
def q159 : AV := .vs 1 [] (some 0)
def q160 : AV := .agg [q99,q6,q159]
def q161 : AV := .vs 1 [q152,q1] none
def q162 : AV := .vs 1 [q154,q1] none
def q163 : AV := .tup [q162,q3]
def q164 : AV := .vs 1 [q73,q76,q79,q82] (some 4)
def q165 : AV := .vs 1 [q86,q89,q91,q93,q95] (some 5)
def q166 : AV := .vs 1 [q121,q123,q127,q131,q135,q139] (some 6)
def q167 : AV := .vs 1 [q146,q148,q150] (some 3)
def q168 : AV := .vs 1 [q154,q1] (some 2)
def t0 : Tell := ⟨50,[q2],(.v (.bool true))⟩
def t1 : Tell := ⟨39,[q2],q3⟩
def t2 : Tell := ⟨67,[q0,q3],q4⟩
def t3 : Tell := ⟨41,[q0,q3],q5⟩
def t4 : Tell := ⟨67,[q1,q6],q7⟩
def t5 : Tell := ⟨41,[q1,q6],q8⟩
def t6 : Tell := ⟨13,[q2],(.tup [q9,q3])⟩
def t7 : Tell := ⟨50,[q10],(.v (.bool true))⟩
def t8 : Tell := ⟨69,[q11,q3],(.tup [q0,.v (.bool true)])⟩
def t9 : Tell := ⟨50,[.vs 1 [q12] (some 1)],(.v (.bool false))⟩
def t10 : Tell := ⟨69,[q13,q6],(.tup [q12,.v (.bool false)])⟩
def t11 : Tell := ⟨14,[q11],(.tup [q14,.v (.int .i64 6),q3])⟩
def t12 : Tell := ⟨45,[q16],(.tup [.agg [q2,q15,.vs 1 [q17] none],q3])⟩
def t13 : Tell := ⟨50,[q19],(.v (.bool true))⟩
def t14 : Tell := ⟨39,[q19],q3⟩
def t15 : Tell := ⟨47,[q17,q19],q21⟩
def t16 : Tell := ⟨16,[q16,q19],(.tup [q22,q3])⟩
def t17 : Tell := ⟨50,[q23],(.v (.bool true))⟩
def t18 : Tell := ⟨50,[q15],(.v (.bool true))⟩
def t19 : Tell := ⟨70,[q24,q25],(.v (.bool true))⟩
def t20 : Tell := ⟨86,[.vs 1 [q26,q15,q27] (some 3)],q27⟩
def t21 : Tell := ⟨71,[q25,q24],q27⟩
def t22 : Tell := ⟨45,[q30],q31⟩
def t23 : Tell := ⟨56,[q30,q6],q31⟩
def t24 : Tell := ⟨24,[q30,q6],(.tup [q25,q3])⟩
def t25 : Tell := ⟨26,[q30,q6],(.tup [q32,q3])⟩
def t26 : Tell := ⟨137,[q33],(.v (.bool true))⟩
def t27 : Tell := ⟨137,[q34],(.v (.bool true))⟩
def t28 : Tell := ⟨137,[q35],(.v (.bool true))⟩
def t29 : Tell := ⟨137,[q36],(.v (.bool true))⟩
def t30 : Tell := ⟨111,[q39],(.v (.bool true))⟩
def t31 : Tell := ⟨137,[q40],(.v (.bool true))⟩
def t32 : Tell := ⟨111,[q42],(.v (.bool true))⟩
def t33 : Tell := ⟨90,[q45],(.v (.bool true))⟩
def t34 : Tell := ⟨80,[q45],q46⟩
def t35 : Tell := ⟨128,[q45,q47],q37⟩
def t36 : Tell := ⟨137,[q48],(.v (.bool true))⟩
def t37 : Tell := ⟨159,[q37,q50],(.v (.bool true))⟩
def t38 : Tell := ⟨128,[q45,q51],q38⟩
def t39 : Tell := ⟨152,[q38,q53],(.v (.bool true))⟩
def t40 : Tell := ⟨128,[q45,q54],q41⟩
def t41 : Tell := ⟨137,[q55],(.v (.bool true))⟩
def t42 : Tell := ⟨156,[q41,q57],(.v (.bool true))⟩
def t43 : Tell := ⟨102,[q45,q58],(.v (.bool true))⟩
def t44 : Tell := ⟨129,[q47,q51],q59⟩
def t45 : Tell := ⟨129,[q51,q54],q59⟩
def t46 : Tell := ⟨103,[q58],(.v (.bool true))⟩
def t47 : Tell := ⟨131,[q58,q60],q61⟩
def t48 : Tell := ⟨130,[q37,q61],q62⟩
def t49 : Tell := ⟨131,[q58,q63],q64⟩
def t50 : Tell := ⟨130,[q38,q64],q65⟩
def t51 : Tell := ⟨131,[q58,q66],q67⟩
def t52 : Tell := ⟨130,[q41,q67],q68⟩
def t53 : Tell := ⟨104,[q45,q70],(.agg [.vs 2 [.agg [q43,.vs 1 [q62,q65] none],.agg [q44,.vs 1 [q68] none]] none])⟩
def t54 : Tell := ⟨87,[q45,q70],(.v (.bool true))⟩
def t55 : Tell := ⟨76,[q45,q70],q46⟩
def t56 : Tell := ⟨57,[q45,q70],q3⟩
def t57 : Tell := ⟨78,[.vs 1 [q69] (some 1)],q71⟩
def t58 : Tell := ⟨77,[.vs 1 [q72,q71] (some 2)],q73⟩
def t59 : Tell := ⟨78,[.vs 1 [q3,q3,q44] (some 3)],q74⟩
def t60 : Tell := ⟨79,[q47],q74⟩
def t61 : Tell := ⟨77,[.vs 1 [q75,q74,q48] (some 3)],q76⟩
def t62 : Tell := ⟨78,[.vs 1 [q3,q6,q6] (some 3)],q77⟩
def t63 : Tell := ⟨79,[q51],q77⟩
def t64 : Tell := ⟨77,[.vs 1 [q78,q77,q12] (some 3)],q79⟩
def t65 : Tell := ⟨78,[.vs 1 [q6,q3,q44] (some 3)],q80⟩
def t66 : Tell := ⟨79,[q54],q80⟩
def t67 : Tell := ⟨77,[.vs 1 [q81,q80,q55] (some 3)],q82⟩
def t68 : Tell := ⟨58,[q70],q83⟩
def t69 : Tell := ⟨30,[q45,q70],(.tup [q83,q3])⟩
def t70 : Tell := ⟨59,[q45],q3⟩
def t71 : Tell := ⟨78,[.vs 1 [q43] (some 1)],q84⟩
def t72 : Tell := ⟨77,[.vs 1 [q85,q84] (some 2)],q86⟩
def t73 : Tell := ⟨77,[q37],q87⟩
def t74 : Tell := ⟨77,[.vs 1 [q88,q87] (some 2)],q89⟩
def t75 : Tell := ⟨77,[q38],q90⟩
def t76 : Tell := ⟨77,[.vs 1 [q88,q90] (some 2)],q91⟩
def t77 : Tell := ⟨78,[.vs 1 [q44] (some 1)],q92⟩
def t78 : Tell := ⟨77,[.vs 1 [q85,q92] (some 2)],q93⟩
def t79 : Tell := ⟨77,[q41],q94⟩
def t80 : Tell := ⟨77,[.vs 1 [q88,q94] (some 2)],q95⟩
def t81 : Tell := ⟨60,[q45],q96⟩
def t82 : Tell := ⟨33,[q45],(.tup [q96,q3])⟩
def t83 : Tell := ⟨185,[q97],(.tup [.agg [.v (.bool false),.v (.bool false),.v (.bool false),.v (.bool false),.v (.bool false),.v (.bool false),.v (.bool false),.v (.bool false),.v (.bool false),.v (.bool false),.v (.bool false),.v (.bool false),.v (.bool false),.v (.bool false),.v (.bool false),.v (.bool false),.v (.bool false),.v (.bool false),.v (.bool false),.v (.bool false),.v (.bool false),.v (.bool false),.v (.bool false),.v (.bool false),.v (.bool false),.v (.bool false),.v (.bool false),.v (.bool false),.v (.bool false),.v (.bool false),.v (.bool false),.v (.bool false),.v (.bool false),.v (.bool false),.v (.bool false),.v (.bool false),.v (.bool false),.v (.bool false),.v (.bool false),.v (.bool false),.v (.bool false),.v (.bool false),.v (.bool false),.v (.bool false),.v (.bool false),.v (.bool false),.v (.bool false),.v (.bool false),.v (.bool false),.v (.bool false),.v (.bool false),.v (.bool false),.v (.bool false),.v (.bool false),.v (.bool false),.v (.bool false),.v (.bool false),.v (.bool false),.v (.bool false),.v (.bool false),.v (.bool false),.v (.bool false),.v (.bool false),.v (.bool false),.v (.bool false),.v (.bool false),.v (.bool false),.v (.bool false),.v (.bool false),.v (.bool false),.v (.bool false),.v (.bool false),.v (.bool false),.v (.bool false),.v (.bool false),.v (.bool false),.v (.bool false),.v (.bool false),.v (.bool false),.v (.bool false),.v (.bool false),.v (.bool false),.v (.bool false),.v (.bool false),.v (.bool false),.v (.bool false),.v (.bool false),.v (.bool false),.v (.bool false),.v (.bool false),.v (.bool false),.v (.bool false),.v (.bool false),.v (.bool false),.v (.bool false),.v (.bool false),.v (.bool false),.v (.bool true),.v (.bool true),.v (.bool true),.v (.bool true),.v (.bool true),.v (.bool true),.v (.bool true),.v (.bool true),.v (.bool true),.v (.bool true),.v (.bool true),.v (.bool true),.v (.bool true),.v (.bool true),.v (.bool true),.v (.bool true),.v (.bool true),.v (.bool true),.v (.bool true),.v (.bool true),.v (.bool true),.v (.bool true),.v (.bool true),.v (.bool true),.v (.bool true),.v (.bool true),.v (.bool false),.v (.bool false),.v (.bool false),.v (.bool false),.v (.bool false),.v (.bool false),.v (.bool false),.v (.bool false),.v (.bool false),.v (.bool false),.v (.bool false),.v (.bool false),.v (.bool false),.v (.bool false),.v (.bool false),.v (.bool false),.v (.bool false),.v (.bool false),.v (.bool false),.v (.bool false),.v (.bool false),.v (.bool false),.v (.bool false),.v (.bool false),.v (.bool false),.v (.bool false),.v (.bool false),.v (.bool false),.v (.bool false),.v (.bool false),.v (.bool false),.v (.bool false),.v (.bool false),.v (.bool false),.v (.bool false),.v (.bool false),.v (.bool false),.v (.bool false),.v (.bool false),.v (.bool false),.v (.bool false),.v (.bool false),.v (.bool false),.v (.bool false),.v (.bool false),.v (.bool false),.v (.bool false),.v (.bool false),.v (.bool false),.v (.bool false),.v (.bool false),.v (.bool false),.v (.bool false),.v (.bool false),.v (.bool false),.v (.bool false),.v (.bool false),.v (.bool false),.v (.bool false),.v (.bool false),.v (.bool false),.v (.bool false),.v (.bool false),.v (.bool false),.v (.bool false),.v (.bool false),.v (.bool false),.v (.bool false),.v (.bool false),.v (.bool false),.v (.bool false),.v (.bool false),.v (.bool false),.v (.bool false),.v (.bool false),.v (.bool false),.v (.bool false),.v (.bool false),.v (.bool false),.v (.bool false),.v (.bool false),.v (.bool false),.v (.bool false),.v (.bool false),.v (.bool false),.v (.bool false),.v (.bool false),.v (.bool false),.v (.bool false),.v (.bool false),.v (.bool false),.v (.bool false),.v (.bool false),.v (.bool false),.v (.bool false),.v (.bool false),.v (.bool false),.v (.bool false),.v (.bool false),.v (.bool false),.v (.bool false),.v (.bool false),.v (.bool false),.v (.bool false),.v (.bool false),.v (.bool false),.v (.bool false),.v (.bool false),.v (.bool false),.v (.bool false),.v (.bool false),.v (.bool false),.v (.bool false),.v (.bool false),.v (.bool false),.v (.bool false),.v (.bool false),.v (.bool false),.v (.bool false),.v (.bool false),.v (.bool false),.v (.bool false),.v (.bool false),.v (.bool false),.v (.bool false),.v (.bool false),.v (.bool false),.v (.bool false),.v (.bool false),.v (.bool false),.v (.bool false),.v (.bool false),.v (.bool false)],.v (.bool true)])⟩
def t84 : Tell := ⟨149,[q98,q97],q12⟩
def t85 : Tell := ⟨141,[q98],(.v (.bool true))⟩
def t86 : Tell := ⟨149,[q12,q97],q12⟩
def t87 : Tell := ⟨141,[q12],(.v (.bool true))⟩
def t88 : Tell := ⟨114,[q100],(.v (.bool true))⟩
def t89 : Tell := ⟨113,[q100],(.v (.bool false))⟩
def t90 : Tell := ⟨149,[q101,q97],q12⟩
def t91 : Tell := ⟨141,[q101],(.v (.bool true))⟩
def t92 : Tell := ⟨149,[q102,q97],q12⟩
def t93 : Tell := ⟨141,[q102],(.v (.bool true))⟩
def t94 : Tell := ⟨114,[q103],(.v (.bool true))⟩
def t95 : Tell := ⟨113,[q103],(.v (.bool false))⟩
def t96 : Tell := ⟨91,[q104],(.v (.bool true))⟩
def t97 : Tell := ⟨149,[q34,q97],q12⟩
def t98 : Tell := ⟨141,[q34],(.v (.bool true))⟩
def t99 : Tell := ⟨168,[q34],(.v (.bool true))⟩
def t100 : Tell := ⟨169,[q105],(.v (.bool true))⟩
def t101 : Tell := ⟨149,[q36,q97],q12⟩
def t102 : Tell := ⟨141,[q36],(.v (.bool true))⟩
def t103 : Tell := ⟨168,[q36],(.v (.bool true))⟩
def t104 : Tell := ⟨149,[q106,q97],q12⟩
def t105 : Tell := ⟨141,[q106],(.v (.bool true))⟩
def t106 : Tell := ⟨168,[q106],(.v (.bool true))⟩
def t107 : Tell := ⟨169,[q107],(.v (.bool true))⟩
def t108 : Tell := ⟨149,[q108,q97],q12⟩
def t109 : Tell := ⟨141,[q108],(.v (.bool true))⟩
def t110 : Tell := ⟨168,[q108],(.v (.bool true))⟩
def t111 : Tell := ⟨169,[q109],(.v (.bool true))⟩
def t112 : Tell := ⟨81,[q45,q116],(.tup [.agg [q104,.vs 9 [q110,q111,q112,q115] none,.vs 9 [q110,q111,q115] none,.vs 3 [q60,.agg [q3,q3,q6],q117,q47,q63,q51,.agg [q3,q6,q99],q66,.agg [q6,q3,q6],q118] none,.vs 1 [q33,q34,q35,q36,q36,q33,q34,q34,q40,q34] none],q3])⟩
def t113 : Tell := ⟨61,[q45,q116],q3⟩
def t114 : Tell := ⟨78,[.vs 1 [q99] (some 1)],q119⟩
def t115 : Tell := ⟨77,[.vs 1 [q120,q98,q12,q119] (some 4)],q121⟩
def t116 : Tell := ⟨78,[.vs 1 [q6] (some 1)],q122⟩
def t117 : Tell := ⟨77,[.vs 1 [q120,q101,q102,q122] (some 4)],q123⟩
def t118 : Tell := ⟨78,[.vs 1 [q3,q3,q3] (some 3)],q124⟩
def t119 : Tell := ⟨79,[q60],q124⟩
def t120 : Tell := ⟨77,[.vs 1 [q34,q122] (some 2)],q125⟩
def t121 : Tell := ⟨94,[q105],q125⟩
def t122 : Tell := ⟨77,[.vs 1 [q126,q122,q34,q125] (some 4)],q127⟩
def t123 : Tell := ⟨82,[q110],q127⟩
def t124 : Tell := ⟨78,[.vs 1 [q3,q6,q3] (some 3)],q128⟩
def t125 : Tell := ⟨79,[q63],q128⟩
def t126 : Tell := ⟨77,[.vs 1 [q106,q92] (some 2)],q129⟩
def t127 : Tell := ⟨94,[q107],q129⟩
def t128 : Tell := ⟨77,[.vs 1 [q130,q119,q128,q36,q129] (some 5)],q131⟩
def t129 : Tell := ⟨82,[q111],q131⟩
def t130 : Tell := ⟨78,[.vs 1 [q6,q3,q99] (some 3)],q132⟩
def t131 : Tell := ⟨79,[q118],q132⟩
def t132 : Tell := ⟨77,[.vs 1 [q108,q119] (some 2)],q133⟩
def t133 : Tell := ⟨94,[q109],q133⟩
def t134 : Tell := ⟨77,[.vs 1 [q134,q92,q132,q133] (some 4)],q135⟩
def t135 : Tell := ⟨82,[q112],q135⟩
def t136 : Tell := ⟨78,[.vs 1 [q113] (some 1)],q136⟩
def t137 : Tell := ⟨78,[.vs 1 [q3] (some 1)],q137⟩
def t138 : Tell := ⟨77,[.vs 1 [q12,q137] (some 2)],q137⟩
def t139 : Tell := ⟨94,[.agg [q12,q114]],q137⟩
def t140 : Tell := ⟨77,[.vs 1 [q138,q136,q92] (some 3)],q139⟩
def t141 : Tell := ⟨82,[q115],q139⟩
def t142 : Tell := ⟨62,[q116],q140⟩
def t143 : Tell := ⟨34,[q45,q116],(.tup [q140,q3])⟩
def t144 : Tell := ⟨149,[q35,q97],q12⟩
def t145 : Tell := ⟨123,[q35],(.v (.bool true))⟩
def t146 : Tell := ⟨123,[q34],(.v (.bool true))⟩
def t147 : Tell := ⟨124,[q34],(.v (.bool true))⟩
def t148 : Tell := ⟨123,[q36],(.v (.bool true))⟩
def t149 : Tell := ⟨124,[q141],(.v (.bool true))⟩
def t150 : Tell := ⟨95,[.vs 6 [q142,q142] (some 2)],q3⟩
def t151 : Tell := ⟨98,[q117,q117],q3⟩
def t152 : Tell := ⟨83,[q142,q142],(.tup [q3,q3])⟩
def t153 : Tell := ⟨63,[q143],q3⟩
def t154 : Tell := ⟨78,[.vs 1 [q3,q3,q99] (some 3)],q144⟩
def t155 : Tell := ⟨79,[q117],q144⟩
def t156 : Tell := ⟨77,[.vs 1 [q145,q144,q35] (some 3)],q146⟩
def t157 : Tell := ⟨77,[.vs 1 [q147,q34] (some 2)],q148⟩
def t158 : Tell := ⟨77,[.vs 1 [q149,q141] (some 2)],q150⟩
def t159 : Tell := ⟨65,[q143],q151⟩
def t160 : Tell := ⟨36,[q143],(.tup [q151,q3])⟩
def t161 : Tell := ⟨50,[q153],(.v (.bool true))⟩
def t162 : Tell := ⟨50,[q155],(.v (.bool true))⟩
def t163 : Tell := ⟨50,[q156],(.v (.bool true))⟩
def t164 : Tell := ⟨47,[q153,q155],q158⟩
def t165 : Tell := ⟨47,[q153,q156],q160⟩
def t166 : Tell := ⟨86,[.vs 1 [.vs 1 [q152,q1] (some 3),q159,q159] (some 3)],q161⟩
def t167 : Tell := ⟨71,[q153,q160],q161⟩
def t168 : Tell := ⟨86,[.vs 1 [q26,q157,.vs 1 [q1] none] (some 3)],q162⟩
def t169 : Tell := ⟨71,[q161,q158],q162⟩
def t170 : Tell := ⟨53,[q153,q158,q160],q163⟩
def t171 : Tell := ⟨18,[q153,q155,q156],q163⟩
def t172 : Tell := ⟨15,[q14,q10],(.v (.bool true))⟩
def t173 : Tell := ⟨19,[q14,q3,q10],(.v (.bool true))⟩
def t174 : Tell := ⟨15,[q17,q2],(.v (.bool true))⟩
def t175 : Tell := ⟨15,[q20,q23],(.v (.bool true))⟩
def t176 : Tell := ⟨27,[q22,.agg [q2,.vs 3 [q28] (some 2)]],(.v (.bool true))⟩
def t177 : Tell := ⟨15,[q25,q19],(.v (.bool true))⟩
def t178 : Tell := ⟨19,[q25,q3,q19],(.v (.bool true))⟩
def t179 : Tell := ⟨15,[q15,q15],(.v (.bool true))⟩
def t180 : Tell := ⟨27,[q32,.agg [q19,.vs 3 [q24] (some 1)]],(.v (.bool true))⟩
def t181 : Tell := ⟨15,[q83,q164],(.v (.bool true))⟩
def t182 : Tell := ⟨19,[q83,q3,q164],(.v (.bool true))⟩
def t183 : Tell := ⟨15,[q96,q165],(.v (.bool true))⟩
def t184 : Tell := ⟨19,[q96,q3,q165],(.v (.bool true))⟩
def t185 : Tell := ⟨15,[q140,q166],(.v (.bool true))⟩
def t186 : Tell := ⟨19,[q140,q3,q166],(.v (.bool true))⟩
def t187 : Tell := ⟨15,[q151,q167],(.v (.bool true))⟩
def t188 : Tell := ⟨19,[q151,q3,q167],(.v (.bool true))⟩
def t189 : Tell := ⟨15,[q162,q168],(.v (.bool true))⟩
def t190 : Tell := ⟨19,[q162,q3,q168],(.v (.bool true))⟩
end Go.Ev.Cl
namespace Go.Ev.Cl
theorem g0 : Good t0 := good [] trivial [] trivial (by kernel_rfl) (by kernel_rfl)
theorem g1 : Good t1 := good [t0] ⟨g0,trivial⟩ [] trivial (by kernel_rfl) (by kernel_rfl)
theorem g2 : Good t2 := good [] trivial [] trivial (by kernel_rfl) (by kernel_rfl)
theorem g3 : Good t3 := good [t2] ⟨g2,trivial⟩ [] trivial (by kernel_rfl) (by kernel_rfl)
theorem g4 : Good t4 := good [] trivial [] trivial (by kernel_rfl) (by kernel_rfl)
theorem g5 : Good t5 := good [t4] ⟨g4,trivial⟩ [] trivial (by kernel_rfl) (by kernel_rfl)
theorem g6 : Good t6 := good [t1,t3,t5] ⟨g1,g3,g5,trivial⟩ [] trivial (by kernel_rfl) (by kernel_rfl)
theorem g7 : Good t7 := good [] trivial [] trivial (by kernel_rfl) (by kernel_rfl)
theorem g8 : Good t8 := good [t3,t7] ⟨g3,g7,trivial⟩ [] trivial (by kernel_rfl) (by kernel_rfl)
theorem g9 : Good t9 := good [] trivial [] trivial (by kernel_rfl) (by kernel_rfl)
theorem g10 : Good t10 := good [t9] ⟨g9,trivial⟩ [] trivial (by kernel_rfl) (by kernel_rfl)
theorem g11 : Good t11 := good [t3,t8,t10] ⟨g3,g8,g10,trivial⟩ [] trivial (by kernel_rfl) (by kernel_rfl)
theorem g12 : Good t12 := good [t0] ⟨g0,trivial⟩ [] trivial (by kernel_rfl) (by kernel_rfl)
theorem g13 : Good t13 := good [] trivial [] trivial (by kernel_rfl) (by kernel_rfl)
theorem g14 : Good t14 := good [t13] ⟨g13,trivial⟩ [] trivial (by kernel_rfl) (by kernel_rfl)
theorem g15 : Good t15 := good [] trivial [] trivial (by kernel_rfl) (by kernel_rfl)
theorem g16 : Good t16 := good [t12,t14,t15] ⟨g12,g14,g15,trivial⟩ [] trivial (by kernel_rfl) (by kernel_rfl)
theorem g17 : Good t17 := good [] trivial [] trivial (by kernel_rfl) (by kernel_rfl)
theorem g18 : Good t18 := good [] trivial [] trivial (by kernel_rfl) (by kernel_rfl)
theorem g19 : Good t19 := good [t18] ⟨g18,trivial⟩ [] trivial (by kernel_rfl) (by kernel_rfl)
theorem g20 : Good t20 := good [] trivial [] trivial (by kernel_rfl) (by kernel_rfl)
theorem g21 : Good t21 := good [t20] ⟨g20,trivial⟩ [] trivial (by kernel_rfl) (by kernel_rfl)
theorem g22 : Good t22 := good [t0,t17,t19,t21] ⟨g0,g17,g19,g21,trivial⟩ [] trivial (by kernel_rfl) (by kernel_rfl)
theorem g23 : Good t23 := good [t22] ⟨g22,trivial⟩ [] trivial (by kernel_rfl) (by kernel_rfl)
theorem g24 : Good t24 := good [t23] ⟨g23,trivial⟩ [] trivial (by kernel_rfl) (by kernel_rfl)
theorem g25 : Good t25 := good [t23] ⟨g23,trivial⟩ [] trivial (by kernel_rfl) (by kernel_rfl)
theorem g26 : Good t26 := good [] trivial [] trivial (by kernel_rfl) (by kernel_rfl)
theorem g27 : Good t27 := good [] trivial [] trivial (by kernel_rfl) (by kernel_rfl)
theorem g28 : Good t28 := good [] trivial [] trivial (by kernel_rfl) (by kernel_rfl)
theorem g29 : Good t29 := good [] trivial [] trivial (by kernel_rfl) (by kernel_rfl)
theorem g30 : Good t30 := good [t26,t27,t28,t29] ⟨g26,g27,g28,g29,trivial⟩ [] trivial (by kernel_rfl) (by kernel_rfl)
theorem g31 : Good t31 := good [] trivial [] trivial (by kernel_rfl) (by kernel_rfl)
theorem g32 : Good t32 := good [t27,t31] ⟨g27,g31,trivial⟩ [] trivial (by kernel_rfl) (by kernel_rfl)
theorem g33 : Good t33 := good [t30,t32] ⟨g30,g32,trivial⟩ [] trivial (by kernel_rfl) (by kernel_rfl)
theorem g34 : Good t34 := good [t33] ⟨g33,trivial⟩ [] trivial (by kernel_rfl) (by kernel_rfl)
theorem g35 : Good t35 := good [] trivial [] trivial (by kernel_rfl) (by kernel_rfl)
theorem g36 : Good t36 := good [] trivial [] trivial (by kernel_rfl) (by kernel_rfl)
theorem g37 : Good t37 := good [t36] ⟨g36,trivial⟩ [] trivial (by kernel_rfl) (by kernel_rfl)
theorem g38 : Good t38 := good [] trivial [] trivial (by kernel_rfl) (by kernel_rfl)
theorem g39 : Good t39 := good [] trivial [] trivial (by kernel_rfl) (by kernel_rfl)
theorem g40 : Good t40 := good [] trivial [] trivial (by kernel_rfl) (by kernel_rfl)
theorem g41 : Good t41 := good [] trivial [] trivial (by kernel_rfl) (by kernel_rfl)
theorem g42 : Good t42 := good [t41] ⟨g41,trivial⟩ [] trivial (by kernel_rfl) (by kernel_rfl)
theorem g43 : Good t43 := good [t35,t37,t38,t39,t40,t42] ⟨g35,g37,g38,g39,g40,g42,trivial⟩ [] trivial (by kernel_rfl) (by kernel_rfl)
theorem g44 : Good t44 := good [] trivial [] trivial (by kernel_rfl) (by kernel_rfl)
theorem g45 : Good t45 := good [] trivial [] trivial (by kernel_rfl) (by kernel_rfl)
theorem g46 : Good t46 := good [t44,t45] ⟨g44,g45,trivial⟩ [] trivial (by kernel_rfl) (by kernel_rfl)
theorem g47 : Good t47 := good [] trivial [] trivial (by kernel_rfl) (by kernel_rfl)
theorem g48 : Good t48 := good [] trivial [] trivial (by kernel_rfl) (by kernel_rfl)
theorem g49 : Good t49 := good [] trivial [] trivial (by kernel_rfl) (by kernel_rfl)
theorem g50 : Good t50 := good [] trivial [] trivial (by kernel_rfl) (by kernel_rfl)
theorem g51 : Good t51 := good [] trivial [] trivial (by kernel_rfl) (by kernel_rfl)
theorem g52 : Good t52 := good [] trivial [] trivial (by kernel_rfl) (by kernel_rfl)
theorem g53 : Good t53 := good [t47,t48,t49,t50,t51,t52] ⟨g47,g48,g49,g50,g51,g52,trivial⟩ [] trivial (by kernel_rfl) (by kernel_rfl)
theorem g54 : Good t54 := good [t43,t46,t53] ⟨g43,g46,g53,trivial⟩ [] trivial (by kernel_rfl) (by kernel_rfl)
theorem g55 : Good t55 := good [t34,t54] ⟨g34,g54,trivial⟩ [] trivial (by kernel_rfl) (by kernel_rfl)
theorem g56 : Good t56 := good [t55] ⟨g55,trivial⟩ [] trivial (by kernel_rfl) (by kernel_rfl)
theorem g57 : Good t57 := good [] trivial [] trivial (by kernel_rfl) (by kernel_rfl)
theorem g58 : Good t58 := good [] trivial [] trivial (by kernel_rfl) (by kernel_rfl)
theorem g59 : Good t59 := good [] trivial [] trivial (by kernel_rfl) (by kernel_rfl)
theorem g60 : Good t60 := good [t59] ⟨g59,trivial⟩ [] trivial (by kernel_rfl) (by kernel_rfl)
theorem g61 : Good t61 := good [] trivial [] trivial (by kernel_rfl) (by kernel_rfl)
theorem g62 : Good t62 := good [] trivial [] trivial (by kernel_rfl) (by kernel_rfl)
theorem g63 : Good t63 := good [t62] ⟨g62,trivial⟩ [] trivial (by kernel_rfl) (by kernel_rfl)
theorem g64 : Good t64 := good [] trivial [] trivial (by kernel_rfl) (by kernel_rfl)
theorem g65 : Good t65 := good [] trivial [] trivial (by kernel_rfl) (by kernel_rfl)
theorem g66 : Good t66 := good [t65] ⟨g65,trivial⟩ [] trivial (by kernel_rfl) (by kernel_rfl)
theorem g67 : Good t67 := good [] trivial [] trivial (by kernel_rfl) (by kernel_rfl)
theorem g68 : Good t68 := good [t57,t58,t60,t61,t63,t64,t66,t67] ⟨g57,g58,g60,g61,g63,g64,g66,g67,trivial⟩ [] trivial (by kernel_rfl) (by kernel_rfl)
theorem g69 : Good t69 := good [t56,t68] ⟨g56,g68,trivial⟩ [] trivial (by kernel_rfl) (by kernel_rfl)
theorem g70 : Good t70 := good [t34] ⟨g34,trivial⟩ [] trivial (by kernel_rfl) (by kernel_rfl)
theorem g71 : Good t71 := good [] trivial [] trivial (by kernel_rfl) (by kernel_rfl)
theorem g72 : Good t72 := good [] trivial [] trivial (by kernel_rfl) (by kernel_rfl)
theorem g73 : Good t73 := good [] trivial [] trivial (by kernel_rfl) (by kernel_rfl)
theorem g74 : Good t74 := good [] trivial [] trivial (by kernel_rfl) (by kernel_rfl)
theorem g75 : Good t75 := good [] trivial [] trivial (by kernel_rfl) (by kernel_rfl)
theorem g76 : Good t76 := good [] trivial [] trivial (by kernel_rfl) (by kernel_rfl)
theorem g77 : Good t77 := good [] trivial [] trivial (by kernel_rfl) (by kernel_rfl)
theorem g78 : Good t78 := good [] trivial [] trivial (by kernel_rfl) (by kernel_rfl)
theorem g79 : Good t79 := good [] trivial [] trivial (by kernel_rfl) (by kernel_rfl)
theorem g80 : Good t80 := good [] trivial [] trivial (by kernel_rfl) (by kernel_rfl)
theorem g81 : Good t81 := good [t71,t72,t73,t74,t75,t76,t77,t78,t79,t80] ⟨g71,g72,g73,g74,g75,g76,g77,g78,g79,g80,trivial⟩ [] trivial (by kernel_rfl) (by kernel_rfl)
theorem g82 : Good t82 := good [t70,t81] ⟨g70,g81,trivial⟩ [] trivial (by kernel_rfl) (by kernel_rfl)
theorem g83 : Good t83 := good [] trivial [] trivial (by kernel_rfl) (by kernel_rfl)
theorem g84 : Good t84 := good [t83] ⟨g83,trivial⟩ [] trivial (by kernel_rfl) (by kernel_rfl)
theorem g85 : Good t85 := good [t84] ⟨g84,trivial⟩ [] trivial (by kernel_rfl) (by kernel_rfl)
theorem g86 : Good t86 := good [] trivial [] trivial (by kernel_rfl) (by kernel_rfl)
theorem g87 : Good t87 := good [t86] ⟨g86,trivial⟩ [] trivial (by kernel_rfl) (by kernel_rfl)
theorem g88 : Good t88 := good [t85,t87] ⟨g85,g87,trivial⟩ [] trivial (by kernel_rfl) (by kernel_rfl)
theorem g89 : Good t89 := good [t88] ⟨g88,trivial⟩ [] trivial (by kernel_rfl) (by kernel_rfl)
theorem g90 : Good t90 := good [t83] ⟨g83,trivial⟩ [] trivial (by kernel_rfl) (by kernel_rfl)
theorem g91 : Good t91 := good [t90] ⟨g90,trivial⟩ [] trivial (by kernel_rfl) (by kernel_rfl)
theorem g92 : Good t92 := good [t83] ⟨g83,trivial⟩ [] trivial (by kernel_rfl) (by kernel_rfl)
theorem g93 : Good t93 := good [t92] ⟨g92,trivial⟩ [] trivial (by kernel_rfl) (by kernel_rfl)
theorem g94 : Good t94 := good [t91,t93] ⟨g91,g93,trivial⟩ [] trivial (by kernel_rfl) (by kernel_rfl)
theorem g95 : Good t95 := good [t94] ⟨g94,trivial⟩ [] trivial (by kernel_rfl) (by kernel_rfl)
theorem g96 : Good t96 := good [t89,t95] ⟨g89,g95,trivial⟩ [] trivial (by kernel_rfl) (by kernel_rfl)
theorem g97 : Good t97 := good [t83] ⟨g83,trivial⟩ [] trivial (by kernel_rfl) (by kernel_rfl)
theorem g98 : Good t98 := good [t97] ⟨g97,trivial⟩ [] trivial (by kernel_rfl) (by kernel_rfl)
theorem g99 : Good t99 := good [t98] ⟨g98,trivial⟩ [] trivial (by kernel_rfl) (by kernel_rfl)
theorem g100 : Good t100 := good [t99] ⟨g99,trivial⟩ [] trivial (by kernel_rfl) (by kernel_rfl)
theorem g101 : Good t101 := good [t83] ⟨g83,trivial⟩ [] trivial (by kernel_rfl) (by kernel_rfl)
theorem g102 : Good t102 := good [t101] ⟨g101,trivial⟩ [] trivial (by kernel_rfl) (by kernel_rfl)
theorem g103 : Good t103 := good [t102] ⟨g102,trivial⟩ [] trivial (by kernel_rfl) (by kernel_rfl)
theorem g104 : Good t104 := good [t83] ⟨g83,trivial⟩ [] trivial (by kernel_rfl) (by kernel_rfl)
theorem g105 : Good t105 := good [t104] ⟨g104,trivial⟩ [] trivial (by kernel_rfl) (by kernel_rfl)
theorem g106 : Good t106 := good [t105] ⟨g105,trivial⟩ [] trivial (by kernel_rfl) (by kernel_rfl)
theorem g107 : Good t107 := good [t106] ⟨g106,trivial⟩ [] trivial (by kernel_rfl) (by kernel_rfl)
theorem g108 : Good t108 := good [t83] ⟨g83,trivial⟩ [] trivial (by kernel_rfl) (by kernel_rfl)
theorem g109 : Good t109 := good [t108] ⟨g108,trivial⟩ [] trivial (by kernel_rfl) (by kernel_rfl)
theorem g110 : Good t110 := good [t109] ⟨g109,trivial⟩ [] trivial (by kernel_rfl) (by kernel_rfl)
theorem g111 : Good t111 := good [t110] ⟨g110,trivial⟩ [] trivial (by kernel_rfl) (by kernel_rfl)
theorem g112 : Good t112 := good [t70,t96,t99,t100,t103,t107,t111] ⟨g70,g96,g99,g100,g103,g107,g111,trivial⟩ [] trivial (by kernel_rfl) (by kernel_rfl)
theorem g113 : Good t113 := good [t112] ⟨g112,trivial⟩ [] trivial (by kernel_rfl) (by kernel_rfl)
theorem g114 : Good t114 := good [] trivial [] trivial (by kernel_rfl) (by kernel_rfl)
theorem g115 : Good t115 := good [] trivial [] trivial (by kernel_rfl) (by kernel_rfl)
theorem g116 : Good t116 := good [] trivial [] trivial (by kernel_rfl) (by kernel_rfl)
theorem g117 : Good t117 := good [] trivial [] trivial (by kernel_rfl) (by kernel_rfl)
theorem g118 : Good t118 := good [] trivial [] trivial (by kernel_rfl) (by kernel_rfl)
theorem g119 : Good t119 := good [t118] ⟨g118,trivial⟩ [] trivial (by kernel_rfl) (by kernel_rfl)
theorem g120 : Good t120 := good [] trivial [] trivial (by kernel_rfl) (by kernel_rfl)
theorem g121 : Good t121 := good [t116,t120] ⟨g116,g120,trivial⟩ [] trivial (by kernel_rfl) (by kernel_rfl)
theorem g122 : Good t122 := good [] trivial [] trivial (by kernel_rfl) (by kernel_rfl)
theorem g123 : Good t123 := good [t116,t119,t121,t122] ⟨g116,g119,g121,g122,trivial⟩ [] trivial (by kernel_rfl) (by kernel_rfl)
theorem g124 : Good t124 := good [] trivial [] trivial (by kernel_rfl) (by kernel_rfl)
theorem g125 : Good t125 := good [t124] ⟨g124,trivial⟩ [] trivial (by kernel_rfl) (by kernel_rfl)
theorem g126 : Good t126 := good [] trivial [] trivial (by kernel_rfl) (by kernel_rfl)
theorem g127 : Good t127 := good [t77,t126] ⟨g77,g126,trivial⟩ [] trivial (by kernel_rfl) (by kernel_rfl)
theorem g128 : Good t128 := good [] trivial [] trivial (by kernel_rfl) (by kernel_rfl)
theorem g129 : Good t129 := good [t114,t125,t127,t128] ⟨g114,g125,g127,g128,trivial⟩ [] trivial (by kernel_rfl) (by kernel_rfl)
theorem g130 : Good t130 := good [] trivial [] trivial (by kernel_rfl) (by kernel_rfl)
theorem g131 : Good t131 := good [t130] ⟨g130,trivial⟩ [] trivial (by kernel_rfl) (by kernel_rfl)
theorem g132 : Good t132 := good [] trivial [] trivial (by kernel_rfl) (by kernel_rfl)
theorem g133 : Good t133 := good [t114,t132] ⟨g114,g132,trivial⟩ [] trivial (by kernel_rfl) (by kernel_rfl)
theorem g134 : Good t134 := good [] trivial [] trivial (by kernel_rfl) (by kernel_rfl)
theorem g135 : Good t135 := good [t77,t131,t133,t134] ⟨g77,g131,g133,g134,trivial⟩ [] trivial (by kernel_rfl) (by kernel_rfl)
theorem g136 : Good t136 := good [] trivial [] trivial (by kernel_rfl) (by kernel_rfl)
theorem g137 : Good t137 := good [] trivial [] trivial (by kernel_rfl) (by kernel_rfl)
theorem g138 : Good t138 := good [] trivial [] trivial (by kernel_rfl) (by kernel_rfl)
theorem g139 : Good t139 := good [t137,t138] ⟨g137,g138,trivial⟩ [] trivial (by kernel_rfl) (by kernel_rfl)
theorem g140 : Good t140 := good [] trivial [] trivial (by kernel_rfl) (by kernel_rfl)
theorem g141 : Good t141 := good [t77,t119,t136,t139,t140] ⟨g77,g119,g136,g139,g140,trivial⟩ [] trivial (by kernel_rfl) (by kernel_rfl)
theorem g142 : Good t142 := good [t114,t115,t116,t117,t123,t129,t135,t141] ⟨g114,g115,g116,g117,g123,g129,g135,g141,trivial⟩ [] trivial (by kernel_rfl) (by kernel_rfl)
theorem g143 : Good t143 := good [t113,t142] ⟨g113,g142,trivial⟩ [] trivial (by kernel_rfl) (by kernel_rfl)
theorem g144 : Good t144 := good [t83] ⟨g83,trivial⟩ [] trivial (by kernel_rfl) (by kernel_rfl)
theorem g145 : Good t145 := good [t144] ⟨g144,trivial⟩ [] trivial (by kernel_rfl) (by kernel_rfl)
theorem g146 : Good t146 := good [t97] ⟨g97,trivial⟩ [] trivial (by kernel_rfl) (by kernel_rfl)
theorem g147 : Good t147 := good [t146] ⟨g146,trivial⟩ [] trivial (by kernel_rfl) (by kernel_rfl)
theorem g148 : Good t148 := good [t101] ⟨g101,trivial⟩ [] trivial (by kernel_rfl) (by kernel_rfl)
theorem g149 : Good t149 := good [t148] ⟨g148,trivial⟩ [] trivial (by kernel_rfl) (by kernel_rfl)
theorem g150 : Good t150 := good [t145,t147,t149] ⟨g145,g147,g149,trivial⟩ [] trivial (by kernel_rfl) (by kernel_rfl)
theorem g151 : Good t151 := good [] trivial [] trivial (by kernel_rfl) (by kernel_rfl)
theorem g152 : Good t152 := good [t150,t151] ⟨g150,g151,trivial⟩ [] trivial (by kernel_rfl) (by kernel_rfl)
theorem g153 : Good t153 := good [t152] ⟨g152,trivial⟩ [] trivial (by kernel_rfl) (by kernel_rfl)
theorem g154 : Good t154 := good [] trivial [] trivial (by kernel_rfl) (by kernel_rfl)
theorem g155 : Good t155 := good [t154] ⟨g154,trivial⟩ [] trivial (by kernel_rfl) (by kernel_rfl)
theorem g156 : Good t156 := good [] trivial [] trivial (by kernel_rfl) (by kernel_rfl)
theorem g157 : Good t157 := good [] trivial [] trivial (by kernel_rfl) (by kernel_rfl)
theorem g158 : Good t158 := good [] trivial [] trivial (by kernel_rfl) (by kernel_rfl)
theorem g159 : Good t159 := good [t155,t156,t157,t158] ⟨g155,g156,g157,g158,trivial⟩ [] trivial (by kernel_rfl) (by kernel_rfl)
theorem g160 : Good t160 := good [t153,t159] ⟨g153,g159,trivial⟩ [] trivial (by kernel_rfl) (by kernel_rfl)
theorem g161 : Good t161 := good [] trivial [] trivial (by kernel_rfl) (by kernel_rfl)
theorem g162 : Good t162 := good [] trivial [] trivial (by kernel_rfl) (by kernel_rfl)
theorem g163 : Good t163 := good [] trivial [] trivial (by kernel_rfl) (by kernel_rfl)
theorem g164 : Good t164 := good [] trivial [] trivial (by kernel_rfl) (by kernel_rfl)
theorem g165 : Good t165 := good [] trivial [] trivial (by kernel_rfl) (by kernel_rfl)
theorem g166 : Good t166 := good [] trivial [] trivial (by kernel_rfl) (by kernel_rfl)
theorem g167 : Good t167 := good [t166] ⟨g166,trivial⟩ [] trivial (by kernel_rfl) (by kernel_rfl)
theorem g168 : Good t168 := good [] trivial [] trivial (by kernel_rfl) (by kernel_rfl)
theorem g169 : Good t169 := good [t168] ⟨g168,trivial⟩ [] trivial (by kernel_rfl) (by kernel_rfl)
theorem g170 : Good t170 := good [t167,t169] ⟨g167,g169,trivial⟩ [] trivial (by kernel_rfl) (by kernel_rfl)
theorem g171 : Good t171 := good [t161,t162,t163,t164,t165,t170] ⟨g161,g162,g163,g164,g165,g170,trivial⟩ [] trivial (by kernel_rfl) (by kernel_rfl)
theorem g172 : Good t172 := good [] trivial [] trivial (by kernel_rfl) (by kernel_rfl)
theorem g173 : Good t173 := good [t172] ⟨g172,trivial⟩ [] trivial (by kernel_rfl) (by kernel_rfl)
theorem g174 : Good t174 := good [] trivial [] trivial (by kernel_rfl) (by kernel_rfl)
theorem g175 : Good t175 := good [] trivial [] trivial (by kernel_rfl) (by kernel_rfl)
theorem g176 : Good t176 := good [t174,t175] ⟨g174,g175,trivial⟩ [] trivial (by kernel_rfl) (by kernel_rfl)
theorem g177 : Good t177 := good [] trivial [] trivial (by kernel_rfl) (by kernel_rfl)
theorem g178 : Good t178 := good [t177] ⟨g177,trivial⟩ [] trivial (by kernel_rfl) (by kernel_rfl)
theorem g179 : Good t179 := good [] trivial [] trivial (by kernel_rfl) (by kernel_rfl)
theorem g180 : Good t180 := good [t177,t179] ⟨g177,g179,trivial⟩ [] trivial (by kernel_rfl) (by kernel_rfl)
theorem g181 : Good t181 := good [] trivial [] trivial (by kernel_rfl) (by kernel_rfl)
theorem g182 : Good t182 := good [t181] ⟨g181,trivial⟩ [] trivial (by kernel_rfl) (by kernel_rfl)
theorem g183 : Good t183 := good [] trivial [] trivial (by kernel_rfl) (by kernel_rfl)
theorem g184 : Good t184 := good [t183] ⟨g183,trivial⟩ [] trivial (by kernel_rfl) (by kernel_rfl)
theorem g185 : Good t185 := good [] trivial [] trivial (by kernel_rfl) (by kernel_rfl)
theorem g186 : Good t186 := good [t185] ⟨g185,trivial⟩ [] trivial (by kernel_rfl) (by kernel_rfl)
theorem g187 : Good t187 := good [] trivial [] trivial (by kernel_rfl) (by kernel_rfl)
theorem g188 : Good t188 := good [t187] ⟨g187,trivial⟩ [] trivial (by kernel_rfl) (by kernel_rfl)
theorem g189 : Good t189 := good [] trivial [] trivial (by kernel_rfl) (by kernel_rfl)
theorem g190 : Good t190 := good [t189] ⟨g189,trivial⟩ [] trivial (by kernel_rfl) (by kernel_rfl)
end Go.Ev.Cl
namespace Go.Ev.Cl
theorem gAll : Good ⟨11,[],.v (.bool true)⟩ := good [t6,t11,t16,t24,t25,t69,t82,t143,t160,t171,t173,t176,t178,t180,t182,t184,t186,t188,t190] ⟨g6,g11,g16,g24,g25,g69,g82,g143,g160,g171,g173,g176,g178,g180,g182,g184,g186,g188,g190,trivial⟩ [] trivial (by kernel_rfl) (by kernel_rfl)
end Go.Ev.Cl
namespace Go.Ev
open Go.Proofs
noncomputable def eN : Exts := ⟨fun _ => none⟩
theorem extOKN0 : ExtOK { Cx eN with lay := fun _ => none } := ⟨fun _ _ h => (nomatch h),fun _ _ h => (nomatch h),fun _ _ h => (nomatch h)⟩
theorem extOKN : ExtOK (Cx eN) := by
 refine extOK_lay (C := { Cx eN with lay := fun _ => none }) (f := 66) (g := ccA 88) rfl ?_ extOKN0 rfl rfl rfl
 intro args H v H' h
 exact lay_cc Go.Proofs.Tryz.lays156 Go.Proofs.Tryz.Builder_Extra_156 (f := 66) rfl ⟨_,Tryz.func66,by kernel_rfl,by kernel_rfl⟩ h
noncomputable def eA0 : Exts := eN.more 11 (atArgs [] (.v (.bool true)))
theorem extOKA0 : ExtOK (Cx eA0) := by
 refine extOK_more (C := Cx eN) (f := 11) (g := atArgs [] (.v (.bool true))) rfl ?_ extOKN rfl
 intro args v h Z ρ H w vals hs hl
 obtain ⟨⟨e,x,he,ha⟩, -⟩ := Cl.gAll
 obtain ⟨rfl,rfl⟩ := atArgs_some h
 exact ext_of_ans (C := Cl.CC.more2 e x) Cl.nogoC Cl.mixedC he ha rfl Z ρ H w vals hs hl
noncomputable def eA : Exts := eA0.more 126 idxStr
theorem extOKA : ExtOK (Cx eA) := by
 refine extOK_more (C := Cx eA0) (f := 126) (g := idxStr) rfl ?_ extOKA0 rfl
 intro args v h Z ρ H w vals hs hl
 exact ext_idx (fn := Tryz.f126) Tryz.func126 (by kernel_rfl) (by kernel_rfl) (by kernel_rfl) (by kernel_rfl) h Z ρ H w vals hs hl
theorem quietA : Quiet eA := by
 intro f h1 h2 h3 h4
 show (if Nat.beq f 126 then _ else if Nat.beq f 11 then _ else none) = none
 rw [if_neg (fun h => h4 (Nat.eq_of_beq_eq_true h))]
 rw [if_neg (fun h => h1 (Nat.eq_of_beq_eq_true h))]
theorem eA11 : eA.x 11 = some (atArgs [] (.v (.bool true))) := rfl
theorem call11 (me : FuncId) (d : Option Tmp) (H : Heap) : callA (Cx eA) (lim (Cx eA)) me 11 d [] H = some (.v (.bool true),H) :=
 ext_call (show (Cx eA).ext 11 = some (atArgs [] (.v (.bool true))) from eA11) rfl H
end Go.Ev
namespace Go.Ev
open Go.Proofs
def All2 {α β : Type} (R : α → β → Prop) (l : List α) (m : List β) : Prop := l.length = m.length ∧ ∀ (i : Nat) a b,l[i]? = some a → m[i]? = some b → R a b
theorem All2.get {α β : Type} {R : α → β → Prop} {l : List α} {m : List β} (h : All2 R l m) {i : Nat} {a : α} (ha : l[i]? = some a) : ∃ b,m[i]? = some b ∧ R a b := by
 have hi := (List.getElem?_eq_some_iff.1 ha).1
 exact ⟨m[i]'(h.1 ▸ hi),List.getElem?_eq_getElem _,h.2 i a _ ha (List.getElem?_eq_getElem _)⟩
theorem all2_of {α β : Type} {R : α → β → Prop} : ∀ (xs : List β),(∀ y ∈ xs,∃ a,R a y) → ∃ l,All2 R l xs
 | [],_ => ⟨[],rfl,fun i a b h => by simp at h⟩
 | y :: r,h => by
  obtain ⟨a,ha⟩ := h y List.mem_cons_self
  obtain ⟨l,hl⟩ := all2_of r fun z hz => h z (List.mem_cons_of_mem _ hz)
  refine ⟨a :: l,by simp [hl.1],fun i x z hx hz => ?_⟩
  cases i with
  | zero => simp at hx hz;subst hx;subst hz;exact ha
  | succ i => exact hl.2 i x z (by simpa using hx) (by simpa using hz)
theorem All2.mem_left {α β : Type} {R : α → β → Prop} {l : List α} {m : List β} (h : All2 R l m) {a : α} (ha : a ∈ l) : ∃ b ∈ m,R a b := by
 obtain ⟨i,hi⟩ := List.getElem?_of_mem ha
 obtain ⟨b,hb,hr⟩ := h.get hi
 exact ⟨b,List.mem_of_getElem? hb,hr⟩
theorem plain_slice {P : Program} {N t e c : Nat} {cs : List AV} (hu : P.underlying t = some (.slice e)) (hc : P.cellsOf e = c) (h : Plain P (N + 1) t cs) : ∃ x xs,cs = [x] ∧ SlOf c xs x ∧ xs.length ≤ maxLen ∧ ∀ y ∈ xs,∃ d,y = elemOf d ∧ d.length = c ∧ Plain P N e d := by
 unfold Plain at h;rw [hu] at h;subst hc;exact h
theorem plain_int {P : Program} {N t : Nat} {k : IntKind} {cs : List AV} (hu : P.underlying t = some (.int k)) (h : Plain P (N + 1) t cs) : ∃ m,cs = [.v (.int k m)] ∧ (Lit.int k m).wf = true := by
 unfold Plain at h;rw [hu] at h;exact h
theorem plain_string {P : Program} {N t : Nat} {cs : List AV} (hu : P.underlying t = some .string) (h : Plain P (N + 1) t cs) : ∃ s,cs = [.v (.string s)] ∧ s.size ≤ maxLen := by
 unfold Plain at h;rw [hu] at h;exact h
theorem maxLen_lt : maxLen < 2 ^ 63 := by decide
theorem line_of {N : Nat} {cs : List AV} (h : Plain Tryz.prog (N + 2) 22 cs) : ∃ ws x,cs = [x] ∧ SlOf 1 (strs ws) x ∧ FitsR ws := by
 obtain ⟨x,xs,rfl,hx,hlen,hxs⟩ := plain_slice (c := 1) (by kernel_rfl : Tryz.prog.underlying 22 = some (.slice 9)) (by kernel_rfl) h
 have key : ∀ y ∈ xs,∃ s : ByteArray,y = .v (.string s) ∧ s.size ≤ maxLen := by
  intro y hy
  obtain ⟨d,rfl, -,hd⟩ := hxs y hy
  obtain ⟨s,rfl,hs⟩ := plain_string (by kernel_rfl : Tryz.prog.underlying 9 = some .string) hd
  exact ⟨s,rfl,hs⟩
 obtain ⟨ws,hws⟩ := all2_of (R := fun (s : ByteArray) y => y = AV.v (.string s) ∧ s.size ≤ maxLen) xs key
 have he : xs = strs ws := by
  unfold strs
  apply List.ext_getElem?
  intro i
  rw [List.getElem?_map]
  cases hi : ws[i]? with
  | none =>
   rw [List.getElem?_eq_none_iff] at hi
   rw [Option.map_none,List.getElem?_eq_none_iff]
   rw [← hws.1];exact hi
  | some s =>
   obtain ⟨b,hb,rfl, -⟩ := hws.get hi
   rw [hb];rfl
 have := maxLen_lt
 subst he
 refine ⟨ws,x,rfl,hx,by rw [strs_len] at hlen;omega,fun s hs => ?_⟩
 obtain ⟨b, -, -,h2⟩ := hws.mem_left hs
 omega
theorem rows_arg {N : Nat} {x : AV} (h : Arg Tryz.prog (N + 2) 22 x) : ∃ l,SlOf 1 (strs l) x ∧ FitsR l := by
 unfold Arg at h
 have hu : Tryz.prog.underlying 22 = some (.slice 9) := by kernel_rfl
 rw [hu] at h
 obtain ⟨ws,y,hy,h1,h2⟩ := line_of h
 simp only [List.cons.injEq,and_true] at hy
 subst hy
 exact ⟨ws,h1,h2⟩
theorem u8_of {N : Nat} {x : AV} (h : Arg Tryz.prog (N + 1) 5 x) : ∃ n : Nat,n < 256 ∧ x = .v (.int .u8 n) := by
 unfold Arg at h
 have hu : Tryz.prog.underlying 5 = some (.int .u8) := by kernel_rfl
 rw [hu] at h
 obtain ⟨m,hm,hw⟩ := plain_int hu h
 simp only [List.cons.injEq,and_true] at hm
 have : 0 ≤ m ∧ m < 256 := by
  have h2 : (decide (IntKind.u8.min ≤ m) && decide (m ≤ IntKind.u8.max)) = true := hw
  have e1 : IntKind.u8.min = 0 := by decide
  have e2 : IntKind.u8.max = 255 := by decide
  rw [e1,e2] at h2
  simp at h2;omega
 exact ⟨m.toNat,by omega,by rw [hm,Int.toNat_of_nonneg this.1]⟩
theorem freeze_to_v {H : Heap} {K : Nat} {x : AV} {y : Value} (h : freezeV H K x = some (.v y)) : x = .v y := by
 cases K with
 | zero => cases h
 | succ K =>
  unfold freezeV at h
  cases x with
  | v z => simpa using h
  | ro z k => simp at h
  | vs s l c => simp at h
  | agg l => simp only [Option.map_eq_some_iff] at h;obtain ⟨_,_,h⟩ := h;cases h
  | tup l => simp only [Option.map_eq_some_iff] at h;obtain ⟨_,_,h⟩ := h;cases h
  | ifc t z => simp only [Option.map_eq_some_iff] at h;obtain ⟨_,_,h⟩ := h;cases h
  | mp b => simp only at h;split at h <;> simp at h
  | yld b => simp only at h;split at h <;> simp at h
  | fn f a b => simp only at h;split at h <;> simp at h
  | ptr b v k =>
   simp only at h
   split at h
   ·simp at h
   ·split at h
    ·split at h
     ·split at h <;> simp at h
     ·simp at h
    ·simp at h
  | sl b v off len c =>
   simp only at h
   split at h
   ·simp at h
   ·split at h
    ·split at h
     ·split at h
      ·simp at h
      ·split at h
       ·split at h <;> simp at h
       ·simp at h
     ·simp at h
    ·simp at h
theorem Ans.lim {C : Cfg} {f : FuncId} {args : List AV} (h : Ans C f args (.v (.bool true))) : ∃ H',Go.Ev.lim C (.call f args { objs := [],lock := 0 }) = some (.ret (.v (.bool true)) H') := by
 obtain ⟨x,H,h1,h2⟩ := Ans.iff.1 h
 rw [freeze_to_v h2] at h1
 exact ⟨H,h1⟩
theorem mixed (e : Exts) : (Cx e).P.follows .mixedOrders = true := by show Tryz.prog.follows .mixedOrders = true;kernel_rfl
theorem nogo_all : (Tryz.prog.funcs.toList.all fun fn => !(fn.body.isSome && (fn.name == "runtime.NumGoroutine"))) = true := by kernel_rfl
theorem nogo (e : Exts) : NoGo (Cx e).P := by
 intro f fn hf hb
 have h := List.all_eq_true.1 nogo_all fn (by
  have : Tryz.prog.funcs[f]? = some fn := hf
  exact List.mem_of_getElem? (by simpa using this))
 rw [hb] at h
 simpa using h
end Go.Ev
namespace Go.Ev
open Go.Proofs
attribute [local irreducible] Wp WpS
abbrev HnkI := Int × Int × List ByteArray
def Int64 (n : Int) : Prop := -(2 ^ 63) ≤ n ∧ n < 2 ^ 63
def FitsH (h : HnkI) : Prop := Int64 h.1 ∧ Int64 h.2.1 ∧ FitsR h.2.2
end Go.Ev
namespace Go.Ev
open Go.Proofs
attribute [local irreducible] Wp WpS
theorem appN1 (H : Heap) (slot : Nat) (p : List ByteArray) (h0 : 0 < p.length) (h1 : p.length < 100000) : appTo 9 1 16 H slot p.length (strs p) (.v (.slice none 0 0)) = some (.sl slot 0 0 p.length none,H.put slot (rowO p)) := by
 have hf : fitsA 16 p.length = true := by unfold fitsA;exact decide_eq_true (by omega)
 unfold appTo
 simp only []
 rw [if_neg (by omega),hf]
 show some (AV.sl slot 0 0 p.length none,H.put slot (.cells 0 (Nat.max (boundL []) (boundL (strs p))) 9 1 true ([] ++ strs p))) = _
 rw [List.nil_append,strs_bd];rfl
theorem appN0 (H : Heap) (slot : Nat) : appTo 9 1 16 H slot 0 [] (.v (.slice none 0 0)) = some (.v (.slice none 0 0),H) := rfl
theorem sop_last (x y : Option AObj) : ∀ R : List (Option AObj),setOrPush x R.length (R ++ [y]) = R ++ [x]
 | [] => rfl
 | r :: R => by
  show r :: setOrPush x R.length (R ++ [y]) = _
  rw [sop_last x y R];rfl
theorem appGr (R : List (Option AObj)) (k b v slot : Nat) (acc p : List ByteArray) (hb : R.length = b) (hk : k ≤ b) (h0 : 0 < p.length) (h1 : acc.length + p.length < 100000) : appTo 9 1 16 ⟨R ++ [some (.cells v 0 9 1 true (strs acc))],k⟩ slot p.length (strs p) (.sl b v 0 acc.length none) = some (.sl b (v + 1) 0 (acc.length + p.length) none,⟨R ++ [some (.cells (v + 1) 0 9 1 true (strs (acc ++ p)))],k⟩) := by
 subst hb
 have hr : (⟨R ++ [some (.cells v 0 9 1 true (strs acc))],k⟩ : Heap).row R.length v = some (0,9,1,true,strs acc) := by unfold Heap.row Heap.get;simp
 have hf : fitsA 16 (acc.length + p.length) = true := by unfold fitsA;exact decide_eq_true (by omega)
 rw [appTo_own hr (by rw [strs_len];omega) hk hf h0 (by omega)]
 have hs : strs acc ++ strs p = strs (acc ++ p) := by unfold strs;rw [List.map_append]
 rw [strs_bd,hs]
 have hp : (⟨R ++ [some (.cells v 0 9 1 true (strs acc))],k⟩ : Heap).put R.length (.cells (v + 1) (Nat.max 0 0) 9 1 true (strs (acc ++ p))) = ⟨R ++ [some (.cells (v + 1) 0 9 1 true (strs (acc ++ p)))],k⟩ := by
  unfold Heap.put
  simp [sop_last]
 rw [hp]
theorem appG1 (B : Option AObj) (v slot : Nat) (acc p : List ByteArray) (h0 : 0 < p.length) (h1 : acc.length + p.length < 100000) : appTo 9 1 16 ⟨[B,some (.cells v 0 9 1 true (strs acc))],0⟩ slot p.length (strs p) (.sl 1 v 0 acc.length none) = some (.sl 1 (v + 1) 0 (acc.length + p.length) none,⟨[B,some (.cells (v + 1) 0 9 1 true (strs (acc ++ p)))],0⟩) := appGr [B] 0 1 v slot acc p rfl (by omega) h0 h1
theorem frzRowL {H : Heap} {b v e n : Nat} {cs : List AV} (hk : H.lock ≤ b) (hr : H.row b v = some (0,e,1,true,cs)) (hn : n = cs.length) (k : Nat) : freezeV H (k + 1) (.sl b v 0 n none) = some (.vs 1 cs none) := by
 subst hn
 unfold freezeV
 simp only [hr]
 rw [if_neg (by omega),if_pos ⟨by omega,by omega⟩,if_pos trivial,List.drop_zero,List.take_of_length_le (by omega),chunk1]
theorem frzT2 {H : Heap} {b v n : Nat} {l : List ByteArray} (hk : H.lock ≤ b) (hr : H.row b v = some (0,9,1,true,strs l)) (hn : n = l.length) (y : Value) : freezeV H 1000000 (.tup [.sl b v 0 n none,.v y]) = some (.tup [.vs 1 (strs l) none,.v y]) := by
 have h1 := frzRowL hk hr (hn.trans (strs_len l).symm) 999997
 show (freezeL H 999999 _).map AV.tup = _
 simp only [freezeL]
 rw [h1]
 rfl
theorem slice22A {xs : List AV} {x : AV} (h : SlOf 1 xs x) (j : Nat) (hj : j ≤ xs.length) : ∃ y,(∀ H,sliceA Tryz.prog H 22 x none (some (.v (.int .i64 (j : Nat)))) none = some y) ∧ SlOf 1 (xs.take j) y := by
 obtain ⟨y,h1,h2⟩ := slice22 h ⟨[],0⟩ j hj
 refine ⟨y,fun H => ?_,h2⟩
 rcases h with ⟨rfl,rfl⟩ | ⟨cap,rfl⟩ <;> exact h1
theorem slice22L {xs : List AV} {x : AV} (h : SlOf 1 xs x) (j : Nat) (hj : j ≤ xs.length) : ∃ y,(∀ H,sliceA Tryz.prog H 22 x (some (.v (.int .i64 (j : Nat)))) none none = some y) ∧ SlOf 1 (xs.drop j) y := by
 obtain ⟨y,h1,h2⟩ := slice22I h j hj
 refine ⟨y,fun H => ?_,h2⟩
 rcases h with ⟨rfl,rfl⟩ | ⟨cap,rfl⟩ <;> exact h1
theorem ans17 {e : Exts} (he : Quiet e) (l : List ByteArray) (h : Hnk) (hl : l.length < 30000) (hp : h.2.2.length < 30000) (hh : h.1 + h.2.1 ≤ l.length) (x y : AV) (hx : SlOf 1 (strs l) x) (hy : HunkA h y) : ∃ v,SlOf 1 (strs (chL l h)) v ∧ Ans (Cx e) 17 [x,y] (.tup [v,.v (.bool true)]) := by
 obtain ⟨a,d,P⟩ := h
 obtain ⟨p,rfl,hp2⟩ := hy
 simp only at hp hh hp2 ⊢
 have hlx := hx.len
 rw [strs_len] at hlx
 obtain ⟨x1,hx1,hx2⟩ := slice22A hx a (by rw [strs_len];omega)
 obtain ⟨x3,hx3,hx4⟩ := slice22L hx (a + d) (by rw [strs_len];omega)
 rw [strs_take] at hx2
 rw [strs_drop] at hx4
 have k1 := fun H => cells_SlOf (H := H) hx2
 have k3 := fun H => cells_SlOf (H := H) hx4
 have k2 := fun H => cells_SlOf (H := H) hp2
 have w1 : IntKind.i64.wrap ((a : Int) + (d : Int)) = ((a + d : Nat) : Int) := by rw [wrap_in _ (by omega) (by omega)];omega
 have w2 : IntKind.i64.wrap ((l.length : Int) - (a : Int)) = ((l.length - a : Nat) : Int) := by rw [wrap_in _ (by omega) (by omega)];omega
 have c1 := fun me dd H => call49 he (a : Int) 0 (l.length : Nat) me dd H
 have c2 := fun me dd H => call49 he (d : Int) 0 ((l.length - a : Nat) : Int) me dd H
 rw [decide_eq_true (by omega : (0 : Int) ≤ (a : Int)),decide_eq_true (by omega : (a : Int) ≤ (l.length : Int))] at c1
 rw [decide_eq_true (by omega : (0 : Int) ≤ (d : Int)),decide_eq_true (by omega : (d : Int) ≤ ((l.length - a : Nat) : Int))] at c2
 have hA : (l.take a).length = a := by rw [List.length_take];omega
 have hC : (l.drop (a + d)).length = l.length - (a + d) := List.length_drop
 have hch : chL l (a,d,P) = l.take a ++ (P ++ l.drop (a + d)) := rfl
 rw [hch]
 generalize hAA : l.take a = A at *
 generalize hCC : l.drop (a + d) = C at *
 have key : ∀ v,SlOf 1 (strs (A ++ (P ++ C))) v → (Ans (Cx e) 17 [x,.agg [.v (.int .i64 a),.v (.int .i64 d),p]] (.tup [v,.v (.bool true)])) → ∃ v,SlOf 1 (strs (A ++ (P ++ C))) v ∧ (Ans (Cx e) 17 [x,.agg [.v (.int .i64 a),.v (.int .i64 d),p]] (.tup [v,.v (.bool true)])) := fun v h1 h2 => ⟨v,h1,h2⟩
 rcases Nat.eq_zero_or_pos A.length with nA | nA
 ·have zA : A = [] := List.length_eq_zero_iff.1 nA
  rw [zA,show strs [] = [] from rfl,List.length_nil] at k1
  rcases Nat.eq_zero_or_pos P.length with nP | nP
  ·have zP : P = [] := List.length_eq_zero_iff.1 nP
   rw [zP,show strs [] = [] from rfl,List.length_nil] at k2
   rcases Nat.eq_zero_or_pos C.length with nC | nC
   ·have zC : C = [] := List.length_eq_zero_iff.1 nC
    rw [zC,show strs [] = [] from rfl,List.length_nil] at k3
    refine key (.v (.slice none 0 0)) (Or.inl ⟨rfl,by simp [zA,zP,zC];rfl⟩) ?_
    unfold Ans
    rw [fn_step (fn_17 e) (show Tryz.f17.body = some _ from rfl)]
    simp -implicitDefEqProofs (maxSteps := 100000) only [Tryz.f17,go_sem,↓reduceIte,Int.reduceEq,Int.reduceLT,Int.reduceLE,List.reduceReplicate,intA,setT_nil,setT_cons,c1,c2,w1,w2,hlx,hx.cells,hx.flat,hx.bound,hx1,hx3,hx2.cells,hx2.flat,hx2.bound,hx4.cells,hx4.flat,hx4.bound,k1,k2,k3,rowO,appN0,appN0,appN0,hp2.cells,hp2.flat,hp2.bound,strs_flat,List.all_nil,List.flatMap_nil,Bool.not_true,Bool.and_true,↓boolP_bool,↓iteB_true,↓iteB_false]
    rfl
   ·have := nC
    have sC := fun H slot => appN1 H slot C nC (by omega)
    refine key (.vs 1 (strs (A ++ (P ++ C))) none) (Or.inr ⟨none,rfl⟩) ?_
    unfold Ans
    rw [fn_step (fn_17 e) (show Tryz.f17.body = some _ from rfl)]
    simp -implicitDefEqProofs (maxSteps := 100000) only [Tryz.f17,go_sem,↓reduceIte,Int.reduceEq,Int.reduceLT,Int.reduceLE,List.reduceReplicate,intA,setT_nil,setT_cons,c1,c2,w1,w2,hlx,hx.cells,hx.flat,hx.bound,hx1,hx3,hx2.cells,hx2.flat,hx2.bound,hx4.cells,hx4.flat,hx4.bound,k1,k2,k3,rowO,appN0,appN0,sC,hp2.cells,hp2.flat,hp2.bound,strs_flat,List.all_nil,List.flatMap_nil,Bool.not_true,Bool.and_true,↓boolP_bool,↓iteB_true,↓iteB_false]
    have hcat : C = A ++ (P ++ C) := by simp [zA,zP]
    rw [← hcat]
    exact frzT2 (by show 0 ≤ 1;decide) (by unfold Heap.row Heap.get;rfl) (by simp;try omega) _
  ·have := nP
   rcases Nat.eq_zero_or_pos C.length with nC | nC
   ·have zC : C = [] := List.length_eq_zero_iff.1 nC
    rw [zC,show strs [] = [] from rfl,List.length_nil] at k3
    have sP := fun H slot => appN1 H slot P nP (by omega)
    refine key (.vs 1 (strs (A ++ (P ++ C))) none) (Or.inr ⟨none,rfl⟩) ?_
    unfold Ans
    rw [fn_step (fn_17 e) (show Tryz.f17.body = some _ from rfl)]
    simp -implicitDefEqProofs (maxSteps := 100000) only [Tryz.f17,go_sem,↓reduceIte,Int.reduceEq,Int.reduceLT,Int.reduceLE,List.reduceReplicate,intA,setT_nil,setT_cons,c1,c2,w1,w2,hlx,hx.cells,hx.flat,hx.bound,hx1,hx3,hx2.cells,hx2.flat,hx2.bound,hx4.cells,hx4.flat,hx4.bound,k1,k2,k3,rowO,appN0,sP,appTo_none,hp2.cells,hp2.flat,hp2.bound,strs_flat,List.all_nil,List.flatMap_nil,Bool.not_true,Bool.and_true,↓boolP_bool,↓iteB_true,↓iteB_false]
    have hcat : P = A ++ (P ++ C) := by simp [zA,zC]
    rw [← hcat]
    exact frzT2 (by show 0 ≤ 1;decide) (by unfold Heap.row Heap.get;rfl) (by simp;try omega) _
   ·have := nC
    have sP := fun H slot => appN1 H slot P nP (by omega)
    have sC := fun B slot => appG1 B 0 slot P C nC (by omega)
    refine key (.vs 1 (strs (A ++ (P ++ C))) none) (Or.inr ⟨none,rfl⟩) ?_
    unfold Ans
    rw [fn_step (fn_17 e) (show Tryz.f17.body = some _ from rfl)]
    simp -implicitDefEqProofs (maxSteps := 100000) only [Tryz.f17,go_sem,↓reduceIte,Int.reduceEq,Int.reduceLT,Int.reduceLE,List.reduceReplicate,intA,setT_nil,setT_cons,c1,c2,w1,w2,hlx,hx.cells,hx.flat,hx.bound,hx1,hx3,hx2.cells,hx2.flat,hx2.bound,hx4.cells,hx4.flat,hx4.bound,k1,k2,k3,rowO,appN0,sP,sC,hp2.cells,hp2.flat,hp2.bound,strs_flat,List.all_nil,List.flatMap_nil,Bool.not_true,Bool.and_true,↓boolP_bool,↓iteB_true,↓iteB_false]
    have hcat : P ++ C = A ++ (P ++ C) := by simp [zA]
    rw [← hcat]
    exact frzT2 (by show 0 ≤ 1;decide) (by unfold Heap.row Heap.get;rfl) (by simp;try omega) _
 ·have na : 0 < a := by omega
  rcases Nat.eq_zero_or_pos P.length with nP | nP
  ·have zP : P = [] := List.length_eq_zero_iff.1 nP
   rw [zP,show strs [] = [] from rfl,List.length_nil] at k2
   rcases Nat.eq_zero_or_pos C.length with nC | nC
   ·have zC : C = [] := List.length_eq_zero_iff.1 nC
    rw [zC,show strs [] = [] from rfl,List.length_nil] at k3
    have sA := fun H slot => appN1 H slot A nA (by omega)
    refine key (.vs 1 (strs (A ++ (P ++ C))) none) (Or.inr ⟨none,rfl⟩) ?_
    unfold Ans
    rw [fn_step (fn_17 e) (show Tryz.f17.body = some _ from rfl)]
    simp -implicitDefEqProofs (maxSteps := 100000) only [Tryz.f17,go_sem,↓reduceIte,Int.reduceEq,Int.reduceLT,Int.reduceLE,List.reduceReplicate,intA,setT_nil,setT_cons,c1,c2,w1,w2,hlx,hx.cells,hx.flat,hx.bound,hx1,hx3,hx2.cells,hx2.flat,hx2.bound,hx4.cells,hx4.flat,hx4.bound,k1,k2,k3,rowO,sA,appTo_none,appTo_none,hp2.cells,hp2.flat,hp2.bound,strs_flat,List.all_nil,List.flatMap_nil,Bool.not_true,Bool.and_true,↓boolP_bool,↓iteB_true,↓iteB_false]
    have hcat : A = A ++ (P ++ C) := by simp [zP,zC]
    rw [← hcat]
    exact frzT2 (by show 0 ≤ 1;decide) (by unfold Heap.row Heap.get;rfl) (by simp;try omega) _
   ·have := nC
    have sA := fun H slot => appN1 H slot A nA (by omega)
    have sC := fun B slot => appG1 B 0 slot A C nC (by omega)
    refine key (.vs 1 (strs (A ++ (P ++ C))) none) (Or.inr ⟨none,rfl⟩) ?_
    unfold Ans
    rw [fn_step (fn_17 e) (show Tryz.f17.body = some _ from rfl)]
    simp -implicitDefEqProofs (maxSteps := 100000) only [Tryz.f17,go_sem,↓reduceIte,Int.reduceEq,Int.reduceLT,Int.reduceLE,List.reduceReplicate,intA,setT_nil,setT_cons,c1,c2,w1,w2,hlx,hx.cells,hx.flat,hx.bound,hx1,hx3,hx2.cells,hx2.flat,hx2.bound,hx4.cells,hx4.flat,hx4.bound,k1,k2,k3,rowO,sA,appTo_none,sC,hp2.cells,hp2.flat,hp2.bound,strs_flat,List.all_nil,List.flatMap_nil,Bool.not_true,Bool.and_true,↓boolP_bool,↓iteB_true,↓iteB_false]
    have hcat : A ++ C = A ++ (P ++ C) := by simp [zP]
    rw [← hcat]
    exact frzT2 (by show 0 ≤ 1;decide) (by unfold Heap.row Heap.get;rfl) (by simp;try omega) _
  ·have := nP
   rcases Nat.eq_zero_or_pos C.length with nC | nC
   ·have zC : C = [] := List.length_eq_zero_iff.1 nC
    rw [zC,show strs [] = [] from rfl,List.length_nil] at k3
    have sA := fun H slot => appN1 H slot A nA (by omega)
    have sP := fun B slot => appG1 B 0 slot A P nP (by omega)
    refine key (.vs 1 (strs (A ++ (P ++ C))) none) (Or.inr ⟨none,rfl⟩) ?_
    unfold Ans
    rw [fn_step (fn_17 e) (show Tryz.f17.body = some _ from rfl)]
    simp -implicitDefEqProofs (maxSteps := 100000) only [Tryz.f17,go_sem,↓reduceIte,Int.reduceEq,Int.reduceLT,Int.reduceLE,List.reduceReplicate,intA,setT_nil,setT_cons,c1,c2,w1,w2,hlx,hx.cells,hx.flat,hx.bound,hx1,hx3,hx2.cells,hx2.flat,hx2.bound,hx4.cells,hx4.flat,hx4.bound,k1,k2,k3,rowO,sA,sP,appTo_none,hp2.cells,hp2.flat,hp2.bound,strs_flat,List.all_nil,List.flatMap_nil,Bool.not_true,Bool.and_true,↓boolP_bool,↓iteB_true,↓iteB_false]
    have hcat : A ++ P = A ++ (P ++ C) := by simp [zC]
    rw [← hcat]
    exact frzT2 (by show 0 ≤ 1;decide) (by unfold Heap.row Heap.get;rfl) (by simp;try omega) _
   ·have := nC
    have sA := fun H slot => appN1 H slot A nA (by omega)
    have sP := fun B slot => appG1 B 0 slot A P nP (by omega)
    have sC := fun B slot => appG1 B 1 slot (A ++ P) C nC (by simp only [List.length_append];omega)
    simp only [List.length_append] at sC
    refine key (.vs 1 (strs (A ++ (P ++ C))) none) (Or.inr ⟨none,rfl⟩) ?_
    unfold Ans
    rw [fn_step (fn_17 e) (show Tryz.f17.body = some _ from rfl)]
    simp -implicitDefEqProofs (maxSteps := 100000) only [Tryz.f17,go_sem,↓reduceIte,Int.reduceEq,Int.reduceLT,Int.reduceLE,List.reduceReplicate,intA,setT_nil,setT_cons,c1,c2,w1,w2,hlx,hx.cells,hx.flat,hx.bound,hx1,hx3,hx2.cells,hx2.flat,hx2.bound,hx4.cells,hx4.flat,hx4.bound,k1,k2,k3,rowO,sA,sP,sC,hp2.cells,hp2.flat,hp2.bound,strs_flat,List.all_nil,List.flatMap_nil,Bool.not_true,Bool.and_true,↓boolP_bool,↓iteB_true,↓iteB_false]
    have hcat : (A ++ P) ++ C = A ++ (P ++ C) := by simp
    rw [← hcat]
    exact frzT2 (by show 0 ≤ 1;decide) (by unfold Heap.row Heap.get;rfl) (by simp;try omega) _
end Go.Ev
namespace Go.Ev
open Go.Proofs
attribute [local irreducible] Wp WpS
end Go.Ev
namespace Go.Ev
open Go.Proofs
attribute [local irreducible] Wp WpS
def genN (f : List ByteArray) (ns : List Hnk) (j : Nat) : List ByteArray := (ns.take j).foldl chL f
theorem genN_succ (f : List ByteArray) {ns : List Hnk} {j : Nat} {h : Hnk} (hh : ns[j]? = some h) : genN f ns (j + 1) = chL (genN f ns j) h := by
 unfold genN
 rw [take_next hh,List.foldl_append];rfl
structure OkS (f : List ByteArray) (ns : List Hnk) : Prop where
 len : ns.length ≤ 11
 rows : rowsB f = true
 step : ∀ j h,ns[j]? = some h → okH (genN f ns j) h
theorem rowsB_len {l : List ByteArray} (h : rowsB l = true) : l.length ≤ 200 := (rows_of h).1
theorem rowsB_mem {l : List ByteArray} (h : rowsB l = true) : ∀ r ∈ l,rowB r = true := by
 unfold rowsB at h
 rw [Bool.and_eq_true,List.all_eq_true] at h
 exact h.2
theorem rowsB_mk {l : List ByteArray} (h1 : l.length ≤ 200) (h2 : ∀ r ∈ l,rowB r = true) : rowsB l = true := by
 unfold rowsB
 rw [Bool.and_eq_true,List.all_eq_true]
 exact ⟨decide_eq_true h1,h2⟩
theorem rowsB_chL {l : List ByteArray} {h : Hnk} (hl : rowsB l = true) (hh : okH l h) : rowsB (chL l h) = true := by
 obtain ⟨h1,h2,h3⟩ := hh
 refine rowsB_mk (by rw [chL_len l h h1];exact h3) fun r hr => ?_
 unfold chL at hr
 rcases List.mem_append.1 hr with hr | hr
 ·exact rowsB_mem hl r (List.mem_of_mem_take hr)
 ·rcases List.mem_append.1 hr with hr | hr
  ·exact rowsB_mem h2 r hr
  ·exact rowsB_mem hl r (List.mem_of_mem_drop hr)
theorem OkS.gen {f : List ByteArray} {ns : List Hnk} (h : OkS f ns) : ∀ j,j ≤ ns.length → rowsB (genN f ns j) = true
 | 0,_ => h.rows
 | j + 1,hj => by
  obtain ⟨x,hx⟩ := at_lt ns j (by omega)
  rw [genN_succ f hx]
  exact rowsB_chL (h.gen j (by omega)) (h.step j x hx)
theorem rowsB_fits {l : List ByteArray} (h : rowsB l = true) : FitsR l := by
 obtain ⟨h1,h2⟩ := rows_of h
 exact ⟨by omega,fun r hr => by have := h2 r hr;omega⟩
theorem gens_of {e : Exts} (he : Quiet e) {f : List ByteArray} {ns : List Hnk} (h : OkS f ns) (ys : List AV) (hys : All2 HunkA ns ys) (v0 : AV) (hv0 : SlOf 1 (strs f) v0) : ∀ n,n ≤ ns.length → ∃ g : Nat → AV,g 0 = v0 ∧ (∀ j,j ≤ n → SlOf 1 (strs (genN f ns j)) (g j)) ∧ ∀ (j : Nat) (y : AV),j < n → ys[j]? = some y → Ans (Cx e) 71 [g j,y] (g (j + 1))
 | 0,_ => by
  refine ⟨fun _ => v0,rfl,fun j hj => ?_,fun j y hj => absurd hj (by omega)⟩
  obtain rfl : j = 0 := by omega
  exact hv0
 | n + 1,hn => by
  obtain ⟨g,g0,g1,g2⟩ := gens_of he h ys hys v0 hv0 n (by omega)
  obtain ⟨x,hx⟩ := at_lt ns n (by omega)
  obtain ⟨y,hy,hxy⟩ := hys.get hx
  have hr := rowsB_len (h.gen n (by omega))
  obtain ⟨s1,s2,s3⟩ := h.step n x hx
  have hp := rowsB_len s2
  obtain ⟨v,hv,ha⟩ := ans71 he (genN f ns n) x (by omega) (by omega) s1 (g n) y (g1 n (Nat.le_refl _)) hxy
  refine ⟨fun j => if j = n + 1 then v else g j, ?_,fun j hj => ?_,fun j z hj hz => ?_⟩
  ·show (if 0 = n + 1 then v else g 0) = v0
   rw [if_neg (by omega),g0]
  ·show SlOf 1 _ (if j = n + 1 then v else g j)
   by_cases hjn : j = n + 1
   ·rw [if_pos hjn,hjn,genN_succ f hx];exact hv
   ·rw [if_neg hjn];exact g1 j (by omega)
  ·show Ans (Cx e) 71 [(if j = n + 1 then v else g j),z] (if j + 1 = n + 1 then v else g (j + 1))
   rw [if_neg (by omega)]
   by_cases hjn : j = n
   ·subst hjn
    rw [if_pos rfl]
    rw [hy] at hz;cases hz
    exact ha
   ·rw [if_neg (by omega)];exact g2 j z (by omega) hz
def gsTo (g : Nat → AV) (n : Nat) : List AV := (List.range n).map g
theorem gsTo_succ (g : Nat → AV) (n : Nat) : gsTo g n ++ [g n] = gsTo g (n + 1) := by
 unfold gsTo
 rw [List.range_succ,List.map_append];rfl
theorem gsTo_len (g : Nat → AV) (n : Nat) : (gsTo g n).length = n := by unfold gsTo;simp
theorem gsTo_get (g : Nat → AV) {n j : Nat} (h : j < n) : (gsTo g n)[j]? = some (g j) := by
 unfold gsTo
 rw [List.getElem?_map,List.getElem?_range h];rfl
theorem appGens (A B C : Option AObj) (R : List (Option AObj)) (g : Nat → AV) (j slot : Nat) (hb : bound (g (j + 1)) = 0) (hj : j < 1000) : appTo 22 1 24 ⟨A :: B :: C :: some (.cells j 0 22 1 true (gsTo g (j + 1))) :: R,0⟩ slot 1 [g (j + 1)] (.sl 3 j 0 (j + 1) none) = some (.sl 3 (j + 1) 0 (j + 1 + 1) none,⟨A :: B :: C :: some (.cells (j + 1) 0 22 1 true (gsTo g (j + 1 + 1))) :: R,0⟩) := by
 have hr : (⟨A :: B :: C :: some (.cells j 0 22 1 true (gsTo g (j + 1))) :: R,0⟩ : Heap).row 3 j = some (0,22,1,true,gsTo g (j + 1)) := by unfold Heap.row Heap.get;simp
 have hf : fitsA 24 (j + 1 + 1) = true := by unfold fitsA;exact decide_eq_true (by omega)
 rw [appTo_own hr (by rw [gsTo_len];omega) (Nat.zero_le _) hf (by omega) (by omega)]
 have hs := gsTo_succ g (j + 1)
 rw [hs,boundL_cons,boundL_nil,hb]
 rfl
theorem SlOf.frzK {sz : Nat} {xs : List AV} {x : AV} (h : SlOf sz xs x) (H : Heap) (k : Nat) : freezeV H (k + 1) x = some x := by
 rcases h with ⟨rfl, -⟩ | ⟨cap,rfl⟩ <;> rfl
theorem frzSt {H : Heap} (hk : H.lock = 0) {b v n : Nat} {cs : List AV} (hr : H.row b v = some (0,22,1,true,cs)) (hn : n = cs.length) {s1 s2 : Nat} {xs ys : List AV} {x y : AV} (hx : SlOf s1 xs x) (hy : SlOf s2 ys y) (z : Value) : freezeV H 1000000 (.tup [.agg [x,y,.sl b v 0 n none],.v z]) = some (.tup [.agg [x,y,.vs 1 cs none],.v z]) := by
 have h1 := frzRow hk hr hn 999993
 have h2 := hx.frzK H 999995
 have h3 := hy.frzK H 999994
 have h4 : freezeL H 999997 [x,y,.sl b v 0 n none] = some [x,y,.vs 1 cs none] := by
  simp only [freezeL,h1,h2,h3]
 have h5 : freezeV H 999998 (.agg [x,y,.sl b v 0 n none]) = some (.agg [x,y,.vs 1 cs none]) := by
  show (freezeL H 999997 _).map AV.agg = _
  rw [h4];rfl
 show (freezeL H 999999 _).map AV.tup = _
 simp only [freezeL,h5]
 rfl
theorem trim_four {A B C D : AObj} {E : Option AObj} {vs : List AV} (h1 : boundL vs ≤ 4) (ha : A.bound ≤ 4) (hb : B.bound ≤ 4) (hc : C.bound ≤ 4) (hd : D.bound ≤ 4) : (⟨[some A,some B,some C,some D,E],0⟩ : Heap).trim 4 vs [] = ⟨[some A,some B,some C,some D],0⟩ := by
 unfold Heap.trim
 have e1 := Nat.ble_eq_true_of_le h1
 have e2 : boundsOk 4 [some A,some B,some C,some D] = true := by
  unfold boundsOk
  simp only [boundsOk,Nat.ble_eq_true_of_le ha,Nat.ble_eq_true_of_le hb,Nat.ble_eq_true_of_le hc,Nat.ble_eq_true_of_le hd,Bool.and_true]
 rw [if_pos (by rw [e1];show (true && true && boundsOk 4 [some A,some B,some C,some D] && true) = true;rw [e2];rfl)]
 rfl
theorem ans45 {e : Exts} (he : Quiet e) (f : List ByteArray) (ns : List Hnk) (h : OkS f ns) (x y : AV) (ys : List AV) (hx : SlOf 1 (strs f) x) (hy : SlOf 3 ys y) (hys : All2 HunkA ns ys) : ∃ gs,gs.length = ns.length + 1 ∧ (∀ j,j ≤ ns.length → ∃ u,gs[j]? = some u ∧ SlOf 1 (strs (genN f ns j)) u) ∧ Ans (Cx e) 45 [.agg [x,y]] (.tup [.agg [x,y,.vs 1 gs none],.v (.int .i64 0)]) := by
 have hfl := rowsB_len h.rows
 obtain ⟨v0,hv0,ha0⟩ := ans52 he f (by omega) x hx
 obtain ⟨g,g0,g1,g2⟩ := gens_of he h ys hys v0 hv0 ns.length (Nat.le_refl _)
 subst g0
 have hly := hy.len
 have hlen := hys.1
 rw [← hlen] at hly
 have hn := h.len
 have c50 := fun me d H => call50 he f (rowsB_fits h.rows) x hx me d H
 rw [h.rows] at c50
 have c52 := fun d H => ha0.call (me := 45) (d := d) (ext_52 he) (pure_52_45 e d) (by simp only [boundL_cons,hx.bound,boundL_nil];rfl) H
 have hb : ¬ (ns.length : Int) ≥ 12 := by omega
 have q1 : List.flatMap AV.cells [g 0] = [g 0] := by simp [hv0.cells]
 have q2 : [g 0].all AV.flat = true := by simp [hv0.flat]
 have q3 : boundL [g 0] = 0 := by rw [boundL_cons,boundL_nil,hv0.bound];rfl
 have q4 : fitsA 24 1 = true := by decide
 refine ⟨gsTo g (ns.length + 1),gsTo_len g _,fun j hj => ⟨g j,gsTo_get g (by omega),g1 j hj⟩, ?_⟩
 unfold Ans
 rw [fn_step (fn_45 e) (show Tryz.f45.body = some _ from rfl)]
 simp -implicitDefEqProofs only [Tryz.f45,go_sem,↓reduceIte,Int.reduceEq,Int.reduceLT,Int.reduceLE,List.reduceReplicate,intA,setT_nil,setT_cons,hb,hly,c50,c52,q1,q2,q3,q4,hx.cells,hx.flat,hx.bound,hy.cells,hy.flat,hy.bound,hv0.cells,hv0.flat,hv0.bound,Bool.not_true,↓boolP_bool,↓iteB_true,↓iteB_false]
 refine Lp_ruleQ (P := fun μ a H => ∃ j,j + μ = ns.length ∧ a = ⟨57,[(0,.agg [x,y]),(1,.ptr 0 0 0),(2,.ptr 1 0 0),(3,intA 0),(4,.ptr 2 0 0),(21,.v (.bool false)),(5,g j),(35,y),(36,intA ns.length),(37,intA (j : Nat))],[]⟩ ∧ H = ⟨[some (.cells 0 0 38 1 false [x,y]),some (.cells 0 0 101 1 false [.v (.slice none 0 0),.v (.slice none 0 0),.v (.slice none 0 0)]),some (.cells 0 4 101 1 false [x,y,.sl 3 j 0 (j + 1) none]),some (.cells j 0 22 1 true (gsTo g (j + 1)))],0⟩) ?_ ns.length _ _ ⟨0,by omega,rfl,rfl⟩
 rintro Q KK hQ hKK μ _ _ ⟨j,hj,rfl,rfl⟩
 cases μ with
 | zero =>
  obtain rfl : j = ns.length := by omega
  have hlt : ¬ (ns.length : Int) < (ns.length : Int) := by omega
  simp -implicitDefEqProofs only [go_sem,↓reduceIte,Int.reduceEq,Int.reduceLT,Int.reduceLE,List.reduceReplicate,intA,setT_nil,setT_cons,hlt,↓boolP_bool,↓iteB_true,↓iteB_false]
  refine hKK _ _ _ ?_
  simp -implicitDefEqProofs only [go_sem,↓reduceIte,Int.reduceEq,Int.reduceLT,Int.reduceLE,List.reduceReplicate,intA,setT_nil,setT_cons,hx.cells,hx.flat,hx.bound,hy.cells,hy.flat,hy.bound,↓boolP_bool,↓iteB_true,↓iteB_false]
  exact frzSt rfl (by unfold Heap.row Heap.get;simp) (gsTo_len g _).symm hx hy _
 | succ μ =>
  obtain ⟨hk,hk1⟩ := at_lt ns j (by omega)
  obtain ⟨u,hu1,hu2⟩ := hys.get hk1
  have hlt : (j : Int) < (ns.length : Int) := by omega
  have hix := hy.idx hu1
  have hw := wrap_succ j (by have := h.len;omega)
  have hgj := g1 j (by omega)
  have hgk := g1 (j + 1) (by omega)
  have hap := fun A B C R slot => appGens A B C R g j slot hgk.bound (by omega)
  have hok := h.step j hk hk1
  have ha70 := ans70 he (genN f ns j) (rowsB_len (h.gen j (by omega))) hk hok (rowsB_fits hok.2.1) u (g j) hu2 hgj
  have ha71 := g2 j u (by omega) hu1
  have bu : bound u = 0 := by obtain ⟨p,rfl,hp⟩ := hu2;exact bound_hnk p hp.bound
  have c70 := fun d H => ha70.call (me := 45) (d := d) (ext_70 he) (pure_70 _ _ _) (by simp only [boundL_cons,hgj.bound,bu,boundL_nil];rfl) H
  have c71 := fun d H => ha71.call (me := 45) (d := d) (ext_71 he) (pure_71 _ _ _) (by simp only [boundL_cons,hgj.bound,bu,boundL_nil];rfl) H
  obtain ⟨p,rfl,hp⟩ := hu2
  have r1 : List.flatMap AV.cells [g (j + 1)] = [g (j + 1)] := by simp [hgk.cells]
  have r2 : [g (j + 1)].all AV.flat = true := by simp [hgk.flat]
  simp -implicitDefEqProofs only [go_sem,↓reduceIte,Int.reduceEq,Int.reduceLT,Int.reduceLE,List.reduceReplicate,intA,setT_nil,setT_cons,hlt,hix,c70,c71,hw,hap,r1,r2,hgj.cells,hgj.flat,hgj.bound,hgk.cells,hgk.flat,hgk.bound,hp.cells,hp.flat,hp.bound,hx.cells,hx.flat,hx.bound,hy.cells,hy.flat,hy.bound,Bool.not_true,↓boolP_bool,↓iteB_true,↓iteB_false]
  have b1 : bound (.agg [x,y]) = 0 := by
   show boundL [x,y] = 0
   rw [boundL_cons,boundL_cons,boundL_nil,hx.bound,hy.bound];rfl
  rw [trim_four]
  rotate_left
  ·simp only [boundL_cons,boundL_nil,bound,hx.bound,hgk.bound,hy.bound];decide
  ·exact Nat.zero_le _
  ·exact Nat.zero_le _
  ·exact (by decide : (4 : Nat) ≤ 4)
  ·exact Nat.zero_le _
  exact Again.mk' μ (by omega) (hQ _ _ _ ⟨j + 1,by omega,rfl,rfl⟩)
end Go.Ev
namespace Go.Ev
open Go.Proofs
attribute [local irreducible] Wp WpS
end Go.Ev
namespace Go.Ev
open Go.Proofs
attribute [local irreducible] Wp WpS
end Go.Ev
namespace Go.Ev
open Go.Proofs
attribute [local irreducible] Wp WpS
theorem slice36L {xs : List AV} {x : AV} (h : SlOf 3 xs x) (j : Nat) (hj : j ≤ xs.length) : ∃ y,(∀ H,sliceA Tryz.prog H 36 x (some (.v (.int .i64 (j : Nat)))) none none = some y) ∧ SlOf 3 (xs.drop j) y := by
 rcases h with ⟨rfl,rfl⟩ | ⟨cap,rfl⟩
 ·obtain rfl : j = 0 := by simpa using hj
  refine ⟨.v (.slice none 0 0),fun H => ?_,Or.inl ⟨rfl,rfl⟩⟩
  unfold sliceA
  simp only [und_36,size_42]
  rfl
 ·have b1 : boundA (some (.v (.int .i64 (j : Nat)))) 0 xs.length = some j := by
   unfold boundA
   simp only [Int.toNat_natCast]
   rw [if_pos (by omega)]
  have b2 : boundA none xs.length xs.length = some xs.length := rfl
  refine ⟨.vs 3 (xs.drop j) (capOf none xs.length j cap),fun H => ?_,Or.inr ⟨_,rfl⟩⟩
  unfold sliceA
  simp only [und_36,size_42,b1,b2,List.take_length]
  rfl
def hkV (h : Hnk) (c : AV) : AV := .agg [.v (.int .i64 h.1),.v (.int .i64 h.2.1),c]
def hkC (h : Hnk) (c : AV) : List AV := [.v (.int .i64 h.1),.v (.int .i64 h.2.1),c]
theorem clones {e : Exts} (he : Quiet e) : ∀ (ns : List Hnk) (ys : List AV),All2 HunkA ns ys → (∀ h ∈ ns,h.2.2.length < 100000) → ∃ c : Nat → AV,∀ (j : Nat) (h : Hnk) (y : AV),ns[j]? = some h → ys[j]? = some y → ∃ p,y = .agg [.v (.int .i64 h.1),.v (.int .i64 h.2.1),p] ∧ SlOf 1 (strs h.2.2) p ∧ SlOf 1 (strs h.2.2) (c j) ∧ Ans (Cx e) 52 [p] (c j) := by
 intro ns ys hys hl
 have hex : ∀ j : Nat,∃ v : AV,∀ (h : Hnk) (y : AV),ns[j]? = some h → ys[j]? = some y → ∃ p,y = .agg [.v (.int .i64 h.1),.v (.int .i64 h.2.1),p] ∧ SlOf 1 (strs h.2.2) p ∧ SlOf 1 (strs h.2.2) v ∧ Ans (Cx e) 52 [p] v := by
  intro j
  cases hh : ns[j]? with
  | none => exact ⟨.v .nilIface,fun h y h1 => nomatch h1⟩
  | some h =>
   obtain ⟨y,hy,p,rfl,hp⟩ := hys.get hh
   obtain ⟨v,hv,ha⟩ := ans52 he h.2.2 (hl h (List.mem_of_getElem? hh)) p hp
   refine ⟨v,fun h' y' h1 h2 => ?_⟩
   cases h1
   rw [hy] at h2;cases h2
   exact ⟨p,rfl,hp,hv,ha⟩
 exact ⟨fun j => (hex j).choose,fun j => (hex j).choose_spec⟩
theorem chunk3 : ∀ l : List (Hnk × AV),chunk 3 l.length (l.flatMap fun p => hkC p.1 p.2) = l.map fun p => hkV p.1 p.2
 | [] => rfl
 | p :: l => by
  rw [List.flatMap_cons,List.length_cons,List.map_cons]
  show (AV.agg (((hkC p.1 p.2) ++ _).take 3)) :: chunk 3 l.length (((hkC p.1 p.2) ++ _).drop 3) = _
  rw [List.take_left' (by rfl),List.drop_left' (by rfl),chunk3 l];rfl
theorem len3 : ∀ l : List (Hnk × AV),(l.flatMap fun p => hkC p.1 p.2).length = l.length * 3
 | [] => rfl
 | p :: l => by
  rw [List.flatMap_cons,List.length_append,len3 l,List.length_cons]
  show 3 + l.length * 3 = _
  omega
def rowQ (ps : List (Hnk × AV)) (j : Nat) : List AV := (ps.take j).flatMap fun p => hkC p.1 p.2
theorem rowQ_succ {ps : List (Hnk × AV)} {j : Nat} {p : Hnk × AV} (h : ps[j]? = some p) : rowQ ps j ++ hkC p.1 p.2 = rowQ ps (j + 1) := by
 unfold rowQ
 rw [take_next h,List.flatMap_append];simp
theorem rowQ_len (ps : List (Hnk × AV)) {j : Nat} (h : j ≤ ps.length) : (rowQ ps j).length = j * 3 := by
 unfold rowQ
 rw [len3,List.length_take,Nat.min_eq_left h]
end Go.Ev
namespace Go.Ev
open Go.Proofs
attribute [local irreducible] Wp WpS
theorem bound2 {s1 s2 : Nat} {xs ys : List AV} {x y : AV} (hx : SlOf s1 xs x) (hy : SlOf s2 ys y) : bound (.agg [x,y]) = 0 := by
 show boundL [x,y] = 0
 rw [boundL_cons,boundL_cons,boundL_nil,hx.bound,hy.bound];rfl
theorem bound3 {s1 s2 : Nat} {xs ys gs : List AV} {x y : AV} {c : Option Nat} (hx : SlOf s1 xs x) (hy : SlOf s2 ys y) : bound (.agg [x,y,.vs 1 gs c]) = 0 := by
 show boundL [x,y,.vs 1 gs c] = 0
 rw [boundL_cons,boundL_cons,boundL_cons,boundL_nil,hx.bound,hy.bound];rfl
end Go.Ev
namespace Go.Ev
open Go.Proofs
attribute [local irreducible] Wp WpS
theorem genN_drop (f : List ByteArray) (ns : List Hnk) (k j : Nat) : genN (genN f ns k) (ns.drop k) j = genN f ns (k + j) := by
 unfold genN
 rw [List.take_add,List.foldl_append]
theorem OkS.drop {f : List ByteArray} {ns : List Hnk} (h : OkS f ns) {k : Nat} (hk : k ≤ ns.length) : OkS (genN f ns k) (ns.drop k) := by
 refine ⟨by rw [List.length_drop];have := h.len;omega,h.gen k hk,fun j n hn => ?_⟩
 rw [List.getElem?_drop] at hn
 rw [genN_drop]
 exact h.step _ _ hn
end Go.Ev
namespace Go.Ev
open Go.Proofs
attribute [local irreducible] Wp WpS
theorem comN_take : ∀ l m : List ByteArray,l.take (comN l m) = m.take (comN l m)
 | [],m => by
  have h := (comN_le [] m).1
  have h0 : comN [] m = 0 := by simpa using h
  rw [h0];rfl
 | a :: l,[] => by
  have h := (comN_le (a :: l) []).2
  have h0 : comN (a :: l) [] = 0 := by simpa using h
  rw [h0];rfl
 | a :: l,b :: m => by
  unfold comN
  by_cases h : a = b
  ·rw [if_pos h,h,List.take_succ_cons,List.take_succ_cons,comN_take l m]
  ·rw [if_neg h];rfl
theorem comN_drop (a b : List ByteArray) : a.drop (a.length - comN a.reverse b.reverse) = b.drop (b.length - comN a.reverse b.reverse) := by
 obtain ⟨h1,h2⟩ := comN_le a.reverse b.reverse
 rw [List.length_reverse] at h1 h2
 have h := comN_take a.reverse b.reverse
 rw [List.take_reverse,List.take_reverse] at h
 exact List.reverse_inj.1 h
theorem chL_hunk (l m : List ByteArray) : chL l (hunkL l m) = m := by
 obtain ⟨k1,k2⟩ := comN_le l m
 have ht := comN_take l m
 have hd := comN_drop (l.drop (comN l m)) (m.drop (comN l m))
 obtain ⟨e1,e2⟩ := comN_le (l.drop (comN l m)).reverse (m.drop (comN l m)).reverse
 rw [List.length_reverse] at e1 e2
 unfold chL hunkL
 simp only
 rw [← List.drop_drop,hd,List.take_append_drop,ht,List.take_append_drop]
end Go.Ev
namespace Go.Ev
open Go.Proofs
attribute [local irreducible] Wp WpS
theorem app36S (P0 P1 P2 A B C D : Option AObj) (R : List (Option AObj)) (ps : List (Hnk × AV)) (i slot : Nat) (h : Hnk) (c : AV) (hp : ps[i + 1]? = some (h,c)) (hb : bound c = 0) (hi : i < 1000) : appTo 42 3 40 ⟨P0 :: P1 :: P2 :: A :: B :: C :: D :: none :: none :: none :: none :: none :: none :: none :: none :: none :: none :: none :: some (.cells i 0 42 3 true (rowQ ps (i + 1))) :: R,0⟩ slot 1 [.v (.int .i64 h.1),.v (.int .i64 h.2.1),c] (.sl 18 i 0 (i + 1) none) = some (.sl 18 (i + 1) 0 (i + 1 + 1) none,⟨P0 :: P1 :: P2 :: A :: B :: C :: D :: none :: none :: none :: none :: none :: none :: none :: none :: none :: none :: none :: some (.cells (i + 1) 0 42 3 true (rowQ ps (i + 1 + 1))) :: R,0⟩) := by
 have hj := (List.getElem?_eq_some_iff.1 hp).1
 have hr : (⟨P0 :: P1 :: P2 :: A :: B :: C :: D :: none :: none :: none :: none :: none :: none :: none :: none :: none :: none :: none :: some (.cells i 0 42 3 true (rowQ ps (i + 1))) :: R,0⟩ : Heap).row 18 i = some (0,42,3,true,rowQ ps (i + 1)) := by unfold Heap.row Heap.get;simp
 have hf : fitsA 40 (i + 1 + 1) = true := by unfold fitsA;exact decide_eq_true (by omega)
 have hq : rowQ ps (i + 1) ++ [.v (.int .i64 h.1),.v (.int .i64 h.2.1),c] = rowQ ps (i + 1 + 1) := rowQ_succ hp
 rw [appTo_own hr (by rw [rowQ_len ps (by omega)]) (Nat.zero_le _) hf (by omega) (by omega),hq]
 rw [boundL_cons,boundL_cons,boundL_cons,boundL_nil,hb];rfl
theorem trim_noS {P0 P1 P2 A B C : AObj} {R : List (Option AObj)} {vs : List AV} {ms : List Nat} (hc : 6 < C.bound) : (⟨some P0 :: some P1 :: some P2 :: some A :: some B :: some C :: R,0⟩ : Heap).trim 6 vs ms = ⟨some P0 :: some P1 :: some P2 :: some A :: some B :: some C :: R,0⟩ := by
 unfold Heap.trim
 rw [if_neg]
 have h1 : Nat.ble C.bound 6 = false := by
  cases hb : Nat.ble C.bound 6 with
  | false => rfl
  | true => have := Nat.le_of_ble_eq_true hb;omega
 have h2 : boundsOk 6 ((some P0 :: some P1 :: some P2 :: some A :: some B :: some C :: R).take 6) = false := by
  show (Nat.ble P0.bound 6 && (Nat.ble P1.bound 6 && (Nat.ble P2.bound 6 && (Nat.ble A.bound 6 && (Nat.ble B.bound 6 && (Nat.ble C.bound 6 && boundsOk 6 (R.take 0))))))) = false
  rw [h1];simp
 rw [h2];simp
theorem trim_21 {P0 P1 P2 A B C D E : AObj} {R : List (Option AObj)} {vs : List AV} (h1 : boundL vs ≤ 21) (p0 : P0.bound = 0) (p1 : P1.bound = 0) (p2 : P2.bound = 0) (ha : A.bound ≤ 21) (hb : B.bound ≤ 21) (hc : C.bound ≤ 21) (hd : D.bound ≤ 21) (he : E.bound ≤ 21) : (⟨some P0 :: some P1 :: some P2 :: some A :: some B :: some C :: some D :: none :: none :: none :: none :: none :: none :: none :: none :: none :: none :: none :: some E :: none :: none :: R,0⟩ : Heap).trim 21 vs [] = ⟨[some P0,some P1,some P2,some A,some B,some C,some D,none,none,none,none,none,none,none,none,none,none,none,some E,none,none],0⟩ := by
 unfold Heap.trim
 have e1 := Nat.ble_eq_true_of_le h1
 have e2 : boundsOk 21 ((some P0 :: some P1 :: some P2 :: some A :: some B :: some C :: some D :: none :: none :: none :: none :: none :: none :: none :: none :: none :: none :: none :: some E :: none :: none :: R).take 21) = true := by
  show (Nat.ble P0.bound 21 && (Nat.ble P1.bound 21 && (Nat.ble P2.bound 21 && (Nat.ble A.bound 21 && (Nat.ble B.bound 21 && (Nat.ble C.bound 21 && (Nat.ble D.bound 21 && (Nat.ble E.bound 21 && boundsOk 21 (R.take 0))))))))) = true
  rw [p0,p1,p2,Nat.ble_eq_true_of_le ha,Nat.ble_eq_true_of_le hb,Nat.ble_eq_true_of_le hc,Nat.ble_eq_true_of_le hd,Nat.ble_eq_true_of_le he];rfl
 rw [if_pos (by rw [e1,e2];rfl)]
 rfl
theorem fn46S {e : Exts} (he : Quiet e) (ns : List Hnk) (hn : ns.length ≤ 11) (hp : ∀ h ∈ ns,h.2.2.length < 100000) (x y : AV) {xs0 : List AV} {s0 : Nat} (hx : SlOf s0 xs0 x) (ys gs : List AV) (hy : SlOf 3 ys y) (hys : All2 HunkA ns ys) (u : AV) (l : List ByteArray) (hu1 : gs[0]? = some u) (hu2 : SlOf 1 (strs l) u) : ∃ ps : List (Hnk × AV),ps.length = ns.length ∧ (∀ (j : Nat) (h : Hnk),ns[j]? = some h → ∃ c,ps[j]? = some (h,c) ∧ SlOf 1 (strs h.2.2) c) ∧ ∀ P0 P1 P2 : AObj,P0.bound = 0 → P1.bound = 0 → P2.bound = 0 → Fn' (Cx e) 46 [.agg [x,y,.vs 1 gs none],.v (.int .i64 (0 : Nat))] ⟨[some P0,some P1,some P2],0⟩ (fun v X => (ns.length = 0 ∧ v = .agg [u,.v (.slice none 0 0)] ∧ ∃ A B C,X = ⟨[some P0,some P1,some P2,A,B,C],0⟩) ∨ (∃ i A B C D,ns.length = i + 1 ∧ v = .agg [u,.sl 18 i 0 (i + 1) none] ∧ X = ⟨[some P0,some P1,some P2,A,B,C,D,none,none,none,none,none,none,none,none,none,none,none,some (.cells i 0 42 3 true (rowQ ps (i + 1))),none,none],0⟩)) := by
 obtain ⟨c,hc⟩ := clones he ns ys hys hp
 have hlen := hys.1
 obtain ⟨k,hk0⟩ : ∃ k : Nat,k = 0 := ⟨0,rfl⟩
 rw [← hk0] at hu1
 have hk : k ≤ ns.length := by omega
 obtain ⟨y2,hy2,hy3⟩ := slice36L hy k (by omega)
 have hly := hy3.len
 rw [List.length_drop,← hlen] at hly
 have hix := (show SlOf 1 gs (.vs 1 gs none) from Or.inr ⟨none,rfl⟩).idx hu1
 obtain ⟨n,hnk⟩ : ∃ n,ns.length - k = n := ⟨_,rfl⟩
 rw [hnk] at hly
 obtain ⟨ps,hps⟩ : ∃ ps : List (Hnk × AV),ps = (ns.drop k).zip ((List.range n).map fun j => c (k + j)) := ⟨_,rfl⟩
 have hpl : ps.length = n := by rw [hps,List.length_zip,List.length_drop,List.length_map,List.length_range];omega
 have hpg : ∀ (j : Nat) (h : Hnk),ns[k + j]? = some h → ps[j]? = some (h,c (k + j)) := by
  intro j h hh
  have hj := (List.getElem?_eq_some_iff.1 hh).1
  rw [hps,List.getElem?_zip_eq_some]
  refine ⟨by rw [List.getElem?_drop];exact hh, ?_⟩
  rw [List.getElem?_map,List.getElem?_range (by omega)];rfl
 refine ⟨ps,by omega,fun j h hh => ?_,fun P0 P1 P2 hP0 hP1 hP2 => ?_⟩
 ·have hj := (List.getElem?_eq_some_iff.1 hh).1
  obtain ⟨z,hz, -⟩ := hys.get hh
  obtain ⟨p, -, -,h3, -⟩ := hc j h z hh hz
  have hpj := hpg j h (by rw [hk0,Nat.zero_add];exact hh)
  rw [hk0,Nat.zero_add] at hpj
  exact ⟨c j,hpj,h3⟩
 rw [show (((0 : Nat) : Nat) : Int) = ((k : Nat) : Int) by rw [hk0]]
 rw [fn_step (fn_46 e) (show Tryz.f46.body = some _ from rfl)]
 simp -implicitDefEqProofs only [Tryz.f46,go_sem,↓reduceIte,Int.reduceEq,Int.reduceLT,Int.reduceLE,List.reduceReplicate,intA,setT_nil,setT_cons,hly,hy2,hix,hx.cells,hx.flat,hx.bound,hy.cells,hy.flat,hy.bound,hy3.cells,hy3.flat,hy3.bound,hu2.cells,hu2.flat,hu2.bound,↓boolP_bool,↓iteB_true,↓iteB_false]
 refine Lp_ruleQ (P := fun μ a H => ∃ j,j + μ = n ∧ ((j = 0 ∧ a = ⟨39,[(0,.agg [x,y,.vs 1 gs none]),(1,intA (k : Nat)),(2,.ptr 3 0 0),(4,.ptr 4 0 0),(5,.ptr 5 0 0),(18,y2),(19,intA (n : Nat)),(20,intA 0)],[]⟩ ∧ H = ⟨[some P0,some P1,some P2,some (.cells 0 0 101 1 false [x,y,.vs 1 gs none]),some (.cells 0 0 38 1 false [.v (.slice none 0 0),.v (.slice none 0 0)]),some (.cells 0 0 38 1 false [u,.v (.slice none 0 0)])],0⟩) ∨ (∃ i G,j = i + 1 ∧ a = ⟨39,[(0,.agg [x,y,.vs 1 gs none]),(1,intA (k : Nat)),(2,.ptr 3 0 0),(4,.ptr 4 0 0),(5,.ptr 5 0 0),(18,y2),(19,intA (n : Nat)),(20,intA (j : Nat))],[]⟩ ∧ H = ⟨[some P0,some P1,some P2,some (.cells 0 0 101 1 false [x,y,.vs 1 gs none]),some (.cells 0 0 38 1 false [.v (.slice none 0 0),.v (.slice none 0 0)]),some (.cells 0 19 38 1 false [u,.sl 18 i 0 (i + 1) none]),some (.cells 0 0 42 1 false G),none,none,none,none,none,none,none,none,none,none,none,some (.cells i 0 42 3 true (rowQ ps (i + 1))),none,none],0⟩))) ?_ n _ _ ⟨0,by omega,Or.inl ⟨rfl,rfl,rfl⟩⟩
 rintro Q KK hQ hKK μ _ _ ⟨j,hj,(⟨rfl,rfl,rfl⟩ | ⟨i,G,rfl,rfl,rfl⟩)⟩
 ·cases μ with
  | zero =>
   have hz : n = 0 := by omega
   have hlt : ¬ (0 : Int) < (n : Int) := by omega
   simp -implicitDefEqProofs only [go_sem,↓reduceIte,Int.reduceEq,Int.reduceLT,Int.reduceLE,List.reduceReplicate,intA,setT_nil,setT_cons,hlt,hx.cells,hx.flat,hx.bound,hy.cells,hy.flat,hy.bound,hu2.cells,hu2.flat,hu2.bound,↓boolP_bool,↓iteB_true,↓iteB_false]
   refine hKK _ _ _ ?_
   simp -implicitDefEqProofs only [go_sem,↓reduceIte,Int.reduceEq,Int.reduceLT,Int.reduceLE,List.reduceReplicate,intA,setT_nil,setT_cons,hx.cells,hx.flat,hx.bound,hy.cells,hy.flat,hy.bound,hu2.cells,hu2.flat,hu2.bound,↓boolP_bool,↓iteB_true,↓iteB_false]
   exact Or.inl ⟨by omega,rfl,_,_,_,rfl⟩
  | succ μ =>
   obtain ⟨h,hh⟩ := at_lt ns k (by omega)
   obtain ⟨z,hz, -⟩ := hys.get hh
   obtain ⟨p,rfl,hp1,hv,ha52⟩ := hc k h z hh hz
   have hpj := hpg 0 h hh
   have hlt : (0 : Int) < (n : Int) := by omega
   have hix2 : ∀ kk,slIdx 3 y2 (.v (.int kk 0)) = some (.ro (.agg [.v (.int .i64 h.1),.v (.int .i64 h.2.1),p]) 0) := fun kk => hy3.idx (j := 0) (show (ys.drop k)[0]? = some _ by rw [List.getElem?_drop];exact hz) kk
   have c52 := fun d => ha52.callI (me := 46) (d := d) (ext_52 he) (pure_52_46 e d) (by rw [boundL_cons,boundL_nil,hp1.bound];rfl)
   have e1 : List.flatMap AV.cells [AV.agg [.v (.int .i64 h.1),.v (.int .i64 h.2.1),c k]] = [.v (.int .i64 h.1),.v (.int .i64 h.2.1),c k] := rfl
   have e2 : [AV.v (.int .i64 h.1),.v (.int .i64 h.2.1),c k].all AV.flat = true := by rw [List.all_cons,List.all_cons,List.all_cons,List.all_nil,hv.flat];rfl
   have e3 : boundL [AV.v (.int .i64 h.1),.v (.int .i64 h.2.1),c k] = 0 := by rw [boundL_cons,boundL_cons,boundL_cons,boundL_nil,hv.bound];rfl
   have e4 : fitsA 40 1 = true := by decide
   have e5 : IntKind.i64.wrap (0 + 1) = 1 := by decide
   have hne : ¬ n = 0 := by omega
   simp -implicitDefEqProofs only [go_sem,↓reduceIte,Int.reduceEq,Int.reduceLT,Int.reduceLE,List.reduceReplicate,intA,setT_nil,setT_cons,hlt,hix2,hp1.cells,hp1.flat,hp1.bound,hv.cells,hv.flat,hv.bound,hx.cells,hx.flat,hx.bound,hy.cells,hy.flat,hy.bound,hu2.cells,hu2.flat,hu2.bound,↓boolP_bool,↓iteB_true,↓iteB_false]
   refine wp_drawX [([],[],false),([],[],false),([],[],false),([1],[],false),([],[],false),([1,3],[],false),([],[],false),([1,3,5],[],false),([1,3,5],[],false),([],[],false),([1],[],false),([],[10],false),([],[],false),([],[10,11],false)] (by kernel_rfl) (by kernel_rfl) ?_
   simp -implicitDefEqProofs only [go_sem,↓reduceIte,Int.reduceEq,Int.reduceLT,Int.reduceLE,List.reduceReplicate,intA,setT_nil,setT_cons,List.isEmpty_nil,hix2,c52,e1,e2,e3,e4,e5,hp1.cells,hp1.flat,hp1.bound,hv.cells,hv.flat,hv.bound,hx.cells,hx.flat,hx.bound,hy.cells,hy.flat,hy.bound,hu2.cells,hu2.flat,hu2.bound,↓boolP_bool,↓iteB_true,↓iteB_false]
   rw [trim_noS]
   rotate_left
   ·exact (by decide : (6 : Nat) < 19)
   have hr0 : rowQ ps 1 = [.v (.int .i64 h.1),.v (.int .i64 h.2.1),c k] := (rowQ_succ hpj).symm
   exact Again.mk' μ (by omega) (hQ _ _ _ ⟨1,by omega,Or.inr ⟨0,_,rfl,rfl,by rw [hr0];rfl⟩⟩)
 ·cases μ with
  | zero =>
   have hi1 : i + 1 = n := by omega
   have hlt : ¬ (((i + 1 : Nat) : Nat) : Int) < (n : Int) := by omega
   simp -implicitDefEqProofs only [go_sem,↓reduceIte,Int.reduceEq,Int.reduceLT,Int.reduceLE,List.reduceReplicate,intA,setT_nil,setT_cons,hlt,hx.cells,hx.flat,hx.bound,hy.cells,hy.flat,hy.bound,hu2.cells,hu2.flat,hu2.bound,↓boolP_bool,↓iteB_true,↓iteB_false]
   refine hKK _ _ _ ?_
   simp -implicitDefEqProofs only [go_sem,↓reduceIte,Int.reduceEq,Int.reduceLT,Int.reduceLE,List.reduceReplicate,intA,setT_nil,setT_cons,hx.cells,hx.flat,hx.bound,hy.cells,hy.flat,hy.bound,hu2.cells,hu2.flat,hu2.bound,↓boolP_bool,↓iteB_true,↓iteB_false]
   exact Or.inr ⟨i,_,_,_,_,by omega,rfl,rfl⟩
  | succ μ =>
   obtain ⟨h,hh⟩ := at_lt ns (k + (i + 1)) (by omega)
   obtain ⟨z,hz, -⟩ := hys.get hh
   obtain ⟨p,rfl,hp1,hv,ha52⟩ := hc (k + (i + 1)) h z hh hz
   have hpj := hpg (i + 1) h hh
   have hlt : (((i + 1 : Nat) : Nat) : Int) < (n : Int) := by omega
   have hix2 := hy3.idx (show (ys.drop k)[i + 1]? = some _ by rw [List.getElem?_drop];exact hz)
   have c52 := fun d => ha52.callI (me := 46) (d := d) (ext_52 he) (pure_52_46 e d) (by rw [boundL_cons,boundL_nil,hp1.bound];rfl)
   have e1 : List.flatMap AV.cells [AV.agg [.v (.int .i64 h.1),.v (.int .i64 h.2.1),c (k + (i + 1))]] = [.v (.int .i64 h.1),.v (.int .i64 h.2.1),c (k + (i + 1))] := rfl
   have e2 : [AV.v (.int .i64 h.1),.v (.int .i64 h.2.1),c (k + (i + 1))].all AV.flat = true := by rw [List.all_cons,List.all_cons,List.all_cons,List.all_nil,hv.flat];rfl
   have r1 := fun P0 P1 P2 A B C D R slot => app36S P0 P1 P2 A B C D R ps i slot h (c (k + (i + 1))) hpj hv.bound (by omega)
   have e5 := wrap_succ (i + 1) (by omega)
   simp -implicitDefEqProofs only [go_sem,↓reduceIte,Int.reduceEq,Int.reduceLT,Int.reduceLE,List.reduceReplicate,intA,setT_nil,setT_cons,hlt,hix2,hp1.cells,hp1.flat,hp1.bound,hv.cells,hv.flat,hv.bound,hx.cells,hx.flat,hx.bound,hy.cells,hy.flat,hy.bound,hu2.cells,hu2.flat,hu2.bound,↓boolP_bool,↓iteB_true,↓iteB_false]
   refine wp_drawX [([],[],false),([],[],false),([],[],false),([1],[],false),([],[],false),([1,3],[],false),([],[],false),([1,3,5],[],false),([1,3,5],[],false),([],[],false),([1],[],false),([],[10],false),([],[],false),([],[10,11],false)] (by kernel_rfl) (by kernel_rfl) ?_
   simp -implicitDefEqProofs only [go_sem,↓reduceIte,Int.reduceEq,Int.reduceLT,Int.reduceLE,List.reduceReplicate,intA,setT_nil,setT_cons,List.isEmpty_nil,hix2,c52,e1,e2,r1,e5,hp1.cells,hp1.flat,hp1.bound,hv.cells,hv.flat,hv.bound,hx.cells,hx.flat,hx.bound,hy.cells,hy.flat,hy.bound,hu2.cells,hu2.flat,hu2.bound,↓boolP_bool,↓iteB_true,↓iteB_false]
   rw [trim_21]
   rotate_left
   ·simp only [boundL_cons,boundL_nil,bound,hx.bound,hy.bound,hy3.bound];decide
   ·exact hP0
   ·exact hP1
   ·exact hP2
   ·exact Nat.zero_le _
   ·exact Nat.zero_le _
   ·exact (by decide : (19 : Nat) ≤ 21)
   ·exact Nat.zero_le _
   ·exact Nat.zero_le _
   exact Again.mk' μ (by omega) (hQ _ _ _ ⟨i + 1 + 1,by omega,Or.inr ⟨i + 1,_,rfl,rfl,rfl⟩⟩)
theorem call_keptP {C : Cfg} {f : FuncId} {args : List AV} {H : Heap} {Φ : AV → Heap → Prop} {me : FuncId} {d : Option Tmp} (hx : C.ext f = none) (hk : callKind C me f d args = 0) (h : Fn' C f args H Φ) (hh : C.exh f = none := by rfl) : ∃ v X, Φ v X ∧ callA C (lim C) me f d args H = some (v,X.trim H.size [v] []) := by
 unfold Fn' at h
 rw [bindO_iff] at h
 obtain ⟨o,h1,h2⟩ := h
 cases o with
 | go => exact h2.elim
 | ret x X =>
  refine ⟨x,X,h2, ?_⟩
  unfold callA standA standH
  rw [hx];simp only;rw [hh];simp only
  unfold callB
  rw [hk]
  simp only [h1]
end Go.Ev
namespace Go.Ev
open Go.Proofs
attribute [local irreducible] Wp WpS
theorem ans48 {e : Exts} {s1 s2 : Nat} {xs ys gs : List AV} {x y u : AV} {n : Nat} {l : List ByteArray} (hx : SlOf s1 xs x) (hy : SlOf s2 ys y) (hg : gs.length = n + 1) (hn : n < 1000) (hu : gs[n]? = some u) (hu2 : SlOf 1 (strs l) u) : Ans (Cx e) 48 [.agg [x,y,.vs 1 gs none]] u := by
 have hlg : slLen (.vs 1 gs none) = some (.v (.int .i64 ((n + 1 : Nat) : Int))) := by rw [← hg];rfl
 have hix := (show SlOf 1 gs (.vs 1 gs none) from Or.inr ⟨none,rfl⟩).idx hu
 have w1 : IntKind.i64.wrap (((n + 1 : Nat) : Int) - 1) = ((n : Nat) : Int) := by rw [wrap_in _ (by omega) (by omega)];omega
 unfold Ans
 rw [fn_step (fn_48 e) (show Tryz.f48.body = some _ from rfl)]
 simp -implicitDefEqProofs only [Tryz.f48,go_sem,↓reduceIte,Int.reduceEq,Int.reduceLT,Int.reduceLE,List.reduceReplicate,intA,setT_nil,setT_cons,hlg,hix,w1,hx.cells,hx.flat,hx.bound,hy.cells,hy.flat,hy.bound,hu2.cells,hu2.flat,hu2.bound,↓boolP_bool,↓iteB_true,↓iteB_false]
 exact hu2.frzK _ _
theorem frzSave {H : Heap} (hk : H.lock = 0) {b i n : Nat} {qs : List (Hnk × AV)} (hr : H.row b i = some (0,42,3,true,qs.flatMap fun p => hkC p.1 p.2)) (hl : qs.length = n) {sz : Nat} {xs : List AV} {u : AV} (hu : SlOf sz xs u) (z : Value) : freezeV H 1000000 (.tup [.agg [u,.sl b i 0 n none],.v z]) = some (.tup [.agg [u,.vs 3 (qs.map fun p => hkV p.1 p.2) none],.v z]) := by
 have hql := len3 qs
 have h1 : freezeV H (999994 + 1) (.sl b i 0 n none) = some (.vs 3 (qs.map fun p => hkV p.1 p.2) none) := by
  unfold freezeV
  simp only [hr]
  rw [if_neg (by omega),if_pos ⟨by rw [hql];omega,by omega⟩,if_pos trivial,List.drop_zero,List.take_of_length_le (by rw [hql];omega),← hl,chunk3]
 have h2 := hu.frzK H 999995
 have h4 : freezeL H 999997 [u,.sl b i 0 n none] = some [u,.vs 3 (qs.map fun p => hkV p.1 p.2) none] := by
  simp only [freezeL,h1,h2]
 have h5 : freezeV H 999998 (.agg [u,.sl b i 0 n none]) = some (.agg [u,.vs 3 (qs.map fun p => hkV p.1 p.2) none]) := by
  show (freezeL H 999997 _).map AV.agg = _
  rw [h4];rfl
 show (freezeL H 999999 _).map AV.tup = _
 simp only [freezeL,h5]
 rfl
theorem hunks_snoc {ns : List Hnk} {ps : List (Hnk × AV)} {hk : Hnk} {pv : AV} (hl : ps.length = ns.length) (hp : ∀ (j : Nat) (h : Hnk),ns[j]? = some h → ∃ c,ps[j]? = some (h,c) ∧ SlOf 1 (strs h.2.2) c) (hpv : SlOf 1 (strs hk.2.2) pv) : All2 HunkA (ns ++ [hk]) ((ps ++ [(hk,pv)]).map fun p => hkV p.1 p.2) := by
 refine ⟨by rw [List.length_map,List.length_append,List.length_append,hl];rfl,fun j h v hh hv => ?_⟩
 by_cases hj : j < ns.length
 ·rw [List.getElem?_append_left hj] at hh
  obtain ⟨c,h1,h2⟩ := hp j h hh
  rw [List.getElem?_map,List.getElem?_append_left (by omega),h1] at hv
  cases hv
  exact ⟨c,rfl,h2⟩
 ·have h3 := (List.getElem?_eq_some_iff.1 hh).1
  rw [List.length_append] at h3
  have h4 : j = ns.length := by simp at h3;omega
  rw [List.getElem?_append_right (by omega),h4,Nat.sub_self] at hh
  cases hh
  rw [List.getElem?_map,List.getElem?_append_right (by omega),h4,hl,Nat.sub_self] at hv
  cases hv
  exact ⟨pv,rfl,hpv⟩
theorem ans16 {e : Exts} (he : Quiet e) (f : List ByteArray) (ns : List Hnk) (h : OkS f ns) (hn : ns.length < 11) (x y : AV) (ys : List AV) (hx : SlOf 1 (strs f) x) (hy : SlOf 3 ys y) (hys : All2 HunkA ns ys) (m : List ByteArray) (hm : rowsB m = true) (z : AV) (hz : SlOf 1 (strs m) z) : ∃ u y' ys',SlOf 1 (strs f) u ∧ SlOf 3 ys' y' ∧ All2 HunkA (ns ++ [hunkL (genN f ns ns.length) m]) ys' ∧ Ans (Cx e) 16 [.agg [x,y],z] (.tup [.agg [u,y'],.v (.int .i64 0)]) := by
 obtain ⟨gs,g1,g2,ha⟩ := ans45 he f ns h x y ys hx hy hys
 obtain ⟨u,hu1,hu2⟩ := g2 0 (Nat.zero_le _)
 obtain ⟨w,hw1,hw2⟩ := g2 ns.length (Nat.le_refl _)
 have hgl := rowsB_len (h.gen ns.length (Nat.le_refl _))
 have hml := rowsB_len hm
 obtain ⟨hv,hv1,ha47⟩ := ans47 he (genN f ns ns.length) m (by omega) (by omega) w z hw2 hz
 obtain ⟨hk,hk1⟩ : ∃ hk,hk = hunkL (genN f ns ns.length) m := ⟨_,rfl⟩
 rw [← hk1] at hv1 ⊢
 obtain ⟨pv,rfl,hpv⟩ := hv1
 have c45 := fun me d H => ha.call (me := me) (d := d) (ext_45 he) (pure_45 _ _ _) (by rw [boundL_cons,boundL_nil,bound2 hx hy];rfl) H
 have c39 := fun me d H => call39 he m (rowsB_fits hm) z hz me d H
 rw [hm] at c39
 simp only [if_true] at c39
 have c48 := fun me d => (ans48 (e := e) hx hy g1 (by omega) hw1 hw2).callI (me := me) (d := d) (ext_48 he) (pure_48 _ _ _) (by rw [boundL_cons,boundL_nil,bound3 hx hy];rfl)
 have c47 := fun me d => ha47.callI (me := me) (d := d) (ext_47 he) (pure_47 _ _ _) (by rw [boundL_cons,boundL_cons,boundL_nil,hw2.bound,hz.bound];rfl)
 have hlg : slLen (.vs 1 gs none) = some (.v (.int .i64 ((ns.length + 1 : Nat) : Int))) := by rw [← g1];rfl
 have h12 : ¬ ((ns.length + 1 : Nat) : Int) = 12 := by omega
 obtain ⟨ps,hp1,hp2,h46⟩ := fn46S he ns h.len (fun n hn => by
  obtain ⟨j,hj⟩ := List.mem_iff_getElem?.1 hn
  have := rowsB_len (h.step j n hj).2.1
  omega) x y hx ys gs hy hys u _ hu1 hu2
 obtain ⟨v,X,hX,c46⟩ := call_keptP (me := 16) (d := some 31) (ext_46 he) rfl (h46 (.cells 0 0 38 1 false [x,y]) (.cells 0 0 38 1 false [.v (.slice none 0 0),.v (.slice none 0 0)]) (.cells 0 0 101 1 false [x,y,.vs 1 gs none]) rfl rfl rfl)
 rcases hX with ⟨h0,rfl,A,B,C,rfl⟩ | ⟨i,A,B,C,D,hi,rfl,rfl⟩
 ·have et : Heap.trim ⟨[some (.cells 0 0 38 1 false [x,y]),some (.cells 0 0 38 1 false [.v (.slice none 0 0),.v (.slice none 0 0)]),some (.cells 0 0 101 1 false [x,y,.vs 1 gs none]),A,B,C],0⟩ 3 [.agg [u,.v (.slice none 0 0)]] [] = ⟨[some (.cells 0 0 38 1 false [x,y]),some (.cells 0 0 38 1 false [.v (.slice none 0 0),.v (.slice none 0 0)]),some (.cells 0 0 101 1 false [x,y,.vs 1 gs none])],0⟩ := trim_at _ _ _ _ _ (by rw [boundL_cons,boundL_nil,bound_agg,boundL_cons,boundL_cons,boundL_nil,hu2.bound];decide) rfl rfl (Nat.zero_le _)
  have c46 : _ := c46.trans (congrArg (fun X => some (AV.agg [u,.v (.slice none 0 0)],X)) et)
  rw [show ((0 : Nat) : Int) = 0 from rfl] at c46
  refine ⟨u,.vs 3 [.agg [.v (.int .i64 hk.1),.v (.int .i64 hk.2.1),pv]] none,[.agg [.v (.int .i64 hk.1),.v (.int .i64 hk.2.1),pv]],hu2,Or.inr ⟨none,rfl⟩, ?_, ?_⟩
  ·have hps0 : ps = [] := List.length_eq_zero_iff.1 (by omega)
   have hns0 : ns = [] := List.length_eq_zero_iff.1 h0
   subst hps0 hns0
   exact hunks_snoc (ps := []) rfl (fun j h hh => nomatch hh) hpv
  unfold Ans
  rw [fn_step (fn_16 e) (show Tryz.f16.body = some _ from rfl)]
  simp -implicitDefEqProofs only [Tryz.f16,go_sem,↓reduceIte,Int.reduceEq,Int.reduceLT,Int.reduceLE,List.reduceReplicate,intA,setT_nil,setT_cons,c45,c39,hlg,h12,c46,hx.cells,hx.flat,hx.bound,hy.cells,hy.flat,hy.bound,hz.cells,hz.flat,hz.bound,hu2.cells,hu2.flat,hu2.bound,↓boolP_bool,↓iteB_true,↓iteB_false]
  have e1 : List.flatMap AV.cells [AV.agg [.v (.int .i64 hk.1),.v (.int .i64 hk.2.1),pv]] = [.v (.int .i64 hk.1),.v (.int .i64 hk.2.1),pv] := rfl
  have e2 : [AV.v (.int .i64 hk.1),.v (.int .i64 hk.2.1),pv].all AV.flat = true := by rw [List.all_cons,List.all_cons,List.all_cons,List.all_nil,hpv.flat];rfl
  have e3 : boundL [AV.v (.int .i64 hk.1),.v (.int .i64 hk.2.1),pv] = 0 := by rw [boundL_cons,boundL_cons,boundL_cons,boundL_nil,hpv.bound];rfl
  have e4 : fitsA 40 1 = true := by decide
  refine wp_drawX [([],[],false),([],[],false),([1],[],false),([1],[],false),([],[],false),([1],[],false),([1],[],false),([],[6],false),([],[],false),([],[6,7],false)] (by kernel_rfl) (by kernel_rfl) ?_
  simp -implicitDefEqProofs only [go_sem,↓reduceIte,Int.reduceEq,Int.reduceLT,Int.reduceLE,List.reduceReplicate,intA,setT_nil,setT_cons,c48,c47,List.isEmpty_nil,e1,e2,e3,e4,bound_sl,hpv.cells,hpv.flat,hpv.bound,hx.cells,hx.flat,hx.bound,hy.cells,hy.flat,hy.bound,hz.cells,hz.flat,hz.bound,hu2.cells,hu2.flat,hu2.bound,↓boolP_bool,↓iteB_true,↓iteB_false]
  exact frzSave (qs := [(hk,pv)]) rfl rfl rfl hu2 _
 ·have et : Heap.trim ⟨[some (.cells 0 0 38 1 false [x,y]),some (.cells 0 0 38 1 false [.v (.slice none 0 0),.v (.slice none 0 0)]),some (.cells 0 0 101 1 false [x,y,.vs 1 gs none]),A,B,C,D,none,none,none,none,none,none,none,none,none,none,none,some (.cells i 0 42 3 true (rowQ ps (i + 1))),none,none],0⟩ 3 [.agg [u,.sl 18 i 0 (i + 1) none]] [] = _ := trim_up (by rw [boundL_cons,boundL_nil,bound_agg,boundL_cons,boundL_cons,boundL_nil,hu2.bound];show 3 < 19;decide)
  have c46 : _ := c46.trans (congrArg (fun X => some (AV.agg [u,.sl 18 i 0 (i + 1) none],X)) et)
  rw [show ((0 : Nat) : Int) = 0 from rfl] at c46
  refine ⟨u,.vs 3 ((ps.map fun p => hkV p.1 p.2) ++ [.agg [.v (.int .i64 hk.1),.v (.int .i64 hk.2.1),pv]]) none,(ps.map fun p => hkV p.1 p.2) ++ [.agg [.v (.int .i64 hk.1),.v (.int .i64 hk.2.1),pv]],hu2,Or.inr ⟨none,rfl⟩, ?_, ?_⟩
  ·have h3 := hunks_snoc hp1 hp2 hpv
   rw [List.map_append] at h3
   exact h3
  unfold Ans
  rw [fn_step (fn_16 e) (show Tryz.f16.body = some _ from rfl)]
  simp -implicitDefEqProofs only [Tryz.f16,go_sem,↓reduceIte,Int.reduceEq,Int.reduceLT,Int.reduceLE,List.reduceReplicate,intA,setT_nil,setT_cons,c45,c39,hlg,h12,c46,hx.cells,hx.flat,hx.bound,hy.cells,hy.flat,hy.bound,hz.cells,hz.flat,hz.bound,hu2.cells,hu2.flat,hu2.bound,↓boolP_bool,↓iteB_true,↓iteB_false]
  have e1 : List.flatMap AV.cells [AV.agg [.v (.int .i64 hk.1),.v (.int .i64 hk.2.1),pv]] = [.v (.int .i64 hk.1),.v (.int .i64 hk.2.1),pv] := rfl
  have e2 : [AV.v (.int .i64 hk.1),.v (.int .i64 hk.2.1),pv].all AV.flat = true := by rw [List.all_cons,List.all_cons,List.all_cons,List.all_nil,hpv.flat];rfl
  have e3 : boundL [AV.v (.int .i64 hk.1),.v (.int .i64 hk.2.1),pv] = 0 := by rw [boundL_cons,boundL_cons,boundL_cons,boundL_nil,hpv.bound];rfl
  have e4 : fitsA 40 1 = true := by decide
  have r1 := fun P0 P1 P2 A B C D R slot => app36S P0 P1 P2 A B C D R (ps ++ [(hk,pv)]) i slot hk pv (by rw [List.getElem?_append_right (by omega),show i + 1 - ps.length = 0 by omega];rfl) hpv.bound (by omega)
  have hq : rowQ ps (i + 1) = rowQ (ps ++ [(hk,pv)]) (i + 1) := by unfold rowQ;rw [List.take_append_of_le_length (by omega)]
  refine wp_drawX [([],[],false),([],[],false),([1],[],false),([1],[],false),([],[],false),([1],[],false),([1],[],false),([],[6],false),([],[],false),([],[6,7],false)] (by kernel_rfl) (by kernel_rfl) ?_
  rw [hq]
  simp -implicitDefEqProofs only [go_sem,↓reduceIte,Int.reduceEq,Int.reduceLT,Int.reduceLE,List.reduceReplicate,intA,setT_nil,setT_cons,c48,c47,List.isEmpty_nil,e1,e2,e3,e4,r1,bound_sl,hpv.cells,hpv.flat,hpv.bound,hx.cells,hx.flat,hx.bound,hy.cells,hy.flat,hy.bound,hz.cells,hz.flat,hz.bound,hu2.cells,hu2.flat,hu2.bound,↓boolP_bool,↓iteB_true,↓iteB_false]
  have h4 := fun H hk' hr => frzSave (H := H) hk' (b := 18) (i := i + 1) (n := i + 1 + 1) (qs := ps ++ [(hk,pv)]) hr (by rw [List.length_append];simp;omega) hu2 (.int .i64 0)
  rw [List.map_append] at h4
  refine h4 _ rfl ?_
  unfold Heap.row Heap.get
  simp
  unfold rowQ
  rw [List.take_of_length_le (by rw [List.length_append];simp;omega),List.flatMap_append]
  simp
end Go.Ev
namespace Go.Ev
open Go.Proofs
attribute [local irreducible] Wp WpS
end Go.Ev
namespace Go.Ev
open Go.Proofs
attribute [local irreducible] Wp WpS
theorem tmodN' (a b : Nat) : ((a : Int)).tmod (b : Int) = ((a % b : Nat) : Int) := rfl
theorem conv_u8m (n : Nat) (h1 : n < 256) : convA Tryz.prog 5 3 (.v (.int .u8 n)) = some (.v (.int .i64 n)) := conv_u8 n (by omega) (by omega)
end Go.Ev
namespace Go.Ev
open Go.Proofs
attribute [local irreducible] Wp WpS
def intH (h : Hnk) : HnkI := (h.1,h.2.1,h.2.2)
theorem OkS.fits {f : List ByteArray} {ns : List Hnk} (h : OkS f ns) : ∀ k ∈ ns.map intH,FitsH k := by
 intro k hk
 obtain ⟨n,hn,rfl⟩ := List.mem_map.1 hk
 obtain ⟨j,hj⟩ := List.mem_iff_getElem?.1 hn
 have h1 := h.step j n hj
 have h2 := rowsB_len (h.gen j (by have := (List.getElem?_eq_some_iff.1 hj).1;omega))
 have h3 := h1.1
 refine ⟨?_, ?_,rowsB_fits h1.2.1⟩
 ·show Int64 ((n.1 : Nat) : Int);unfold Int64;omega
 ·show Int64 ((n.2.1 : Nat) : Int);unfold Int64;omega
end Go.Ev
namespace Go.Ev
open Go.Proofs
theorem comN_ge : ∀ (k : Nat) (l m : List ByteArray),k ≤ l.length → k ≤ m.length → l.take k = m.take k → k ≤ comN l m
 | 0,_,_,_,_,_ => Nat.zero_le _
 | k + 1,[],m,h,_,_ => by simp at h
 | k + 1,a :: l,[],_,h,_ => by simp at h
 | k + 1,a :: l,b :: m,h1,h2,h3 => by
  rw [List.take_succ_cons,List.take_succ_cons] at h3
  have h4 := List.cons.inj h3
  rw [comN,if_pos h4.1]
  exact Nat.succ_le_succ (comN_ge k l m (by simpa using h1) (by simpa using h2) h4.2)
theorem drop_add' (l : List ByteArray) (i j : Nat) : l.drop (i + j) = (l.drop i).drop j := by rw [List.drop_drop]
theorem hunk_least (p D P s : List ByteArray) : (hunkL (p ++ (D ++ s)) (p ++ (P ++ s))).2.1 + (hunkL (p ++ (D ++ s)) (p ++ (P ++ s))).2.2.length ≤ D.length + P.length := by
 obtain ⟨A,hA⟩ : ∃ A,A = p ++ (D ++ s) := ⟨_,rfl⟩
 obtain ⟨B,hB⟩ : ∃ B,B = p ++ (P ++ s) := ⟨_,rfl⟩
 rw [← hA,← hB]
 have lA : A.length = p.length + (D.length + s.length) := by rw [hA];simp
 have lB : B.length = p.length + (P.length + s.length) := by rw [hB];simp
 obtain ⟨c,hc⟩ : ∃ c,comN A B = c := ⟨_,rfl⟩
 obtain ⟨k1,k2⟩ := comN_le A B
 rw [hc] at k1 k2
 have hcp : p.length ≤ c := by
  rw [← hc]
  refine comN_ge _ _ _ (by omega) (by omega) ?_
  rw [hA,hB,List.take_left,List.take_left]
 obtain ⟨E,hE⟩ : ∃ E,comN (A.drop c).reverse (B.drop c).reverse = E := ⟨_,rfl⟩
 obtain ⟨e1,e2⟩ := comN_le (A.drop c).reverse (B.drop c).reverse
 rw [hE,List.length_reverse,List.length_drop] at e1 e2
 have key : ∀ k,k ≤ s.length → k ≤ A.length - c → k ≤ B.length - c → k ≤ E := by
  intro k h1 h2 h3
  rw [← hE]
  refine comN_ge _ _ _ (by rw [List.length_reverse,List.length_drop];omega) (by rw [List.length_reverse,List.length_drop];omega) ?_
  rw [List.take_reverse,List.take_reverse,List.length_drop,List.length_drop,List.drop_drop,List.drop_drop]
  congr 1
  have hs1 : A.drop (p.length + D.length) = s := by rw [hA,← List.append_assoc,List.drop_left' (by simp)]
  have hs2 : B.drop (p.length + P.length) = s := by rw [hB,← List.append_assoc,List.drop_left' (by simp)]
  rw [show c + (A.length - c - k) = (p.length + D.length) + (s.length - k) by omega,show c + (B.length - c - k) = (p.length + P.length) + (s.length - k) by omega,drop_add' A,drop_add' B,hs1,hs2]
 have hH : hunkL A B = (c,(A.drop c).length - E,(B.drop c).take ((B.drop c).length - E)) := by
  unfold hunkL;rw [hc,hE]
 rw [hH]
 show (A.drop c).length - E + ((B.drop c).take ((B.drop c).length - E)).length ≤ _
 rw [List.length_take,List.length_drop,List.length_drop,Nat.min_eq_left (Nat.sub_le _ _)]
 by_cases h1 : s.length ≤ A.length - c
 ·by_cases h2 : s.length ≤ B.length - c
  ·have := key s.length (Nat.le_refl _) h1 h2;omega
  ·by_cases h3 : B.length - c ≤ A.length - c
   ·have := key (B.length - c) (by omega) h3 (Nat.le_refl _);omega
   ·have := key (A.length - c) (by omega) (Nat.le_refl _) (by omega);omega
 ·by_cases h3 : B.length - c ≤ A.length - c
  ·have := key (B.length - c) (by omega) h3 (Nat.le_refl _);omega
  ·have := key (A.length - c) (by omega) (Nat.le_refl _) (by omega);omega
end Go.Ev
namespace Go.Ev
open Go.Proofs
attribute [local irreducible] Wp WpS
theorem okS_nil {f : List ByteArray} (h : rowsB f = true) : OkS f [] := ⟨Nat.zero_le _,h,fun _ _ hn => nomatch hn⟩
theorem frzAt (l : List (Option AObj)) (b : List ByteArray) (_h0 : 0 < b.length) : freezeV ⟨l ++ [some (rowO b)],l.length⟩ 1000000 (.sl l.length 0 0 b.length none) = some (.vs 1 (strs b) none) := by
 have hr : (⟨l ++ [some (rowO b)],l.length⟩ : Heap).row l.length 0 = some (0,9,1,true,strs b) := by
  unfold Heap.row Heap.get rowO;simp
 show freezeV _ (999999 + 1) _ = _
 unfold freezeV
 simp only [hr]
 rw [if_neg (Nat.lt_irrefl _),if_pos ⟨by rw [strs_len];omega,by omega⟩,if_pos trivial,List.drop_zero,Nat.mul_one,List.take_of_length_le (by rw [strs_len];exact Nat.le_refl _),← strs_len b,chunk1]
theorem one_hunk {h : Hnk} {ys : List AV} (hys : All2 HunkA [h] ys) : ∃ p,ys = [.agg [.v (.int .i64 h.1),.v (.int .i64 h.2.1),p]] ∧ SlOf 1 (strs h.2.2) p := by
 obtain ⟨h1,h2⟩ := hys
 match ys,h1 with
 | [y],_ =>
  obtain ⟨p,rfl,hp⟩ := h2 0 h y rfl rfl
  exact ⟨p,rfl,hp⟩
end Go.Ev
namespace Go.Ev
open Go.Proofs
attribute [local irreducible] Wp WpS
end Go.Ev
namespace Go.Ev
open Go.Proofs
attribute [local irreducible] Wp WpS
def cpyV (a : List ByteArray) : AV := if a = [] then .vs 1 [] (some 0) else .vs 1 (strs a) none
theorem cpyV_of (a : List ByteArray) : SlOf 1 (strs a) (cpyV a) := by
 unfold cpyV
 split
 ·rename_i h;rw [h];exact Or.inr ⟨_,rfl⟩
 ·exact Or.inr ⟨_,rfl⟩
theorem cpyF (a : List ByteArray) (ha : a.length ≤ 100000) (x : AV) (hx : SlOf 1 (strs a) x) (l : List (Option AObj)) (K : PostO) (hK : AtO K (cpyV a) ⟨l,0⟩) : bindO (appG 9 1 16 ⟨l,l.length⟩ l.length (.vs 1 [] (some 0)) (cellsFrom ⟨l,l.length⟩ 1 x)) fun v => AtO (frzO ⟨l,0⟩ K) v.1 v.2 := by
 by_cases h0 : a = []
 ·have hx3 : ∀ H,cellsFrom H 1 x = some (0,[]) := by
   intro H
   subst h0
   rcases hx with ⟨rfl, -⟩ | ⟨cap,rfl⟩ <;> rfl
  unfold cpyV at hK
  rw [if_pos h0] at hK
  rw [hx3]
  exact hK
 ·obtain ⟨cap,rfl⟩ : ∃ cap,x = .vs 1 (strs a) cap := by
   rcases hx with ⟨-,h⟩ | h
   ·exact absurd (by cases a with | nil => rfl | cons z l => exact nomatch h) h0
   ·exact h
  have hl0 : 0 < a.length := List.length_pos_iff.2 h0
  have hf : fitsA 16 a.length = true := by unfold fitsA;exact decide_eq_true (by omega)
  unfold cpyV at hK
  rw [if_neg h0] at hK
  have hc : cellsFrom ⟨l,l.length⟩ 1 (.vs 1 (strs a) cap) = some (a.length,strs a) := by
   show (if 1 = 1 then some ((strs a).length,(strs a).flatMap AV.cells) else none) = _
   rw [if_pos rfl,strs_len,strs_cells]
  rw [hc]
  have ha : appG 9 1 16 ⟨l,l.length⟩ l.length (.vs 1 [] (some 0)) (some (a.length,strs a)) = some (.sl l.length 0 0 a.length none,⟨l ++ [some (rowO a)],l.length⟩) := by
   unfold appG
   simp only [strs_flat]
   have hp : (⟨l,l.length⟩ : Heap).put l.length (rowO a) = ⟨l ++ [some (rowO a)],l.length⟩ := by
    unfold Heap.put
    congr 1
    clear hK hc
    induction l with
    | nil => rfl
    | cons o r ih => show o :: setOrPush _ r.length r = _;rw [ih];rfl
   rw [← hp]
   exact appE1 _ _ a hl0 hf
  rw [ha]
  show bindO (freezeV ⟨l ++ [some (rowO a)],l.length⟩ 1000000 (.sl l.length 0 0 a.length none)) fun v => AtO K v ⟨l,0⟩
  rw [frzAt l a hl0]
  exact hK
theorem slice22B {xs : List AV} {x : AV} (h : SlOf 1 xs x) (i j : Nat) (hij : i ≤ j) (hj : j ≤ xs.length) : ∃ y,(∀ H,sliceA Tryz.prog H 22 x (some (.v (.int .i64 (i : Nat)))) (some (.v (.int .i64 (j : Nat)))) none = some y) ∧ SlOf 1 ((xs.take j).drop i) y := by
 rcases h with ⟨rfl,rfl⟩ | ⟨cap,rfl⟩
 ·obtain rfl : j = 0 := by simpa using hj
  obtain rfl : i = 0 := by omega
  refine ⟨.v (.slice none 0 0),fun H => ?_,Or.inl ⟨rfl,rfl⟩⟩
  unfold sliceA
  simp only [und_22,und22s]
  rfl
 ·have b1 : boundA (some (.v (.int .i64 (i : Nat)))) 0 j = some i := by
   unfold boundA
   simp only [Int.toNat_natCast]
   rw [if_pos (by omega)]
  have b2 : boundA (some (.v (.int .i64 (j : Nat)))) xs.length xs.length = some j := by
   unfold boundA
   simp only [Int.toNat_natCast]
   rw [if_pos (by omega)]
  have b3 : boundA none xs.length xs.length = some xs.length := rfl
  refine ⟨.vs 1 ((xs.take j).drop i) (capOf none xs.length i cap),fun H => ?_,Or.inr ⟨_,rfl⟩⟩
  unfold sliceA
  simp only [und_22,und22s,b1,b2,b3]
  rfl
theorem chL_parts (a : List ByteArray) (f d : Nat) (P : List ByteArray) (h : f + d ≤ a.length) : a = a.take f ++ ((a.drop f).take d ++ a.drop (f + d)) ∧ chL a (f,d,P) = a.take f ++ (P ++ a.drop (f + d)) := by
 refine ⟨?_,rfl⟩
 rw [drop_add',List.take_append_drop,List.take_append_drop]
theorem least_of {a b : List ByteArray} {f d : Nat} {P : List ByteArray} (h : f + d ≤ a.length) (hb : chL a (f,d,P) = b) : (hunkL a b).2.1 + (hunkL a b).2.2.length ≤ d + P.length := by
 obtain ⟨h1,h2⟩ := chL_parts a f d P h
 have h3 := hunk_least (a.take f) ((a.drop f).take d) P (a.drop (f + d))
 rw [← h1,← h2,hb] at h3
 have h4 : ((a.drop f).take d).length = d := by rw [List.length_take,List.length_drop];omega
 rw [h4] at h3
 exact h3
theorem ans6 (a : List ByteArray) (ha : FitsR a) (x : AV) (hx : SlOf 1 (strs a) x) (b : List ByteArray) (hb : FitsR b) (y : AV) (hy : SlOf 1 (strs b) y) (m : Nat) (hm : m < 256) (n : Nat) (hn : n < 256) : Ans (Cx eA) 6 [x,y,.v (.int .u8 m),.v (.int .u8 n)] (.v (.bool true)) := by
 have he := quietA
 have c12a := fun me d H => call12 he a ha x hx me d H
 have c12b := fun me d H => call12 he b hb y hy me d H
 unfold Ans
 rw [fn_step (fn_6 eA) (show Tryz.f6.body = some _ from rfl)]
 cases hra : rowsB a with
 | false =>
  rw [hra] at c12a
  simp -implicitDefEqProofs only [Tryz.f6,go_sem,↓reduceIte,Int.reduceEq,Int.reduceLT,Int.reduceLE,List.reduceReplicate,intA,setT_nil,setT_cons,call11,c12a,hx.cells,hx.flat,hx.bound,hy.cells,hy.flat,hy.bound,Bool.not_false,Bool.not_true,↓boolP_bool,↓iteB_true,↓iteB_false]
 | true =>
 rw [hra] at c12a
 cases hrb : rowsB b with
 | false =>
  rw [hrb] at c12b
  simp -implicitDefEqProofs only [Tryz.f6,go_sem,↓reduceIte,Int.reduceEq,Int.reduceLT,Int.reduceLE,List.reduceReplicate,intA,setT_nil,setT_cons,call11,c12a,c12b,hx.cells,hx.flat,hx.bound,hy.cells,hy.flat,hy.bound,Bool.not_false,Bool.not_true,↓boolP_bool,↓iteB_true,↓iteB_false]
 | true =>
 rw [hrb] at c12b
 have la := rowsB_len hra
 have lb := rowsB_len hrb
 have hx2 := cpyV_of a
 obtain ⟨u,y',ys',hu,hy',hys',h16⟩ := ans16 he a [] (okS_nil hra) (by decide) (cpyV a) (.v (.slice none 0 0)) [] hx2 (Or.inl ⟨rfl,rfl⟩) ⟨rfl,fun _ _ _ h => nomatch h⟩ b hrb y hy
 obtain ⟨p,rfl,hp⟩ := one_hunk (h := hunkL a b) hys'
 have c16 := fun me d H => h16.call (me := me) (d := d) (ext_16 he) (pure_16 _ _ _) (by rw [boundL_cons,boundL_cons,boundL_nil,bound2 hx2 (show SlOf 3 [] (.v (.slice none 0 0)) from Or.inl ⟨rfl,rfl⟩),hy.bound];rfl) H
 have hly : slLen y' = some (.v (.int .i64 1)) := hy'.len
 have hix : ∀ kk,slIdx 3 y' (.v (.int kk 0)) = some (.ro (.agg [.v (.int .i64 (hunkL a b).1),.v (.int .i64 (hunkL a b).2.1),p]) 0) := fun kk => hy'.idx (j := 0) rfl kk
 have hok := hunkL_ok a b lb
 obtain ⟨l1,hl1,h17⟩ := ans17 he a (hunkL a b) (by omega) (by have := hok.2;omega) hok.1 x _ hx ⟨p,rfl,hp⟩
 rw [chL_hunk] at hl1
 have hbp : bound (.agg [.v (.int .i64 (hunkL a b).1),.v (.int .i64 (hunkL a b).2.1),p]) = 0 := by rw [bound_agg,boundL_cons,boundL_cons,boundL_cons,boundL_nil,hp.bound];rfl
 have c17 := fun me d H => h17.call (me := me) (d := d) (ext_17 he) (pure_17 _ _ _) (by rw [boundL_cons,boundL_cons,boundL_nil,hx.bound,hbp];rfl) H
 have c15 := fun me d H => call15 he b b hb.1 l1 y hl1 hy me d H
 rw [decide_eq_true (rfl : b = b)] at c15
 have hlx := hx.len
 have hlb := hy.len
 rw [strs_len] at hlx hlb
 have hcm := conv_u8m m hm
 have hcn := conv_u8m n hn
 have w0 : IntKind.i64.wrap ((a.length : Int) + 1) = ((a.length + 1 : Nat) : Int) := by rw [wrap_in _ (by omega) (by omega)];omega
 have r0 := fun t a' b' => bin_rem (m : Int) ((a.length + 1 : Nat) : Int) (by omega) t a' b'
 rw [tmodN'] at r0
 obtain ⟨f,hf⟩ : ∃ f,m % (a.length + 1) = f := ⟨_,rfl⟩
 have hfl : f ≤ a.length := by have := Nat.mod_lt m (show 0 < a.length + 1 by omega);omega
 rw [hf] at r0
 have w1 : IntKind.i64.wrap ((a.length : Int) - (f : Int)) = ((a.length - f : Nat) : Int) := by rw [wrap_in _ (by omega) (by omega)];omega
 have w2 : IntKind.i64.wrap (((a.length - f : Nat) : Int) + 1) = ((a.length - f + 1 : Nat) : Int) := by rw [wrap_in _ (by omega) (by omega)];omega
 have r1 := fun t a' b' => bin_rem (n : Int) ((a.length - f + 1 : Nat) : Int) (by omega) t a' b'
 rw [tmodN'] at r1
 obtain ⟨g,hg⟩ : ∃ g,n % (a.length - f + 1) = g := ⟨_,rfl⟩
 have hgl : f + g ≤ a.length := by have := Nat.mod_lt n (show 0 < a.length - f + 1 by omega);omega
 rw [hg] at r1
 have w3 : IntKind.i64.wrap ((a.length : Int) - (g : Int)) = ((a.length - g : Nat) : Int) := by rw [wrap_in _ (by omega) (by omega)];omega
 obtain ⟨P,hP⟩ : ∃ P : Int,P = (b.length : Int) - ((a.length - g : Nat) : Int) := ⟨_,rfl⟩
 have w4 : IntKind.i64.wrap ((b.length : Int) - ((a.length - g : Nat) : Int)) = P := by rw [wrap_in _ (by omega) (by omega)];omega
 have w5 : ∀ pn : Nat,P = (pn : Int) → pn ≤ 1000 → IntKind.i64.wrap ((f : Int) + (pn : Int)) = ((f + pn : Nat) : Int) := fun pn _ _ => by rw [wrap_in _ (by omega) (by omega)];omega
 simp -implicitDefEqProofs only [Tryz.f6,go_sem,↓reduceIte,Int.reduceEq,Int.reduceLT,Int.reduceLE,List.reduceReplicate,intA,setT_nil,setT_cons,call11,c12a,c12b,hx.cells,hx.flat,hx.bound,hy.cells,hy.flat,hy.bound,Bool.not_false,Bool.not_true,↓boolP_bool,↓iteB_true,↓iteB_false]
 refine cpyF a (by omega) x hx [] _ ?_
 by_cases hn0 : P < 0
 ·simp -implicitDefEqProofs only [go_sem,↓reduceIte,Int.reduceEq,Int.reduceLT,Int.reduceLE,List.reduceReplicate,intA,setT_nil,setT_cons,hn0,c16,hly,hix,c17,c15,hlx,hlb,hcm,hcn,w0,r0,w1,w2,r1,w3,w4,hx2.cells,hx2.flat,hx2.bound,hp.cells,hp.flat,hp.bound,hl1.cells,hl1.flat,hl1.bound,hu.cells,hu.flat,hu.bound,hy'.cells,hy'.flat,hy'.bound,hx.cells,hx.flat,hx.bound,hy.cells,hy.flat,hy.bound,Bool.not_false,Bool.not_true,decide_true,decide_false,↓boolP_bool,↓iteB_true,↓iteB_false]
 obtain ⟨pn,hpn⟩ := Int.eq_ofNat_of_zero_le (show 0 ≤ P by omega)
 have w5 := w5 pn hpn (by omega)
 rw [hpn] at w4 hn0
 by_cases hn1 : ((f + pn : Nat) : Int) > (b.length : Int)
 ·simp -implicitDefEqProofs only [go_sem,↓reduceIte,Int.reduceEq,Int.reduceLT,Int.reduceLE,List.reduceReplicate,intA,setT_nil,setT_cons,w5,hn0,hn1,c16,hly,hix,c17,c15,hlx,hlb,hcm,hcn,w0,r0,w1,w2,r1,w3,w4,hx2.cells,hx2.flat,hx2.bound,hp.cells,hp.flat,hp.bound,hl1.cells,hl1.flat,hl1.bound,hu.cells,hu.flat,hu.bound,hy'.cells,hy'.flat,hy'.bound,hx.cells,hx.flat,hx.bound,hy.cells,hy.flat,hy.bound,Bool.not_false,Bool.not_true,decide_true,decide_false,↓boolP_bool,↓iteB_true,↓iteB_false]
 obtain ⟨z,hz1,hz2⟩ := slice22B hy f (f + pn) (by omega) (by rw [strs_len];omega)
 rw [strs_take,strs_drop] at hz2
 obtain ⟨Q,hQ⟩ : ∃ Q,(b.take (f + pn)).drop f = Q := ⟨_,rfl⟩
 have hQl : Q.length = pn := by rw [← hQ,List.length_drop,List.length_take];omega
 rw [hQ] at hz2
 simp -implicitDefEqProofs only [go_sem,↓reduceIte,Int.reduceEq,Int.reduceLT,Int.reduceLE,List.reduceReplicate,intA,setT_nil,setT_cons,w5,hn0,hn1,hz1,hz2.cells,hz2.flat,hz2.bound,c16,hly,hix,c17,c15,hlx,hlb,hcm,hcn,w0,r0,w1,w2,r1,w3,w4,hx2.cells,hx2.flat,hx2.bound,hp.cells,hp.flat,hp.bound,hl1.cells,hl1.flat,hl1.bound,hu.cells,hu.flat,hu.bound,hy'.cells,hy'.flat,hy'.bound,hx.cells,hx.flat,hx.bound,hy.cells,hy.flat,hy.bound,Bool.not_false,Bool.not_true,decide_true,decide_false,↓boolP_bool,↓iteB_true,↓iteB_false]
 refine cpyF Q (by omega) z hz2 [_,_] _ ?_
 have hq2 := cpyV_of Q
 obtain ⟨l2,hl2,h17b⟩ := ans17 he a (f,g,Q) (by omega) (by show Q.length < _;omega) hgl x _ hx ⟨cpyV Q,rfl,hq2⟩
 have hbq : bound (.agg [.v (.int .i64 (f : Nat)),.v (.int .i64 (g : Nat)),cpyV Q]) = 0 := by rw [bound_agg,boundL_cons,boundL_cons,boundL_cons,boundL_nil,hq2.bound];rfl
 have c17b := fun me d H => h17b.call (me := me) (d := d) (ext_17 he) (pure_17 _ _ _) (by rw [boundL_cons,boundL_cons,boundL_nil,hx.bound,hbq];rfl) H
 simp only at c17b
 have hcl := chL_len a (f,g,Q) hgl
 simp only at hcl
 have c15b := fun me d H => call15 he (chL a (f,g,Q)) b (by omega) l2 y hl2 hy me d H
 by_cases hq : chL a (f,g,Q) = b
 ·rw [decide_eq_true hq] at c15b
  have hle := least_of hgl hq
  have hl3 := hp.len
  have hl4 := hq2.len
  rw [strs_len] at hl3 hl4
  have hk1 := hok.1
  have hk2 := hok.2
  have w6 : IntKind.i64.wrap (((hunkL a b).2.1 : Int) + ((hunkL a b).2.2.length : Int)) = (((hunkL a b).2.1 + (hunkL a b).2.2.length : Nat) : Int) := by rw [wrap_in _ (by omega) (by omega)];omega
  have w7 : IntKind.i64.wrap ((g : Int) + (Q.length : Int)) = ((g + Q.length : Nat) : Int) := by rw [wrap_in _ (by omega) (by omega)];omega
  have hle2 : (((hunkL a b).2.1 + (hunkL a b).2.2.length : Nat) : Int) ≤ ((g + Q.length : Nat) : Int) := by omega
  simp -implicitDefEqProofs only [go_sem,↓reduceIte,Int.reduceEq,Int.reduceLT,Int.reduceLE,List.reduceReplicate,intA,setT_nil,setT_cons,w5,hn0,hn1,hz1,hz2.cells,hz2.flat,hz2.bound,hq2.cells,hq2.flat,hq2.bound,hl2.cells,hl2.flat,hl2.bound,c17b,c15b,hl3,hl4,w6,w7,hle2,c16,hly,hix,c17,c15,hlx,hlb,hcm,hcn,w0,r0,w1,w2,r1,w3,w4,hx2.cells,hx2.flat,hx2.bound,hp.cells,hp.flat,hp.bound,hl1.cells,hl1.flat,hl1.bound,hu.cells,hu.flat,hu.bound,hy'.cells,hy'.flat,hy'.bound,hx.cells,hx.flat,hx.bound,hy.cells,hy.flat,hy.bound,Bool.not_false,Bool.not_true,decide_true,decide_false,↓boolP_bool,↓iteB_true,↓iteB_false]
 ·rw [decide_eq_false hq] at c15b
  simp -implicitDefEqProofs only [go_sem,↓reduceIte,Int.reduceEq,Int.reduceLT,Int.reduceLE,List.reduceReplicate,intA,setT_nil,setT_cons,w5,hn0,hn1,hz1,hz2.cells,hz2.flat,hz2.bound,hq2.cells,hq2.flat,hq2.bound,hl2.cells,hl2.flat,hl2.bound,c17b,c15b,c16,hly,hix,c17,c15,hlx,hlb,hcm,hcn,w0,r0,w1,w2,r1,w3,w4,hx2.cells,hx2.flat,hx2.bound,hp.cells,hp.flat,hp.bound,hl1.cells,hl1.flat,hl1.bound,hu.cells,hu.flat,hu.bound,hy'.cells,hy'.flat,hy'.bound,hx.cells,hx.flat,hx.bound,hy.cells,hy.flat,hy.bound,Bool.not_false,Bool.not_true,decide_true,decide_false,↓boolP_bool,↓iteB_true,↓iteB_false]
end Go.Ev
