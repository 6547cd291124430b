/- What the proof of this claim stands on, part 3: an evaluator of the model, proved right, and what it answers for functions of the program. -/
import Derived.Test.YtphfgbmonepliaaPk01
import Derived.Laws.StructEq
import Derived.Test.YtphfgbmonepliaaProg
import Derived.KernelRfl
import Derived.Lib.Bytealg
import Derived.ChangeReads
import Derived.ChangeOld
import Derived.ChangeArms
import Derived.RowKit3
set_option linter.unusedSimpArgs false
/- Regions in any order that turn memory. -/
namespace Go.Ev
section
variable {C : Cfg} {me : FuncId} {rd : Option Nat}
def putO (G : Heap) : Option (Nat × AObj) → Heap
  | none => G
  | some (b, o) => G.put b o
theorem merge_putO {G : Heap} {vis : Nat → Bool} {eff : Option (Nat × AObj)} (h : ∀ b o, eff = some (b, o) → b < G.size ∧ vis b = true) : G.merge vis (putO (G.hide vis) eff) = putO G eff ∧ (putO (G.hide vis) eff).size = G.size ∧ (putO G eff).size = G.size := by
  have hsz : (putO (G.hide vis) eff).size = G.size := by
    cases eff with
    | none => exact hide_size G vis
    | some p => obtain ⟨b, o⟩ := p; exact (put_sizeI o (by rw [hide_size]; exact (h b o rfl).1)).trans (hide_size G vis)
  have hsz2 : (putO G eff).size = G.size := by
    cases eff with
    | none => rfl
    | some p => obtain ⟨b, o⟩ := p; exact put_sizeI o (h b o rfl).1
  refine ⟨?_, hsz, hsz2⟩
  refine heap_ext ?_ ?_ ?_
  · cases eff with
    | none => rfl
    | some p => rfl
  · rw [merge_size _ (by omega), hsz, hsz2]
  · intro b
    rw [merge_get _ (by omega)]
    rcases Nat.lt_or_ge b G.size with hb | hb
    · rw [if_pos hb]
      cases eff with
      | none =>
        simp only [putO, hide_get, if_pos hb]
        split <;> rfl
      | some p =>
        obtain ⟨c, o⟩ := p
        obtain ⟨h1, h2⟩ := h c o rfl
        simp only [putO]
        by_cases hbc : b = c
        · subst hbc
          rw [if_pos h2, put_get_eq _ (by rw [hide_size]; omega), put_get_eq _ (by omega)]
        · rw [put_get_ne _ (by rw [hide_size]; omega) hbc, put_get_ne _ (by omega) hbc, hide_get, if_pos hb]
          split <;> rfl
    · rw [if_neg (by omega), get_none (by omega), get_none (by omega)]
/-- what it does comes of the objects that it reads, and is one object that is laid -/
def Loc {α : Type} (reads : List Nat) (slot : Nat) (f : Heap → Option (α × Heap)) (G : Heap) (r : α) (G' : Heap) : Prop :=
  ∃ eff, (∀ b o, eff = some (b, o) → (b ∈ reads ∧ (G.get b).isSome = true) ∨ b = slot) ∧ G' = putO G eff ∧ ∀ Gx : Heap, Gx.lock = G.lock → (∀ b ∈ reads, Gx.get b = G.get b) → f Gx = some (r, putO Gx eff)
theorem row_eqI {G Gx : Heap} {b v : Nat} (h : Gx.get b = G.get b) : Gx.row b v = G.row b v := by unfold Heap.row; rw [h]
theorem Loc.pure {α : Type} {reads : List Nat} {slot : Nat} {f : Heap → Option α} {G : Heap} {r : α} (h : ∀ Gx : Heap, Gx.lock = G.lock → (∀ b ∈ reads, Gx.get b = G.get b) → f Gx = some r) : Loc reads slot (fun G => (f G).map fun r => (r, G)) G r G :=
  ⟨none, (fun _ _ h => nomatch h), rfl, fun Gx h1 h2 => by simp only; rw [h Gx h1 h2]; rfl⟩
theorem load_loc {G : Heap} {t : TypeId} {p v : AV} (h : loadA C.P G t p = some v) {Gx : Heap} (h2 : ∀ b ∈ objsOf p, Gx.get b = G.get b) : loadA C.P Gx t p = some v := by
  cases p
  case ptr b v k =>
    unfold loadA at h ⊢
    simp only at h ⊢
    rw [row_eqI (h2 _ (by simp [objsOf]))]; exact h
  all_goals exact h
theorem cells_loc {G : Heap} {s : Nat} {x : AV} {r : Nat × List AV} (h : cellsFrom G s x = some r) {Gx : Heap} (h2 : ∀ b ∈ objsOf x, Gx.get b = G.get b) : cellsFrom Gx s x = some r := by
  cases x
  case sl b v off len cap =>
    unfold cellsFrom at h ⊢
    simp only at h ⊢
    rw [row_eqI (h2 _ (by simp [objsOf]))]; exact h
  case v x =>
    have key : cellsFrom Gx s (.v x) = cellsFrom G s (.v x) := by
      unfold cellsFrom
      cases x <;> try rfl
      rename_i p n c
      cases p <;> try rfl
      cases n <;> try rfl
      cases c <;> rfl
    rw [key]; exact h
  all_goals exact h
theorem store_loc {G G' : Heap} {b v k : Nat} {xs : List AV} (h : storeCells G b v k xs = some G') : ∃ o, G' = G.put b o ∧ (G.get b).isSome = true ∧ ∀ Gx : Heap, Gx.lock = G.lock → Gx.get b = G.get b → storeCells Gx b v k xs = some (Gx.put b o) := by
  unfold storeCells at h
  split at h
  · rename_i m e sz g cs hr
    split at h
    · rename_i hc
      cases h
      refine ⟨_, rfl, by rw [Heap.row_get hr]; rfl, fun Gx h1 h2 => ?_⟩
      unfold storeCells
      rw [row_eqI h2, hr]
      simp only
      rw [h1, if_pos hc]
    · cases h
  · cases h
theorem storeA_loc {G G' : Heap} {t : TypeId} {p v : AV} (h : storeA C.P G t p v = some G') : ∃ b o, (b ∈ objsOf p ∧ (G.get b).isSome = true) ∧ G' = G.put b o ∧ ∀ Gx : Heap, Gx.lock = G.lock → Gx.get b = G.get b → storeA C.P Gx t p v = some (Gx.put b o) := by
  unfold storeA at h
  split at h
  · rename_i b w k n hn
    split at h
    · rename_i hc
      obtain ⟨o, h1, hg, h2⟩ := store_loc h
      refine ⟨b, o, ⟨by simp [objsOf], hg⟩, h1, fun Gx h3 h4 => ?_⟩
      unfold storeA
      rw [hn]; simp only
      rw [if_pos hc]; exact h2 Gx h3 h4
    · cases h
  · cases h
theorem made_loc {G G' : Heap} {slot : Nat} {e : TypeId} {i : TypeInfo} {need : Nat} {old new : List AV} {v : AV} (h : madeA G slot e i need old new = some (v, G')) : ∃ o, G' = G.put slot o ∧ ∀ Gx : Heap, madeA Gx slot e i need old new = some (v, Gx.put slot o) := by
  unfold madeA at h
  split at h
  · rename_i hc
    cases h
    refine ⟨_, rfl, fun Gx => ?_⟩
    unfold madeA; rw [if_pos hc]
  · cases h
theorem appendTo_loc {G G' : Heap} {slot : Nat} {e : TypeId} {i : TypeInfo} {n : Nat} {new : List AV} {s v : AV} (h : appendTo G slot e i n new s = some (v, G')) : Loc (objsOf s) slot (fun G => appendTo G slot e i n new s) G v G' := by
  have made : ∀ {need old}, madeA G slot e i need old new = some (v, G') → ∀ f : Heap → Option (AV × Heap), (∀ Gx : Heap, Gx.lock = G.lock → (∀ b ∈ objsOf s, Gx.get b = G.get b) → f Gx = madeA Gx slot e i need old new) → Loc (objsOf s) slot f G v G' := by
    intro need old hm f hf
    obtain ⟨o, h1, h2⟩ := made_loc hm
    exact ⟨some (slot, o), fun b o' he => by cases he; exact Or.inr rfl, h1, fun Gx a b => by rw [hf Gx a b]; exact h2 Gx⟩
  have same : (v, G') = (s, G) → ∀ f : Heap → Option (AV × Heap), (∀ Gx : Heap, Gx.lock = G.lock → (∀ b ∈ objsOf s, Gx.get b = G.get b) → f Gx = some (s, Gx)) → Loc (objsOf s) slot f G v G' := by
    intro he f hf
    cases he
    exact ⟨none, (fun _ _ h => nomatch h), rfl, hf⟩
  unfold appendTo at h
  split at h
  · split at h
    · rename_i hn
      exact same (by cases h; rfl) _ fun Gx _ _ => by simp only [appendTo]; rw [if_pos hn]
    · rename_i hn
      exact made h _ fun Gx _ _ => by simp only [appendTo]; rw [if_neg hn]
  · rename_i sz xs cap
    split at h
    · cases h
    · rename_i hsz
      split at h
      · rename_i hn
        exact same (by cases h; rfl) _ fun Gx _ _ => by simp only [appendTo]; rw [if_neg hsz, if_pos hn]
      · rename_i hn
        split at h
        · split at h
          · rename_i hc
            exact made h _ fun Gx _ _ => by simp only [appendTo]; rw [if_neg hsz, if_neg hn, if_pos hc]
          · cases h
        · cases h
  · rename_i b w off len cap
    split at h
    · rename_i hn
      exact same (by cases h; rfl) _ fun Gx _ _ => by simp only [appendTo]; rw [if_pos hn]
    · rename_i hn
      have hrw : ∀ Gx : Heap, (∀ b' ∈ objsOf (AV.sl b w off len cap), Gx.get b' = G.get b') → Gx.row b w = G.row b w ∧ Gx.get b = G.get b := fun Gx h => ⟨row_eqI (h b (by simp [objsOf])), h b (by simp [objsOf])⟩
      split at h
      · rename_i m e' sz g cs hr
        split at h
        · rename_i c
          split at h
          · rename_i hc
            split at h
            · rename_i H' hst
              cases h
              obtain ⟨o, h1, hg, h2⟩ := store_loc hst
              refine ⟨some (b, o), fun b' o' he => by cases he; exact Or.inl ⟨by simp [objsOf], hg⟩, h1, fun Gx a b' => ?_⟩
              obtain ⟨r1, r2⟩ := hrw Gx b'
              simp only [appendTo, r1, hr]
              rw [if_neg hn, if_pos hc, h2 Gx a r2]; rfl
            · cases h
          · rename_i hc
            split at h
            · rename_i hc2
              refine made h _ fun Gx a b' => ?_
              obtain ⟨r1, r2⟩ := hrw Gx b'
              simp only [appendTo, r1, hr]
              rw [if_neg hn, if_neg hc, if_pos hc2]
            · cases h
        · split at h
          · cases h
          · rename_i hsz
            split at h
            · rename_i hc
              split at h
              · rename_i H' hst
                cases h
                obtain ⟨o, h1, hg, h2⟩ := store_loc hst
                refine ⟨some (b, o), fun b' o' he => by cases he; exact Or.inl ⟨by simp [objsOf], hg⟩, h1, fun Gx a b' => ?_⟩
                obtain ⟨r1, r2⟩ := hrw Gx b'
                simp only [appendTo, r1, hr]
                rw [if_neg hn, if_neg hsz, if_pos hc, h2 Gx a r2]; rfl
              · cases h
            · rename_i hc
              split at h
              · rename_i hc2
                cases h
                refine ⟨some (b, _), fun b' o' he => by cases he; exact Or.inl ⟨by simp [objsOf], by rw [Heap.row_get hr]; rfl⟩, rfl, fun Gx a b' => ?_⟩
                obtain ⟨r1, r2⟩ := hrw Gx b'
                simp only [appendTo, r1, hr]
                rw [if_neg hn, if_neg hsz, if_neg hc, a, if_pos hc2]; rfl
              · cases h
      · cases h
  · cases h
theorem appendA_loc {G G' : Heap} {slot : Nat} {ts : List TypeId} {args : List AV} {v : AV} (h : appendA C.P G slot ts args = some (v, G')) : Loc (args.flatMap objsOf) slot (fun G => appendA C.P G slot ts args) G v G' := by
  unfold appendA at h
  split at h
  · rename_i t u s x
    split at h
    · rename_i hi
      unfold growA at h
      split at h
      · rename_i e k l hu hud
        split at h
        · rename_i i z hinf hz
          split at h
          · rename_i hc
            obtain ⟨o, h1, h2⟩ := made_loc h
            refine ⟨some (slot, o), fun b o' he => by cases he; exact Or.inr rfl, h1, fun Gx a b => ?_⟩
            simp only [appendA, if_pos hi, growA, hu, hud, hinf, hz]
            rw [if_pos hc]; exact h2 Gx
          · cases h
        · cases h
      · cases h
    · rename_i hi
      split at h
      · rename_i e hu
        split at h
        · rename_i i z hinf hz
          split at h
          · cases h
          · rename_i n new hcl
            split at h
            · cases h
            · rename_i hc
              obtain ⟨eff, h1, h2, h3⟩ := appendTo_loc h
              refine ⟨eff, fun b o he => ?_, h2, fun Gx a b => ?_⟩
              · rcases h1 b o he with h4 | h4
                · exact Or.inl ⟨by simp [h4.1], h4.2⟩
                · exact Or.inr h4
              · have hcl' := cells_loc hcl (Gx := Gx) fun b' hb' => b b' (by simp [hb'])
                have h3' := h3 Gx a fun b' hb' => b b' (by simp [hb'])
                simp only [appendA, if_neg hi, hu, hinf, hz, hcl']
                rw [if_neg hc]; exact h3'
        · cases h
      · cases h
  · cases h
/-! ### operations that may stand in such a region -/
def locOp (op : Op) : Bool :=
  match op with
  | .load _ _ | .store _ _ _ | .alloc _ | .box _ _ | .buildSlice _ _ _ | .lookup _ _ _ _ | .mapUpdate _ _ _ _ => true
  | .call c => match c.callee with | .builtin .append => true | _ => false
  | _ => false
theorem build_loc {mt : Bool} {G G' : Heap} {slot t len : Nat} {parts : List (Nat × AV)} {v : AV} (h : buildSliceA C.P mt G slot t len parts = some (v, G')) : Loc [] slot (fun G => buildSliceA C.P mt G slot t len parts) G v G' := by
  unfold buildSliceA at h
  split at h
  · rename_i e hu
    split at h
    · rename_i n z hn hz
      split at h
      · rename_i hc
        split at h
        · rename_i cs hcs
          split at h
          · cases h
          · rename_i hf
            split at h
            · rename_i hm
              cases h
              refine ⟨some (slot, _), fun b o he => by cases he; exact Or.inr rfl, rfl, fun Gx _ _ => ?_⟩
              simp only [buildSliceA, hu, hn, hz, hcs]
              rw [if_pos hc, if_neg hf, if_pos hm]; rfl
            · rename_i hm
              cases h
              refine ⟨none, (fun _ _ h => nomatch h), rfl, fun Gx _ _ => ?_⟩
              simp only [buildSliceA, hu, hn, hz, hcs]
              rw [if_pos hc, if_neg hf, if_neg hm]; rfl
        · cases h
      · cases h
    · cases h
  · cases h
theorem lookup_loc {G : Heap} {t : TypeId} {m k v : AV} {ok : Bool} (h : lookupA C.P G t m k ok = some v) {Gx : Heap} (h2 : ∀ b ∈ objsOf m, Gx.get b = G.get b) : lookupA C.P Gx t m k ok = some v := by
  have e : mapOfA Gx m = mapOfA G m := by
    cases m
    case mp b => unfold mapOfA; simp only; rw [h2 b (by simp [objsOf])]
    case v x =>
      unfold mapOfA
      cases x <;> try rfl
      rename_i o
      cases o <;> rfl
    all_goals rfl
  unfold lookupA at h ⊢
  rw [e]; exact h
theorem update_loc {G G' : Heap} {t : TypeId} {m k v : AV} (h : updateA C.P G t m k v = some G') : ∃ b o, (b ∈ objsOf m ∧ (G.get b).isSome = true) ∧ G' = G.put b o ∧ ∀ Gx : Heap, Gx.lock = G.lock → Gx.get b = G.get b → updateA C.P Gx t m k v = some (Gx.put b o) := by
  unfold updateA at h
  split at h
  · rename_i kt x b hk
    split at h
    · rename_i mx es c hg
      split at h
      · rename_i hl
        split at h
        · rename_i i y hf
          split at h
          · rename_i k' x1 x2 he
            split at h
            · rename_i hs
              cases h
              refine ⟨b, _, ⟨by simp [objsOf], by rw [hg]; rfl⟩, rfl, fun Gx h1 h2 => ?_⟩
              simp only [updateA, hk, h2, hg, h1, hl, if_true, hf, he, hs]
            · cases h
          · cases h
        · rename_i hf
          cases h
          refine ⟨b, _, ⟨by simp [objsOf], by rw [hg]; rfl⟩, rfl, fun Gx h1 h2 => ?_⟩
          simp only [updateA, hk, h2, hg, h1, hl, if_true, hf]
        · cases h
      · cases h
    · cases h
  · cases h
theorem opA_loc {o : Oper} {a : AAct} {G G' : Heap} {slot : Nat} {r : Option AV} (hl : locOp o.op = true) (h : opA C (lim C) me o a G slot = some (r, G')) :
    ∃ reads, (footA C me o a slot).reads = some reads ∧ Loc reads slot (fun G => opA C (lim C) me o a G slot) G r G' := by
  obtain ⟨dst, op, ty, pos, after, guard⟩ := o
  simp only at hl
  cases op <;> simp only [locOp] at hl <;> try (cases hl; done)
  case load t x =>
    simp only [opA] at h
    split at h
    · rename_i p hp
      obtain ⟨v, hv, he⟩ := Option.map_eq_some_iff.1 h
      cases he
      refine ⟨objsOf p, by simp only [footA, objsO, hp], none, (fun _ _ h => nomatch h), rfl, fun Gx _ h2 => ?_⟩
      simp only [opA, hp]
      rw [load_loc hv h2]; rfl
    · cases h
  case store t x y =>
    simp only [opA] at h
    split at h
    · rename_i p v hp hv
      obtain ⟨G1, hs, he⟩ := Option.map_eq_some_iff.1 h
      cases he
      obtain ⟨b, o, h1, h2, h3⟩ := storeA_loc hs
      refine ⟨objsOf p, by simp only [footA, objsO, hp], some (b, o), fun b' o' he => by cases he; exact Or.inl h1, h2, fun Gx a1 a2 => ?_⟩
      simp only [opA, hp, hv]
      rw [h3 Gx a1 (a2 b h1.1)]; rfl
    · cases h
  case lookup t m k ok =>
    simp only [opA] at h
    split at h
    · rename_i p q hp hq
      obtain ⟨v, hv, he⟩ := Option.map_eq_some_iff.1 h
      cases he
      refine ⟨objsOf p, by simp only [footA, objsO, hp], none, (fun _ _ h => nomatch h), rfl, fun Gx _ h2 => ?_⟩
      simp only [opA, hp, hq]
      rw [lookup_loc hv h2]; rfl
    · cases h
  case mapUpdate t m k v =>
    simp only [opA] at h
    split at h
    · rename_i p q u hp hq hu
      obtain ⟨G1, hs, he⟩ := Option.map_eq_some_iff.1 h
      cases he
      obtain ⟨b, o, h1, h2, h3⟩ := update_loc hs
      refine ⟨objsOf p, by simp only [footA, objsO, hp], some (b, o), fun b' o' he => by cases he; exact Or.inl h1, h2, fun Gx a1 a2 => ?_⟩
      simp only [opA, hp, hq, hu]
      rw [h3 Gx a1 (a2 b h1.1)]; rfl
    · cases h
  case alloc e =>
    simp only [opA] at h
    split at h
    · rename_i z hz
      split at h
      · cases h
      · rename_i hf
        cases h
        refine ⟨[], rfl, some (slot, _), fun b' o' he => by cases he; exact Or.inr rfl, rfl, fun Gx _ _ => ?_⟩
        simp only [opA, hz]
        rw [if_neg hf]; rfl
    · cases h
  case box e x =>
    simp only [opA] at h
    split at h
    · rename_i z hz
      split at h
      · cases h
      · rename_i hf
        cases h
        refine ⟨[], rfl, some (slot, _), fun b' o' he => by cases he; exact Or.inr rfl, rfl, fun Gx _ _ => ?_⟩
        simp only [opA, hz]
        rw [if_neg hf]; rfl
    · cases h
  case buildSlice t n ps =>
    simp only [opA] at h
    split at h
    · rename_i l hp
      obtain ⟨⟨v, G1⟩, hs, he⟩ := Option.map_eq_some_iff.1 h
      cases he
      obtain ⟨eff, h1, h2, h3⟩ := build_loc hs
      refine ⟨[], rfl, eff, h1, h2, fun Gx a1 a2 => ?_⟩
      simp only [opA, hp]
      have h3' := h3 Gx a1 a2
      simp only at h3'
      rw [h3']; rfl
    · cases h
  case call c =>
    obtain ⟨cal, args, ts⟩ := c
    have hcal : cal = .builtin .append := by
      cases cal with
      | builtin bi => cases bi <;> first | rfl | (simp at hl; done)
      | _ => simp at hl
    subst hcal
    cases hp : evals a args.toList with
    | none => simp only [opA, hp] at h; cases h
    | some l =>
      simp only [opA, hp] at h
      obtain ⟨⟨v, G1⟩, hs, he⟩ := Option.map_eq_some_iff.1 h
      cases he
      obtain ⟨eff, h1, h2, h3⟩ := appendA_loc hs
      have hob : args.toList.flatMap (objsO a) = l.flatMap objsOf := by
        have : ∀ (ars : List Operand) (l : List AV), evals a ars = some l → ars.flatMap (objsO a) = l.flatMap objsOf := by
          intro ars
          induction ars with
          | nil => intro l h; simp only [evals, Option.some.injEq] at h; subst h; rfl
          | cons x r ih =>
            intro l h
            simp only [evals] at h
            split at h
            · rename_i u us hu hus
              cases h
              simp only [List.flatMap_cons, ih us hus]
              rw [show objsO a x = objsOf u by unfold objsO; rw [hu]]
            · cases h
        exact this _ _ hp
      refine ⟨l.flatMap objsOf, by simp only [footA]; rw [hob], eff, h1, h2, fun Gx a1 a2 => ?_⟩
      simp only [opA, hp]
      have h3' := h3 Gx a1 a2
      simp only at h3'
      rw [h3']; rfl
/-- what it looks at is there for it -/
def okFoot (base top w : Nat) (ft : Foot) : Bool := match ft.reads with | some l => l.all fun b => Nat.blt b base || Nat.ble top b || w.testBit (b - base) | none => false
def callFoot : Foot := ⟨some [], some [], [], false, false⟩
/-- what it looks at, of an operation that leaves memory as it was -/
def idleFoot (C : Cfg) (me : FuncId) (o : Oper) (a : AAct) (slot : Nat) : Foot :=
  match o.op with
  | .call c => match c.callee with | .value _ => callFoot | _ => footA C me o a slot
  | _ => footA C me o a slot
def frOne (o : Option Foot) (f : Foot) : Bool := match o with | some g => !clash g f | none => false
/-- those that are not bound to an order with it may be exchanged with it -/
def freeT (feet : List Foot) (u : List Nat) (ft : Foot) : Bool := u.all fun k => frOne (feet[k]?) ft
def ltB (a b : Nat) : Bool := decide (a < b)
def okFootT (base : Nat) (w : List Nat) (ft : Foot) : Bool := match ft.reads with | some l => l.all fun b => ltB b base || w.any fun k => b == base + k | none => false
abbrev Tab := List (List Nat × List Nat × Bool)
noncomputable def callX (C : Cfg) (me : FuncId) (d : Option Tmp) (v : AV) (l : List AV) (H : Heap) : Option (AV × Heap) :=
  match v with
  | .fn (.func f) x y => callA C (lim C) me f d (x ++ l ++ y) H
  | .yld b => (match lim C (.round b l H) with | some (.ret v H') => some (v, H') | _ => none)
  | _ => none
/-- a call that sees, and may turn, all memory -/
def kind0 (C : Cfg) (me : FuncId) (d : Option Tmp) (v : AV) (l : List AV) : Bool :=
  match v with
  | .fn (.func f) x y => (C.ext f).isNone && Nat.beq (callKind C me f d (x ++ l ++ y)) 0
  | .yld _ => true
  | _ => false
def SameOut (base top : Nat) (G G' : Heap) : Prop := ∀ b, (b < base ∨ top ≤ b) → G'.get b = G.get b
def effV (C : Cfg) (me : FuncId) (base top : Nat) (d : Option Tmp) (v : AV) (l : List AV) (G : Heap) (cont : AV → Heap → Prop) : Prop :=
  kind0 C me d v l = true ∧ ∀ Gh : Heap, Gh.lock = G.lock → Gh.size = G.size → SameOut base top G Gh → ∃ r Y, callX C me d v l Gh = some (r, Y) ∧ G.size ≤ Y.size ∧
    ∀ G' : Heap, G'.lock = G.lock → G'.size = Y.size → SameOut base top Y G' → (∀ b, base ≤ b → b < top → G'.get b = G.get b ∨ G'.get b = Y.get b) → cont r G'
def effO (C : Cfg) (me : FuncId) (base top : Nat) (o : Oper) (a : AAct) (G : Heap) (cont : AV → Heap → Prop) : Prop :=
  match o.op with
  | .call c => (match c.callee with | .value g => bindO (evals a c.args.toList) fun l => bindO (a.eval g) fun v => effV C me base top o.dst v l G cont | _ => False)
  | _ => False
/-- a call that looks at memory, and leaves it as it was -/
def kind2 (C : Cfg) (me : FuncId) (d : Option Tmp) (v : AV) (l : List AV) : Bool :=
  match v with
  | .fn (.func f) x y => (C.ext f).isNone && Nat.beq (callKind C me f d (x ++ l ++ y)) 2
  | _ => false
/-- the same but for slots of a region: those that are named are the same, too -/
def SameVis (base top : Nat) (vl : List Nat) (G G' : Heap) : Prop := ∀ b, (b < base ∨ top ≤ b ∨ (base ≤ b ∧ vl.contains (b - base) = true)) → G'.get b = G.get b
def stillV (C : Cfg) (me : FuncId) (base top : Nat) (vl : List Nat) (d : Option Tmp) (v : AV) (l : List AV) (G : Heap) (cont : AV → Heap → Prop) : Prop :=
  kind2 C me d v l = true ∧ ∃ r, (∀ Gh : Heap, Gh.lock = G.lock → Gh.size = G.size → SameVis base top vl G Gh → ∃ Y, callX C me d v l Gh = some (r, Y)) ∧ cont r G
def stillO (C : Cfg) (me : FuncId) (base top : Nat) (vl : List Nat) (o : Oper) (a : AAct) (G : Heap) (cont : AV → Heap → Prop) : Prop :=
  match o.op with
  | .call c => (match c.callee with | .value g => bindO (evals a c.args.toList) fun l => bindO (a.eval g) fun v => stillV C me base top vl o.dst v l G cont | _ => False)
  | _ => False
def stillFoot : Foot := ⟨none, some [], [], false, false⟩
def effFoot : Foot := ⟨none, none, [], false, true⟩
/-- a region in any order, operation by operation -/
def drawP (C : Cfg) (me : FuncId) (arr : Array Oper) (base : Nat) : Tab → List Oper → Nat → List Foot → AAct → Heap → PostS → Prop
  | _, [], _, _, a, G, K => AtS K a G
  | tb, o :: r, i, feet, a, G, K => bindO (wantedA arr a o) fun w => iteB w
      (iteB (plainO o) (WpO C me o.dst o.op a G (base + i) fun v _ => drawP C me arr base tb.tail r (i + 1) (feet ++ [noFoot]) (a.put o.dst v) G K)
        (iteB (locOp o.op) (iteB (okFootT base (tb.headD ([], [], false)).2.1 (footA C me o a (base + i)) && freeT feet (tb.headD ([], [], false)).1 (footA C me o a (base + i)))
            (WpO C me o.dst o.op a G (base + i) fun v G' => drawP C me arr base tb.tail r (i + 1) (feet ++ [footA C me o a (base + i)]) (a.put o.dst v) G' K) False)
          (iteB (tb.headD ([], [], false)).2.2
            (iteB (tb.headD ([], [], false)).1.isEmpty (effO C me base (base + arr.toList.length) o a G fun v G' => drawP C me arr base tb.tail r (i + 1) (feet ++ [effFoot]) (a.put o.dst v) G' K)
              (iteB (freeT feet (tb.headD ([], [], false)).1 stillFoot) (stillO C me base (base + arr.toList.length) (tb.headD ([], [], false)).2.1 o a G fun v G' => drawP C me arr base tb.tail r (i + 1) (feet ++ [stillFoot]) (a.put o.dst v) G' K) False))
            (iteB (freeT feet (tb.headD ([], [], false)).1 (idleFoot C me o a (base + i)))
              (bindO (opI C me { objs := [], lock := 0 } o.dst o.op a) fun v => drawP C me arr base tb.tail r (i + 1) (feet ++ [idleFoot C me o a (base + i)]) (a.put o.dst v) G K) False))))
      (drawP C me arr base tb.tail r (i + 1) (feet ++ [noFoot]) (a.put o.dst undefA) G K)
def plainAt (l : List Oper) (i : Nat) : Bool := match l[i]? with | some o => plainO o | none => false
def rowOk (l : List Oper) (wi : Nat) (i : Nat) (u w : List Nat) : Bool := plainAt l i || ((List.range i).all fun k => wi.testBit k || plainAt l k || u.contains k) && w.all fun k => wi.testBit k
def tabOk (l : List Oper) (ws : List Nat) (tb : Tab) : Bool := (List.range l.length).all fun i => rowOk l (ws.getD i 0) i (tb.getD i ([], [], false)).1 (tb.getD i ([], [], false)).2.1
theorem clash_no (ft : Foot) : clash noFoot ft = false := by
  obtain ⟨rx, wx, fx, px, gx⟩ := ft
  have e1 : ∀ z, meet (some []) z = false := fun _ => rfl
  simp [clash, noFoot, e1]
theorem free_of {l : List Oper} {wi i : Nat} {u w : List Nat} {feet : List Foot} {ft : Foot} (hr : rowOk l wi i u w = true) (hnp : plainAt l i = false) (hp : ∀ k o, k < i → l[k]? = some o → plainO o = true → feet[k]? = some noFoot) (hf : freeT feet u ft = true) : freeOf feet wi ft i = true := by
  unfold rowOk at hr
  rw [hnp, Bool.false_or] at hr
  simp only [Bool.and_eq_true, List.all_eq_true] at hr
  have key : ∀ n, n ≤ i → freeOf feet wi ft n = true := by
    intro n
    induction n with
    | zero => intro _; rfl
    | succ k ih =>
      intro hk
      unfold freeOf
      rw [ih (by omega), Bool.and_true]
      have := hr.1 k (List.mem_range.2 (by omega))
      simp only [Bool.or_eq_true] at this
      rcases this with (h | h) | h
      · rw [h, Bool.true_or]
      · unfold plainAt at h
        split at h
        · rename_i o ho
          rw [hp k o (by omega) ho h]
          simp only [clash_no, Bool.not_false, Bool.or_true]
        · cases h
      · have h2 := List.all_eq_true.1 hf k (by simpa using h)
        unfold frOne at h2
        rw [Bool.or_eq_true]
        exact Or.inr h2
  exact key i (Nat.le_refl _)
theorem ok_of {l : List Oper} {wi i base top : Nat} {u w : List Nat} {ft : Foot} (hr : rowOk l wi i u w = true) (hnp : plainAt l i = false) (h : okFootT base w ft = true) : okFoot base top wi ft = true := by
  unfold rowOk at hr
  rw [hnp, Bool.false_or] at hr
  simp only [Bool.and_eq_true, List.all_eq_true] at hr
  unfold okFootT at h
  unfold okFoot
  split at h
  · rename_i rl hrl
    rw [List.all_eq_true] at h ⊢
    intro b hb
    have := h b hb
    simp only [Bool.or_eq_true] at this ⊢
    rcases this with h1 | h1
    · left; left; exact Nat.ble_eq_true_of_le (of_decide_eq_true h1)
    · obtain ⟨k, hk, he⟩ := List.any_eq_true.1 h1
      right
      have : b = base + k := by simpa using he
      rw [this, Nat.add_sub_cancel_left]; exact hr.2 k hk
  · cases h
theorem free_no {feet : List Foot} {w : Nat} : ∀ n, n ≤ feet.length → freeOf feet w noFoot n = true
  | 0, _ => rfl
  | k + 1, hn => by
    unfold freeOf
    rw [free_no k (by omega), Bool.and_true, Bool.or_eq_true]
    right
    cases h : feet[k]? with
    | none => exact absurd (List.getElem?_eq_none_iff.1 h) (by omega)
    | some f =>
      obtain ⟨rx, wx, fx, px, gx⟩ := f
      have e2 : ∀ r : Option (List Nat), meet r (some []) = false := by
        intro r; unfold meet; split <;> simp_all
      simp [clash, noFoot, e2]
theorem vis_of {ft : Foot} {base top w slot : Nat} {l : List Nat} (hr : ft.reads = some l) (h : okFoot base top w ft = true) : (∀ b ∈ l, visB base top w slot ft b = true) ∧ visB base top w slot ft slot = true := by
  unfold okFoot at h
  rw [hr] at h
  simp only [List.all_eq_true] at h
  refine ⟨fun b hb => ?_, ?_⟩
  · unfold visB
    rw [hr]
    simp only [h b hb, Bool.true_and, Bool.or_eq_true]
    exact Or.inr (List.any_eq_true.2 ⟨b, hb, Nat.beq_refl b⟩)
  · unfold visB; rw [Nat.beq_refl]; rfl
theorem foot_grows {o : Oper} {a : AAct} {slot : Nat} : (footA C me o a slot).grows = false := by
  unfold footA
  split <;> try rfl
  split <;> try rfl
  split <;> try rfl
  split <;> try rfl
  split <;> rfl
theorem opI_any {o : Oper} {a : AAct} {v : AV} (hp : plainO o = false) (hl : locOp o.op = false) (h : opI C me { objs := [], lock := 0 } o.dst o.op a = some v) (slot : Nat) :
    (∀ G : Heap, opA C (lim C) me o a G slot = some (some v, G)) ∧ (footA C me o a slot).idle = true ∧ idleFoot C me o a slot = footA C me o a slot := by
  obtain ⟨dst, op, ty, pos, after, guard⟩ := o
  simp only at hl h hp
  unfold opI at h
  split at h
  · cases hl
  · rename_i t x l hh m
    simp only [Option.bind_eq_some_iff] at h
    obtain ⟨u, hu, l', hl', h', hh', m', hm', h⟩ := h
    have hs : ∀ G : Heap, sliceA C.P G t u l' h' m' = some v := by
      intro G
      unfold sliceI at h
      split at h
      · cases h
      · rename_i hne
        rw [← h]
        unfold sliceA
        cases C.P.underlying t with
        | none => cases u <;> rfl
        | some d => cases d <;> cases u <;> first | rfl | (exact absurd rfl (hne _ _ _ _ _)) | (rename_i y; cases y <;> first | rfl | (rename_i p n c; cases p <;> first | rfl | (cases n <;> first | rfl | (cases c <;> rfl))))
    refine ⟨fun G => ?_, rfl, rfl⟩
    simp only [opA, hu]
    show (match (some u), lookO a l, lookO a hh, lookO a m with | some v, some l, some h, some m => (sliceA C.P G t v l h m).map fun v => (some v, G) | _, _, _, _ => none) = _
    rw [hl', hh', hm']
    simp only [hs G, Option.map_some]
  · rename_i c
    obtain ⟨cal, args, ts⟩ := c
    simp only at h
    split at h
    · obtain ⟨l, hev, h⟩ := Option.bind_eq_some_iff.1 h
      have hs : ∀ G : Heap, lenA C.P G ts.toList l = some v := by
        intro G
        unfold lenI at h
        split at h
        · cases h
        · rename_i hne
          rw [← h]
          unfold lenA
          cases ts.toList with
          | nil => rfl
          | cons t r =>
            cases l with
            | nil => rfl
            | cons x s =>
              simp only
              cases C.P.underlying t with
              | none => cases x <;> rfl
              | some d => cases d <;> cases x <;> first | rfl | (exact absurd rfl (hne _ _)) | (rename_i y; cases y <;> first | rfl | (rename_i p; cases p <;> rfl) | (rename_i p n c; cases p <;> first | rfl | (cases n <;> first | rfl | (cases c <;> rfl))))
      refine ⟨fun G => ?_, ?_, rfl⟩
      · simp only [opA, hev, hs G, Option.map_some]
      · simp only [footA]; rfl
    · obtain ⟨l, hev, h⟩ := Option.bind_eq_some_iff.1 h
      refine ⟨fun G => ?_, rfl, rfl⟩
      cases l with
      | nil => cases h
      | cons x r =>
        have h : minmaxA false x r = some v := h
        simp only [opA, hev, h, Option.map_some]
    · rename_i g
      simp only [Option.bind_eq_some_iff] at h
      obtain ⟨l, hev, gv, hg, h⟩ := h
      unfold callV at h
      split at h
      · rename_i f x y
        unfold callI at h
        split at h
        · rename_i hex
          cases h
          obtain ⟨h1, h2⟩ := hex.choose_spec
          have hfe : ∀ ty pos after guard, footA C me ⟨dst, .call ⟨.value g, args, ts⟩, ty, pos, after, guard⟩ a slot = callFoot := by
            intro ty pos after guard
            simp only [footA, hg, hev]
            rcases h2 with h2 | h2
            · rw [if_pos h2]; rfl
            · split
              · rfl
              · rw [h2]; rfl
          refine ⟨fun G => ?_, ?_, ?_⟩
          · simp only [opA, hev, hg]
            rw [h1 G]; rfl
          · rw [hfe]; rfl
          · rw [hfe]; rfl
        · cases h
      · cases h
    · cases h
  · rename_i h1 h2 h3
    have : plainO (bareO dst op) = false := hp
    rw [this] at h
    simp at h
/-- the region, by its operations -/
theorem drawP_runs {arr : Array Oper} {ops : List Oper} {ws : List Nat} {base n : Nat} {K : PostS} (hn : arr.toList.length = n) : ∀ (l : List Oper) (tb : Tab) (i : Nat) (feetM feet : List Foot) (a : AAct) (G : Heap), feet.length = i → feetM.length = i → i + l.length ≤ n → base + n ≤ G.size → (∀ (k : Nat) (ft : Foot), frOne (feetM[k]?) ft = true → frOne (feet[k]?) ft = true) → (∀ k, l[k]? = ops[i + k]?) →
    (∀ k, i + k < i + l.length → rowOk ops (ws.getD (i + k) 0) (i + k) (tb.getD k ([], [], false)).1 (tb.getD k ([], [], false)).2.1 = true) → (∀ k o, k < i → ops[k]? = some o → plainO o = true → feet[k]? = some noFoot) → drawP C me arr base tb l i feetM a G K →
    ∃ r, drawA C (lim C) me arr base (base + n) ws l i feet a G = some r ∧ K r.1 r.2
  | [], tb, i, feetM, feet, a, G, _, _, _, _, _, _, _, _, h => ⟨(a, G), rfl, (by unfold drawP at h; exact h)⟩
  | o :: r, tb, i, feetM, feet, a, G, hf, hfM, hi, hs, hle, hops, htb, hpl, h => by
    have hle' : ∀ f f' : Foot, (∀ ft, frOne (some f) ft = true → frOne (some f') ft = true) → ∀ (k : Nat) (ft : Foot), frOne ((feetM ++ [f])[k]?) ft = true → frOne ((feet ++ [f'])[k]?) ft = true := by
      intro f f' hff k ft hk
      rcases Nat.lt_or_ge k i with h1 | h1
      · rw [List.getElem?_append_left (by omega)] at hk ⊢; exact hle k ft hk
      · rw [List.getElem?_append_right (by omega)] at hk ⊢
        rw [hfM] at hk; rw [hf]
        cases hki : k - i with
        | zero => rw [hki] at hk; exact hff ft hk
        | succ z => rw [hki] at hk; simp [frOne] at hk
    have hsame : ∀ f : Foot, ∀ ft, frOne (some f) ft = true → frOne (some f) ft = true := fun _ _ h => h
    have hfree : ∀ (u : List Nat) (ft : Foot), freeT feetM u ft = true → freeT feet u ft = true := fun u ft h => List.all_eq_true.2 fun k hk => hle k ft (List.all_eq_true.1 h k hk)
    have hrow := htb 0 (by simp)
    have ho0 : ops[i]? = some o := by have := hops 0; simpa using this.symm
    have hops' : ∀ k, r[k]? = ops[i + 1 + k]? := fun k => by have := hops (k + 1); rw [List.getElem?_cons_succ] at this; rw [this, show i + (k + 1) = i + 1 + k by omega]
    have htd : ∀ k, tb.tail.getD k ([], [], false) = tb.getD (k + 1) ([], [], false) := fun k => by cases tb <;> simp
    have htb' : ∀ k, i + 1 + k < i + 1 + r.length → rowOk ops (ws.getD (i + 1 + k) 0) (i + 1 + k) (tb.tail.getD k ([], [], false)).1 (tb.tail.getD k ([], [], false)).2.1 = true := fun k hk => by
      rw [htd, show i + 1 + k = i + (k + 1) by omega]; exact htb (k + 1) (by simp; omega)
    have hhd : tb.getD 0 ([], [], false) = tb.headD ([], [], false) := by cases tb <;> rfl
    have hpl' : ∀ (ft : Foot), (plainO o = true → ft = noFoot) → ∀ k o', k < i + 1 → ops[k]? = some o' → plainO o' = true → (feet ++ [ft])[k]? = some noFoot := by
      intro ft hft k o' hk ho' hp
      rcases Nat.lt_or_ge k i with h1 | h1
      · rw [List.getElem?_append_left (by omega)]; exact hpl k o' h1 ho' hp
      · have : k = i := by omega
        subst this
        rw [ho0] at ho'; cases ho'
        rw [List.getElem?_append_right (by omega), hf, Nat.sub_self, hft hp]; rfl
    rw [hhd, Nat.add_zero] at hrow
    have hi' : i + (r.length + 1) ≤ n := by simpa using hi
    unfold drawP at h
    rw [bindO_iff] at h
    obtain ⟨w, hw, h⟩ := h
    unfold drawA stepD
    rw [hw]
    cases w
    · simp only [iteB_false] at h
      simp only
      rw [free_no i (by omega), if_pos rfl]
      exact drawP_runs hn r _ (i + 1) _ _ _ G (by simp [hf]) (by simp [hfM]) (by omega) hs (hle' _ _ (hsame _)) hops' htb' (hpl' noFoot fun _ => rfl) h
    · simp only [iteB_true] at h
      simp only
      by_cases hp : plainO o = true
      · rw [hp] at h
        simp only [iteB_true] at h
        rw [if_pos hp]
        unfold WpO at h
        rw [bindO_iff, ← opA_same] at h
        obtain ⟨⟨v, G1⟩, hop, h⟩ := h
        rw [hop]
        simp only
        rw [free_no i (by omega), if_pos rfl]
        exact drawP_runs hn r _ (i + 1) _ _ _ G (by simp [hf]) (by simp [hfM]) (by omega) hs (hle' _ _ (hsame _)) hops' htb' (hpl' noFoot fun _ => rfl) h
      · have hp' : plainO o = false := by simpa using hp
        rw [hp'] at h
        simp only [iteB_false] at h
        rw [if_neg hp]
        have hnp : plainAt ops i = false := by unfold plainAt; rw [ho0]; exact hp'
        by_cases hl : locOp o.op = true
        · rw [hl] at h
          simp only [iteB_true] at h
          generalize hft : footA C me o a (base + i) = ft at h ⊢
          cases hokT : okFootT base (tb.headD ([], [], false)).2.1 ft && freeT feetM (tb.headD ([], [], false)).1 ft
          · rw [hokT] at h; exact h.elim
          · rw [hokT] at h
            simp only [iteB_true] at h
            simp only [Bool.and_eq_true] at hokT
            have hok : okFoot base (base + n) (ws.getD i 0) ft = true ∧ freeOf feet (ws.getD i 0) ft i = true := ⟨ok_of hrow hnp hokT.1, free_of hrow hnp hpl (hfree _ _ hokT.2)⟩
            unfold WpO at h
            rw [bindO_iff, ← opA_same] at h
            obtain ⟨⟨v, G1⟩, hop, h⟩ := h
            obtain ⟨reads, hr, eff, he1, he2, he3⟩ := opA_loc hl hop
            rw [hft] at hr
            obtain ⟨hv1, hv2⟩ := vis_of (slot := base + i) hr hok.1
            generalize hvis : visB base (base + n) (ws.getD i 0) (base + i) ft = vis at hv1 hv2 ⊢
            have hrl : ∀ b ∈ reads, b < G.size → (G.hide vis).get b = G.get b := fun b hb hbs => by rw [hide_get, if_pos hbs, if_pos (hv1 b hb)]
            have hrl2 : ∀ b ∈ reads, (G.hide vis).get b = G.get b := fun b hb => by
              rcases Nat.lt_or_ge b G.size with h1 | h1
              · exact hrl b hb h1
              · rw [hide_get, if_neg (by omega), get_none (by omega)]
            have hrun := he3 (G.hide vis) rfl hrl2
            simp only at hrun
            rw [hrun]
            simp only
            have heff : ∀ b o', eff = some (b, o') → b < G.size ∧ vis b = true := by
              intro b o' he
              rcases he1 b o' he with ⟨h1, h2⟩ | h1
              · obtain ⟨o2, ho2⟩ := Option.isSome_iff_exists.1 h2
                exact ⟨get_ltS ho2, hv1 b h1⟩
              · subst h1; exact ⟨by omega, hv2⟩
            obtain ⟨hm1, hm2, hm3⟩ := merge_putO heff
            have hg : ({ ft with grows := false } : Foot) = ft := by rw [← hft]; have := foot_grows (C := C) (me := me) (o := o) (a := a) (slot := base + i); cases hq : footA C me o a (base + i); rw [hq] at this; simp only at this; subst this; rfl
            have hcont := drawP_runs (n := n) (ws := ws) (ops := ops) hn r _ (i + 1) _ (feet ++ [ft]) _ G1 (by simp [hf]) (by simp [hfM]) (by omega) (by rw [he2, hm3]; exact hs) (hle' _ _ (hsame _)) hops' htb' (hpl' ft fun h => absurd h hp) h
            by_cases hid : ft.idle = true
            · rw [if_pos hid]
              have hG1 : G1 = G := by
                have hW : ∃ W, (footA C me o a (base + i)).writes = some W ∧ W ++ (footA C me o a (base + i)).fresh = [] := by
                  rw [hft]
                  unfold Foot.idle at hid
                  split at hid
                  · rename_i hw; exact ⟨[], hw, by simpa using hid⟩
                  · cases hid
                obtain ⟨W, hW1, hW2⟩ := hW
                have := opA_keeps hop (by omega) hW1
                rw [hW2] at this
                exact heap_ext this.1 this.2.1 fun b => this.2.2 b (by simp)
              simp only [hok.2, if_true]
              rw [hG1] at hcont
              exact hcont
            · rw [if_neg hid, hm2, Nat.ble_eq_true_of_le (Nat.le_refl _)]
              simp only [if_true, hm1, Nat.beq_refl, Bool.not_true, hg, hok.2]
              rw [he2] at hcont
              exact hcont
        · have hl' : locOp o.op = false := by simpa using hl
          rw [hl'] at h
          simp only [iteB_false] at h
          cases hflag : (tb.headD ([], [], false)).2.2
          case false =>
            rw [hflag] at h
            simp only [iteB_false] at h
            generalize hft : idleFoot C me o a (base + i) = ft at h
            cases hokT : freeT feetM (tb.headD ([], [], false)).1 ft
            · rw [hokT] at h; exact h.elim
            · rw [hokT] at h
              simp only [iteB_true] at h
              have hok : freeOf feet (ws.getD i 0) ft i = true := free_of hrow hnp hpl (hfree _ _ hokT)
              rw [bindO_iff] at h
              obtain ⟨v, hv, h⟩ := h
              obtain ⟨h1, h2, h3⟩ := opI_any hp' hl' hv (base + i)
              rw [hft] at h3
              rw [← h3] at h2 ⊢
              rw [h1]
              simp only
              rw [if_pos h2]
              simp only [hok, if_true]
              exact drawP_runs hn r _ (i + 1) _ _ _ G (by simp [hf]) (by simp [hfM]) (by omega) hs (hle' _ _ (hsame _)) hops' htb' (hpl' _ fun h => absurd h hp) h
          case true =>
            rw [hflag] at h
            simp only [iteB_true] at h
            cases hem : (tb.headD ([], [], false)).1.isEmpty
            · rw [hem] at h
              simp only [iteB_false] at h
              cases hokT : freeT feetM (tb.headD ([], [], false)).1 stillFoot
              · rw [hokT] at h; exact h.elim
              · rw [hokT] at h
                simp only [iteB_true] at h
                have hok : freeOf feet (ws.getD i 0) stillFoot i = true := free_of hrow hnp hpl (hfree _ _ hokT)
                obtain ⟨dst, op, ty, pos, after, guard⟩ := o
                unfold stillO at h
                simp only at h
                split at h
                · rename_i c
                  split at h
                  · rename_i g hcal
                    rw [bindO_iff] at h
                    obtain ⟨l, hev, h⟩ := h
                    rw [bindO_iff] at h
                    obtain ⟨v, hg, h⟩ := h
                    obtain ⟨hk, rv, hrun, h⟩ := h
                    obtain ⟨cal, args, ts⟩ := c
                    simp only at hcal hev
                    subst hcal
                    cases v <;> simp only [kind2] at hk <;> try (cases hk; done)
                    rename_i f x y
                    cases f <;> simp only [Bool.and_eq_true] at hk <;> try (cases hk; done)
                    rename_i f
                    have hft : footA C me ⟨dst, .call ⟨.value g, args, ts⟩, ty, pos, after, guard⟩ a (base + i) = stillFoot := by
                      have h1 : (C.ext f).isSome = false := by
                        have := hk.1
                        cases hx : C.ext f <;> rw [hx] at this <;> simp_all
                      have h2 := Nat.eq_of_beq_eq_true hk.2
                      simp only [footA, hg, hev, h1, h2, Bool.false_eq_true, if_false, stillFoot]
                    rw [hft]
                    generalize hvis : visB base (base + n) (ws.getD i 0) (base + i) stillFoot = vis
                    have hwl : ∀ k, (tb.headD ([], [], false)).2.1.contains k = true → (ws.getD i 0).testBit k = true := by
                      have hr2 := hrow
                      unfold rowOk at hr2
                      rw [hnp, Bool.false_or, Bool.and_eq_true] at hr2
                      exact fun k hk => List.all_eq_true.1 hr2.2 k (List.contains_iff_mem.1 hk)
                    have hvo : ∀ b, (b < base ∨ base + n ≤ b ∨ (base ≤ b ∧ (tb.headD ([], [], false)).2.1.contains (b - base) = true)) → vis b = true := by
                      intro b hb
                      rw [← hvis]
                      unfold visB stillFoot
                      simp only [Bool.and_true, Bool.or_eq_true]
                      right
                      rcases hb with hb | hb | hb
                      · left; left; exact Nat.ble_eq_true_of_le hb
                      · left; right; exact Nat.ble_eq_true_of_le hb
                      · right; exact hwl _ hb.2
                    obtain ⟨Y, hY⟩ := hrun (G.hide vis) rfl (hide_size G vis) (fun b hb => by
                      rcases Nat.lt_or_ge b G.size with h1 | h1
                      · rw [hide_get, if_pos h1, if_pos (hvo b (by rw [hn] at hb; exact hb))]
                      · rw [hide_get, if_neg (by omega), get_none (by omega)])
                    have hop : opA C (lim C) me ⟨dst, .call ⟨.value g, args, ts⟩, ty, pos, after, guard⟩ a (G.hide vis) (base + i) = some (some rv, Y) := by
                      simp only [opA, hev, hg]
                      unfold callX at hY
                      simp only at hY ⊢
                      rw [hY]; rfl
                    rw [hop]
                    simp only
                    rw [if_pos (by rfl)]
                    simp only [hok, if_true]
                    exact drawP_runs hn r _ (i + 1) _ _ _ G (by simp [hf]) (by simp [hfM]) (by omega) hs (hle' _ _ (hsame _)) hops' htb' (hpl' _ fun h => absurd h hp) h
                  · exact h.elim
                · exact h.elim
            · rw [hem] at h
              simp only [iteB_true] at h
              have hu : (tb.headD ([], [], false)).1 = [] := List.isEmpty_iff.1 hem
              rw [hu] at hrow
              obtain ⟨dst, op, ty, pos, after, guard⟩ := o
              unfold effO at h
              simp only at h
              split at h
              · rename_i c
                split at h
                · rename_i g hcal
                  rw [bindO_iff] at h
                  obtain ⟨l, hev, h⟩ := h
                  rw [bindO_iff] at h
                  obtain ⟨v, hg, h⟩ := h
                  obtain ⟨hk, h⟩ := h
                  obtain ⟨cal, args, ts⟩ := c
                  simp only at hcal hev
                  subst hcal
                  have hft : footA C me ⟨dst, .call ⟨.value g, args, ts⟩, ty, pos, after, guard⟩ a (base + i) = ⟨none, none, [], false, false⟩ := by
                    simp only [footA, hg, hev]
                    cases v <;> simp only [kind0] at hk <;> try (cases hk; done)
                    · rename_i f x y
                      cases f <;> simp only [Bool.and_eq_true] at hk <;> try (cases hk; done)
                      rename_i f
                      have h1 : (C.ext f).isSome = false := by
                        have := hk.1
                        cases hx : C.ext f <;> rw [hx] at this <;> simp_all
                      have h2 := Nat.eq_of_beq_eq_true hk.2
                      simp only [h1, h2, Bool.false_eq_true, if_false]
                    · rfl
                  rw [hft]
                  generalize hvis : visB base (base + n) (ws.getD i 0) (base + i) ⟨none, none, [], false, false⟩ = vis
                  have hvo : ∀ b, (b < base ∨ base + n ≤ b) → vis b = true := by
                    intro b hb
                    rw [← hvis]
                    unfold visB
                    simp only [Bool.and_true, Bool.or_eq_true]
                    right
                    rcases hb with hb | hb
                    · left; left; exact Nat.ble_eq_true_of_le hb
                    · left; right; exact Nat.ble_eq_true_of_le hb
                  obtain ⟨rv, Y, hY, hYs, hcont⟩ := h (G.hide vis) rfl (hide_size G vis) (fun b hb => by
                    rcases Nat.lt_or_ge b G.size with h1 | h1
                    · rw [hide_get, if_pos h1, if_pos (hvo b (by rw [hn] at hb; exact hb))]
                    · rw [hide_get, if_neg (by omega), get_none (by omega)])
                  have hop : opA C (lim C) me ⟨dst, .call ⟨.value g, args, ts⟩, ty, pos, after, guard⟩ a (G.hide vis) (base + i) = some (some rv, Y) := by
                    simp only [opA, hev, hg]
                    unfold callX at hY
                    cases v with
                    | fn f x y =>
                      cases f with
                      | func f =>
                        simp only at hY ⊢
                        rw [hY]; rfl
                      | _ => simp at hY
                    | yld b =>
                      simp only at hY ⊢
                      split at hY
                      · rename_i hr
                        simp only [Option.some.injEq, Prod.mk.injEq] at hY
                        obtain ⟨rfl, rfl⟩ := hY
                        rw [hr]
                      · cases hY
                    | _ => simp at hY
                  rw [hop]
                  simp only
                  rw [if_neg (by simp [Foot.idle]), Nat.ble_eq_true_of_le hYs, if_pos rfl]
                  simp only
                  have hok : ∀ gr : Bool, freeOf feet (ws.getD i 0) ⟨none, none, [], false, gr⟩ i = true := fun gr => free_of hrow hnp hpl rfl
                  rw [hok, if_pos rfl]
                  have hG' := hcont (G.merge vis Y) rfl (merge_size vis hYs) (fun b hb => by
                    rw [merge_get _ hYs]
                    rcases Nat.lt_or_ge b G.size with h1 | h1
                    · rw [if_pos h1, if_pos (hvo b (by rw [hn] at hb; exact hb))]
                    · rw [if_neg (by omega)]) (fun b h1 h2 => by
                    rw [merge_get _ hYs]
                    split
                    · split
                      · exact Or.inr rfl
                      · exact Or.inl rfl
                    · exact Or.inr rfl)
                  refine drawP_runs hn r _ (i + 1) _ _ _ _ (by simp [hf]) (by simp [hfM]) (by omega) (by rw [merge_size vis hYs]; omega) (hle' effFoot _ ?_) hops' htb' (hpl' _ fun h => absurd h hp) hG'
                  intro ft hft'
                  obtain ⟨r', w', f', p', g'⟩ := ft
                  unfold frOne effFoot clash at hft'
                  unfold frOne clash
                  simp only [Bool.not_eq_true', Bool.or_eq_false_iff, Bool.true_and] at hft' ⊢
                  obtain ⟨⟨⟨⟨⟨⟨q1, q2⟩, q3⟩, q4⟩, q5⟩, q6⟩, q7⟩ := hft'
                  exact ⟨⟨⟨⟨⟨⟨q1, q2⟩, q3⟩, q4⟩, q5⟩, by rw [q6, Bool.and_false]⟩, q7⟩
                · exact h.elim
              · exact h.elim
theorem wp_drawD {id : Nat} {ops : Array Oper} {a : AAct} {H : Heap} {K : Post} (tb : Tab) (hok : drawOk ops = true) (htb : tabOk ops.toList (waitsAll ops.toList) tb = true)
    (h : drawP C me ops H.size tb ops.toList 0 [] a ⟨H.objs ++ List.replicate ops.toList.length none, H.lock⟩ (setK C me H.size K)) : Wp C me rd (.region id ops true) a H K := by
  obtain ⟨r, h1, h2⟩ := drawP_runs (ops := ops.toList) (ws := waitsAll ops.toList) (n := ops.toList.length) rfl ops.toList tb 0 [] [] a _ rfl rfl (by omega) (by unfold Heap.size; simp) (fun _ _ h => h) (fun k => by rw [Nat.zero_add]) (fun k hk => by rw [Nat.zero_add] at hk ⊢; exact List.all_eq_true.1 htb k (List.mem_range.2 (by omega))) (fun k o hk => by omega) h
  have hreg : regionA C (lim C) me ops true a H = some r := by
    unfold regionA
    unfold drawOk at hok
    simp only [if_true]
    rw [if_pos hok]; exact h1
  unfold Wp
  simp only [codeA, hreg, Option.map_some, bindO_some]
  exact h2
/-! ### as equations -/
@[congr] theorem drawP_congr {arr : Array Oper} {base : Nat} {tb : Tab} {l : List Oper} {i i' : Nat} {feet feet' : List Foot} {a a' : AAct} {G G' : Heap} {K : PostS} (hi : i = i') (hf : feet = feet') (ha : a = a') (hG : G = G') : drawP C me arr base tb l i feet a G K = drawP C me arr base tb l i' feet' a' G' K := by rw [hi, hf, ha, hG]
section eqs
variable {arr : Array Oper} {base : Nat} {tb : Tab}
@[go_sem ↓] theorem drawP_nil (i : Nat) (feet : List Foot) (a : AAct) (G : Heap) (K : PostS) : drawP C me arr base tb [] i feet a G K = AtS K a G := by unfold drawP; rfl
def plainOp (op : Op) : Bool :=
  match op with
  | .move _ | .assign _ | .pick .. | .build .. | .nilCheck _ | .binOp .. | .unOp .. | .convert .. | .makeInterface .. | .makeFunc .. | .fieldAddr .. | .field .. | .indexAddr .. | .index .. | .extract .. => true
  | _ => false
theorem plainOp_eq (o : Oper) : plainO o = plainOp o.op := rfl
def footD (C : Cfg) (me : FuncId) (d : Option Tmp) (op : Op) (a : AAct) (slot : Nat) : Foot := footA C me (bareO d op) a slot
def contP (C : Cfg) (me : FuncId) (arr : Array Oper) (base : Nat) (tb : Tab) (r : List Oper) (i : Nat) (feet : List Foot) (d : Option Tmp) (a : AAct) (K : PostS) : PostO := fun v G => drawP C me arr base tb r i feet (a.put d v) G K
def contQ (C : Cfg) (me : FuncId) (arr : Array Oper) (base : Nat) (tb : Tab) (r : List Oper) (i : Nat) (feet : List Foot) (d : Option Tmp) (a : AAct) (G : Heap) (K : PostS) : PostO := fun v _ => drawP C me arr base tb r i feet (a.put d v) G K
@[go_sem ↓] theorem contP_some (r : List Oper) (i : Nat) (feet : List Foot) (d : Tmp) (s : Nat) (l : List (Tmp × AV)) (m : List Nat) (K : PostS) (v : AV) (G : Heap) : AtO (contP C me arr base tb r i feet (some d) ⟨s, l, m⟩ K) v G = drawP C me arr base tb r i feet ⟨s, putT s d v l, m⟩ G K := by
  unfold AtO contP; simp only [AAct.put, putT]; split <;> rfl
@[go_sem ↓] theorem contP_none (r : List Oper) (i : Nat) (feet : List Foot) (a : AAct) (K : PostS) (v : AV) (G : Heap) : AtO (contP C me arr base tb r i feet none a K) v G = drawP C me arr base tb r i feet a G K := rfl
@[go_sem ↓] theorem contQ_some (r : List Oper) (i : Nat) (feet : List Foot) (d : Tmp) (s : Nat) (l : List (Tmp × AV)) (m : List Nat) (G : Heap) (K : PostS) (v : AV) (G' : Heap) : AtO (contQ C me arr base tb r i feet (some d) ⟨s, l, m⟩ G K) v G' = drawP C me arr base tb r i feet ⟨s, putT s d v l, m⟩ G K := by
  unfold AtO contQ; simp only [AAct.put, putT]; split <;> rfl
def stepDP (C : Cfg) (me : FuncId) (arr : Array Oper) (base : Nat) (tb : Tab) (d : Option Tmp) (op : Op) (r : List Oper) (i : Nat) (feet : List Foot) (a : AAct) (G : Heap) (K : PostS) : Prop :=
  iteB (plainOp op) (WpO C me d op a G 0 (contQ C me arr base tb.tail r (i + 1) (feet ++ [noFoot]) d a G K))
    (iteB (locOp op) (iteB (okFootT base (tb.headD ([], [], false)).2.1 (footD C me d op a (base + i)) && freeT feet (tb.headD ([], [], false)).1 (footD C me d op a (base + i)))
        (WpO C me d op a G (base + i) (contP C me arr base tb.tail r (i + 1) (feet ++ [footD C me d op a (base + i)]) d a K)) False)
      (iteB (tb.headD ([], [], false)).2.2
        (iteB (tb.headD ([], [], false)).1.isEmpty (effO C me base (base + arr.toList.length) (bareO d op) a G (contP C me arr base tb.tail r (i + 1) (feet ++ [effFoot]) d a K)) (iteB (freeT feet (tb.headD ([], [], false)).1 stillFoot) (stillO C me base (base + arr.toList.length) (tb.headD ([], [], false)).2.1 (bareO d op) a G (contP C me arr base tb.tail r (i + 1) (feet ++ [stillFoot]) d a K)) False))
        (iteB (freeT feet (tb.headD ([], [], false)).1 (idleFoot C me (bareO d op) a (base + i)))
          (WpJ C me d op a { objs := [], lock := 0 } (contQ C me arr base tb.tail r (i + 1) (feet ++ [idleFoot C me (bareO d op) a (base + i)]) d a G K)) False)))
@[congr] theorem stepDP_congr {d : Option Tmp} {op : Op} {r : List Oper} {i i' : Nat} {feet feet' : List Foot} {a a' : AAct} {G G' : Heap} {K : PostS} (hi : i = i') (hf : feet = feet') (ha : a = a') (hG : G = G') : stepDP C me arr base tb d op r i feet a G K = stepDP C me arr base tb d op r i' feet' a' G' K := by rw [hi, hf, ha, hG]
theorem drawP_step (o : Oper) (r : List Oper) (i : Nat) (feet : List Foot) (a : AAct) (G : Heap) (K : PostS) :
    drawP C me arr base tb (o :: r) i feet a G K = bindO (wantedA arr a o) fun w => iteB w (stepDP C me arr base tb o.dst o.op r i feet a G K) (drawP C me arr base tb.tail r (i + 1) (feet ++ [noFoot]) (a.put o.dst undefA) G K) := by
  have e1 : ∀ s, footA C me o a s = footD C me o.dst o.op a s := fun s => rfl
  have e2 : ∀ s, idleFoot C me o a s = idleFoot C me (bareO o.dst o.op) a s := fun s => rfl
  conv => lhs; unfold drawP
  unfold stepDP
  rw [plainOp_eq, e1, e2]
  congr 1
  funext w
  cases w
  · rfl
  · simp only [iteB_true]
    cases hp : plainOp o.op
    · simp only [iteB_false]
      rfl
    · simp only [iteB_true]
      unfold WpO
      have := plain_slot (C := C) (me := me) (o := bareO o.dst o.op) hp a G (base + i) 0
      show bindO (opA C (lim C) me (bareO o.dst o.op) a G (base + i)) _ = bindO (opA C (lim C) me (bareO o.dst o.op) a G 0) _
      rw [this]; rfl
@[go_sem ↓] theorem drawP_op (d : Option Tmp) (op : Op) (ty : TypeId) (p : String) (af : Array Edge) (r : List Oper) (i : Nat) (feet : List Foot) (a : AAct) (G : Heap) (K : PostS) :
    drawP C me arr base tb (⟨d, op, ty, p, af, none⟩ :: r) i feet a G K = stepDP C me arr base tb d op r i feet a G K := by
  rw [drawP_step]; rfl
@[go_sem ↓] theorem drawP_guard (d : Tmp) (op : Op) (ty : TypeId) (p : String) (af : Array Edge) (j : Nat) (w : Bool) (r : List Oper) (i : Nat) (feet : List Foot) (s : Nat) (l : List (Tmp × AV)) (m : List Nat) (G : Heap) (K : PostS) :
    drawP C me arr base tb (⟨some d, op, ty, p, af, some (j, w)⟩ :: r) i feet ⟨s, l, m⟩ G K = bindO (yieldAt ((arr.toList[j]?).bind (·.dst)) ⟨s, l, m⟩) fun y => iteB (y == some w) (stepDP C me arr base tb (some d) op r i feet ⟨s, l, m⟩ G K) (drawP C me arr base tb.tail r (i + 1) (feet ++ [noFoot]) ⟨s, putT s d undefA l, m⟩ G K) := by
  rw [drawP_step]
  have e : (AAct.mk s l m).put (some d) undefA = ⟨s, putT s d undefA l, m⟩ := by simp only [AAct.put, putT]; split <;> rfl
  rw [e]
  simp only [wantedA, yieldedA, yieldAt, Array.getElem?_toList]
  cases (arr[j]?).bind (·.dst) with
  | none => rfl
  | some d =>
    simp only
    rcases assoc d l with _ | v
    · rfl
    · rcases v with v | _ | l | _ | _ | _ | _ | _ | _ | _ | _ <;> try rfl
      · cases v <;> rfl
      · cases l <;> rfl
@[go_sem ↓] theorem stepDP_move (d : Option Tmp) (x) (r : List Oper) (i : Nat) (feet : List Foot) (a : AAct) (G : Heap) (K : PostS) : stepDP C me arr base tb d (.move x) r i feet a G K = WpO C me d (.move x) a G 0 (contQ C me arr base tb.tail r (i + 1) (feet ++ [noFoot]) d a G K) := rfl
@[go_sem ↓] theorem stepDP_assign (d : Option Tmp) (x) (r : List Oper) (i : Nat) (feet : List Foot) (a : AAct) (G : Heap) (K : PostS) : stepDP C me arr base tb d (.assign x) r i feet a G K = WpO C me d (.assign x) a G 0 (contQ C me arr base tb.tail r (i + 1) (feet ++ [noFoot]) d a G K) := rfl
@[go_sem ↓] theorem stepDP_pick (d : Option Tmp) (x y z) (r : List Oper) (i : Nat) (feet : List Foot) (a : AAct) (G : Heap) (K : PostS) : stepDP C me arr base tb d (.pick x y z) r i feet a G K = WpO C me d (.pick x y z) a G 0 (contQ C me arr base tb.tail r (i + 1) (feet ++ [noFoot]) d a G K) := rfl
@[go_sem ↓] theorem stepDP_build (d : Option Tmp) (t y) (r : List Oper) (i : Nat) (feet : List Foot) (a : AAct) (G : Heap) (K : PostS) : stepDP C me arr base tb d (.build t y) r i feet a G K = WpO C me d (.build t y) a G 0 (contQ C me arr base tb.tail r (i + 1) (feet ++ [noFoot]) d a G K) := rfl
@[go_sem ↓] theorem stepDP_nilCheck (d : Option Tmp) (x) (r : List Oper) (i : Nat) (feet : List Foot) (a : AAct) (G : Heap) (K : PostS) : stepDP C me arr base tb d (.nilCheck x) r i feet a G K = WpO C me d (.nilCheck x) a G 0 (contQ C me arr base tb.tail r (i + 1) (feet ++ [noFoot]) d a G K) := rfl
@[go_sem ↓] theorem stepDP_binOp (d : Option Tmp) (o t x y z) (r : List Oper) (i : Nat) (feet : List Foot) (a : AAct) (G : Heap) (K : PostS) : stepDP C me arr base tb d (.binOp o t x y z) r i feet a G K = WpO C me d (.binOp o t x y z) a G 0 (contQ C me arr base tb.tail r (i + 1) (feet ++ [noFoot]) d a G K) := rfl
@[go_sem ↓] theorem stepDP_unOp (d : Option Tmp) (o t x) (r : List Oper) (i : Nat) (feet : List Foot) (a : AAct) (G : Heap) (K : PostS) : stepDP C me arr base tb d (.unOp o t x) r i feet a G K = WpO C me d (.unOp o t x) a G 0 (contQ C me arr base tb.tail r (i + 1) (feet ++ [noFoot]) d a G K) := rfl
@[go_sem ↓] theorem stepDP_fieldAddr (d : Option Tmp) (t x j) (r : List Oper) (i : Nat) (feet : List Foot) (a : AAct) (G : Heap) (K : PostS) : stepDP C me arr base tb d (.fieldAddr t x j) r i feet a G K = WpO C me d (.fieldAddr t x j) a G 0 (contQ C me arr base tb.tail r (i + 1) (feet ++ [noFoot]) d a G K) := rfl
@[go_sem ↓] theorem stepDP_indexAddr (d : Option Tmp) (t x y) (r : List Oper) (i : Nat) (feet : List Foot) (a : AAct) (G : Heap) (K : PostS) : stepDP C me arr base tb d (.indexAddr t x y) r i feet a G K = WpO C me d (.indexAddr t x y) a G 0 (contQ C me arr base tb.tail r (i + 1) (feet ++ [noFoot]) d a G K) := rfl
@[go_sem ↓] theorem stepDP_load (d : Option Tmp) (t x) (r : List Oper) (i : Nat) (feet : List Foot) (a : AAct) (G : Heap) (K : PostS) : stepDP C me arr base tb d (.load t x) r i feet a G K = bindO (nf (footD C me d (.load t x) a (base + i))) fun ft => iteB (okFootT base (tb.headD ([], [], false)).2.1 ft && freeT feet (tb.headD ([], [], false)).1 ft) (WpO C me d (.load t x) a G (base + i) (contP C me arr base tb.tail r (i + 1) (feet ++ [ft]) d a K)) False := rfl
@[go_sem ↓] theorem stepDP_store (d : Option Tmp) (t x y) (r : List Oper) (i : Nat) (feet : List Foot) (a : AAct) (G : Heap) (K : PostS) : stepDP C me arr base tb d (.store t x y) r i feet a G K = bindO (nf (footD C me d (.store t x y) a (base + i))) fun ft => iteB (okFootT base (tb.headD ([], [], false)).2.1 ft && freeT feet (tb.headD ([], [], false)).1 ft) (WpO C me d (.store t x y) a G (base + i) (contP C me arr base tb.tail r (i + 1) (feet ++ [ft]) d a K)) False := rfl
@[go_sem ↓] theorem stepDP_alloc (d : Option Tmp) (t) (r : List Oper) (i : Nat) (feet : List Foot) (a : AAct) (G : Heap) (K : PostS) : stepDP C me arr base tb d (.alloc t) r i feet a G K = bindO (nf (footD C me d (.alloc t) a (base + i))) fun ft => iteB (okFootT base (tb.headD ([], [], false)).2.1 ft && freeT feet (tb.headD ([], [], false)).1 ft) (WpO C me d (.alloc t) a G (base + i) (contP C me arr base tb.tail r (i + 1) (feet ++ [ft]) d a K)) False := rfl
@[go_sem ↓] theorem stepDP_buildSlice (d : Option Tmp) (t n x) (r : List Oper) (i : Nat) (feet : List Foot) (a : AAct) (G : Heap) (K : PostS) : stepDP C me arr base tb d (.buildSlice t n x) r i feet a G K = bindO (nf (footD C me d (.buildSlice t n x) a (base + i))) fun ft => iteB (okFootT base (tb.headD ([], [], false)).2.1 ft && freeT feet (tb.headD ([], [], false)).1 ft) (WpO C me d (.buildSlice t n x) a G (base + i) (contP C me arr base tb.tail r (i + 1) (feet ++ [ft]) d a K)) False := rfl
@[go_sem ↓] theorem stepDP_append (d : Option Tmp) (args ts) (r : List Oper) (i : Nat) (feet : List Foot) (a : AAct) (G : Heap) (K : PostS) : stepDP C me arr base tb d (.call ⟨.builtin .append, args, ts⟩) r i feet a G K = bindO (nf (footD C me d (.call ⟨.builtin .append, args, ts⟩) a (base + i))) fun ft => iteB (okFootT base (tb.headD ([], [], false)).2.1 ft && freeT feet (tb.headD ([], [], false)).1 ft) (WpO C me d (.call ⟨.builtin .append, args, ts⟩) a G (base + i) (contP C me arr base tb.tail r (i + 1) (feet ++ [ft]) d a K)) False := rfl
@[go_sem ↓] theorem stepDP_len (d : Option Tmp) (args ts) (r : List Oper) (i : Nat) (feet : List Foot) (a : AAct) (G : Heap) (K : PostS) : stepDP C me arr base tb d (.call ⟨.builtin .len, args, ts⟩) r i feet a G K = iteB (tb.headD ([], [], false)).2.2 (iteB (tb.headD ([], [], false)).1.isEmpty (effO C me base (base + arr.toList.length) (bareO d (.call ⟨.builtin .len, args, ts⟩)) a G (contP C me arr base tb.tail r (i + 1) (feet ++ [effFoot]) d a K)) (iteB (freeT feet (tb.headD ([], [], false)).1 stillFoot) (stillO C me base (base + arr.toList.length) (tb.headD ([], [], false)).2.1 (bareO d (.call ⟨.builtin .len, args, ts⟩)) a G (contP C me arr base tb.tail r (i + 1) (feet ++ [stillFoot]) d a K)) False)) (bindO (nf (idleFoot C me (bareO d (.call ⟨.builtin .len, args, ts⟩)) a (base + i))) fun ft => iteB (freeT feet (tb.headD ([], [], false)).1 ft) (WpJ C me d (.call ⟨.builtin .len, args, ts⟩) a { objs := [], lock := 0 } (contQ C me arr base tb.tail r (i + 1) (feet ++ [ft]) d a G K)) False) := rfl
@[go_sem ↓] theorem stepDP_min (d : Option Tmp) (args ts) (r : List Oper) (i : Nat) (feet : List Foot) (a : AAct) (G : Heap) (K : PostS) : stepDP C me arr base tb d (.call ⟨.builtin .min, args, ts⟩) r i feet a G K = iteB (tb.headD ([], [], false)).2.2 (iteB (tb.headD ([], [], false)).1.isEmpty (effO C me base (base + arr.toList.length) (bareO d (.call ⟨.builtin .min, args, ts⟩)) a G (contP C me arr base tb.tail r (i + 1) (feet ++ [effFoot]) d a K)) (iteB (freeT feet (tb.headD ([], [], false)).1 stillFoot) (stillO C me base (base + arr.toList.length) (tb.headD ([], [], false)).2.1 (bareO d (.call ⟨.builtin .min, args, ts⟩)) a G (contP C me arr base tb.tail r (i + 1) (feet ++ [stillFoot]) d a K)) False)) (bindO (nf (idleFoot C me (bareO d (.call ⟨.builtin .min, args, ts⟩)) a (base + i))) fun ft => iteB (freeT feet (tb.headD ([], [], false)).1 ft) (WpJ C me d (.call ⟨.builtin .min, args, ts⟩) a { objs := [], lock := 0 } (contQ C me arr base tb.tail r (i + 1) (feet ++ [ft]) d a G K)) False) := rfl
@[go_sem ↓] theorem stepDP_callv (d : Option Tmp) (g args ts) (r : List Oper) (i : Nat) (feet : List Foot) (a : AAct) (G : Heap) (K : PostS) : stepDP C me arr base tb d (.call ⟨.value g, args, ts⟩) r i feet a G K = iteB (tb.headD ([], [], false)).2.2 (iteB (tb.headD ([], [], false)).1.isEmpty (effO C me base (base + arr.toList.length) (bareO d (.call ⟨.value g, args, ts⟩)) a G (contP C me arr base tb.tail r (i + 1) (feet ++ [effFoot]) d a K)) (iteB (freeT feet (tb.headD ([], [], false)).1 stillFoot) (stillO C me base (base + arr.toList.length) (tb.headD ([], [], false)).2.1 (bareO d (.call ⟨.value g, args, ts⟩)) a G (contP C me arr base tb.tail r (i + 1) (feet ++ [stillFoot]) d a K)) False)) (bindO (nf (idleFoot C me (bareO d (.call ⟨.value g, args, ts⟩)) a (base + i))) fun ft => iteB (freeT feet (tb.headD ([], [], false)).1 ft) (WpJ C me d (.call ⟨.value g, args, ts⟩) a { objs := [], lock := 0 } (contQ C me arr base tb.tail r (i + 1) (feet ++ [ft]) d a G K)) False) := rfl
def objsE (o : Option AV) : List Nat := match o with | some v => objsOf v | none => []
@[go_sem] theorem objsE_some (v : AV) : objsE (some v) = objsOf v := rfl
@[go_sem] theorem objs_ptr (b v k : Nat) : objsOf (.ptr b v k) = [b] := rfl
@[go_sem] theorem objs_sl (b v o n : Nat) (c : Option Nat) : objsOf (.sl b v o n c) = [b] := rfl
@[go_sem] theorem objs_v (x : Value) : objsOf (.v x) = [] := rfl
@[go_sem] theorem objs_vs (s : Nat) (l : List AV) (c : Option Nat) : objsOf (.vs s l c) = [] := rfl
@[go_sem] theorem objs_ro (x : AV) (k : Nat) : objsOf (.ro x k) = [] := rfl
def objsL (a : AAct) : List Operand → List Nat
  | [] => []
  | x :: r => objsE (a.eval x) ++ objsL a r
theorem objsL_eq (a : AAct) : ∀ l : List Operand, l.flatMap (objsO a) = objsL a l
  | [] => rfl
  | x :: r => by rw [List.flatMap_cons, objsL_eq a r]; rfl
@[go_sem] theorem objsL_nil (a : AAct) : objsL a [] = [] := rfl
@[go_sem] theorem objsL_cons (a : AAct) (x : Operand) (r : List Operand) : objsL a (x :: r) = objsE (a.eval x) ++ objsL a r := rfl
def objs1 (a : AAct) (l : List Operand) : List Nat := match l with | [] => [] | x :: _ => objsE (a.eval x)
@[go_sem] theorem objs1_cons (a : AAct) (x : Operand) (r : List Operand) : objs1 a (x :: r) = objsE (a.eval x) := rfl
@[go_sem] theorem footD_load (d : Option Tmp) (t x) (a : AAct) (s : Nat) : footD C me d (.load t x) a s = ⟨some (objsE (a.eval x)), some [], [], false, false⟩ := rfl
@[go_sem] theorem footD_store (d : Option Tmp) (t x y) (a : AAct) (s : Nat) : footD C me d (.store t x y) a s = ⟨some (objsE (a.eval x)), some (objsE (a.eval x)), [], false, false⟩ := rfl
@[go_sem] theorem footD_alloc (d : Option Tmp) (t) (a : AAct) (s : Nat) : footD C me d (.alloc t) a s = ⟨some [], some [], [s], false, false⟩ := rfl
@[go_sem] theorem footD_build (d : Option Tmp) (t n x) (a : AAct) (s : Nat) : footD C me d (.buildSlice t n x) a s = ⟨some [], some [], [s], false, false⟩ := rfl
@[go_sem] theorem footD_append (d : Option Tmp) (args ts) (a : AAct) (s : Nat) : footD C me d (.call ⟨.builtin .append, args, ts⟩) a s = ⟨some (objsL a args.toList), some (objs1 a args.toList), [s], false, false⟩ := by
  unfold footD footA bareO; simp only
  rw [objsL_eq]
  cases args.toList <;> rfl
@[go_sem] theorem idleFoot_len (d : Option Tmp) (args ts) (a : AAct) (s : Nat) : idleFoot C me (bareO d (.call ⟨.builtin .len, args, ts⟩)) a s = ⟨some (objsL a args.toList), some [], [], false, false⟩ := by
  unfold idleFoot footA bareO; simp only
  rw [objsL_eq]
@[go_sem] theorem idleFoot_min (d : Option Tmp) (args ts) (a : AAct) (s : Nat) : idleFoot C me (bareO d (.call ⟨.builtin .min, args, ts⟩)) a s = ⟨some [], some [], [], false, false⟩ := rfl
@[go_sem] theorem idleFoot_call (d : Option Tmp) (g args ts) (a : AAct) (s : Nat) : idleFoot C me (bareO d (.call ⟨.value g, args, ts⟩)) a s = ⟨some [], some [], [], false, false⟩ := rfl
@[go_sem] theorem okFootT_mk (b : Nat) (w l : List Nat) (x : Option (List Nat)) (f : List Nat) (p g : Bool) : okFootT b w ⟨some l, x, f, p, g⟩ = l.all fun c => ltB c b || w.any fun k => c == b + k := rfl
@[go_sem] theorem freeT_nil (feet : List Foot) (ft : Foot) : freeT feet [] ft = true := rfl
@[go_sem] theorem freeT_cons (feet : List Foot) (k : Nat) (u : List Nat) (ft : Foot) : freeT feet (k :: u) ft = (frOne (feet[k]?) ft && freeT feet u ft) := rfl
def meetL (l : List Nat) (m : List Nat) : Bool := l.any fun x => m.any fun y => x == y
@[go_sem] theorem meetL_nil (m : List Nat) : meetL [] m = false := rfl
@[go_sem] theorem meetL_nilr (l : List Nat) : meetL l [] = false := by unfold meetL; induction l <;> simp_all
theorem meet_L : ∀ l m : List Nat, meet (some l) (some m) = meetL l m
  | [], _ => rfl
  | x :: l, [] => by rw [meetL_nilr]; rfl
  | x :: l, y :: m => by
    show ((x :: l).any (y :: m).contains) = _
    unfold meetL
    congr 1
    funext z
    exact List.contains_eq_any_beq
@[go_sem] theorem frOne_mk (r w f : List Nat) (p : Bool) (r' w' f' : List Nat) (p' : Bool) : frOne (some ⟨some r, some w, f, p, false⟩) ⟨some r', some w', f', p', false⟩ = !(meetL w r' || meetL w w' || meetL r w' || meetL f r' || meetL f w') := by
  unfold frOne clash
  simp only [meet_L, Bool.false_and, Bool.or_false]
@[go_sem] theorem meetL_one (x y : Nat) : meetL [x] [y] = (x == y) := by simp [meetL]
@[go_sem] theorem ltB_zero (n : Nat) : ltB 0 (n + 1) = true := by simp [ltB]
@[go_sem] theorem ltB_succ (a n : Nat) : ltB (a + 1) (n + 1) = ltB a n := by simp [ltB]
@[go_sem] theorem tail_tab (x : List Nat × List Nat × Bool) (tb : Tab) : (x :: tb).tail = tb := rfl
@[go_sem ↓] theorem effO_call (top : Nat) (d : Option Tmp) (g args ts) (a : AAct) (G : Heap) (cont : AV → Heap → Prop) : effO C me base top (bareO d (.call ⟨.value g, args, ts⟩)) a G cont = bindO (evals a args.toList) fun l => bindO (a.eval g) fun v => effV C me base top d v l G cont := rfl
@[go_sem ↓] theorem stillO_call (top : Nat) (vl : List Nat) (d : Option Tmp) (g args ts) (a : AAct) (G : Heap) (cont : AV → Heap → Prop) : stillO C me base top vl (bareO d (.call ⟨.value g, args, ts⟩)) a G cont = bindO (evals a args.toList) fun l => bindO (a.eval g) fun v => stillV C me base top vl d v l G cont := rfl
@[congr] theorem stillV_congr {top : Nat} {vl : List Nat} {d : Option Tmp} {v v' : AV} {l l' : List AV} {G G' : Heap} {cont : AV → Heap → Prop} (hv : v = v') (hl : l = l') (hG : G = G') : stillV C me base top vl d v l G cont = stillV C me base top vl d v' l' G' cont := by rw [hv, hl, hG]
@[go_sem] theorem frOne_stillr (r w f : List Nat) (p : Bool) : frOne (some ⟨some r, some w, f, p, false⟩) stillFoot = (w.isEmpty && f.isEmpty) := by
  unfold frOne clash stillFoot
  cases w <;> cases f <;> cases r <;> simp [meet]
@[congr] theorem effV_congr {top : Nat} {d : Option Tmp} {v v' : AV} {l l' : List AV} {G G' : Heap} {cont : AV → Heap → Prop} (hv : v = v') (hl : l = l') (hG : G = G') : effV C me base top d v l G cont = effV C me base top d v' l' G' cont := by rw [hv, hl, hG]
end eqs
end
end Go.Ev
/- Appending; memory that is not known, with a list behind it that is. -/
namespace Go.Ev
section
variable {P : Program}
/-- n elements more -/
def appTo (e sz by' : Nat) (H : Heap) (slot n : Nat) (new : List AV) (s : AV) : Option (AV × Heap) :=
  match s with
  | .v (.slice none 0 0) => if n = 0 then some (s, H) else (if fitsA by' n && ([] : List AV).all AV.flat then some (.sl slot 0 0 n none, H.put slot (.cells 0 (Nat.max (boundL []) (boundL new)) e sz true ([] ++ new))) else none)
  | .vs z xs cap =>
    if z ≠ sz then none else
    if n = 0 then some (s, H) else
    match cap with
    | some c => if c = xs.length then (if fitsA by' (xs.length + n) && (xs.flatMap AV.cells).all AV.flat then some (.sl slot 0 0 (xs.length + n) none, H.put slot (.cells 0 (Nat.max (boundL (xs.flatMap AV.cells)) (boundL new)) e sz true (xs.flatMap AV.cells ++ new))) else none) else none
    | none => none
  | .sl b v off len cap =>
    if n = 0 then some (s, H) else
    match H.row b v with
    | some (m, _, z, g, cs) =>
      match cap with
      | some c =>
        if len + n ≤ c then
          (match storeCells H b v (off + len * sz) new with | some H' => some (.sl b v off (len + n) cap, H') | none => none)
        else if off + len * sz ≤ cs.length then (if fitsA by' (len + n) && ((cs.drop off).take (len * sz)).all AV.flat then some (.sl slot 0 0 (len + n) none, H.put slot (.cells 0 (Nat.max (boundL ((cs.drop off).take (len * sz))) (boundL new)) e sz true ((cs.drop off).take (len * sz) ++ new))) else none) else none
      | none =>
        if z ≠ sz then none else
        if off + (len + n) * sz ≤ cs.length then
          (match storeCells H b v (off + len * sz) new with | some H' => some (.sl b v off (len + n) cap, H') | none => none)
        else if g = true ∧ off + len * sz = cs.length ∧ H.lock ≤ b ∧ fitsA by' (len + n) = true then
          some (.sl b (v + 1) 0 (len + n) none, H.put b (.cells (v + 1) (Nat.max m (boundL new)) e sz true (cs.drop off ++ new)))
        else none
    | _ => none
  | _ => none
theorem appTo_eq (e : TypeId) (i : TypeInfo) (H : Heap) (slot n : Nat) (new : List AV) (s : AV) : appendTo H slot e i n new s = appTo e i.size i.bytes H slot n new s := by
  unfold appendTo appTo madeA
  rfl
def appG (e sz by' : Nat) (H : Heap) (slot : Nat) (s : AV) (c : Option (Nat × List AV)) : Option (AV × Heap) :=
  match c with
  | none => none
  | some (n, new) => if new.all AV.flat = false then none else appTo e sz by' H slot n new s
theorem app_eq {t u e : TypeId} {i : TypeInfo} {z : AV} (hi : isIntT P u = false) (hu : P.underlying t = some (.slice e)) (hinf : P.info? e = some i) (hz : zeroT P e = some z) (h1 : i.size ≠ 0) (h2 : i.bytes ≠ 0) (h3 : z.cells.length = i.size) (H : Heap) (slot : Nat) (s x : AV) :
    appendA P H slot [t, u] [s, x] = appG e i.size i.bytes H slot s (cellsFrom H i.size x) := by
  unfold appendA appG
  simp only [hi, hu, hinf, hz, Bool.false_eq_true, if_false]
  cases cellsFrom H i.size x with
  | none => rfl
  | some p =>
    simp only
    by_cases hf : p.2.all AV.flat = false
    · rw [if_pos (Or.inr (Or.inr (Or.inl hf))), if_pos hf]
    · rw [if_neg (by rintro (h | h | h | h); exact h1 h; exact h2 h; exact hf h; exact h h3), if_neg hf, appTo_eq]
theorem app_eq2 {t u e sz by' : Nat} (hi : isIntT P u = false) (hu : P.underlying t = some (.slice e)) (hinf : (P.info? e).map (fun i => (i.size, i.bytes)) = some (sz, by')) (hz : (zeroT P e).map (fun z => z.cells.length) = some sz) (h1 : sz ≠ 0) (h2 : by' ≠ 0) (H : Heap) (slot : Nat) (s x : AV) :
    appendA P H slot [t, u] [s, x] = appG e sz by' H slot s (cellsFrom H sz x) := by
  obtain ⟨i, hi1, hi2⟩ := Option.map_eq_some_iff.1 hinf
  obtain ⟨z, hz1, hz2⟩ := Option.map_eq_some_iff.1 hz
  simp only [Prod.mk.injEq] at hi2
  obtain ⟨rfl, rfl⟩ := hi2
  exact app_eq hi hu hi1 hz1 h1 h2 hz2 H slot s x
end
@[go_sem] theorem appG_some (e sz b : Nat) (H : Heap) (slot : Nat) (s : AV) (n : Nat) (new : List AV) : appG e sz b H slot s (some (n, new)) = if new.all AV.flat = false then none else appTo e sz b H slot n new s := rfl
@[go_sem] theorem cells_vs' (H : Heap) (sz z : Nat) (xs : List AV) (c : Option Nat) : cellsFrom H sz (.vs z xs c) = if z = sz then some (xs.length, xs.flatMap AV.cells) else none := rfl
@[go_sem] theorem cells_nil (H : Heap) (sz : Nat) : cellsFrom H sz (.v (.slice none 0 0)) = some (0, []) := rfl
def rowCells (off len sz : Nat) (r : Option (Nat × TypeId × Nat × Bool × List AV)) : Option (Nat × List AV) := match r with | some (_, _, _, _, cs) => if off + len * sz ≤ cs.length then some (len, (cs.drop off).take (len * sz)) else none | _ => none
@[go_sem] theorem cells_sl' (H : Heap) (sz b v off len : Nat) (c : Option Nat) : cellsFrom H sz (.sl b v off len c) = rowCells off len sz (H.row b v) := rfl
@[go_sem] theorem rowCells_some (off len sz m e z : Nat) (g : Bool) (cs : List AV) : rowCells off len sz (some (m, e, z, g, cs)) = if off + len * sz ≤ cs.length then some (len, (cs.drop off).take (len * sz)) else none := rfl
/-- to nothing: a row of its own -/
@[go_sem] theorem appTo_nil (e sz b : Nat) (H : Heap) (slot n : Nat) (new : List AV) : appTo e sz b H slot n new (.v (.slice none 0 0)) = if n = 0 then some (.v (.slice none 0 0), H) else if fitsA b n = true then some (.sl slot 0 0 n none, H.put slot (.cells 0 (boundL new) e sz true new)) else none := by
  unfold appTo
  simp only [List.all_nil, Bool.and_true, List.nil_append]
  rw [show Nat.max (boundL []) (boundL new) = boundL new from Nat.zero_max (boundL new)]
theorem appTo_own {e sz b' : Nat} {H : Heap} {slot b v len n : Nat} {new : List AV} {m e' : Nat} {cs : List AV} (hr : H.row b v = some (m, e', sz, true, cs)) (hl : len * sz = cs.length) (hk : H.lock ≤ b) (hf : fitsA b' (len + n) = true) (hn : 0 < n) (hs : 0 < sz) :
    appTo e sz b' H slot n new (.sl b v 0 len none) = some (.sl b (v + 1) 0 (len + n) none, H.put b (.cells (v + 1) (Nat.max m (boundL new)) e sz true (cs ++ new))) := by
  unfold appTo
  simp only [hr]
  rw [if_neg (by omega), if_neg (by simp), if_neg, if_pos ⟨trivial, by simpa using hl, hk, hf⟩]
  · rfl
  · have : (len + n) * sz = len * sz + n * sz := Nat.add_mul ..
    have h2 : 0 < n * sz := Nat.mul_pos hn hs
    omega
theorem appTo_none {e sz b' : Nat} {H : Heap} {slot : Nat} {new : List AV} {b v off len : Nat} {c : Option Nat} : appTo e sz b' H slot 0 new (.sl b v off len c) = some (.sl b v off len c, H) := by
  unfold appTo; rfl
/-! ### memory that is not known, with a list behind it -/
@[go_sem] theorem plus_mk (l : List (Option AObj)) (k : Nat) (E : List (Option AObj)) : (Heap.mk l k).plus E = ⟨l ++ E, k⟩ := rfl
@[go_sem] theorem plus_plus' (X : Heap) (E F : List (Option AObj)) : (X.plus E).plus F = X.plus (E ++ F) := plus_plus X E F
section
variable {X : Heap} {N : Nat}
theorem rowP (hN : X.size = N) (E : List (Option AObj)) (k v : Nat) : (X.plus E).row (N + k) v = objRow v ((E[k]?).join) := by
  subst hN
  unfold Heap.row objRow
  rw [plus_get_hi _ (by omega), Nat.add_sub_cancel_left]
  cases (E[k]?).join with
  | none => rfl
  | some o => cases o <;> rfl
theorem rowP0 (hN : X.size = N) (E : List (Option AObj)) (v : Nat) : (X.plus E).row N v = objRow v ((E[0]?).join) := rowP hN E 0 v
theorem putP (hN : X.size = N) (E : List (Option AObj)) (k : Nat) (o : AObj) : (X.plus E).put (N + k) o = X.plus (setOrPush (some o) k E) := by
  subst hN
  rw [plus_put_hi _ _ (by omega), Nat.add_sub_cancel_left]
theorem putP0 (hN : X.size = N) (E : List (Option AObj)) (o : AObj) : (X.plus E).put N o = X.plus (setOrPush (some o) 0 E) := putP hN E 0 o
def stP (X : Heap) (E : List (Option AObj)) (k v off : Nat) (xs : List AV) (o : Option AObj) : Option Heap :=
  match o with
  | some (.cells w m e sz g cs) => if w = v ∧ off + xs.length ≤ cs.length ∧ xs.all AV.flat = true then some (X.plus (setOrPush (some (.cells w (Nat.max m (boundL xs)) e sz g (splice off xs cs))) k E)) else none
  | _ => none
@[go_sem] theorem stP_cells (X : Heap) (E : List (Option AObj)) (k v off : Nat) (xs : List AV) (w m e sz g) (cs : List AV) : stP X E k v off xs (some (.cells w m e sz g cs)) = if w = v ∧ off + xs.length ≤ cs.length ∧ xs.all AV.flat = true then some (X.plus (setOrPush (some (.cells w (Nat.max m (boundL xs)) e sz g (splice off xs cs))) k E)) else none := rfl
theorem storeP (hN : X.size = N) (hl : X.lock ≤ N) (E : List (Option AObj)) (k v off : Nat) (xs : List AV) : storeCells (X.plus E) (N + k) v off xs = stP X E k v off xs ((E[k]?).join) := by
  unfold storeCells
  rw [rowP hN]
  unfold objRow stP
  have hk : (X.plus E).lock ≤ N + k := by rw [plus_lock]; omega
  cases (E[k]?).join with
  | none => rfl
  | some o =>
    cases o with
    | cells w m e sz g cs =>
      simp only
      by_cases hw : w = v
      · subst hw
        simp only [if_true, true_and, hk, putP hN]
      · simp only [hw, if_false, false_and]
    | _ => rfl
theorem storeP0 (hN : X.size = N) (hl : X.lock ≤ N) (E : List (Option AObj)) (v off : Nat) (xs : List AV) : storeCells (X.plus E) N v off xs = stP X E 0 v off xs ((E[0]?).join) := storeP hN hl E 0 v off xs
theorem sizeP (hN : X.size = N) (E : List (Option AObj)) : (X.plus E).size = N + E.length := by rw [plus_size, hN]
theorem settleP (hN : X.size = N) (E : List (Option AObj)) (k : Nat) : settleH (N + k) (X.plus E) = if (E.drop k).all Option.isNone = true then X.plus (E.take k) else X.plus E := by
  subst hN
  unfold settleH Heap.plus Heap.size
  simp only
  rw [List.drop_append, List.drop_of_length_le (by omega), List.nil_append, Nat.add_sub_cancel_left]
  by_cases h : (E.drop k).all Option.isNone = true
  · rw [if_pos h, if_pos h, List.take_append, List.take_of_length_le (by omega), Nat.add_sub_cancel_left]
  · rw [if_neg h, if_neg h]
theorem settleP0 (hN : X.size = N) (E : List (Option AObj)) : settleH N (X.plus E) = if (E.drop 0).all Option.isNone = true then X.plus (E.take 0) else X.plus E := settleP hN E 0
theorem rowLo {b : Nat} (hb : b < X.size) (E : List (Option AObj)) (v : Nat) : (X.plus E).row b v = X.row b v := plus_row E hb
theorem putLo {b : Nat} (hb : b < X.size) (E : List (Option AObj)) (o : AObj) : (X.plus E).put b o = (X.put b o).plus E := plus_put E o hb
end
section
variable {C : Cfg} {me : FuncId} {rd : Option Nat}
theorem wp_drawX {id : Nat} {ops : Array Oper} {a : AAct} {H : Heap} {K : Post} (tb : Tab) (hok : drawOk ops = true) (htb : tabOk ops.toList (waitsAll ops.toList) tb = true)
    (h : drawP C me ops H.size tb ops.toList 0 [] a (H.plus (List.replicate ops.toList.length none)) (setK C me H.size K)) : Wp C me rd (.region id ops true) a H K := wp_drawD tb hok htb h
end
end Go.Ev
/- Structs that are compared. -/
namespace Go.Ev
section
variable {P : Program}
theorem rp_bind {α β : Type} : ∀ (s : Sem α) (f : α → Sem β), runPure P (s >>= f) = (runPure P s).bind fun x => runPure P (f x) := by
  intro s f
  show runPure P (s.bind f) = _
  induction s with
  | pure a => rfl
  | program k ih => exact ih P
  | mark m k ih => exact ih
  | _ => rfl
theorem rp_pure {α : Type} (x : α) : runPure P (pure x : Sem α) = some x := rfl
theorem rp_program : runPure P program = some P := rfl
theorem rp_underlying {t : TypeId} {d : TypeDesc} (h : P.underlying t = some d) : runPure P (underlying t) = some d := by
  unfold underlying
  rw [rp_bind, rp_program, Option.bind_some, h]; rfl
theorem rp_ite {α : Type} (c : Prop) [Decidable c] (x y : Sem α) : runPure P (if c then x else y) = if c then runPure P x else runPure P y := by split <;> rfl
theorem rp_struct {t : TypeId} {fs : Array Field} (hu : P.underlying t = some (.struct fs)) (hst : P.stoodInHeld t = false) (xs ys : Array Value) (d : Nat) : runPure P (Op.equalIn (d + 1) t (.agg xs) (.agg ys)) = runPure P (Op.eqFields d xs ys fs.toList) := by
  unfold Op.equalIn
  simp only [rp_bind, rp_underlying hu, Option.bind_some, rp_program, hst]
  simp only [Bool.false_eq_true, if_false, rp_bind]
  rw [← Array.forIn_toList]
  induction fs.toList with
  | nil => simp [Op.eqFields, rp_pure]
  | cons f r ih =>
    simp only [List.forIn_cons, Op.eqFields, rp_bind, rp_ite]
    split
    · cases runPure P (part f.type xs f.offset) with
      | none => rfl
      | some a =>
        simp only [Option.bind_some]
        cases runPure P (part f.type ys f.offset) with
        | none => rfl
        | some b =>
          simp only [Option.bind_some]
          cases runPure P (Op.equalIn d f.type a b) with
          | none => rfl
          | some r =>
            cases r
            · simp only [Option.bind_some, Bool.not_false, if_true, rp_pure]
            · simp only [Option.bind_some, Bool.not_true, Bool.false_eq_true, if_false, rp_pure]
              exact ih
    · simp only [rp_pure, Option.bind_some]
      exact ih
theorem rp_int {t : TypeId} {k' : IntKind} (hu : P.underlying t = some (.int k')) (k : IntKind) (a b : Int) (d : Nat) : runPure P (Op.equalIn (d + 1) t (.int k a) (.int k b)) = some (decide (a = b)) := by
  unfold Op.equalIn
  simp only [rp_bind, rp_underlying hu, Option.bind_some, if_true]
  have : (a == b) = decide (a = b) := rfl
  rw [this]; rfl
theorem rp_bool {t : TypeId} (hu : P.underlying t = some .bool) (a b : Bool) (d : Nat) : runPure P (Op.equalIn (d + 1) t (.bool a) (.bool b)) = some (a == b) := by
  unfold Op.equalIn
  simp only [rp_bind, rp_underlying hu, Option.bind_some]
  rfl
theorem beqB (a b : ByteArray) : (a == b) = decide (a = b) := by
  obtain ⟨⟨x⟩⟩ := a
  obtain ⟨⟨y⟩⟩ := b
  show ((⟨x⟩ : Array UInt8) == ⟨y⟩) = _
  by_cases h : x = y
  · subst h; simp
  · simp [h]
theorem rp_string {t : TypeId} (hu : P.underlying t = some .string) (a b : ByteArray) (d : Nat) : runPure P (Op.equalIn (d + 1) t (.string a) (.string b)) = some (decide (a = b)) := by
  unfold Op.equalIn
  simp only [rp_bind, rp_underlying hu, Option.bind_some]
  rw [beqB]; rfl
/-! ### of cells that stand for themselves -/
def eqCell : Value → Value → Bool
  | .int _ m, .int _ n => decide (m = n)
  | .string a, .string b => decide (a = b)
  | .bool a, .bool b => a == b
  | _, _ => false
def eqCells : List Value → List Value → Bool
  | [], [] => true
  | x :: r, y :: s => eqCell x y && eqCells r s
  | _, _ => false
theorem eqCells_append : ∀ (a b c d : List Value), a.length = b.length → eqCells (a ++ c) (b ++ d) = (eqCells a b && eqCells c d)
  | [], [], c, d, _ => by simp [eqCells]
  | [], _ :: _, c, d, h => by simp at h
  | _ :: _, [], c, d, h => by simp at h
  | x :: a, y :: b, c, d, h => by simp only [List.cons_append, eqCells, eqCells_append a b c d (by simpa using h), Bool.and_assoc]
/-- the fields lie one behind the other, from k on up to the end -/
def tiledE (P : Program) : Nat → List Field → Nat → Bool
  | k, [], e => k == e
  | k, f :: r, e => f.offset == k && f.name != "_" && tiledE P (k + P.cellsOf f.type) r e
/-- cells that a comparison of this type takes -/
def eqOk (P : Program) : Nat → TypeId → List Value → List Value → Bool
  | 0, _, _, _ => false
  | n + 1, t, us, ws => (P.info? t).isSome &&
    match P.underlying t with
    | some .bool => match us, ws with | [.bool _], [.bool _] => true | _, _ => false
    | some (.int _) => match us, ws with | [.int k _], [.int k' _] => decide (k = k') | _, _ => false
    | some .string => match us, ws with | [.string _], [.string _] => true | _, _ => false
    | some (.struct fs) => !P.stoodInHeld t && tiledE P 0 fs.toList us.length && us.length == ws.length && P.cellsOf t == us.length && fs.toList.all fun f => eqOk P n f.type ((us.drop f.offset).take (P.cellsOf f.type)) ((ws.drop f.offset).take (P.cellsOf f.type))
    | _ => false
def isStr (P : Program) (t : TypeId) : Bool := match P.underlying t with | some (.struct _) => true | _ => false
def valOf (P : Program) (t : TypeId) (us : List Value) : Value := if isStr P t then .agg us.toArray else us.headD (.bool false)
theorem rp_info {t : TypeId} {i : TypeInfo} (h : P.info? t = some i) : runPure P (typeInfo t) = some i := by
  unfold typeInfo
  rw [rp_bind, rp_program, Option.bind_some, h]; rfl
theorem rp_isAgg {t : TypeId} {d : TypeDesc} (h : P.underlying t = some d) : runPure P (isAgg t) = some (match d with | .struct _ | .array _ _ => true | _ => false) := by
  unfold isAgg
  rw [rp_bind, rp_underlying h, Option.bind_some]
  cases d <;> rfl
theorem rp_part_one {t : TypeId} {d : TypeDesc} (hu : P.underlying t = some d) (hd : (match d with | .struct _ | .array _ _ => true | _ => false) = false) {xs : List Value} {k c : Nat} {u : Value} (hx : (xs.drop k).take c = [u]) : runPure P (part t xs.toArray k) = some u := by
  unfold part
  rw [rp_bind, rp_isAgg hu, Option.bind_some, hd]
  have h0 : xs.toArray[k]? = some u := Go.getElem?_of_chunk (c := c) (by simpa using hx)
  simp only [Bool.false_eq_true, if_false, h0]
  rfl
theorem rp_part_agg {t : TypeId} {fs : Array Field} (hu : P.underlying t = some (.struct fs)) {i : TypeInfo} (hi : P.info? t = some i) (xs : List Value) (k : Nat) : runPure P (part t xs.toArray k) = some (.agg ((xs.drop k).take (P.cellsOf t)).toArray) := by
  unfold part
  rw [rp_bind, rp_isAgg hu, Option.bind_some]
  simp only [if_true]
  unfold sizeOf
  simp only [rp_bind, rp_info hi, Option.bind_some, rp_pure]
  unfold Program.cellsOf
  rw [hi]
  simp [List.extract_toArray]
theorem eqOk_len {n t : Nat} {us ws : List Value} (h : eqOk P n t us ws = true) : us.length = ws.length := by
  cases n with
  | zero => cases h
  | succ n =>
    unfold eqOk at h
    simp only [Bool.and_eq_true] at h
    replace h := h.2
    split at h
    · split at h <;> first | rfl | cases h
    · split at h <;> first | rfl | cases h
    · split at h <;> first | rfl | cases h
    · simp only [Bool.and_eq_true, beq_iff_eq] at h; exact h.1.1.2
    · cases h
theorem rp_eq : ∀ (n : Nat) (t : TypeId) (us ws : List Value), eqOk P n t us ws = true → ∀ K, n ≤ K → (∀ (xs : List Value) (k : Nat), (xs.drop k).take (P.cellsOf t) = us → runPure P (part t xs.toArray k) = some (valOf P t us)) ∧ (∀ (xs : List Value) (k : Nat), (xs.drop k).take (P.cellsOf t) = ws → runPure P (part t xs.toArray k) = some (valOf P t ws)) ∧ runPure P (Op.equalIn K t (valOf P t us) (valOf P t ws)) = some (eqCells us ws)
  | 0, _, _, _, h, _, _ => by cases h
  | n + 1, t, us, ws, h, 0, hK => by omega
  | n + 1, t, us, ws, h, K + 1, hK => by
    unfold eqOk at h
    simp only [Bool.and_eq_true] at h
    obtain ⟨hi, h⟩ := h
    obtain ⟨i, hi⟩ := Option.isSome_iff_exists.1 hi
    cases hu : P.underlying t with
    | none => rw [hu] at h; cases h
    | some d =>
      rw [hu] at h
      have hv : ∀ l, valOf P t l = if (match d with | .struct _ => true | _ => false) then .agg l.toArray else l.headD (.bool false) := by
        intro l; unfold valOf isStr; rw [hu]; cases d <;> rfl
      cases d <;> try (cases h; done)
      case bool =>
        simp only at h
        split at h
        · rw [hv, hv]
          exact ⟨fun xs k hx => rp_part_one hu rfl hx, fun xs k hx => rp_part_one hu rfl hx, (rp_bool hu _ _ K).trans (congrArg some (Bool.and_true _).symm)⟩
        · cases h
      case int =>
        simp only at h
        split at h
        · rename_i k a k' b
          simp only [decide_eq_true_eq] at h
          subst h
          rw [hv, hv]
          exact ⟨fun xs k hx => rp_part_one hu rfl hx, fun xs k hx => rp_part_one hu rfl hx, (rp_int hu _ _ _ K).trans (congrArg some (Bool.and_true _).symm)⟩
        · cases h
      case string =>
        simp only at h
        split at h
        · rw [hv, hv]
          exact ⟨fun xs k hx => rp_part_one hu rfl hx, fun xs k hx => rp_part_one hu rfl hx, (rp_string hu _ _ K).trans (congrArg some (Bool.and_true _).symm)⟩
        · cases h
      case struct fs =>
        simp only [Bool.and_eq_true, Bool.not_eq_true', beq_iff_eq] at h
        obtain ⟨⟨⟨⟨hst, htl⟩, hlen⟩, hc⟩, hall⟩ := h
        rw [hv, hv]
        simp only [if_true]
        refine ⟨fun xs k hx => by rw [rp_part_agg hu hi, hx], fun xs k hx => by rw [rp_part_agg hu hi, hx], ?_⟩
        rw [rp_struct hu hst]
        have hall' : ∀ f ∈ fs.toList, eqOk P n f.type ((us.drop f.offset).take (P.cellsOf f.type)) ((ws.drop f.offset).take (P.cellsOf f.type)) = true := fun f hf => List.all_eq_true.1 hall f (by simpa using hf)
        have key : ∀ (l : List Field) (k : Nat), (∀ f ∈ l, f ∈ fs.toList) → tiledE P k l us.length = true → runPure P (Op.eqFields K us.toArray ws.toArray l) = some (eqCells (us.drop k) (ws.drop k)) := by
          intro l
          induction l with
          | nil =>
            intro k _ ht
            have : k = us.length := by unfold tiledE at ht; simpa using ht
            subst this
            rw [List.drop_of_length_le (Nat.le_refl _), List.drop_of_length_le (by omega)]
            rfl
          | cons f r ih =>
            intro k hm ht
            unfold tiledE at ht
            simp only [Bool.and_eq_true, beq_iff_eq, bne_iff_ne, ne_eq] at ht
            obtain ⟨⟨ho, hn⟩, ht⟩ := ht
            have hf := hall' f (hm f List.mem_cons_self)
            obtain ⟨h1, h2, h3⟩ := rp_eq n f.type _ _ hf K (by omega)
            have ihr := ih (k + P.cellsOf f.type) (fun g hg => hm g (List.mem_cons_of_mem _ hg)) ht
            unfold Op.eqFields
            rw [if_pos (by simpa using hn)]
            simp only [rp_bind, rp_ite]
            rw [h1 us f.offset rfl, h2 ws f.offset rfl]
            simp only [Option.bind_some, h3, rp_pure, ihr]
            rw [ho]
            have hl := eqOk_len hf
            rw [ho] at hl
            have e1 : us.drop k = (us.drop k).take (P.cellsOf f.type) ++ us.drop (k + P.cellsOf f.type) := by
              rw [← List.drop_drop, List.take_append_drop]
            have e2 : ws.drop k = (ws.drop k).take (P.cellsOf f.type) ++ ws.drop (k + P.cellsOf f.type) := by
              rw [← List.drop_drop, List.take_append_drop]
            have e3 := eqCells_append _ _ (us.drop (k + P.cellsOf f.type)) (ws.drop (k + P.cellsOf f.type)) hl
            rw [← e1, ← e2] at e3
            rw [e3]
            cases eqCells ((us.drop k).take (P.cellsOf f.type)) ((ws.drop k).take (P.cellsOf f.type)) <;> rfl
        have := key fs.toList 0 (fun _ h => h) htl
        simpa using this
/-- structs of plain cells, compared -/
theorem bin_struct {t : TypeId} {us ws : List Value} {n : Nat} (hok : eqOk P n t us ws = true) (hn : n ≤ 10000) (hs : isStr P t = true) (hg : P.eqGuardType P.depth t = false) (x y : Operand) :
    binA P .eql t x y (.agg (us.map .v)) (.agg (ws.map .v)) = some (.v (.bool (eqCells us ws))) ∧ binA P .neq t x y (.agg (us.map .v)) (.agg (ws.map .v)) = some (.v (.bool (!eqCells us ws))) := by
  have ha : ∀ l : List Value, toAtoms (l.map .v) = some l := by
    intro l; induction l with
    | nil => rfl
    | cons a r ih => simp only [List.map_cons, toAtoms, ih, Option.map_some]
  have hv : ∀ l : List Value, toValue (.agg (l.map .v)) = some (.agg l.toArray) := by
    intro l; simp only [toValue, ha, Option.map_some]
  have h := (rp_eq n t us ws hok 10000 hn).2.2
  have hvv : ∀ l, valOf P t l = .agg l.toArray := by intro l; unfold valOf; rw [hs]; rfl
  rw [hvv, hvv] at h
  have h' : runPure P (Op.equal t (.agg us.toArray) (.agg ws.toArray)) = some (eqCells us ws) := h
  constructor
  · unfold binA
    simp only [hv, isEq, hg, Bool.not_false, Bool.and_true, if_true]
    show atomA (runPure P (do pure (.bool (← Op.equal t (.agg us.toArray) (.agg ws.toArray))))) = _
    rw [rp_bind, h']; rfl
  · unfold binA
    simp only [hv, isEq, hg, Bool.not_false, Bool.and_true, if_true]
    show atomA (runPure P (do pure (.bool (!(← Op.equal t (.agg us.toArray) (.agg ws.toArray)))))) = _
    rw [rp_bind, h']; rfl
end
end Go.Ev
/- Ranges over functions whose bodies lay memory which stays. -/
namespace Go.Ev
section
variable {C : Cfg} {me : FuncId} {S : Type} {R : S → Fm → Prop} {stp : S → List AV → AExit × S} {lv : S → Prop} {ok : S → List AV → Prop} {n0 k d : Nat}
/-- what a body does -/
def bd2K (R : S → Fm → Prop) (d : Nat) (L' : ALoop) (m : Fm) (H : Heap) (p : AExit × S) : Post := fun e _ H' => e = p.1 ∧ ∃ m', R p.2 m' ∧ Has m' H' ∧ loopObj H' (d + 1) = some L' ∧ Moves ((d + 1, .loop L') :: m) H ((d + 1, .loop L') :: m') H'
/-- between what takes a thing over and the body -/
def as2K (C : Cfg) (me : FuncId) (R : S → Fm → Prop) (d : Nat) (body : Code) (L L' : ALoop) (m : Fm) (H : Heap) (p : AExit × S) : Post := fun e a H1 => e = .normal ∧ loopObj H1 (d + 1) = some L ∧ Wp C me (some (d + 1)) body a (H1.put (d + 1) (.loop L')) (bd2K R d L' m H p)
theorem loopObj_getI {H : Heap} {b : Nat} {L : ALoop} (h : loopObj H b = some L) : H.get b = some (.loop L) := by
  unfold loopObj at h
  split at h
  · rename_i l hl; cases h; exact hl
  · cases h
theorem get_loopObj {H : Heap} {b : Nat} {L : ALoop} (h : H.get b = some (.loop L)) : loopObj H b = some L := by
  unfold loopObj; rw [h]
def RR (R : S → Fm → Prop) (d : Nat) (L : LoopState → Option Code → ALoop) (q : S × AExit) (m' : Fm) : Prop := ∃ m, R q.1 m ∧ m' = (d, .dfr) :: (d + 1, .loop (L (stateOf q.2) (pend q.2))) :: m
theorem src2_range {sz : Nat} {ts : List (Tmp × AV)} {ps : Array Tmp} {asg body : Code} (hn0 : n0 ≤ d) (hk : k ≤ d)
    (hanch : ∀ s m, R s m → Anch n0 m) (hdm : ∀ s m, R s m → ¬ keyIn d m ∧ ¬ keyIn (d + 1) m)
    (hlv : ∀ s x, lv s → ok s x → (stp s x).1 = .normal → lv (stp s x).2)
    (hbody : ∀ (L L' : ALoop) s m x H, L'.dfr = d → lv s → ok s x → x.length = ps.size → R s m → Has m H → H.get d = some .dfr → loopObj H (d + 1) = some L → H.lock = k → d + 2 ≤ H.size →
      Wp C me (some (d + 1)) asg ⟨sz, setTmps sz ts (ps.toList.zip x), []⟩ H (as2K C me R d body L L' m H (stp s x))) :
    Src2 C (d + 1) (S × AExit) (RR R d (busyL me sz ts ps asg body d)) (fun q x => (isGo (stp q.1 x).1, ((stp q.1 x).2, (stp q.1 x).1))) (fun q x => ok q.1 x ∧ x.length = ps.size) (fun q => lv q.1 ∧ q.2 = .normal) (d + 2) k := by
  refine ⟨?_, by omega, fun q x hl ho hs => ?_, fun q m' x H hl ho hR hH hlk hsz => ?_⟩
  · rintro q m' ⟨m, hm, rfl⟩ n hn ⟨p, hp, hpn⟩
    have hpm : p ∈ m := by
      rcases List.mem_cons.1 hp with rfl | hp
      · simp only at hpn; omega
      · rcases List.mem_cons.1 hp with rfl | hp
        · simp only at hpn; omega
        · exact hp
    obtain ⟨q', hq, h1, h2⟩ := hanch _ m hm n (by omega) ⟨p, hpm, hpn⟩
    exact ⟨q', List.mem_cons_of_mem _ (List.mem_cons_of_mem _ hq), h1, h2⟩
  · obtain ⟨s, e⟩ := q
    simp only at hl hs ⊢
    have he : (stp s x).1 = .normal := by
      cases h : (stp s x).1 <;> rw [h] at hs <;> first | rfl | cases hs
    exact ⟨hlv s x hl.1 ho.1 he, he⟩
  · obtain ⟨s, e⟩ := q
    obtain ⟨hl1, rfl⟩ := hl
    obtain ⟨m, hm, rfl⟩ := hR
    simp only at hm ⊢
    have h0 : H.get d = some .dfr := hH (d, .dfr) (by simp)
    have h1 : H.get (d + 1) = some (.loop (busyL me sz ts ps asg body d (stateOf .normal) (pend .normal))) := hH (d + 1, _) (by simp)
    have hmH : Has m H := fun p hp => hH p (List.mem_cons_of_mem _ (List.mem_cons_of_mem _ hp))
    have key := round_step (C := C) (l := d + 1) (args := x) (H := H) (r := busyL me sz ts ps asg body d .ready none) (K := fun b H' => b = isGo (stp s x).1 ∧ ∃ m', RR R d (busyL me sz ts ps asg body d) ((stp s x).2, (stp s x).1) m' ∧ Has m' H' ∧ Moves ((d, .dfr) :: (d + 1, .loop (busyL me sz ts ps asg body d (stateOf .normal) (pend .normal))) :: m) H m' H') (get_loopObj h1) ho.2 (by omega) ?_
    · obtain ⟨b, H', h2, rfl, m', h3, h4, h5⟩ := key
      exact ⟨H', m', h2, h3, h4, h5⟩
    · refine Wp_mono (hbody (busyL me sz ts ps asg body d .ready none) (busyL me sz ts ps asg body d .busy none) s m x H rfl hl1 ho.1 ho.2 hm hmH h0 (get_loopObj h1) hlk hsz) ?_
      rintro e0 a0 H0 ⟨rfl, hL0, hb0⟩
      refine asgK_mk (r1 := busyL me sz ts ps asg body d .ready none) hL0 rfl ?_
      refine Wp_mono hb0 ?_
      rintro e1 a1 H1 ⟨rfl, m', hm', hH1, hL1, hmv⟩
      refine bodyK_mk (r3 := busyL me sz ts ps asg body d .busy none) (j := pend (stp s x).1) hL1 (jumpOf_pend _) ⟨pend_none _, ?_⟩
      have e1 : ({ busyL me sz ts ps asg body d .busy none with state := if (pend (stp s x).1).isNone then .ready else .done, pending := pend (stp s x).1 } : ALoop) = busyL me sz ts ps asg body d (stateOf (stp s x).1) (pend (stp s x).1) := rfl
      rw [e1]
      generalize hLf : busyL me sz ts ps asg body d (stateOf (stp s x).1) (pend (stp s x).1) = Lf
      have hd1 : d + 1 < H1.size := get_ltS (loopObj_getI hL1)
      have hd0 : H1.get d = some .dfr := by
        rw [hmv.same d (by omega) ?_, h0]
        rintro ⟨p, hp, he⟩
        rcases List.mem_cons.1 hp with rfl | hp
        · simp only at he; omega
        · exact (hdm _ _ hm).1 ⟨p, hp, he⟩
      have hR' : RR R d (busyL me sz ts ps asg body d) ((stp s x).2, (stp s x).1) ((d, .dfr) :: (d + 1, .loop Lf) :: m') := ⟨m', hm', by rw [← hLf]⟩
      have hH2 : Has ((d, .dfr) :: (d + 1, .loop Lf) :: m') (H1.put (d + 1) (.loop Lf)) := by
        intro p hp
        rcases List.mem_cons.1 hp with rfl | hp
        · simp only; rw [put_get_ne _ (by omega) (by omega)]; exact hd0
        · rcases List.mem_cons.1 hp with rfl | hp
          · simp only; exact put_get_eq _ (by omega)
          · rw [put_get_ne _ (by omega) (fun e => (hdm _ _ hm').2 ⟨p, hp, e⟩)]; exact hH1 p hp
      have hmv2 : Moves ((d, .dfr) :: (d + 1, .loop (busyL me sz ts ps asg body d (stateOf .normal) (pend .normal))) :: m) H ((d, .dfr) :: (d + 1, .loop Lf) :: m') (H1.put (d + 1) (.loop Lf)) := by
        refine ⟨hmv.lock, by rw [put_sizeI _ hd1]; exact hmv.size, fun b hb hnb => ?_, fun p hp => ?_⟩
        · have hb1 : b ≠ d + 1 := fun e => hnb ⟨(d + 1, .loop (busyL me sz ts ps asg body d (stateOf .normal) (pend .normal))), List.mem_cons_of_mem _ List.mem_cons_self, e.symm⟩
          rw [put_get_ne _ (by omega) hb1]
          refine hmv.same b hb ?_
          rintro ⟨p, hp, he⟩
          rcases List.mem_cons.1 hp with rfl | hp
          · exact hb1 he.symm
          · exact hnb ⟨p, List.mem_cons_of_mem _ (List.mem_cons_of_mem _ hp), he⟩
        · rcases List.mem_cons.1 hp with rfl | hp
          · exact Or.inl ⟨(d, .dfr), by simp, rfl⟩
          · rcases List.mem_cons.1 hp with rfl | hp
            · exact Or.inl ⟨(d + 1, .loop (busyL me sz ts ps asg body d (stateOf .normal) (pend .normal))), List.mem_cons_of_mem _ List.mem_cons_self, rfl⟩
            · rcases hmv.keys p (List.mem_cons_of_mem _ hp) with ⟨q, hq, he⟩ | h
              · rcases List.mem_cons.1 hq with rfl | hq
                · exact Or.inl ⟨(d + 1, .loop (busyL me sz ts ps asg body d (stateOf .normal) (pend .normal))), List.mem_cons_of_mem _ List.mem_cons_self, he⟩
                · exact Or.inl ⟨q, List.mem_cons_of_mem _ (List.mem_cons_of_mem _ hq), he⟩
              · exact Or.inr h
      have hanch2 : Anch (d + 2) ((d, .dfr) :: (d + 1, .loop Lf) :: m') := by
        rintro n hn ⟨p, hp, hpn⟩
        have hpm : p ∈ m' := by
          rcases List.mem_cons.1 hp with rfl | hp
          · simp only at hpn; omega
          · rcases List.mem_cons.1 hp with rfl | hp
            · simp only at hpn; omega
            · exact hp
        obtain ⟨q', hq, h1, h2⟩ := hanch _ m' hm' n (by omega) ⟨p, hpm, hpn⟩
        exact ⟨q', List.mem_cons_of_mem _ (List.mem_cons_of_mem _ hq), h1, h2⟩
      exact ⟨_, hR', hH2.trim hanch2 hsz _ _, hmv2.trim _ _ rfl⟩
theorem okRun_q {n : Nat} : ∀ (items : List (List AV)) (s : S) (e : AExit), okRun (fun s x => (isGo (stp s x).1, (stp s x).2)) ok items s → (∀ x ∈ items, x.length = n) →
    okRun (fun (q : S × AExit) x => (isGo (stp q.1 x).1, ((stp q.1 x).2, (stp q.1 x).1))) (fun q x => ok q.1 x ∧ x.length = n) items (s, e)
  | [], _, _, _, _ => trivial
  | x :: r, s, e, h, hl => ⟨⟨h.1, hl x (by simp)⟩, fun hg => okRun_q r _ _ (h.2 hg) fun y hy => hl y (by simp [hy])⟩
theorem wp_range2 {f : FuncId} {cap : List AV} {items : List (List AV)} (hy : Yields2 C f cap items) {g : Operand} {ps : Array Tmp} {asg body : Code} {a : AAct} {H : Heap} {K : Post} (hg : a.eval g = some (.fn (.func f) [] cap))
    (R : S → Fm → Prop) (stp : S → List AV → AExit × S) (lv : S → Prop) (ok : S → List AV → Prop) {n0 k : Nat} (hn0 : n0 ≤ H.size) (hk : k ≤ H.size) (hlen : ∀ x ∈ items, x.length = ps.size)
    (hanch : ∀ s m, R s m → Anch n0 m) (hdm : ∀ s m, R s m → ¬ keyIn H.size m ∧ ¬ keyIn (H.size + 1) m)
    (hlv : ∀ s x, lv s → ok s x → (stp s x).1 = .normal → lv (stp s x).2)
    (hbody : ∀ (L L' : ALoop) s m x H', L'.dfr = H.size → lv s → ok s x → x.length = ps.size → R s m → Has m H' → H'.get H.size = some .dfr → loopObj H' (H.size + 1) = some L → H'.lock = k → H.size + 2 ≤ H'.size →
      Wp C me (some (H.size + 1)) asg ⟨a.size, setTmps a.size a.tmps (ps.toList.zip x), []⟩ H' (as2K C me R H.size body L L' m H' (stp s x)))
    (s0 : S) (m0 : Fm) (hok : okRun (fun s x => (isGo (stp s x).1, (stp s x).2)) ok items s0) (h0 : lv s0) (hR0 : R s0 m0) (hH0 : Has m0 H) (hlk : H.lock = k)
    (hK : ∀ m' H', R (foldE stp items s0).2 m' → Has m' H' → H'.get H.size = some .dfr → H'.get (H.size + 1) = some .dead → Moves m0 H ((H.size + 1, .dead) :: m') H' → H.size + 2 ≤ H'.size → AtK K (foldE stp items s0).1 ⟨a.size, a.tmps, H.size :: a.marks⟩ H') :
    Wp C me none (.rangeFunc g ps asg body) a H K := by
  generalize hd : H.size = d at *
  have hsrc := src2_range (C := C) (me := me) (R := R) (stp := stp) (lv := lv) (ok := ok) (sz := a.size) (ts := a.tmps) (ps := ps) (asg := asg) (body := body) hn0 hk hanch hdm hlv hbody
  have hbeg : (H.put d .dfr).put (d + 1) (.loop (busyL me a.size a.tmps ps asg body d .ready none)) = H.plus [some .dfr, some (.loop (busyL me a.size a.tmps ps asg body d .ready none))] := by
    have h1 : H.put d .dfr = H.plus [some .dfr] := by rw [← hd]; exact put_push _
    rw [h1]
    exact plus_put_end hd [some .dfr] (.loop (busyL me a.size a.tmps ps asg body d .ready none))
  generalize hHb : H.plus [some AObj.dfr, some (.loop (busyL me a.size a.tmps ps asg body d .ready none))] = Hb at hbeg
  have hsb : Hb.size = d + 2 := by rw [← hHb, plus_size, hd]; rfl
  have hg0 : Hb.get d = some .dfr := by
    rw [← hHb]; exact plus_mid_get hd [] _ _
  have hg1 : Hb.get (d + 1) = some (.loop (busyL me a.size a.tmps ps asg body d .ready none)) := by
    rw [← hHb]; exact plus_mid_get hd [some .dfr] [] _
  have hHasB : Has ((d, .dfr) :: (d + 1, .loop (busyL me a.size a.tmps ps asg body d .ready none)) :: m0) Hb := by
    intro p hp
    rcases List.mem_cons.1 hp with rfl | hp
    · exact hg0
    · rcases List.mem_cons.1 hp with rfl | hp
      · exact hg1
      · rw [← hHb]; exact hH0.plus _ p hp
  obtain ⟨H1, m1, hc1, ⟨m', hm', rfl⟩, hH1, hmv⟩ := hy (d + 1) (S × AExit) _ _ _ _ _ _ hsrc (s0, .normal) _ Hb (okRun_q items s0 .normal hok hlen) ⟨h0, rfl⟩ ⟨m0, hR0, rfl⟩ hHasB (by rw [← hHb]; exact hlk) (by omega)
  have hanch1 := hsrc.anch _ _ ⟨m', hm', rfl⟩
  rw [run_range] at hm' hH1 hmv hanch1
  simp only at hm' hH1 hmv hanch1
  generalize hp : foldE stp items s0 = p at *
  have hcb := callB_yld (C := C) (me := me) (d := none) (l := d + 1) (by simp) hc1
  have hH2 := hH1.trim hanch1 (Nat.le_of_eq hsb.symm) [AV.tup []] []
  have hmv2 := hmv.trim [AV.tup []] [] (n := Hb.size) rfl
  generalize hT : H1.trim Hb.size [AV.tup []] [] = H2 at *
  have hl2 : H2.get (d + 1) = some (.loop (busyL me a.size a.tmps ps asg body d (stateOf p.1) (pend p.1))) := hH2 (d + 1, _) (by simp)
  have hd2 : H2.get d = some .dfr := hH2 (d, _) (by simp)
  have hs2 : d + 2 ≤ H2.size := by have := hmv2.size; omega
  have hfin : AtK K p.1 ⟨a.size, a.tmps, d :: a.marks⟩ (H2.put (d + 1) .dead) := by
    have hmd := hdm _ _ hm'
    refine hK m' (H2.put (d + 1) .dead) hm' ?_ ?_ ?_ ?_ ?_
    · intro q hq
      rw [put_get_ne _ (by omega) (fun e => hmd.2 ⟨q, hq, e⟩)]
      exact hH2 q (List.mem_cons_of_mem _ (List.mem_cons_of_mem _ hq))
    · rw [put_get_ne _ (by omega) (by omega)]; exact hd2
    · exact put_get_eq _ (by omega)
    · refine ⟨?_, ?_, fun b hb hnb => ?_, fun q hq => ?_⟩
      · show H2.lock = H.lock
        rw [hmv2.lock, ← hHb]; rfl
      · rw [put_sizeI _ (by omega)]; omega
      · rw [put_get_ne _ (by omega) (by omega), hmv2.same b (by omega) ?_, ← hHb]
        · exact plus_get _ hb
        · rintro ⟨q, hq, he⟩
          rcases List.mem_cons.1 hq with rfl | hq
          · simp only at he; omega
          · rcases List.mem_cons.1 hq with rfl | hq
            · simp only at he; omega
            · exact hnb ⟨q, hq, he⟩
      · rcases List.mem_cons.1 hq with rfl | hq
        · exact Or.inr (by simp only; omega)
        · rcases hmv2.keys q (List.mem_cons_of_mem _ (List.mem_cons_of_mem _ hq)) with ⟨r, hr, he⟩ | h
          · rcases List.mem_cons.1 hr with rfl | hr
            · exact absurd ⟨q, hq, he.symm⟩ hmd.1
            · rcases List.mem_cons.1 hr with rfl | hr
              · exact absurd ⟨q, hq, he.symm⟩ hmd.2
              · exact Or.inl ⟨r, hr, he⟩
          · exact Or.inr (by omega)
    · rw [put_sizeI _ (by omega)]; exact hs2
  refine wp_range0 (f := f) (first := []) (cap := cap) hg (v := .tup []) (H2 := H2) ?_ (r := busyL me a.size a.tmps ps asg body d (stateOf p.1) (pend p.1)) ?_ ?_ ?_ ?_
  · rw [hd]
    rw [← hbeg] at hcb
    exact hcb
  · rw [hd]; exact get_loopObj hl2
  · unfold busyL stateOf; cases p.1 <;> simp [pend]
  · rw [hd]; rfl
  · rw [hd]
    obtain ⟨e, s⟩ := p
    cases e with
    | normal => exact hfin
    | ret => exact hfin
    | exit i => exact hfin
end
end Go.Ev
/- The same, of memory that begins with a list that is known, with places that stay behind it. -/
namespace Go.Ev
def HasE (rows : Fm) (E : List (Option AObj)) : Prop := ∀ p ∈ rows, E[p.1]? = some (some p.2)
structure MovesE (rows : Fm) (E : List (Option AObj)) (rows' : Fm) (E' : List (Option AObj)) : Prop where
  size : E.length ≤ E'.length
  same : ∀ j, j < E.length → ¬ keyIn j rows → E'[j]? = E[j]?
  keys : ∀ p ∈ rows', keyIn p.1 rows ∨ E.length ≤ p.1
theorem MovesE.refl (rows : Fm) (E : List (Option AObj)) : MovesE rows E rows E := ⟨Nat.le_refl _, fun _ _ _ => rfl, fun p hp => Or.inl ⟨p, hp, rfl⟩⟩
theorem MovesE.append (rows : Fm) (E G : List (Option AObj)) : MovesE rows E rows (E ++ G) := ⟨by simp, fun j hj _ => List.getElem?_append_left hj, fun p hp => Or.inl ⟨p, hp, rfl⟩⟩
theorem HasE.append {rows : Fm} {E : List (Option AObj)} (h : HasE rows E) (G : List (Option AObj)) : HasE rows (E ++ G) := fun p hp => by
  rw [List.getElem?_append_left (List.getElem?_eq_some_iff.1 (h p hp)).1]; exact h p hp
section
variable {C : Cfg} {me : FuncId} {S : Type}
end
end Go.Ev
/- What the rules for weakest preconditions take besides: plain lists, tests, numbers. -/
namespace Go.Ev
theorem ltB_n0 (a : Nat) : ltB a 0 = false := by simp [ltB]
attribute [go_sem] ltB_n0 List.any_cons List.any_nil repeatCells splice chunk bsFin ne_eq not_true_eq_false not_false_eq_true List.headD_cons Bool.false_eq_true Nat.le_refl Nat.zero_mul Nat.one_mul Nat.mul_one assoc_setI decide_true decide_false Bool.not_true Bool.not_false List.mem_cons List.not_mem_nil true_or or_true false_or or_false and_true true_and and_self List.getElem?_cons_succ List.getElem?_cons_zero Option.bind_some Option.map_some Option.map_none List.map_cons List.map_nil List.length_cons List.length_nil List.filterMap_cons List.filterMap_nil List.cons_append List.nil_append List.append_nil Nat.zero_add Nat.add_zero List.take_succ_cons List.take_zero List.take_nil List.drop_succ_cons List.drop_zero List.drop_nil List.all_cons List.all_nil Bool.and_true Bool.true_and Bool.false_and Bool.and_false Bool.or_true Bool.true_or Bool.or_false Bool.false_or beq_iff_eq beq_self_eq_true List.zip_cons_cons List.zip_nil_right List.zip_nil_left
end Go.Ev
namespace Go.Ev
set_option maxRecDepth 100000
set_option linter.unusedSimpArgs false
/-! ### what a value is when it is handed back, told by some places of memory alone -/
def Fz (X : Heap) (S : Nat → Prop) (d : Nat) (x y : AV) : Prop :=
  (x.flat = true ∧ bound y = 0 ∧ (bound x = 0 → y = x)) ∧ ∀ G : Heap, G.lock = 0 → (∀ b, S b → G.get b = X.get b) → ∀ k, d ≤ k → freezeV G k x = some y
theorem Fz.mono {X Y : Heap} {S T : Nat → Prop} {d d' : Nat} {x y : AV} (h : Fz X S d x y) (hs : ∀ b, S b → T b ∧ Y.get b = X.get b) (hd : d ≤ d') : Fz Y T d' x y :=
  ⟨h.1, fun G hk hg k hk2 => h.2 G hk (fun b hb => (hg b (hs b hb).1).trans (hs b hb).2) k (Nat.le_trans hd hk2)⟩
theorem Fz.v (X : Heap) (S : Nat → Prop) (v : Value) : Fz X S 1 (.v v) (.v v) :=
  ⟨⟨rfl, rfl, fun _ => rfl⟩, fun _ _ _ k hk => by obtain ⟨k', rfl⟩ : ∃ k', k = k' + 1 := ⟨k - 1, by omega⟩; rfl⟩
theorem Fz.vs (X : Heap) (S : Nat → Prop) (z : Nat) (l : List AV) (c : Option Nat) : Fz X S 1 (.vs z l c) (.vs z l c) :=
  ⟨⟨rfl, rfl, fun _ => rfl⟩, fun _ _ _ k hk => by obtain ⟨k', rfl⟩ : ∃ k', k = k' + 1 := ⟨k - 1, by omega⟩; rfl⟩
def FzL (X : Heap) (S : Nat → Prop) (d : Nat) : List AV → List AV → Prop
  | [], [] => True
  | x :: r, y :: s => Fz X S d x y ∧ FzL X S d r s
  | _, _ => False
theorem FzL.len {X : Heap} {S : Nat → Prop} {d : Nat} : ∀ {l m : List AV}, FzL X S d l m → l.length = m.length
  | [], [], _ => rfl
  | _ :: _, _ :: _, h => congrArg (· + 1) (FzL.len h.2)
  | [], _ :: _, h => h.elim
  | _ :: _, [], h => h.elim
theorem FzL.mono {X Y : Heap} {S T : Nat → Prop} {d d' : Nat} (hs : ∀ b, S b → T b ∧ Y.get b = X.get b) (hd : d ≤ d') : ∀ {l m : List AV}, FzL X S d l m → FzL Y T d' l m
  | [], [], _ => trivial
  | _ :: _, _ :: _, h => ⟨h.1.mono hs hd, FzL.mono hs hd h.2⟩
  | [], _ :: _, h => h.elim
  | _ :: _, [], h => h.elim
theorem FzL.app {X : Heap} {S : Nat → Prop} {d : Nat} {l2 m2 : List AV} (h2 : FzL X S d l2 m2) : ∀ {l m : List AV}, FzL X S d l m → FzL X S d (l ++ l2) (m ++ m2)
  | [], [], _ => h2
  | _ :: _, _ :: _, h => ⟨h.1, FzL.app h2 h.2⟩
  | [], _ :: _, h => h.elim
  | _ :: _, [], h => h.elim
theorem FzL.flat {X : Heap} {S : Nat → Prop} {d : Nat} : ∀ {l m : List AV}, FzL X S d l m → l.all AV.flat = true
  | [], [], _ => rfl
  | _ :: _, _ :: _, h => by rw [List.all_cons, h.1.1.1, FzL.flat h.2]; rfl
  | [], _ :: _, h => h.elim
  | _ :: _, [], h => h.elim
theorem FzL.bound {X : Heap} {S : Nat → Prop} {d : Nat} : ∀ {l m : List AV}, FzL X S d l m → boundL m = 0
  | [], [], _ => rfl
  | _ :: _, _ :: _, h => by rw [boundL_cons, h.1.1.2.1, FzL.bound h.2]; rfl
  | [], _ :: _, h => h.elim
  | _ :: _, [], h => h.elim
theorem FzL.closed {X : Heap} {S : Nat → Prop} {d : Nat} : ∀ {l m : List AV}, FzL X S d l m → boundL l = 0 → m = l
  | [], [], _, _ => rfl
  | x :: r, y :: s, h, hb => by
    rw [boundL_cons] at hb
    have h1 : Go.Ev.bound x = 0 := Nat.le_zero.1 (Nat.le_trans (Nat.le_max_left _ _) (Nat.le_of_eq hb))
    have h2 : boundL r = 0 := Nat.le_zero.1 (Nat.le_trans (Nat.le_max_right _ _) (Nat.le_of_eq hb))
    rw [h.1.1.2.2 h1, FzL.closed h.2 h2]
  | [], _ :: _, h, _ => h.elim
  | _ :: _, [], h, _ => h.elim
theorem FzL.freeze {X : Heap} {S : Nat → Prop} {d : Nat} {G : Heap} (hk : G.lock = 0) (hg : ∀ b, S b → G.get b = X.get b) : ∀ {l m : List AV}, FzL X S d l m → ∀ k, d + l.length + 1 ≤ k → freezeL G k l = some m
  | [], [], _, k, h => by obtain ⟨k', rfl⟩ : ∃ k', k = k' + 1 := ⟨k - 1, by omega⟩; rfl
  | x :: r, y :: s, h, k, hd => by
    obtain ⟨k', rfl⟩ : ∃ k', k = k' + 1 := ⟨k - 1, by omega⟩
    simp only [List.length_cons] at hd
    show (match freezeV G k' x, freezeL G k' r with | some y, some ys => some (y :: ys) | _, _ => none) = _
    rw [h.1.2 G hk hg k' (by omega), FzL.freeze hk hg h.2 k' (by omega)]
  | [], _ :: _, h, _, _ => h.elim
  | _ :: _, [], h, _, _ => h.elim
theorem Fz.row {X : Heap} {S : Nat → Prop} {d b v e m sz n : Nat} {g : Bool} {l ys : List AV} (hS : S b) (hr : X.get b = some (.cells v m e sz g l)) (hl : FzL X S d l ys) (hm : boundL l ≤ m) (hz : 0 < sz) (hn : l.length = n * sz) (c : Option Nat) {d' : Nat} (hd : d + l.length + 2 ≤ d') :
    Fz X S d' (.sl b v 0 n c) (.vs sz (chunk sz n ys) none) := by
  refine ⟨⟨rfl, rfl, fun h => by simp [Go.Ev.bound] at h⟩, fun G hk hg k hkd => ?_⟩
  obtain ⟨k', rfl⟩ : ∃ k', k = k' + 1 := ⟨k - 1, by omega⟩
  have hrow : G.row b v = some (m, e, sz, g, l) := by
    unfold Heap.row; rw [hg b hS, hr]; simp only [if_true]
  unfold freezeV
  simp only [hrow, hk]
  rw [if_neg (by omega), if_pos ⟨by omega, hz⟩, List.drop_zero, List.take_of_length_le (by omega)]
  by_cases h0 : m = 0
  · rw [if_pos h0, hl.closed (by omega)]
  · rw [if_neg h0, FzL.freeze hk hg hl k' (by omega)]
    simp only [hl.bound, if_true]
theorem trim_orT (H : Heap) (n : Nat) (vs : List AV) (ms : List Nat) : H.trim n vs ms = H ∨ H.trim n vs ms = { H with objs := H.objs.take n } := by
  unfold Heap.trim
  split
  · exact Or.inr rfl
  · exact Or.inl rfl
theorem trim_lockT (H : Heap) (n : Nat) (vs : List AV) (ms : List Nat) : (H.trim n vs ms).lock = H.lock := by
  rcases trim_orT H n vs ms with h | h <;> rw [h]
theorem trim_getT {H : Heap} {n : Nat} {vs : List AV} {ms : List Nat} {b : Nat} (hb : b < n) : (H.trim n vs ms).get b = H.get b := by
  rcases trim_orT H n vs ms with h | h
  · rw [h]
  · rw [h]; unfold Heap.get; simp only; rw [List.getElem?_take, if_pos hb]
theorem trim_szT {H : Heap} {n : Nat} {vs : List AV} {ms : List Nat} (hb : n ≤ H.size) : n ≤ (H.trim n vs ms).size := by
  rcases trim_orT H n vs ms with h | h
  · rw [h]; exact hb
  · rw [h]; unfold Heap.size at hb ⊢; simp only [List.length_take]; omega
theorem trim_keep {H : Heap} {n : Nat} {vs : List AV} {ms : List Nat} {b : Nat} {o : AObj} (hb : b < n) (hg : H.get b = some o) (ho : n < o.bound) : H.trim n vs ms = H := by
  rcases trim_cases H n vs ms with h | ⟨_, h2⟩
  · exact h
  · have := boundsOk_getI h2 (b := b) (o := o) (by rw [List.getElem?_take, if_pos hb]; unfold Heap.get at hg; cases hh : H.objs[b]? with
      | none => rw [hh] at hg; cases hg
      | some q => rw [hh] at hg; simp only [Option.join] at hg; rw [show q = some o from hg])
    omega
end Go.Ev
/- The configuration over this seat's program, and what its types are. Made by program. -/
namespace Go.Ev
open Go.Proofs
set_option maxRecDepth 1000000
def impF : List Nat := [50, 52, 64, 74, 75, 82, 83, 87, 98, 102, 103, 104, 105, 108, 110, 112, 113, 114, 115, 116, 117, 118, 119, 123, 125, 127, 128, 130, 131, 132, 133, 134, 135, 136, 137, 138, 139, 140, 141, 142, 143, 144, 145, 146, 147, 148]
def impC : List (Nat × Nat × Nat) := []
def altF : List Nat := []
def keepF : Nat → List Nat
  | 2 => []
  | 3 => [0, 1, 4, 3, 34, 9, 5, 10, 12, 11, 13, 14, 16, 15, 17, 83, 2, 18, 19, 20, 22, 21, 23, 24, 26, 25, 27, 8]
  | 4 => [0, 1, 2, 4, 5, 3, 43, 50, 49, 51, 48, 13, 55, 11, 9, 10, 6, 14, 16, 15, 17, 18, 20, 19, 21, 22, 24, 23, 25, 140, 139, 141, 138, 28, 147, 146, 148, 145, 30, 153, 152, 154, 31, 164, 163, 165, 26, 32, 8]
  | 5 => [0, 1, 3, 4, 22, 7, 8, 2, 9, 11, 10, 12, 13, 15, 14, 16, 6]
  | 6 => [0, 1, 9, 3, 14, 24, 4, 33, 46, 5, 58, 74, 2]
  | 7 => [0, 4, 1, 11, 6, 29, 5, 3, 2]
  | 8 => [0, 1, 5, 13, 4, 16, 17, 18, 6, 2, 3]
  | 9 => [0, 1, 6, 2, 3]
  | 10 => [0, 1, 2, 7, 14, 6, 3, 19, 4, 5]
  | 11 => [0, 1, 2, 8, 3, 12, 4, 5]
  | 12 => [0, 1, 4, 2]
  | 13 => [0, 1, 5, 2]
  | 14 => [0, 1, 2, 7, 16, 4, 5, 6, 19, 20, 21, 9, 3, 24, 8]
  | 15 => [0, 1, 2, 10, 3, 14, 7, 6, 28, 4, 5]
  | 16 => [0, 1, 2, 7, 16, 4, 5, 6, 20, 21, 22, 8, 3, 25, 9]
  | 17 => [0, 2, 9, 4, 1, 6, 18, 5]
  | 18 => [0, 2, 7, 14, 1, 18, 6, 4, 5]
  | 19 => [0, 2, 11, 1, 14, 8, 7, 20, 30, 6, 4, 5]
  | 20 => [0, 1, 5, 18, 4, 23, 24, 25, 6, 9, 11, 32, 7, 2, 3]
  | 21 => [0, 1, 12, 6, 5, 18, 8, 4, 7, 38, 52, 9, 61, 2, 3]
  | 22 => [0, 1, 10, 5, 14, 25, 4]
  | 23 => [0, 1, 10, 5, 14, 25, 4]
  | 24 => [0, 1, 2, 3, 15, 5, 20, 6, 7, 46, 8, 51, 65, 4]
  | 25 => [0, 1, 7, 3, 12, 22, 2]
  | 26 => [0, 1, 2]
  | 27 => [0, 1, 2, 3, 7, 15, 4, 6, 5]
  | 28 => [0, 1, 2, 3, 6, 15, 4, 8, 22, 10, 40, 9, 7, 5]
  | 29 => [0, 1, 2, 3, 4, 9, 19, 8, 5, 24, 28, 27, 29, 26, 11, 40, 6, 7]
  | 30 => [0, 1, 2, 3, 4, 8, 13, 5, 18, 6, 7]
  | 31 => [0, 2, 7, 17, 1, 21, 24, 23, 25, 22, 6, 10, 31, 8, 4, 5]
  | 32 => [0, 2, 14, 1, 17, 6, 21, 30, 9, 8, 36, 11, 42, 10, 65, 7, 4, 5]
  | 33 => [0, 1, 2, 3, 6, 4]
  | 34 => [0, 1, 2, 7, 3, 11, 4]
  | 35 => [0, 1, 2, 3, 19, 5, 24, 37, 4]
  | 36 => [0, 1, 3, 4, 9, 20, 6, 2, 25, 8, 31, 32, 33, 10, 11, 12, 43, 7]
  | 37 => [0, 1, 3, 4, 8, 14, 6, 2, 19, 9, 26, 7]
  | 38 => [0, 1, 2, 3, 7, 18, 6, 22, 23, 24, 8, 10, 4, 5]
  | 39 => [0, 1, 2, 3, 6, 11, 4, 5]
  | 40 => [0, 1, 6, 2, 3]
  | 41 => [0, 1, 2]
  | 42 => [0, 1, 12, 3, 17, 4, 35, 5, 38, 49, 6, 54, 64, 7, 72, 84, 2]
  | 43 => [0, 4, 1, 11, 5, 22, 6, 36, 3, 2]
  | 44 => [0, 1, 3, 2, 4]
  | 45 => [0, 1, 3, 2, 13, 5, 27, 4]
  | 46 => [0, 1, 2, 3, 6, 5, 4]
  | 47 => [0, 1, 2, 3, 4]
  | 48 => [0, 1, 2, 6]
  | 49 => [0, 9, 12, 11, 13, 3, 24, 2]
  | 50 => [0, 1, 8, 9, 10, 3, 5, 4, 2]
  | 51 => [3, 0, 7, 19, 2]
  | 52 => [0, 5, 1, 4]
  | 53 => [0, 1, 4]
  | 54 => [0, 1, 2, 7, 14, 4, 6, 3, 20, 5]
  | 55 => [0, 1, 2, 15, 14, 16, 13, 5, 7, 29, 30, 31, 8, 10, 9, 3, 4]
  | 56 => [0, 1, 4, 2, 3, 11, 10, 27, 33, 13, 5, 42, 14, 68, 71, 9, 12, 80, 8]
  | 57 => [0, 1, 2, 7, 4, 13, 8, 5, 29, 3, 6]
  | 58 => [0, 1, 3, 2, 30, 35, 36, 37, 5, 7, 4]
  | 59 => [0, 1, 9, 8, 10, 7, 5, 15, 3, 2]
  | 60 => [0, 2]
  | 61 => [0, 1, 3, 18, 5, 23, 2, 6, 34, 70, 7, 75, 8, 86, 96, 4]
  | 62 => [0, 1, 2, 3, 14, 4, 6, 22, 5]
  | 63 => [0, 2]
  | 64 => [0, 1, 2, 3, 4]
  | 65 => [1, 6, 0, 7, 24, 28, 3, 8, 39, 40, 5, 59, 69, 4]
  | 66 => [0, 1, 2, 3, 12, 16, 4]
  | 67 => [0, 1, 6, 2, 12, 7, 23, 5, 3, 4]
  | 68 => [0, 1, 11, 15, 14, 16, 13, 4, 3, 38, 2]
  | 69 => [0, 1, 8, 9, 10, 4, 13, 12, 14, 11, 5, 3, 2, 6, 24]
  | 70 => [0, 1, 2]
  | 71 => [1, 0, 4]
  | 72 => [0, 1, 3, 2, 28, 4, 5]
  | 73 => [0, 1, 9, 8, 10, 7, 6, 2, 22, 4]
  | 74 => [0, 4, 2]
  | 75 => [0, 4, 1]
  | 76 => [0, 1, 4]
  | 77 => [0, 1, 15, 14, 16, 13, 6, 8, 9, 5, 4]
  | 78 => [1, 0, 11, 10, 12, 9, 7, 8, 3, 24, 5, 4]
  | 79 => [0, 1, 12, 11, 13, 10, 2, 7, 8, 5, 42, 4]
  | 80 => [3, 0, 9, 4, 5, 38, 2]
  | 81 => [0, 2]
  | 82 => [0, 8, 3, 13, 25, 5, 4, 32, 44, 2]
  | 83 => [0, 5, 1, 4]
  | 84 => [0, 1, 2, 3, 4]
  | 85 => [0, 1, 2, 3, 6, 15, 17, 18, 5, 32, 45, 4]
  | 86 => [0, 1, 2, 3, 9, 19, 4]
  | 87 => [0, 1, 14, 17, 16, 18, 15, 7, 2, 8, 9, 30, 6]
  | 88 => [0, 1, 2, 3, 4]
  | 89 => [0, 1, 7, 8, 9, 3, 4, 5, 2, 19]
  | 90 => [0, 1, 13, 14, 16, 17, 6, 7, 5, 8, 36, 9, 42, 4]
  | 91 => [1, 0, 2, 6]
  | 92 => [0, 1, 2, 7, 8, 9, 42, 45, 6]
  | 93 => [0, 1, 2, 3, 12, 5, 17, 49, 4]
  | 94 => [0, 1, 11, 12, 26, 2, 3, 42, 9, 68, 10, 13, 121, 8]
  | 95 => [1, 0, 3, 4]
  | 96 => [0, 12, 15, 14, 16, 4, 25, 31, 30, 32, 29, 6, 37, 3, 2]
  | 97 => [1, 10, 9, 11, 8, 4, 18, 17, 19, 0, 3, 5, 31]
  | 98 => [2, 1, 12, 25, 0, 4, 3, 32, 10, 39, 14, 56, 13, 11, 75, 80, 97, 15, 17, 16, 18, 19, 125, 20]
  | 99 => [0, 2]
  | 101 => [0]
  | 102 => [0, 2, 1, 4]
  | 103 => [0, 2, 1, 4]
  | 104 => [0, 4, 2]
  | 105 => [0, 4, 1]
  | 106 => [0, 8, 7, 9, 6, 5, 3, 14, 2]
  | 107 => [0, 1, 5, 11, 6, 12, 13, 16, 19, 4]
  | 108 => [1, 0, 2, 21, 25]
  | 109 => [0, 6, 15, 5, 1, 7, 28, 65, 80, 95, 4]
  | 110 => [0, 1, 4]
  | 111 => [0, 2, 1, 3]
  | 112 => [1, 8, 2, 14, 9, 3, 0, 34]
  | 113 => [1, 2, 10, 11, 21, 0, 8, 3, 12, 33, 9]
  | 114 => [2, 1, 8, 17, 11, 35, 9, 10, 12, 45, 0]
  | 115 => [2, 1, 10, 34, 36, 0, 12, 3, 11, 13, 14, 55, 57, 60, 8, 9]
  | 116 => [1, 2, 8, 9, 15, 0]
  | 117 => [1, 10, 16, 9, 2, 3, 0, 36, 41, 45, 65, 11, 69, 84, 104, 12, 109, 124, 8]
  | 118 => [0, 1, 3, 2, 11, 12, 4, 47, 65, 70, 10]
  | 119 => [0, 1, 3, 2, 12, 13, 4, 47, 66, 71, 120, 139, 144, 10, 11]
  | 120 => [0, 4, 8, 2]
  | 121 => [0, 4, 8, 2, 14]
  | 122 => [1, 3, 0, 4]
  | 123 => [0, 2, 4]
  | 124 => [1, 0, 3, 4]
  | 125 => [0, 2, 1, 4]
  | 126 => [1, 3, 0, 4]
  | 127 => [0, 2, 1, 4]
  | 128 => [2, 1, 12, 25, 0, 4, 3, 32, 10, 39, 14, 56, 13, 11, 75, 80, 97, 15, 17, 16, 18, 19, 125, 20]
  | 129 => [0, 2]
  | 130 => [0, 8, 7, 9, 1, 5, 16, 4]
  | 131 => [1, 10, 11, 2, 18, 4, 0, 3, 40, 58]
  | 132 => [0, 2]
  | 133 => [0, 2]
  | 134 => [0, 1, 2, 3, 8]
  | 135 => [0, 1, 2, 4, 5, 3, 12]
  | 136 => [1, 8, 2, 14, 9, 3, 0, 34]
  | 137 => [1, 2, 10, 11, 21, 0, 8, 3, 12, 33, 9]
  | 138 => [2, 1, 8, 17, 11, 35, 9, 10, 12, 45, 0]
  | 139 => [2, 1, 10, 34, 36, 0, 12, 3, 11, 13, 14, 55, 57, 60, 8, 9]
  | 140 => [1, 2, 8, 9, 15, 0]
  | 141 => [1, 10, 16, 9, 2, 3, 0, 36, 41, 45, 65, 11, 69, 84, 104, 12, 109, 124, 8]
  | 142 => [0, 1, 3, 2, 11, 12, 4, 47, 65, 70, 10]
  | 143 => [0, 1, 3, 2, 12, 13, 4, 47, 66, 71, 120, 139, 144, 10, 11]
  | 144 => [4, 0, 2, 1, 22, 3, 10, 11]
  | 145 => [1, 10, 11, 2, 18, 4, 0, 3, 40, 58]
  | 146 => [0, 1, 2, 3, 8]
  | 147 => [0, 1, 2, 4, 5, 3, 12]
  | 148 => [4, 0, 2, 1, 22, 3, 10, 11]
  | _ => []
def pureF (h g : Nat) (d : Option Nat) : Bool := !(impF.contains g) && !(impC.contains (h, g, d.getD 100000))
/-- functions that stand for themselves, and two that sort memory -/
structure Exts where
  x : FuncId → Option (List AV → Option AV)
  l1 : Option (List AV → Heap → Option (AV × Heap)) := none
  l2 : Option (List AV → Heap → Option (AV × Heap)) := none
def Exts.more (e : Exts) (f : FuncId) (g : List AV → Option AV) : Exts := { e with x := fun h => if Nat.beq h f then some g else e.x h }
noncomputable def Cx (e : Exts) : Cfg := { P := Try.prog, pure := pureF, alter := fun h _ => altF.contains h, keep := keepF, ext := e.x, lay := fun f => if Nat.beq f 105 then e.l1 else if Nat.beq f 75 then e.l2 else none }
/-- no function stands for itself but for the two -/
def Quiet (e : Exts) : Prop := ∀ f, f ≠ 1000000 → f ≠ 100 → e.x f = none
@[go_sem] theorem Cx_P (e : Exts) : (Cx e).P = Try.prog := rfl
theorem size_3 : sizeT Try.prog 3 = some 1 := by kernel_rfl
theorem size_9 : sizeT Try.prog 9 = some 1 := by kernel_rfl
theorem size_22 : sizeT Try.prog 22 = some 1 := by kernel_rfl
theorem size_24 : sizeT Try.prog 24 = some 1 := by kernel_rfl
theorem size_26 : sizeT Try.prog 26 = some 3 := by kernel_rfl
theorem size_51 : sizeT Try.prog 51 = some 1 := by kernel_rfl
theorem size_60 : sizeT Try.prog 60 = some 1 := by kernel_rfl
theorem size_62 : sizeT Try.prog 62 = some 2 := by kernel_rfl
theorem size_76 : sizeT Try.prog 76 = some 1 := by kernel_rfl
theorem size_78 : sizeT Try.prog 78 = some 2 := by kernel_rfl
theorem size_89 : sizeT Try.prog 89 = some 1 := by kernel_rfl
theorem size_108 : sizeT Try.prog 108 = some 5 := by kernel_rfl
theorem size_121 : sizeT Try.prog 121 = some 12 := by kernel_rfl
theorem size_124 : sizeT Try.prog 124 = some 146 := by kernel_rfl
theorem size_144 : sizeT Try.prog 144 = some 1 := by kernel_rfl
theorem size_152 : sizeT Try.prog 152 = some 1 := by kernel_rfl
@[go_sem] theorem zero_3 : zeroT Try.prog 3 = some (.v (.int .i64 0)) := by kernel_rfl
@[go_sem] theorem zero_9 : zeroT Try.prog 9 = some (.v (.string ⟨#[]⟩)) := by kernel_rfl
@[go_sem] theorem zero_24 : zeroT Try.prog 24 = some (.agg [.v (.slice none 0 0)]) := by kernel_rfl
@[go_sem] theorem zero_26 : zeroT Try.prog 26 = some (.agg [.v (.int .i64 0), .v (.int .i64 0), .v (.int .i64 0)]) := by kernel_rfl
@[go_sem] theorem zero_51 : zeroT Try.prog 51 = some (.v (.slice none 0 0)) := by kernel_rfl
@[go_sem] theorem zero_62 : zeroT Try.prog 62 = some (.agg [.v (.int .i64 0), .v (.slice none 0 0)]) := by kernel_rfl
@[go_sem] theorem zero_78 : zeroT Try.prog 78 = some (.agg [.v (.int .i64 0), .v (.slice none 0 0)]) := by kernel_rfl
@[go_sem] theorem zero_89 : zeroT Try.prog 89 = some (.agg [.v (.slice none 0 0)]) := by kernel_rfl
@[go_sem] theorem zero_108 : zeroT Try.prog 108 = some (.agg [.v (.int .i64 0), .v (.int .i64 0), .v (.int .i64 0), .v (.int .u8 0), .v (.string ⟨#[]⟩)]) := by kernel_rfl
theorem zero_124 : zeroT Try.prog 124 = some (.agg [.v (.slice none 0 0), .v (.slice none 0 0), .v (.int .i64 0), .v (.int .i64 0), .v (.int .i64 0), .v (.int .i64 0), .v (.int .i64 0), .v (.int .i64 0), .v (.int .i64 0), .v (.int .i64 0), .v (.int .i64 0), .v (.int .i64 0), .v (.int .i64 0), .v (.int .i64 0), .v (.int .i64 0), .v (.int .i64 0), .v (.int .i64 0), .v (.int .i64 0), .v (.int .i64 0), .v (.int .i64 0), .v (.int .i64 0), .v (.int .i64 0), .v (.int .i64 0), .v (.int .i64 0), .v (.int .i64 0), .v (.int .i64 0), .v (.int .i64 0), .v (.int .i64 0), .v (.int .i64 0), .v (.int .i64 0), .v (.int .i64 0), .v (.int .i64 0), .v (.int .i64 0), .v (.int .i64 0), .v (.int .i64 0), .v (.int .i64 0), .v (.int .i64 0), .v (.int .i64 0), .v (.int .i64 0), .v (.int .i64 0), .v (.int .i64 0), .v (.int .i64 0), .v (.int .i64 0), .v (.int .i64 0), .v (.int .i64 0), .v (.int .i64 0), .v (.int .i64 0), .v (.int .i64 0), .v (.int .i64 0), .v (.int .i64 0), .v (.int .i64 0), .v (.int .i64 0), .v (.int .i64 0), .v (.int .i64 0), .v (.int .i64 0), .v (.int .i64 0), .v (.int .i64 0), .v (.int .i64 0), .v (.int .i64 0), .v (.int .i64 0), .v (.int .i64 0), .v (.int .i64 0), .v (.int .i64 0), .v (.int .i64 0), .v (.int .i64 0), .v (.int .i64 0), .v (.int .i64 0), .v (.int .i64 0), .v (.int .i64 0), .v (.int .i64 0), .v (.int .i64 0), .v (.int .i64 0), .v (.int .i64 0), .v (.int .i64 0), .v (.int .i64 0), .v (.int .i64 0), .v (.int .i64 0), .v (.int .i64 0), .v (.int .i64 0), .v (.int .i64 0), .v (.int .i64 0), .v (.int .i64 0), .v (.int .i64 0), .v (.int .i64 0), .v (.int .i64 0), .v (.int .i64 0), .v (.int .i64 0), .v (.int .i64 0), .v (.int .i64 0), .v (.int .i64 0), .v (.int .i64 0), .v (.int .i64 0), .v (.int .i64 0), .v (.int .i64 0), .v (.int .i64 0), .v (.int .i64 0), .v (.int .i64 0), .v (.int .i64 0), .v (.int .i64 0), .v (.int .i64 0), .v (.int .i64 0), .v (.int .i64 0), .v (.int .i64 0), .v (.int .i64 0), .v (.int .i64 0), .v (.int .i64 0), .v (.int .i64 0), .v (.int .i64 0), .v (.int .i64 0), .v (.int .i64 0), .v (.int .i64 0), .v (.int .i64 0), .v (.int .i64 0), .v (.int .i64 0), .v (.int .i64 0), .v (.int .i64 0), .v (.int .i64 0), .v (.int .i64 0), .v (.int .i64 0), .v (.int .i64 0), .v (.int .i64 0), .v (.int .i64 0), .v (.int .i64 0), .v (.int .i64 0), .v (.int .i64 0), .v (.int .i64 0), .v (.int .i64 0), .v (.int .i64 0), .v (.int .i64 0), .v (.int .i64 0), .v (.int .i64 0), .v (.int .i64 0), .v (.int .i64 0), .v (.int .i64 0), .v (.int .i64 0), .v (.int .i64 0), .v (.int .i64 0), .v (.int .i64 0), .v (.int .i64 0), .v (.int .i64 0), .v (.int .i64 0), .v (.int .i64 0), .v (.int .i64 0), .v (.int .i64 0), .v (.int .i64 0), .v (.int .i64 0)]) := by kernel_rfl
@[go_sem] theorem keep_5 (e : Exts) : (Cx e).keep 5 = [0, 1, 3, 4, 22, 7, 8, 2, 9, 11, 10, 12, 13, 15, 14, 16, 6] := rfl
theorem fn_5 (e : Exts) : (Cx e).P.funcs[5]? = some Try.f5 := Try.func5
@[go_sem] theorem keep_6 (e : Exts) : (Cx e).keep 6 = [0, 1, 9, 3, 14, 24, 4, 33, 46, 5, 58, 74, 2] := rfl
theorem fn_6 (e : Exts) : (Cx e).P.funcs[6]? = some Try.f6 := Try.func6
theorem ext_6 {e : Exts} (he : Quiet e) : (Cx e).ext 6 = none := he _ (by decide) (by decide)
theorem pure_6 (e : Exts) (h : FuncId) (d : Option Tmp) : (Cx e).pure h 6 d = true := by simp [Cx, pureF, impF, impC]
@[go_sem] theorem keep_7 (e : Exts) : (Cx e).keep 7 = [0, 4, 1, 11, 6, 29, 5, 3, 2] := rfl
@[go_sem] theorem alter_7 (e : Exts) (d : Option Tmp) : (Cx e).alter 7 d = false := rfl
theorem fn_7 (e : Exts) : (Cx e).P.funcs[7]? = some Try.f7 := Try.func7
theorem ext_7 {e : Exts} (he : Quiet e) : (Cx e).ext 7 = none := he _ (by decide) (by decide)
theorem pure_7 (e : Exts) (h : FuncId) (d : Option Tmp) : (Cx e).pure h 7 d = true := by simp [Cx, pureF, impF, impC]
theorem ext_8 {e : Exts} (he : Quiet e) : (Cx e).ext 8 = none := he _ (by decide) (by decide)
theorem pure_8 (e : Exts) (h : FuncId) (d : Option Tmp) : (Cx e).pure h 8 d = true := by simp [Cx, pureF, impF, impC]
theorem ext_10 {e : Exts} (he : Quiet e) : (Cx e).ext 10 = none := he _ (by decide) (by decide)
theorem pure_10 (e : Exts) (h : FuncId) (d : Option Tmp) : (Cx e).pure h 10 d = true := by simp [Cx, pureF, impF, impC]
theorem ext_16 {e : Exts} (he : Quiet e) : (Cx e).ext 16 = none := he _ (by decide) (by decide)
theorem pure_16 (e : Exts) (h : FuncId) (d : Option Tmp) : (Cx e).pure h 16 d = true := by simp [Cx, pureF, impF, impC]
@[go_sem] theorem keep_23 (e : Exts) : (Cx e).keep 23 = [0, 1, 10, 5, 14, 25, 4] := rfl
theorem fn_23 (e : Exts) : (Cx e).P.funcs[23]? = some Try.f23 := Try.func23
theorem ext_23 {e : Exts} (he : Quiet e) : (Cx e).ext 23 = none := he _ (by decide) (by decide)
theorem pure_23 (e : Exts) (h : FuncId) (d : Option Tmp) : (Cx e).pure h 23 d = true := by simp [Cx, pureF, impF, impC]
@[go_sem] theorem keep_24 (e : Exts) : (Cx e).keep 24 = [0, 1, 2, 3, 15, 5, 20, 6, 7, 46, 8, 51, 65, 4] := rfl
theorem fn_24 (e : Exts) : (Cx e).P.funcs[24]? = some Try.f24 := Try.func24
theorem ext_24 {e : Exts} (he : Quiet e) : (Cx e).ext 24 = none := he _ (by decide) (by decide)
theorem pure_24 (e : Exts) (h : FuncId) (d : Option Tmp) : (Cx e).pure h 24 d = true := by simp [Cx, pureF, impF, impC]
theorem ext_29 {e : Exts} (he : Quiet e) : (Cx e).ext 29 = none := he _ (by decide) (by decide)
theorem pure_29 (e : Exts) (h : FuncId) (d : Option Tmp) : (Cx e).pure h 29 d = true := by simp [Cx, pureF, impF, impC]
@[go_sem] theorem keep_35 (e : Exts) : (Cx e).keep 35 = [0, 1, 2, 3, 19, 5, 24, 37, 4] := rfl
theorem fn_35 (e : Exts) : (Cx e).P.funcs[35]? = some Try.f35 := Try.func35
theorem ext_35 {e : Exts} (he : Quiet e) : (Cx e).ext 35 = none := he _ (by decide) (by decide)
theorem pure_35 (e : Exts) (h : FuncId) (d : Option Tmp) : (Cx e).pure h 35 d = true := by simp [Cx, pureF, impF, impC]
@[go_sem] theorem keep_36 (e : Exts) : (Cx e).keep 36 = [0, 1, 3, 4, 9, 20, 6, 2, 25, 8, 31, 32, 33, 10, 11, 12, 43, 7] := rfl
theorem fn_36 (e : Exts) : (Cx e).P.funcs[36]? = some Try.f36 := Try.func36
theorem ext_36 {e : Exts} (he : Quiet e) : (Cx e).ext 36 = none := he _ (by decide) (by decide)
theorem pure_36 (e : Exts) (h : FuncId) (d : Option Tmp) : (Cx e).pure h 36 d = true := by simp [Cx, pureF, impF, impC]
@[go_sem] theorem keep_37 (e : Exts) : (Cx e).keep 37 = [0, 1, 3, 4, 8, 14, 6, 2, 19, 9, 26, 7] := rfl
theorem fn_37 (e : Exts) : (Cx e).P.funcs[37]? = some Try.f37 := Try.func37
theorem ext_37 {e : Exts} (he : Quiet e) : (Cx e).ext 37 = none := he _ (by decide) (by decide)
theorem pure_37 (e : Exts) (h : FuncId) (d : Option Tmp) : (Cx e).pure h 37 d = true := by simp [Cx, pureF, impF, impC]
@[go_sem] theorem keep_38 (e : Exts) : (Cx e).keep 38 = [0, 1, 2, 3, 7, 18, 6, 22, 23, 24, 8, 10, 4, 5] := rfl
theorem fn_38 (e : Exts) : (Cx e).P.funcs[38]? = some Try.f38 := Try.func38
theorem ext_38 {e : Exts} (he : Quiet e) : (Cx e).ext 38 = none := he _ (by decide) (by decide)
theorem pure_38 (e : Exts) (h : FuncId) (d : Option Tmp) : (Cx e).pure h 38 d = true := by simp [Cx, pureF, impF, impC]
@[go_sem] theorem keep_39 (e : Exts) : (Cx e).keep 39 = [0, 1, 2, 3, 6, 11, 4, 5] := rfl
theorem fn_39 (e : Exts) : (Cx e).P.funcs[39]? = some Try.f39 := Try.func39
theorem ext_39 {e : Exts} (he : Quiet e) : (Cx e).ext 39 = none := he _ (by decide) (by decide)
theorem pure_39 (e : Exts) (h : FuncId) (d : Option Tmp) : (Cx e).pure h 39 d = true := by simp [Cx, pureF, impF, impC]
theorem ext_40 {e : Exts} (he : Quiet e) : (Cx e).ext 40 = none := he _ (by decide) (by decide)
theorem pure_40 (e : Exts) (h : FuncId) (d : Option Tmp) : (Cx e).pure h 40 d = true := by simp [Cx, pureF, impF, impC]
@[go_sem] theorem keep_42 (e : Exts) : (Cx e).keep 42 = [0, 1, 12, 3, 17, 4, 35, 5, 38, 49, 6, 54, 64, 7, 72, 84, 2] := rfl
theorem fn_42 (e : Exts) : (Cx e).P.funcs[42]? = some Try.f42 := Try.func42
theorem ext_42 {e : Exts} (he : Quiet e) : (Cx e).ext 42 = none := he _ (by decide) (by decide)
theorem pure_42 (e : Exts) (h : FuncId) (d : Option Tmp) : (Cx e).pure h 42 d = true := by simp [Cx, pureF, impF, impC]
@[go_sem] theorem keep_45 (e : Exts) : (Cx e).keep 45 = [0, 1, 3, 2, 13, 5, 27, 4] := rfl
theorem fn_45 (e : Exts) : (Cx e).P.funcs[45]? = some Try.f45 := Try.func45
theorem ext_45 {e : Exts} (he : Quiet e) : (Cx e).ext 45 = none := he _ (by decide) (by decide)
theorem pure_45 (e : Exts) (h : FuncId) (d : Option Tmp) : (Cx e).pure h 45 d = true := by simp [Cx, pureF, impF, impC]
theorem ext_46 {e : Exts} (he : Quiet e) : (Cx e).ext 46 = none := he _ (by decide) (by decide)
theorem pure_46 (e : Exts) (h : FuncId) (d : Option Tmp) : (Cx e).pure h 46 d = true := by simp [Cx, pureF, impF, impC]
@[go_sem] theorem keep_48 (e : Exts) : (Cx e).keep 48 = [0, 1, 2, 6] := rfl
theorem fn_48 (e : Exts) : (Cx e).P.funcs[48]? = some Try.f48 := Try.func48
theorem ext_48 {e : Exts} (he : Quiet e) : (Cx e).ext 48 = none := he _ (by decide) (by decide)
theorem pure_48 (e : Exts) (h : FuncId) (d : Option Tmp) : (Cx e).pure h 48 d = true := by simp [Cx, pureF, impF, impC]
@[go_sem] theorem keep_49 (e : Exts) : (Cx e).keep 49 = [0, 9, 12, 11, 13, 3, 24, 2] := rfl
@[go_sem] theorem alter_49 (e : Exts) (d : Option Tmp) : (Cx e).alter 49 d = false := rfl
theorem fn_49 (e : Exts) : (Cx e).P.funcs[49]? = some Try.f49 := Try.func49
theorem ext_49 {e : Exts} (he : Quiet e) : (Cx e).ext 49 = none := he _ (by decide) (by decide)
theorem pure_49 (e : Exts) (h : FuncId) (d : Option Tmp) : (Cx e).pure h 49 d = true := by simp [Cx, pureF, impF, impC]
@[go_sem] theorem keep_51 (e : Exts) : (Cx e).keep 51 = [3, 0, 7, 19, 2] := rfl
theorem fn_51 (e : Exts) : (Cx e).P.funcs[51]? = some Try.f51 := Try.func51
theorem ext_51 {e : Exts} (he : Quiet e) : (Cx e).ext 51 = none := he _ (by decide) (by decide)
theorem pure_51 (e : Exts) (h : FuncId) (d : Option Tmp) : (Cx e).pure h 51 d = true := by simp [Cx, pureF, impF, impC]
@[go_sem] theorem keep_53 (e : Exts) : (Cx e).keep 53 = [0, 1, 4] := rfl
theorem fn_53 (e : Exts) : (Cx e).P.funcs[53]? = some Try.f53 := Try.func53
theorem ext_58 {e : Exts} (he : Quiet e) : (Cx e).ext 58 = none := he _ (by decide) (by decide)
theorem pure_58 (e : Exts) (h : FuncId) (d : Option Tmp) : (Cx e).pure h 58 d = true := by simp [Cx, pureF, impF, impC]
theorem ext_59 {e : Exts} (he : Quiet e) : (Cx e).ext 59 = none := he _ (by decide) (by decide)
theorem pure_59 (e : Exts) (h : FuncId) (d : Option Tmp) : (Cx e).pure h 59 d = true := by simp [Cx, pureF, impF, impC]
@[go_sem] theorem keep_62 (e : Exts) : (Cx e).keep 62 = [0, 1, 2, 3, 14, 4, 6, 22, 5] := rfl
theorem fn_62 (e : Exts) : (Cx e).P.funcs[62]? = some Try.f62 := Try.func62
theorem ext_62 {e : Exts} (he : Quiet e) : (Cx e).ext 62 = none := he _ (by decide) (by decide)
theorem pure_62 (e : Exts) (h : FuncId) (d : Option Tmp) : (Cx e).pure h 62 d = true := by simp [Cx, pureF, impF, impC]
@[go_sem] theorem keep_63 (e : Exts) : (Cx e).keep 63 = [0, 2] := rfl
@[go_sem] theorem alter_63 (e : Exts) (d : Option Tmp) : (Cx e).alter 63 d = false := rfl
theorem fn_63 (e : Exts) : (Cx e).P.funcs[63]? = some Try.f63 := Try.func63
theorem ext_63 {e : Exts} (he : Quiet e) : (Cx e).ext 63 = none := he _ (by decide) (by decide)
theorem pure_63 (e : Exts) (h : FuncId) (d : Option Tmp) : (Cx e).pure h 63 d = true := by simp [Cx, pureF, impF, impC]
@[go_sem] theorem keep_64 (e : Exts) : (Cx e).keep 64 = [0, 1, 2, 3, 4] := rfl
theorem fn_64 (e : Exts) : (Cx e).P.funcs[64]? = some Try.f64 := Try.func64
theorem ext_64 {e : Exts} (he : Quiet e) : (Cx e).ext 64 = none := he _ (by decide) (by decide)
@[go_sem] theorem keep_65 (e : Exts) : (Cx e).keep 65 = [1, 6, 0, 7, 24, 28, 3, 8, 39, 40, 5, 59, 69, 4] := rfl
@[go_sem] theorem alter_65 (e : Exts) (d : Option Tmp) : (Cx e).alter 65 d = false := rfl
theorem fn_65 (e : Exts) : (Cx e).P.funcs[65]? = some Try.f65 := Try.func65
theorem ext_65 {e : Exts} (he : Quiet e) : (Cx e).ext 65 = none := he _ (by decide) (by decide)
theorem pure_65 (e : Exts) (h : FuncId) (d : Option Tmp) : (Cx e).pure h 65 d = true := by simp [Cx, pureF, impF, impC]
@[go_sem] theorem keep_66 (e : Exts) : (Cx e).keep 66 = [0, 1, 2, 3, 12, 16, 4] := rfl
theorem fn_66 (e : Exts) : (Cx e).P.funcs[66]? = some Try.f66 := Try.func66
theorem ext_66 {e : Exts} (he : Quiet e) : (Cx e).ext 66 = none := he _ (by decide) (by decide)
theorem pure_66 (e : Exts) (h : FuncId) (d : Option Tmp) : (Cx e).pure h 66 d = true := by simp [Cx, pureF, impF, impC]
@[go_sem] theorem keep_67 (e : Exts) : (Cx e).keep 67 = [0, 1, 6, 2, 12, 7, 23, 5, 3, 4] := rfl
theorem fn_67 (e : Exts) : (Cx e).P.funcs[67]? = some Try.f67 := Try.func67
theorem ext_67 {e : Exts} (he : Quiet e) : (Cx e).ext 67 = none := he _ (by decide) (by decide)
theorem pure_67 (e : Exts) (h : FuncId) (d : Option Tmp) : (Cx e).pure h 67 d = true := by simp [Cx, pureF, impF, impC]
@[go_sem] theorem keep_68 (e : Exts) : (Cx e).keep 68 = [0, 1, 11, 15, 14, 16, 13, 4, 3, 38, 2] := rfl
@[go_sem] theorem alter_68 (e : Exts) (d : Option Tmp) : (Cx e).alter 68 d = false := rfl
theorem fn_68 (e : Exts) : (Cx e).P.funcs[68]? = some Try.f68 := Try.func68
theorem ext_68 {e : Exts} (he : Quiet e) : (Cx e).ext 68 = none := he _ (by decide) (by decide)
theorem pure_68 (e : Exts) (h : FuncId) (d : Option Tmp) : (Cx e).pure h 68 d = true := by simp [Cx, pureF, impF, impC]
@[go_sem] theorem keep_70 (e : Exts) : (Cx e).keep 70 = [0, 1, 2] := rfl
theorem fn_70 (e : Exts) : (Cx e).P.funcs[70]? = some Try.f70 := Try.func70
theorem ext_70 {e : Exts} (he : Quiet e) : (Cx e).ext 70 = none := he _ (by decide) (by decide)
theorem pure_70 (e : Exts) (h : FuncId) (d : Option Tmp) : (Cx e).pure h 70 d = true := by simp [Cx, pureF, impF, impC]
@[go_sem] theorem keep_71 (e : Exts) : (Cx e).keep 71 = [1, 0, 4] := rfl
@[go_sem] theorem alter_71 (e : Exts) (d : Option Tmp) : (Cx e).alter 71 d = false := rfl
theorem fn_71 (e : Exts) : (Cx e).P.funcs[71]? = some Try.f71 := Try.func71
theorem ext_71 {e : Exts} (he : Quiet e) : (Cx e).ext 71 = none := he _ (by decide) (by decide)
theorem pure_71 (e : Exts) (h : FuncId) (d : Option Tmp) : (Cx e).pure h 71 d = true := by simp [Cx, pureF, impF, impC]
@[go_sem] theorem keep_73 (e : Exts) : (Cx e).keep 73 = [0, 1, 9, 8, 10, 7, 6, 2, 22, 4] := rfl
theorem fn_73 (e : Exts) : (Cx e).P.funcs[73]? = some Try.f73 := Try.func73
theorem ext_73 {e : Exts} (he : Quiet e) : (Cx e).ext 73 = none := he _ (by decide) (by decide)
theorem pure_73 (e : Exts) (h : FuncId) (d : Option Tmp) : (Cx e).pure h 73 d = true := by simp [Cx, pureF, impF, impC]
@[go_sem] theorem keep_76 (e : Exts) : (Cx e).keep 76 = [0, 1, 4] := rfl
theorem fn_76 (e : Exts) : (Cx e).P.funcs[76]? = some Try.f76 := Try.func76
theorem ext_76 {e : Exts} (he : Quiet e) : (Cx e).ext 76 = none := he _ (by decide) (by decide)
theorem pure_76 (e : Exts) (h : FuncId) (d : Option Tmp) : (Cx e).pure h 76 d = true := by simp [Cx, pureF, impF, impC]
@[go_sem] theorem keep_81 (e : Exts) : (Cx e).keep 81 = [0, 2] := rfl
theorem fn_81 (e : Exts) : (Cx e).P.funcs[81]? = some Try.f81 := Try.func81
theorem ext_81 {e : Exts} (he : Quiet e) : (Cx e).ext 81 = none := he _ (by decide) (by decide)
theorem pure_81 (e : Exts) (h : FuncId) (d : Option Tmp) : (Cx e).pure h 81 d = true := by simp [Cx, pureF, impF, impC]
@[go_sem] theorem keep_84 (e : Exts) : (Cx e).keep 84 = [0, 1, 2, 3, 4] := rfl
@[go_sem] theorem alter_84 (e : Exts) (d : Option Tmp) : (Cx e).alter 84 d = false := rfl
theorem fn_84 (e : Exts) : (Cx e).P.funcs[84]? = some Try.f84 := Try.func84
theorem ext_86 {e : Exts} (he : Quiet e) : (Cx e).ext 86 = none := he _ (by decide) (by decide)
theorem pure_86 (e : Exts) (h : FuncId) (d : Option Tmp) : (Cx e).pure h 86 d = true := by simp [Cx, pureF, impF, impC]
@[go_sem] theorem keep_87 (e : Exts) : (Cx e).keep 87 = [0, 1, 14, 17, 16, 18, 15, 7, 2, 8, 9, 30, 6] := rfl
theorem fn_87 (e : Exts) : (Cx e).P.funcs[87]? = some Try.f87 := Try.func87
theorem ext_87 {e : Exts} (he : Quiet e) : (Cx e).ext 87 = none := he _ (by decide) (by decide)
@[go_sem] theorem keep_88 (e : Exts) : (Cx e).keep 88 = [0, 1, 2, 3, 4] := rfl
theorem fn_88 (e : Exts) : (Cx e).P.funcs[88]? = some Try.f88 := Try.func88
theorem ext_88 {e : Exts} (he : Quiet e) : (Cx e).ext 88 = none := he _ (by decide) (by decide)
theorem pure_88 (e : Exts) (h : FuncId) (d : Option Tmp) : (Cx e).pure h 88 d = true := by simp [Cx, pureF, impF, impC]
@[go_sem] theorem keep_89 (e : Exts) : (Cx e).keep 89 = [0, 1, 7, 8, 9, 3, 4, 5, 2, 19] := rfl
theorem fn_89 (e : Exts) : (Cx e).P.funcs[89]? = some Try.f89 := Try.func89
@[go_sem] theorem keep_90 (e : Exts) : (Cx e).keep 90 = [0, 1, 13, 14, 16, 17, 6, 7, 5, 8, 36, 9, 42, 4] := rfl
theorem fn_90 (e : Exts) : (Cx e).P.funcs[90]? = some Try.f90 := Try.func90
theorem ext_90 {e : Exts} (he : Quiet e) : (Cx e).ext 90 = none := he _ (by decide) (by decide)
theorem pure_90 (e : Exts) (h : FuncId) (d : Option Tmp) : (Cx e).pure h 90 d = true := by simp [Cx, pureF, impF, impC]
@[go_sem] theorem keep_91 (e : Exts) : (Cx e).keep 91 = [1, 0, 2, 6] := rfl
theorem fn_91 (e : Exts) : (Cx e).P.funcs[91]? = some Try.f91 := Try.func91
theorem ext_91 {e : Exts} (he : Quiet e) : (Cx e).ext 91 = none := he _ (by decide) (by decide)
theorem pure_91 (e : Exts) (h : FuncId) (d : Option Tmp) : (Cx e).pure h 91 d = true := by simp [Cx, pureF, impF, impC]
@[go_sem] theorem keep_92 (e : Exts) : (Cx e).keep 92 = [0, 1, 2, 7, 8, 9, 42, 45, 6] := rfl
theorem fn_92 (e : Exts) : (Cx e).P.funcs[92]? = some Try.f92 := Try.func92
theorem ext_92 {e : Exts} (he : Quiet e) : (Cx e).ext 92 = none := he _ (by decide) (by decide)
theorem pure_92 (e : Exts) (h : FuncId) (d : Option Tmp) : (Cx e).pure h 92 d = true := by simp [Cx, pureF, impF, impC]
@[go_sem] theorem keep_93 (e : Exts) : (Cx e).keep 93 = [0, 1, 2, 3, 12, 5, 17, 49, 4] := rfl
theorem fn_93 (e : Exts) : (Cx e).P.funcs[93]? = some Try.f93 := Try.func93
theorem ext_93 {e : Exts} (he : Quiet e) : (Cx e).ext 93 = none := he _ (by decide) (by decide)
theorem pure_93 (e : Exts) (h : FuncId) (d : Option Tmp) : (Cx e).pure h 93 d = true := by simp [Cx, pureF, impF, impC]
@[go_sem] theorem keep_94 (e : Exts) : (Cx e).keep 94 = [0, 1, 11, 12, 26, 2, 3, 42, 9, 68, 10, 13, 121, 8] := rfl
@[go_sem] theorem alter_94 (e : Exts) (d : Option Tmp) : (Cx e).alter 94 d = false := rfl
theorem fn_94 (e : Exts) : (Cx e).P.funcs[94]? = some Try.f94 := Try.func94
theorem ext_94 {e : Exts} (he : Quiet e) : (Cx e).ext 94 = none := he _ (by decide) (by decide)
theorem pure_94 (e : Exts) (h : FuncId) (d : Option Tmp) : (Cx e).pure h 94 d = true := by simp [Cx, pureF, impF, impC]
@[go_sem] theorem keep_95 (e : Exts) : (Cx e).keep 95 = [1, 0, 3, 4] := rfl
theorem fn_95 (e : Exts) : (Cx e).P.funcs[95]? = some Try.f95 := Try.func95
theorem ext_95 {e : Exts} (he : Quiet e) : (Cx e).ext 95 = none := he _ (by decide) (by decide)
theorem pure_95 (e : Exts) (h : FuncId) (d : Option Tmp) : (Cx e).pure h 95 d = true := by simp [Cx, pureF, impF, impC]
@[go_sem] theorem keep_96 (e : Exts) : (Cx e).keep 96 = [0, 12, 15, 14, 16, 4, 25, 31, 30, 32, 29, 6, 37, 3, 2] := rfl
@[go_sem] theorem alter_96 (e : Exts) (d : Option Tmp) : (Cx e).alter 96 d = false := rfl
theorem fn_96 (e : Exts) : (Cx e).P.funcs[96]? = some Try.f96 := Try.func96
theorem ext_96 {e : Exts} (he : Quiet e) : (Cx e).ext 96 = none := he _ (by decide) (by decide)
theorem pure_96 (e : Exts) (h : FuncId) (d : Option Tmp) : (Cx e).pure h 96 d = true := by simp [Cx, pureF, impF, impC]
@[go_sem] theorem keep_97 (e : Exts) : (Cx e).keep 97 = [1, 10, 9, 11, 8, 4, 18, 17, 19, 0, 3, 5, 31] := rfl
theorem fn_97 (e : Exts) : (Cx e).P.funcs[97]? = some Try.f97 := Try.func97
@[go_sem] theorem keep_106 (e : Exts) : (Cx e).keep 106 = [0, 8, 7, 9, 6, 5, 3, 14, 2] := rfl
theorem fn_106 (e : Exts) : (Cx e).P.funcs[106]? = some Try.f106 := Try.func106
theorem ext_106 {e : Exts} (he : Quiet e) : (Cx e).ext 106 = none := he _ (by decide) (by decide)
theorem pure_106 (e : Exts) (h : FuncId) (d : Option Tmp) : (Cx e).pure h 106 d = true := by simp [Cx, pureF, impF, impC]
@[go_sem] theorem keep_107 (e : Exts) : (Cx e).keep 107 = [0, 1, 5, 11, 6, 12, 13, 16, 19, 4] := rfl
theorem fn_107 (e : Exts) : (Cx e).P.funcs[107]? = some Try.f107 := Try.func107
theorem ext_107 {e : Exts} (he : Quiet e) : (Cx e).ext 107 = none := he _ (by decide) (by decide)
theorem pure_107 (e : Exts) (h : FuncId) (d : Option Tmp) : (Cx e).pure h 107 d = true := by simp [Cx, pureF, impF, impC]
@[go_sem] theorem keep_108 (e : Exts) : (Cx e).keep 108 = [1, 0, 2, 21, 25] := rfl
theorem fn_108 (e : Exts) : (Cx e).P.funcs[108]? = some Try.f108 := Try.func108
theorem ext_108 {e : Exts} (he : Quiet e) : (Cx e).ext 108 = none := he _ (by decide) (by decide)
@[go_sem] theorem keep_109 (e : Exts) : (Cx e).keep 109 = [0, 6, 15, 5, 1, 7, 28, 65, 80, 95, 4] := rfl
theorem fn_109 (e : Exts) : (Cx e).P.funcs[109]? = some Try.f109 := Try.func109
theorem ext_109 {e : Exts} (he : Quiet e) : (Cx e).ext 109 = none := he _ (by decide) (by decide)
theorem pure_109 (e : Exts) (h : FuncId) (d : Option Tmp) : (Cx e).pure h 109 d = true := by simp [Cx, pureF, impF, impC]
@[go_sem] theorem keep_110 (e : Exts) : (Cx e).keep 110 = [0, 1, 4] := rfl
theorem fn_110 (e : Exts) : (Cx e).P.funcs[110]? = some Try.f110 := Try.func110
theorem ext_110 {e : Exts} (he : Quiet e) : (Cx e).ext 110 = none := he _ (by decide) (by decide)
@[go_sem] theorem keep_111 (e : Exts) : (Cx e).keep 111 = [0, 2, 1, 3] := rfl
theorem fn_111 (e : Exts) : (Cx e).P.funcs[111]? = some Try.f111 := Try.func111
theorem ext_111 {e : Exts} (he : Quiet e) : (Cx e).ext 111 = none := he _ (by decide) (by decide)
theorem pure_111 (e : Exts) (h : FuncId) (d : Option Tmp) : (Cx e).pure h 111 d = true := by simp [Cx, pureF, impF, impC]
@[go_sem] theorem keep_129 (e : Exts) : (Cx e).keep 129 = [0, 2] := rfl
theorem fn_129 (e : Exts) : (Cx e).P.funcs[129]? = some Try.f129 := Try.func129
theorem ext_129 {e : Exts} (he : Quiet e) : (Cx e).ext 129 = none := he _ (by decide) (by decide)
theorem pure_129 (e : Exts) (h : FuncId) (d : Option Tmp) : (Cx e).pure h 129 d = true := by simp [Cx, pureF, impF, impC]
@[go_sem] theorem keep_130 (e : Exts) : (Cx e).keep 130 = [0, 8, 7, 9, 1, 5, 16, 4] := rfl
theorem fn_130 (e : Exts) : (Cx e).P.funcs[130]? = some Try.f130 := Try.func130
theorem ext_130 {e : Exts} (he : Quiet e) : (Cx e).ext 130 = none := he _ (by decide) (by decide)
theorem isagg_3 : isAggT Try.prog 3 = some false := by kernel_rfl
@[go_sem] theorem part_3 (cs : List AV) (k : Nat) : partOf Try.prog 3 cs k = cs[k]? := partOf_one cs k isagg_3 size_3
@[go_sem] theorem store_3 (H : Heap) (b v k : Nat) (x : AV) : storeA Try.prog H 3 (.ptr b v k) x = if x.cells.length = 1 then storeCells H b v k x.cells else none := by unfold storeA; rw [size_3]
theorem isagg_9 : isAggT Try.prog 9 = some false := by kernel_rfl
@[go_sem] theorem part_9 (cs : List AV) (k : Nat) : partOf Try.prog 9 cs k = cs[k]? := partOf_one cs k isagg_9 size_9
theorem und_9 : Try.prog.underlying 9 = some .string := by kernel_rfl
@[go_sem] theorem len_9 (H : Heap) (s : ByteArray) : lenA Try.prog H [9] [.v (.string s)] = some (.v (.int .i64 s.size)) := len_str und_9 H s []
@[go_sem] theorem idx_9 (s : ByteArray) (k : IntKind) (n : Int) : indexA Try.prog 9 (.v (.string s)) (.v (.int k n)) = if 0 ≤ n then (strAt s n.toNat).map fun b => .v (.int .u8 b.toNat) else none := index_str und_9 s k n
theorem isagg_22 : isAggT Try.prog 22 = some false := by kernel_rfl
@[go_sem] theorem part_22 (cs : List AV) (k : Nat) : partOf Try.prog 22 cs k = cs[k]? := partOf_one cs k isagg_22 size_22
@[go_sem] theorem store_22 (H : Heap) (b v k : Nat) (x : AV) : storeA Try.prog H 22 (.ptr b v k) x = if x.cells.length = 1 then storeCells H b v k x.cells else none := by unfold storeA; rw [size_22]
theorem und_22 : Try.prog.underlying 22 = some (.slice 78) := by kernel_rfl
@[go_sem] theorem len_22 (H : Heap) (x : AV) : lenA Try.prog H [22] [x] = slLen x := len_sl und_22 H x
@[go_sem] theorem idx_22 (x y : AV) : indexAddrA Try.prog 22 x y = slIdx 2 x y := idx_sl und_22 size_78 x y
@[go_sem] theorem bsl_22 (mt : Bool) (H : Heap) (slot len : Nat) (parts : List (Nat × AV)) : buildSliceA Try.prog mt H slot 22 len parts = if len * 2 ≤ 65536 then (fillA (fun i => some (i * 2, 2)) (repeatCells [.v (.int .i64 0), .v (.slice none 0 0)] len) parts).bind (bsFin mt 78 2 H slot len) else none := buildSl_eq und_22 size_78 zero_78 (by decide) rfl mt H slot len parts
theorem isagg_24 : isAggT Try.prog 24 = some true := by kernel_rfl
@[go_sem] theorem part_24 (cs : List AV) (k : Nat) : partOf Try.prog 24 cs k = if k + 1 ≤ cs.length then some (.agg ((cs.drop k).take 1)) else none := partOf_agg cs k isagg_24 size_24
@[go_sem] theorem store_24 (H : Heap) (b v k : Nat) (x : AV) : storeA Try.prog H 24 (.ptr b v k) x = if x.cells.length = 1 then storeCells H b v k x.cells else none := by unfold storeA; rw [size_24]
theorem foff_24_0 : fieldOff Try.prog 24 0 = some (0, 1) := by kernel_rfl
@[go_sem] theorem fptr_24_0 (b v k : Nat) : fieldAddrA Try.prog 24 (.ptr b v k) 0 = some (.ptr b v (k + 0)) := fieldAddr_ptr foff_24_0 b v k
@[go_sem] theorem fro_24_0 (z : AV) (k : Nat) : fieldAddrA Try.prog 24 (.ro z k) 0 = some (.ro z (k + 0)) := fieldAddr_ro foff_24_0 z k
theorem isagg_26 : isAggT Try.prog 26 = some true := by kernel_rfl
@[go_sem] theorem part_26 (cs : List AV) (k : Nat) : partOf Try.prog 26 cs k = if k + 3 ≤ cs.length then some (.agg ((cs.drop k).take 3)) else none := partOf_agg cs k isagg_26 size_26
@[go_sem] theorem store_26 (H : Heap) (b v k : Nat) (x : AV) : storeA Try.prog H 26 (.ptr b v k) x = if x.cells.length = 3 then storeCells H b v k x.cells else none := by unfold storeA; rw [size_26]
theorem foff_26_0 : fieldOff Try.prog 26 0 = some (0, 1) := by kernel_rfl
@[go_sem] theorem fptr_26_0 (b v k : Nat) : fieldAddrA Try.prog 26 (.ptr b v k) 0 = some (.ptr b v (k + 0)) := fieldAddr_ptr foff_26_0 b v k
theorem foff_26_1 : fieldOff Try.prog 26 1 = some (1, 1) := by kernel_rfl
@[go_sem] theorem fptr_26_1 (b v k : Nat) : fieldAddrA Try.prog 26 (.ptr b v k) 1 = some (.ptr b v (k + 1)) := fieldAddr_ptr foff_26_1 b v k
theorem foff_26_2 : fieldOff Try.prog 26 2 = some (2, 1) := by kernel_rfl
@[go_sem] theorem fptr_26_2 (b v k : Nat) : fieldAddrA Try.prog 26 (.ptr b v k) 2 = some (.ptr b v (k + 2)) := fieldAddr_ptr foff_26_2 b v k
@[go_sem] theorem build_26 (ps : List (Nat × AV)) : buildA Try.prog 26 ps = (fillA (fun i => ([(0, 1), (1, 1), (2, 1)] : List (Nat × Nat))[i]?) [.v (.int .i64 0), .v (.int .i64 0), .v (.int .i64 0)] ps).map .agg := by kernel_rfl
theorem isagg_51 : isAggT Try.prog 51 = some false := by kernel_rfl
@[go_sem] theorem part_51 (cs : List AV) (k : Nat) : partOf Try.prog 51 cs k = cs[k]? := partOf_one cs k isagg_51 size_51
theorem und_51 : Try.prog.underlying 51 = some (.slice 9) := by kernel_rfl
@[go_sem] theorem len_51 (H : Heap) (x : AV) : lenA Try.prog H [51] [x] = slLen x := len_sl und_51 H x
@[go_sem] theorem idx_51 (x y : AV) : indexAddrA Try.prog 51 x y = slIdx 1 x y := idx_sl und_51 size_9 x y
@[go_sem] theorem bsl_51 (mt : Bool) (H : Heap) (slot len : Nat) (parts : List (Nat × AV)) : buildSliceA Try.prog mt H slot 51 len parts = if len * 1 ≤ 65536 then (fillA (fun i => some (i * 1, 1)) (repeatCells [.v (.string ⟨#[]⟩)] len) parts).bind (bsFin mt 9 1 H slot len) else none := buildSl_eq und_51 size_9 zero_9 (by decide) rfl mt H slot len parts
theorem isagg_60 : isAggT Try.prog 60 = some false := by kernel_rfl
@[go_sem] theorem part_60 (cs : List AV) (k : Nat) : partOf Try.prog 60 cs k = cs[k]? := partOf_one cs k isagg_60 size_60
@[go_sem] theorem store_60 (H : Heap) (b v k : Nat) (x : AV) : storeA Try.prog H 60 (.ptr b v k) x = if x.cells.length = 1 then storeCells H b v k x.cells else none := by unfold storeA; rw [size_60]
theorem und_60 : Try.prog.underlying 60 = some (.slice 108) := by kernel_rfl
@[go_sem] theorem len_60 (H : Heap) (x : AV) : lenA Try.prog H [60] [x] = slLen x := len_sl und_60 H x
@[go_sem] theorem idx_60 (x y : AV) : indexAddrA Try.prog 60 x y = slIdx 5 x y := idx_sl und_60 size_108 x y
@[go_sem] theorem bsl_60 (mt : Bool) (H : Heap) (slot len : Nat) (parts : List (Nat × AV)) : buildSliceA Try.prog mt H slot 60 len parts = if len * 5 ≤ 65536 then (fillA (fun i => some (i * 5, 5)) (repeatCells [.v (.int .i64 0), .v (.int .i64 0), .v (.int .i64 0), .v (.int .u8 0), .v (.string ⟨#[]⟩)] len) parts).bind (bsFin mt 108 5 H slot len) else none := buildSl_eq und_60 size_108 zero_108 (by decide) rfl mt H slot len parts
theorem isagg_62 : isAggT Try.prog 62 = some true := by kernel_rfl
@[go_sem] theorem part_62 (cs : List AV) (k : Nat) : partOf Try.prog 62 cs k = if k + 2 ≤ cs.length then some (.agg ((cs.drop k).take 2)) else none := partOf_agg cs k isagg_62 size_62
@[go_sem] theorem store_62 (H : Heap) (b v k : Nat) (x : AV) : storeA Try.prog H 62 (.ptr b v k) x = if x.cells.length = 2 then storeCells H b v k x.cells else none := by unfold storeA; rw [size_62]
theorem foff_62_0 : fieldOff Try.prog 62 0 = some (0, 1) := by kernel_rfl
@[go_sem] theorem fptr_62_0 (b v k : Nat) : fieldAddrA Try.prog 62 (.ptr b v k) 0 = some (.ptr b v (k + 0)) := fieldAddr_ptr foff_62_0 b v k
theorem foff_62_1 : fieldOff Try.prog 62 1 = some (1, 1) := by kernel_rfl
@[go_sem] theorem fptr_62_1 (b v k : Nat) : fieldAddrA Try.prog 62 (.ptr b v k) 1 = some (.ptr b v (k + 1)) := fieldAddr_ptr foff_62_1 b v k
@[go_sem] theorem build_62 (ps : List (Nat × AV)) : buildA Try.prog 62 ps = (fillA (fun i => ([(0, 1), (1, 1)] : List (Nat × Nat))[i]?) [.v (.int .i64 0), .v (.slice none 0 0)] ps).map .agg := by kernel_rfl
theorem isagg_76 : isAggT Try.prog 76 = some false := by kernel_rfl
@[go_sem] theorem part_76 (cs : List AV) (k : Nat) : partOf Try.prog 76 cs k = cs[k]? := partOf_one cs k isagg_76 size_76
@[go_sem] theorem store_76 (H : Heap) (b v k : Nat) (x : AV) : storeA Try.prog H 76 (.ptr b v k) x = if x.cells.length = 1 then storeCells H b v k x.cells else none := by unfold storeA; rw [size_76]
theorem und_76 : Try.prog.underlying 76 = some (.slice 51) := by kernel_rfl
@[go_sem] theorem len_76 (H : Heap) (x : AV) : lenA Try.prog H [76] [x] = slLen x := len_sl und_76 H x
@[go_sem] theorem idx_76 (x y : AV) : indexAddrA Try.prog 76 x y = slIdx 1 x y := idx_sl und_76 size_51 x y
@[go_sem] theorem bsl_76 (mt : Bool) (H : Heap) (slot len : Nat) (parts : List (Nat × AV)) : buildSliceA Try.prog mt H slot 76 len parts = if len * 1 ≤ 65536 then (fillA (fun i => some (i * 1, 1)) (repeatCells [.v (.slice none 0 0)] len) parts).bind (bsFin mt 51 1 H slot len) else none := buildSl_eq und_76 size_51 zero_51 (by decide) rfl mt H slot len parts
theorem isagg_78 : isAggT Try.prog 78 = some true := by kernel_rfl
@[go_sem] theorem part_78 (cs : List AV) (k : Nat) : partOf Try.prog 78 cs k = if k + 2 ≤ cs.length then some (.agg ((cs.drop k).take 2)) else none := partOf_agg cs k isagg_78 size_78
@[go_sem] theorem store_78 (H : Heap) (b v k : Nat) (x : AV) : storeA Try.prog H 78 (.ptr b v k) x = if x.cells.length = 2 then storeCells H b v k x.cells else none := by unfold storeA; rw [size_78]
theorem foff_78_0 : fieldOff Try.prog 78 0 = some (0, 1) := by kernel_rfl
@[go_sem] theorem fptr_78_0 (b v k : Nat) : fieldAddrA Try.prog 78 (.ptr b v k) 0 = some (.ptr b v (k + 0)) := fieldAddr_ptr foff_78_0 b v k
@[go_sem] theorem fro_78_0 (z : AV) (k : Nat) : fieldAddrA Try.prog 78 (.ro z k) 0 = some (.ro z (k + 0)) := fieldAddr_ro foff_78_0 z k
theorem foff_78_1 : fieldOff Try.prog 78 1 = some (1, 1) := by kernel_rfl
@[go_sem] theorem fptr_78_1 (b v k : Nat) : fieldAddrA Try.prog 78 (.ptr b v k) 1 = some (.ptr b v (k + 1)) := fieldAddr_ptr foff_78_1 b v k
@[go_sem] theorem fro_78_1 (z : AV) (k : Nat) : fieldAddrA Try.prog 78 (.ro z k) 1 = some (.ro z (k + 1)) := fieldAddr_ro foff_78_1 z k
@[go_sem] theorem build_78 (ps : List (Nat × AV)) : buildA Try.prog 78 ps = (fillA (fun i => ([(0, 1), (1, 1)] : List (Nat × Nat))[i]?) [.v (.int .i64 0), .v (.slice none 0 0)] ps).map .agg := by kernel_rfl
theorem isagg_89 : isAggT Try.prog 89 = some true := by kernel_rfl
@[go_sem] theorem part_89 (cs : List AV) (k : Nat) : partOf Try.prog 89 cs k = if k + 1 ≤ cs.length then some (.agg ((cs.drop k).take 1)) else none := partOf_agg cs k isagg_89 size_89
@[go_sem] theorem store_89 (H : Heap) (b v k : Nat) (x : AV) : storeA Try.prog H 89 (.ptr b v k) x = if x.cells.length = 1 then storeCells H b v k x.cells else none := by unfold storeA; rw [size_89]
theorem foff_89_0 : fieldOff Try.prog 89 0 = some (0, 1) := by kernel_rfl
@[go_sem] theorem fptr_89_0 (b v k : Nat) : fieldAddrA Try.prog 89 (.ptr b v k) 0 = some (.ptr b v (k + 0)) := fieldAddr_ptr foff_89_0 b v k
@[go_sem] theorem fro_89_0 (z : AV) (k : Nat) : fieldAddrA Try.prog 89 (.ro z k) 0 = some (.ro z (k + 0)) := fieldAddr_ro foff_89_0 z k
@[go_sem] theorem build_89 (ps : List (Nat × AV)) : buildA Try.prog 89 ps = (fillA (fun i => ([(0, 1)] : List (Nat × Nat))[i]?) [.v (.slice none 0 0)] ps).map .agg := by kernel_rfl
theorem isagg_108 : isAggT Try.prog 108 = some true := by kernel_rfl
@[go_sem] theorem part_108 (cs : List AV) (k : Nat) : partOf Try.prog 108 cs k = if k + 5 ≤ cs.length then some (.agg ((cs.drop k).take 5)) else none := partOf_agg cs k isagg_108 size_108
@[go_sem] theorem build_108 (ps : List (Nat × AV)) : buildA Try.prog 108 ps = (fillA (fun i => ([(0, 3), (3, 1), (4, 1)] : List (Nat × Nat))[i]?) [.v (.int .i64 0), .v (.int .i64 0), .v (.int .i64 0), .v (.int .u8 0), .v (.string ⟨#[]⟩)] ps).map .agg := by kernel_rfl
theorem und_121 : Try.prog.underlying 121 = some (.array 12 3) := by kernel_rfl
@[go_sem] theorem idx_121 (x y : AV) : indexAddrA Try.prog 121 x y = arIdx 12 1 x y := idx_ar und_121 size_3 x y
theorem und_122 : Try.prog.underlying 122 = some (.array 12 121) := by kernel_rfl
@[go_sem] theorem idx_122 (x y : AV) : indexAddrA Try.prog 122 x y = arIdx 12 12 x y := idx_ar und_122 size_121 x y
theorem isagg_124 : isAggT Try.prog 124 = some true := by kernel_rfl
@[go_sem] theorem part_124 (cs : List AV) (k : Nat) : partOf Try.prog 124 cs k = if k + 146 ≤ cs.length then some (.agg ((cs.drop k).take 146)) else none := partOf_agg cs k isagg_124 size_124
@[go_sem] theorem store_124 (H : Heap) (b v k : Nat) (x : AV) : storeA Try.prog H 124 (.ptr b v k) x = if x.cells.length = 146 then storeCells H b v k x.cells else none := by unfold storeA; rw [size_124]
theorem foff_124_0 : fieldOff Try.prog 124 0 = some (0, 1) := by kernel_rfl
@[go_sem] theorem fptr_124_0 (b v k : Nat) : fieldAddrA Try.prog 124 (.ptr b v k) 0 = some (.ptr b v (k + 0)) := fieldAddr_ptr foff_124_0 b v k
theorem foff_124_1 : fieldOff Try.prog 124 1 = some (1, 1) := by kernel_rfl
@[go_sem] theorem fptr_124_1 (b v k : Nat) : fieldAddrA Try.prog 124 (.ptr b v k) 1 = some (.ptr b v (k + 1)) := fieldAddr_ptr foff_124_1 b v k
theorem foff_124_2 : fieldOff Try.prog 124 2 = some (2, 144) := by kernel_rfl
@[go_sem] theorem fptr_124_2 (b v k : Nat) : fieldAddrA Try.prog 124 (.ptr b v k) 2 = some (.ptr b v (k + 2)) := fieldAddr_ptr foff_124_2 b v k
theorem build_124 (ps : List (Nat × AV)) : buildA Try.prog 124 ps = (fillA (fun i => ([(0, 1), (1, 1), (2, 144)] : List (Nat × Nat))[i]?) [.v (.slice none 0 0), .v (.slice none 0 0), .v (.int .i64 0), .v (.int .i64 0), .v (.int .i64 0), .v (.int .i64 0), .v (.int .i64 0), .v (.int .i64 0), .v (.int .i64 0), .v (.int .i64 0), .v (.int .i64 0), .v (.int .i64 0), .v (.int .i64 0), .v (.int .i64 0), .v (.int .i64 0), .v (.int .i64 0), .v (.int .i64 0), .v (.int .i64 0), .v (.int .i64 0), .v (.int .i64 0), .v (.int .i64 0), .v (.int .i64 0), .v (.int .i64 0), .v (.int .i64 0), .v (.int .i64 0), .v (.int .i64 0), .v (.int .i64 0), .v (.int .i64 0), .v (.int .i64 0), .v (.int .i64 0), .v (.int .i64 0), .v (.int .i64 0), .v (.int .i64 0), .v (.int .i64 0), .v (.int .i64 0), .v (.int .i64 0), .v (.int .i64 0), .v (.int .i64 0), .v (.int .i64 0), .v (.int .i64 0), .v (.int .i64 0), .v (.int .i64 0), .v (.int .i64 0), .v (.int .i64 0), .v (.int .i64 0), .v (.int .i64 0), .v (.int .i64 0), .v (.int .i64 0), .v (.int .i64 0), .v (.int .i64 0), .v (.int .i64 0), .v (.int .i64 0), .v (.int .i64 0), .v (.int .i64 0), .v (.int .i64 0), .v (.int .i64 0), .v (.int .i64 0), .v (.int .i64 0), .v (.int .i64 0), .v (.int .i64 0), .v (.int .i64 0), .v (.int .i64 0), .v (.int .i64 0), .v (.int .i64 0), .v (.int .i64 0), .v (.int .i64 0), .v (.int .i64 0), .v (.int .i64 0), .v (.int .i64 0), .v (.int .i64 0), .v (.int .i64 0), .v (.int .i64 0), .v (.int .i64 0), .v (.int .i64 0), .v (.int .i64 0), .v (.int .i64 0), .v (.int .i64 0), .v (.int .i64 0), .v (.int .i64 0), .v (.int .i64 0), .v (.int .i64 0), .v (.int .i64 0), .v (.int .i64 0), .v (.int .i64 0), .v (.int .i64 0), .v (.int .i64 0), .v (.int .i64 0), .v (.int .i64 0), .v (.int .i64 0), .v (.int .i64 0), .v (.int .i64 0), .v (.int .i64 0), .v (.int .i64 0), .v (.int .i64 0), .v (.int .i64 0), .v (.int .i64 0), .v (.int .i64 0), .v (.int .i64 0), .v (.int .i64 0), .v (.int .i64 0), .v (.int .i64 0), .v (.int .i64 0), .v (.int .i64 0), .v (.int .i64 0), .v (.int .i64 0), .v (.int .i64 0), .v (.int .i64 0), .v (.int .i64 0), .v (.int .i64 0), .v (.int .i64 0), .v (.int .i64 0), .v (.int .i64 0), .v (.int .i64 0), .v (.int .i64 0), .v (.int .i64 0), .v (.int .i64 0), .v (.int .i64 0), .v (.int .i64 0), .v (.int .i64 0), .v (.int .i64 0), .v (.int .i64 0), .v (.int .i64 0), .v (.int .i64 0), .v (.int .i64 0), .v (.int .i64 0), .v (.int .i64 0), .v (.int .i64 0), .v (.int .i64 0), .v (.int .i64 0), .v (.int .i64 0), .v (.int .i64 0), .v (.int .i64 0), .v (.int .i64 0), .v (.int .i64 0), .v (.int .i64 0), .v (.int .i64 0), .v (.int .i64 0), .v (.int .i64 0), .v (.int .i64 0), .v (.int .i64 0), .v (.int .i64 0), .v (.int .i64 0), .v (.int .i64 0), .v (.int .i64 0), .v (.int .i64 0), .v (.int .i64 0)] ps).map .agg := by kernel_rfl
theorem foff_137_0 : fieldOff Try.prog 137 0 = some (0, 1) := by kernel_rfl
@[go_sem] theorem fptr_137_0 (b v k : Nat) : fieldAddrA Try.prog 137 (.ptr b v k) 0 = some (.ptr b v (k + 0)) := fieldAddr_ptr foff_137_0 b v k
theorem foff_137_1 : fieldOff Try.prog 137 1 = some (1, 1) := by kernel_rfl
@[go_sem] theorem fptr_137_1 (b v k : Nat) : fieldAddrA Try.prog 137 (.ptr b v k) 1 = some (.ptr b v (k + 1)) := fieldAddr_ptr foff_137_1 b v k
@[go_sem] theorem build_137 (ps : List (Nat × AV)) : buildA Try.prog 137 ps = (fillA (fun i => ([(0, 1), (1, 1)] : List (Nat × Nat))[i]?) [.v (.int .i64 0), .v (.int .i64 0)] ps).map .agg := by kernel_rfl
theorem isagg_144 : isAggT Try.prog 144 = some false := by kernel_rfl
@[go_sem] theorem part_144 (cs : List AV) (k : Nat) : partOf Try.prog 144 cs k = cs[k]? := partOf_one cs k isagg_144 size_144
@[go_sem] theorem store_144 (H : Heap) (b v k : Nat) (x : AV) : storeA Try.prog H 144 (.ptr b v k) x = if x.cells.length = 1 then storeCells H b v k x.cells else none := by unfold storeA; rw [size_144]
theorem und_144 : Try.prog.underlying 144 = some (.slice 3) := by kernel_rfl
@[go_sem] theorem len_144 (H : Heap) (x : AV) : lenA Try.prog H [144] [x] = slLen x := len_sl und_144 H x
@[go_sem] theorem idx_144 (x y : AV) : indexAddrA Try.prog 144 x y = slIdx 1 x y := idx_sl und_144 size_3 x y
@[go_sem] theorem bsl_144 (mt : Bool) (H : Heap) (slot len : Nat) (parts : List (Nat × AV)) : buildSliceA Try.prog mt H slot 144 len parts = if len * 1 ≤ 65536 then (fillA (fun i => some (i * 1, 1)) (repeatCells [.v (.int .i64 0)] len) parts).bind (bsFin mt 3 1 H slot len) else none := buildSl_eq und_144 size_3 zero_3 (by decide) rfl mt H slot len parts
theorem isagg_152 : isAggT Try.prog 152 = some false := by kernel_rfl
@[go_sem] theorem part_152 (cs : List AV) (k : Nat) : partOf Try.prog 152 cs k = cs[k]? := partOf_one cs k isagg_152 size_152
theorem und_177 : Try.prog.underlying 177 = some (.slice 144) := by kernel_rfl
@[go_sem] theorem idx_177 (x y : AV) : indexAddrA Try.prog 177 x y = slIdx 1 x y := idx_sl und_177 size_144 x y
attribute [go_sem] repeatCells splice chunk bsFin ne_eq not_true_eq_false not_false_eq_true List.headD_cons Bool.false_eq_true Nat.le_refl Nat.zero_mul Nat.one_mul Nat.mul_one assoc_setI decide_true decide_false Bool.not_true Bool.not_false List.mem_cons List.not_mem_nil true_or or_true false_or or_false and_true true_and and_self List.getElem?_cons_succ List.getElem?_cons_zero Option.bind_some Option.map_some Option.map_none List.map_cons List.map_nil List.length_cons List.length_nil List.filterMap_cons List.filterMap_nil List.cons_append List.nil_append List.append_nil Nat.zero_add Nat.add_zero List.take_succ_cons List.take_zero List.take_nil List.drop_succ_cons List.drop_zero List.drop_nil List.all_cons List.all_nil Bool.and_true Bool.true_and Bool.false_and Bool.and_false beq_iff_eq beq_self_eq_true
attribute [go_sem_proc] Nat.reduceEqDiff Nat.reduceLT Nat.reduceLeDiff Nat.reduceAdd Nat.reduceSub Nat.reduceMul reduceCtorEq
end Go.Ev
namespace Go.Ev
open Go.Proofs
set_option maxRecDepth 100000
set_option linter.unusedSimpArgs false
def firstLoop : Code → Option Code
  | .loop b => some b
  | .seq a b => (firstLoop a).orElse fun _ => firstLoop b
  | .block _ a => firstLoop a
  | .scope a => firstLoop a
  | .cond _ a b => (firstLoop a).orElse fun _ => firstLoop b
  | _ => none
def withinB (lo hi : Int) (ns : List Int) : Bool := ns.all fun n => decide (lo ≤ n) && decide (n ≤ hi)
def intA (n : Int) : AV := .v (.int .i64 n)
noncomputable def body69 : Code := ((Try.f73.body.bind firstLoop).getD .skip)
theorem loop69 {e : Exts} (lo hi : Int) (ns : List Int) (x : AV) (hx : SlOf 1 (ns.map intA) x) (hn : ns.length < 2 ^ 63) (H : Heap) (hH : H = ⟨[some (AObj.cells 0 0 137 1 false [intA lo, intA hi])], 0⟩) (K : Post) :
    ∀ m j : Nat, j + m = ns.length → (withinB lo hi (ns.drop j) = true → ∀ l, AtK K (.exit 0) ⟨24, l, []⟩ H) → (withinB lo hi (ns.drop j) = false → ∀ l, assoc 4 l = some (.v (.bool false)) → AtK K .ret ⟨24, l, []⟩ H) →
    Lp (Cx e) 73 none [0, 1, 2, 4, 7, 8, 9] body69 ⟨24, [(0, .agg [intA lo, intA hi]), (1, x), (2, .ptr 0 0 0), (4, .v (.bool false)), (7, x), (8, intA ns.length), (9, intA j)], []⟩ H K := by
  intro m
  induction m with
  | zero =>
    intro j hj h1 h2
    rw [Lp_step]
    generalize hK : loopK (Cx e) 73 none [0, 1, 2, 4, 7, 8, 9] body69 H.size K = KK
    unfold body69
    simp -implicitDefEqProofs only [Try.f73, firstLoop, Option.orElse_some, Option.orElse_none, Option.getD_some, intA, go_sem, ↓reduceIte]
    obtain rfl : j = ns.length := by omega
    simp -implicitDefEqProofs only [go_sem, ↓reduceIte, Int.lt_irrefl]
    subst hK
    simp -implicitDefEqProofs only [go_sem, ↓reduceIte]
    exact h1 (by simp [withinB]) _
  | succ m ih =>
    intro j hj h1 h2
    rw [Lp_step]
    generalize hK : loopK (Cx e) 73 none [0, 1, 2, 4, 7, 8, 9] body69 H.size K = KK
    unfold body69
    have hlt : (j : Int) < (ns.length : Int) := by omega
    have hy : (ns.map intA)[j]? = some (intA ns[j]) := by rw [List.getElem?_map, List.getElem?_eq_getElem (by omega)]; rfl
    have hw := wrap_succ j (by omega)
    have hd : withinB lo hi (ns.drop j) = ((decide (lo ≤ ns[j]) && decide (ns[j] ≤ hi)) && withinB lo hi (ns.drop (j + 1))) := by
      rw [List.drop_eq_getElem_cons (by omega : j < ns.length)]; rfl
    simp only [Try.f73, firstLoop, Option.orElse_some, Option.orElse_none, Option.getD_some, Option.bind_some]
    by_cases c1 : ns[j] < lo
    · simp -implicitDefEqProofs only [go_sem, ↓reduceIte, hH, intA, hlt, hw, hx.idx hy, c1]
      subst hK
      simp -implicitDefEqProofs only [go_sem, ↓reduceIte]
      rw [← intA, ← intA, ← hH]
      exact h2 (by rw [hd]; simp; omega) _ rfl
    · by_cases c2 : hi < ns[j]
      · simp -implicitDefEqProofs only [go_sem, ↓reduceIte, hH, intA, hlt, hw, hx.idx hy, c1, c2]
        subst hK
        simp -implicitDefEqProofs only [go_sem, ↓reduceIte]
        rw [← intA, ← intA, ← hH]
        exact h2 (by rw [hd]; simp; omega) _ rfl
      · simp -implicitDefEqProofs only [go_sem, ↓reduceIte, hH, intA, hlt, hw, hx.idx hy, c1, c2]
        subst hK
        simp -implicitDefEqProofs only [go_sem, ↓reduceIte, hH]
        have hd' : withinB lo hi (ns.drop j) = withinB lo hi (ns.drop (j + 1)) := by rw [hd]; simp; omega
        rw [hd'] at h1 h2
        have := ih (j + 1) (by omega) h1 h2
        rw [hH] at this
        exact this
set_option maxHeartbeats 1000000 in
theorem ans69 {e : Exts} (lo hi : Int) (ns : List Int) (hn : ns.length < 2 ^ 63) (x : AV) (hx : SlOf 1 (ns.map intA) x) : Ans (Cx e) 73 [.agg [intA lo, intA hi], x] (.v (.bool (withinB lo hi ns))) := by
  unfold Ans
  rw [fn_step (fn_73 e) (show Try.f73.body = some _ from rfl)]
  simp -implicitDefEqProofs only [Try.f73, intA, go_sem, ↓reduceIte, hx.len, List.length_map]
  refine loop69 lo hi ns x hx hn _ rfl _ ns.length 0 (by omega) ?_ ?_
  · intro h l
    simp -implicitDefEqProofs only [go_sem, ↓reduceIte]
    rw [List.drop_zero] at h
    rw [h]
  · intro h l hl
    rw [List.drop_zero] at h
    simp -implicitDefEqProofs only [go_sem, ↓reduceIte, hl]
    rw [h]
/-! ### isWord -/
def letter (c : UInt8) : Bool := decide (97 ≤ (c.toNat : Int)) && decide ((c.toNat : Int) ≤ 122)
def lettersB (s : ByteArray) (j : Nat) : Bool := (s.data.toList.drop j).all letter
def wordB (s : ByteArray) : Bool := withinB 1 12 [(s.size : Int)] && lettersB s 0
noncomputable def body49 : Code := ((Try.f49.body.bind firstLoop).getD .skip)
theorem strAt_lt (s : ByteArray) (j : Nat) (h : j < s.size) : strAt s j = some (s.data.toList[j]'(by simpa using h)) := by
  unfold strAt; exact List.getElem?_eq_getElem _
set_option maxHeartbeats 1000000 in
theorem loop49 {e : Exts} (s : ByteArray) (hn : s.size < 2 ^ 63) (H : Heap) (K : Post) :
    ∀ m j : Nat, j + m = s.size → (lettersB s j = true → ∀ l, AtK K (.exit 0) ⟨26, l, []⟩ H) → (lettersB s j = false → ∀ l, assoc 2 l = some (.v (.bool false)) → AtK K .ret ⟨26, l, []⟩ H) →
    Lp (Cx e) 49 none [0, 2, 9, 11, 12] body49 ⟨26, [(0, .v (.string s)), (2, .v (.bool false)), (9, .v (.bool false)), (11, intA s.size), (12, intA j)], []⟩ H K := by
  intro m
  induction m with
  | zero =>
    intro j hj h1 h2
    rw [Lp_step]
    generalize hK : loopK (Cx e) 49 none [0, 2, 9, 11, 12] body49 H.size K = KK
    unfold body49
    obtain rfl : j = s.size := by omega
    simp -implicitDefEqProofs only [Try.f49, firstLoop, Option.orElse_some, Option.orElse_none, Option.getD_some, intA, go_sem, ↓reduceIte, Int.lt_irrefl]
    subst hK
    simp -implicitDefEqProofs only [go_sem, ↓reduceIte]
    exact h1 (by unfold lettersB; rw [List.drop_of_length_le (by simp)]; rfl) _
  | succ m ih =>
    intro j hj h1 h2
    rw [Lp_step]
    generalize hK : loopK (Cx e) 49 none [0, 2, 9, 11, 12] body49 H.size K = KK
    unfold body49
    have hlt : (j : Int) < (s.size : Int) := by omega
    have hy := strAt_lt s j (by omega)
    have hjl : j < s.data.toList.length := by simp; omega
    have hw := wrap_succ j (by omega)
    have hj0 : (0 : Int) ≤ (j : Int) := by omega
    generalize hc : s.data.toList[j] = c at hy
    have hd : lettersB s j = (letter c && lettersB s (j + 1)) := by
      unfold lettersB
      rw [List.drop_eq_getElem_cons (by simp; omega), ← hc]; rfl
    simp only [Try.f49, firstLoop, Option.orElse_some, Option.orElse_none, Option.getD_some, Option.bind_some]
    by_cases c1 : (c.toNat : Int) < 97
    · simp -implicitDefEqProofs only [go_sem, ↓reduceIte, intA, hlt, hw, hy, c1, hj0, Int.toNat_natCast]
      subst hK
      simp -implicitDefEqProofs only [go_sem, ↓reduceIte]
      exact h2 (by rw [hd]; simp [letter]; omega) _ rfl
    · by_cases c2 : 122 < (c.toNat : Int)
      · simp -implicitDefEqProofs only [go_sem, ↓reduceIte, intA, hlt, hw, hy, c1, c2, hj0, Int.toNat_natCast]
        subst hK
        simp -implicitDefEqProofs only [go_sem, ↓reduceIte]
        exact h2 (by rw [hd]; simp [letter]; omega) _ rfl
      · simp -implicitDefEqProofs only [go_sem, ↓reduceIte, intA, hlt, hw, hy, c1, c2, hj0, Int.toNat_natCast]
        subst hK
        simp -implicitDefEqProofs only [go_sem, ↓reduceIte]
        have hd' : lettersB s j = lettersB s (j + 1) := by rw [hd]; simp [letter]; omega
        rw [hd'] at h1 h2
        exact ih (j + 1) (by omega) h1 h2
theorem call69 {e : Exts} (he : Quiet e) (lo hi : Int) (ns : List Int) (hn : ns.length < 2 ^ 63) (x : AV) (hx : SlOf 1 (ns.map intA) x) (me : FuncId) (d : Option Tmp) (H : Heap) : callA (Cx e) (lim (Cx e)) me 73 d [.agg [intA lo, intA hi], x] H = some (.v (.bool (withinB lo hi ns)), H) :=
  (ans69 lo hi ns hn x hx).call (ext_73 he) (pure_73 _ _ _) (by simp only [boundL_cons, bound_agg, intA, bound_v, boundL_nil, hx.bound]; rfl) H
set_option maxHeartbeats 1000000 in
theorem ans49 {e : Exts} (he : Quiet e) (s : ByteArray) (hn : s.size < 2 ^ 63) : Ans (Cx e) 49 [.v (.string s)] (.v (.bool (wordB s))) := by
  unfold Ans
  rw [fn_step (fn_49 e) (show Try.f49.body = some _ from rfl)]
  have hc : callA (Cx e) (lim (Cx e)) 49 73 (some 8) [.agg [.v (.int .i64 1), .v (.int .i64 12)], .vs 1 [.v (.int .i64 s.size)] (some 1)] { objs := [], lock := 0 } = some (.v (.bool (withinB 1 12 [(s.size : Int)])), { objs := [], lock := 0 }) :=
    call69 he 1 12 [(s.size : Int)] (by simp) _ (Or.inr ⟨_, rfl⟩) _ _ _
  by_cases hw : withinB 1 12 [(s.size : Int)] = true
  · rw [hw] at hc
    simp -implicitDefEqProofs only [Try.f49, go_sem, ↓reduceIte, hc]
    refine loop49 s hn _ _ s.size 0 (by omega) ?_ ?_
    · intro h l
      simp -implicitDefEqProofs only [go_sem, ↓reduceIte]
      unfold wordB; rw [hw, h]; rfl
    · intro h l hl
      simp -implicitDefEqProofs only [go_sem, ↓reduceIte, hl]
      unfold wordB; rw [hw, h]; rfl
  · simp only [Bool.not_eq_true] at hw
    rw [hw] at hc
    simp -implicitDefEqProofs only [Try.f49, go_sem, ↓reduceIte, hc]
    unfold wordB; rw [hw]; rfl
theorem call49 {e : Exts} (he : Quiet e) (s : ByteArray) (hn : s.size < 2 ^ 63) (me : FuncId) (d : Option Tmp) (H : Heap) : callA (Cx e) (lim (Cx e)) me 49 d [.v (.string s)] H = some (.v (.bool (wordB s)), H) :=
  (ans49 he s hn).call (ext_49 he) (pure_49 _ _ _) rfl H
end Go.Ev
namespace Go.Ev
open Go.Proofs
set_option maxRecDepth 100000
set_option linter.unusedSimpArgs false
/-- the n-th loop's body, in the order of the text -/
def loops : Code → List Code
  | .loop b => b :: loops b
  | .seq a b => loops a ++ loops b
  | .block _ a => loops a
  | .scope a => loops a
  | .cond _ a b => loops a ++ loops b
  | .rangeFunc _ _ _ b => loops b
  | _ => []
theorem range1 (lo hi n : Int) : withinB lo hi [n] = (decide (lo ≤ n) && decide (n ≤ hi)) := by simp [withinB]
set_option maxHeartbeats 1000000 in
theorem ans43 {e : Exts} (n lo hi : Int) : Ans (Cx e) 48 [intA n, intA lo, intA hi] (.v (.bool (withinB lo hi [n]))) := by
  unfold Ans
  rw [fn_step (fn_48 e) (show Try.f48.body = some _ from rfl), range1]
  by_cases h1 : lo ≤ n
  · simp -implicitDefEqProofs only [Try.f48, intA, go_sem, ↓reduceIte, h1]
  · simp -implicitDefEqProofs only [Try.f48, intA, go_sem, ↓reduceIte, h1, Bool.false_and]
theorem call43 {e : Exts} (he : Quiet e) (n lo hi : Int) (me : FuncId) (d : Option Tmp) (H : Heap) : callA (Cx e) (lim (Cx e)) me 48 d [.v (.int .i64 n), .v (.int .i64 lo), .v (.int .i64 hi)] H = some (.v (.bool (withinB lo hi [n])), H) :=
  (ans43 n lo hi).call (ext_48 he) (pure_48 _ _ _) rfl H
noncomputable def body61 : Code := ((Try.f51.body.map loops).getD [])[0]?.getD .skip
set_option maxHeartbeats 1000000 in
theorem loop61 {e : Exts} (s : ByteArray) (hn : s.size < 2 ^ 63) (H : Heap) (K : Post) :
    ∀ m j : Nat, j + m = s.size → (lettersB s j = true → AtK K (.exit 0) ⟨23, [(0, .v (.string s)), (2, .v (.bool false)), (3, intA s.size)], []⟩ H) → (lettersB s j = false → ∀ l, assoc 2 l = some (.v (.bool false)) → AtK K .ret ⟨23, l, []⟩ H) →
    Lp (Cx e) 51 none [0, 2, 3] body61 ⟨23, [(0, .v (.string s)), (2, .v (.bool false)), (3, intA j)], []⟩ H K := by
  intro m
  induction m with
  | zero =>
    intro j hj h1 h2
    rw [Lp_step]
    generalize hK : loopK (Cx e) 51 none [0, 2, 3] body61 H.size K = KK
    unfold body61
    obtain rfl : j = s.size := by omega
    simp -implicitDefEqProofs only [Try.f51, loops, Option.map_some, Option.getD_some, intA, go_sem, ↓reduceIte, Int.lt_irrefl]
    subst hK
    simp -implicitDefEqProofs only [go_sem, ↓reduceIte]
    exact h1 (by unfold lettersB; rw [List.drop_of_length_le (by simp)]; rfl)
  | succ m ih =>
    intro j hj h1 h2
    rw [Lp_step]
    generalize hK : loopK (Cx e) 51 none [0, 2, 3] body61 H.size K = KK
    unfold body61
    have hlt : (j : Int) < (s.size : Int) := by omega
    have hy := strAt_lt s j (by omega)
    have hjl : j < s.data.toList.length := by simp; omega
    have hw := wrap_succ j (by omega)
    have hj0 : (0 : Int) ≤ (j : Int) := by omega
    generalize hc : s.data.toList[j] = c at hy
    have hd : lettersB s j = (letter c && lettersB s (j + 1)) := by
      unfold lettersB
      rw [List.drop_eq_getElem_cons (by simp; omega), ← hc]; rfl
    simp only [Try.f51, loops, Option.map_some, Option.getD_some, List.nil_append, List.append_nil, List.cons_append, List.getElem?_cons_zero]
    by_cases c1 : (c.toNat : Int) < 97
    · simp -implicitDefEqProofs only [go_sem, ↓reduceIte, intA, hlt, hw, hy, c1, hj0, Int.toNat_natCast]
      subst hK
      simp -implicitDefEqProofs only [go_sem, ↓reduceIte]
      exact h2 (by rw [hd]; simp [letter]; omega) _ rfl
    · by_cases c2 : 122 < (c.toNat : Int)
      · simp -implicitDefEqProofs only [go_sem, ↓reduceIte, intA, hlt, hw, hy, c1, c2, hj0, Int.toNat_natCast]
        subst hK
        simp -implicitDefEqProofs only [go_sem, ↓reduceIte]
        exact h2 (by rw [hd]; simp [letter]; omega) _ rfl
      · simp -implicitDefEqProofs only [go_sem, ↓reduceIte, intA, hlt, hw, hy, c1, c2, hj0, Int.toNat_natCast]
        subst hK
        simp -implicitDefEqProofs only [go_sem, ↓reduceIte]
        have hd' : lettersB s j = lettersB s (j + 1) := by rw [hd]; simp [letter]; omega
        rw [hd'] at h1 h2
        exact ih (j + 1) (by omega) h1 h2
theorem ans61 {e : Exts} (he : Quiet e) (s : ByteArray) (hn : s.size < 2 ^ 63) : Ans (Cx e) 51 [.v (.string s)] (.v (.bool (wordB s))) := by
  unfold Ans
  rw [fn_step (fn_51 e) (show Try.f51.body = some _ from rfl)]
  simp -implicitDefEqProofs only [Try.f51, intA, go_sem, ↓reduceIte]
  refine loop61 s hn _ _ s.size 0 (by omega) ?_ ?_
  · intro h
    simp -implicitDefEqProofs only [intA, go_sem, ↓reduceIte, call43 he]
    unfold wordB; rw [h, Bool.and_true]
  · intro h l hl
    simp -implicitDefEqProofs only [go_sem, ↓reduceIte, hl]
    unfold wordB; rw [h, Bool.and_false]
theorem call61 {e : Exts} (he : Quiet e) (s : ByteArray) (hn : s.size < 2 ^ 63) (me : FuncId) (d : Option Tmp) (H : Heap) : callA (Cx e) (lim (Cx e)) me 51 d [.v (.string s)] H = some (.v (.bool (wordB s)), H) :=
  (ans61 he s hn).call (ext_51 he) (pure_51 _ _ _) rfl H
end Go.Ev
namespace Go.Ev
open Go.Proofs
set_option maxRecDepth 100000
set_option linter.unusedSimpArgs false
/-! ### texts -/
def All2 {α β : Type} (R : α → β → Prop) (l : List α) (m : List β) : Prop := l.length = m.length ∧ ∀ (i : Nat) a b, l[i]? = some a → m[i]? = some b → R a b
theorem All2.get {α β : Type} {R : α → β → Prop} {l : List α} {m : List β} (h : All2 R l m) {i : Nat} {a : α} (ha : l[i]? = some a) : ∃ b, m[i]? = some b ∧ R a b := by
  have hi := (List.getElem?_eq_some_iff.1 ha).1
  exact ⟨m[i]'(h.1 ▸ hi), List.getElem?_eq_getElem _, h.2 i a _ ha (List.getElem?_eq_getElem _)⟩
def strs (ws : List ByteArray) : List AV := ws.map fun s => .v (.string s)
abbrev Line := List ByteArray
abbrev Chap := Int × List Line
abbrev Txt := List Chap
def LineA (ws : Line) (x : AV) : Prop := SlOf 1 (strs ws) x
def LinesA (ls : List Line) (x : AV) : Prop := ∃ xs, SlOf 1 xs x ∧ All2 LineA ls xs
def ChapA (c : Chap) (y : AV) : Prop := ∃ l, y = .agg [intA c.1, l] ∧ LinesA c.2 l
def ChsA (t : Txt) (x : AV) : Prop := ∃ xs, SlOf 2 xs x ∧ All2 ChapA t xs
def TextA (t : Txt) (x : AV) : Prop := ∃ ch, x = .agg [ch] ∧ ChsA t ch
/-- no greater than memory -/
structure Fits (t : Txt) : Prop where
  chs : t.length < 2 ^ 63
  lines : ∀ c ∈ t, c.2.length < 2 ^ 63
  words : ∀ c ∈ t, ∀ l ∈ c.2, l.length < 2 ^ 63
  size : ∀ c ∈ t, ∀ l ∈ c.2, ∀ s ∈ l, s.size < 2 ^ 63
theorem strs_get {ws : Line} {i : Nat} {s : ByteArray} (h : ws[i]? = some s) : (strs ws)[i]? = some (.v (.string s)) := by
  unfold strs; rw [List.getElem?_map, h]; rfl
theorem strs_len (ws : Line) : (strs ws).length = ws.length := by simp [strs]
def greatL (l : Line) : Bool := decide (l.length > 15) || l.any fun s => decide (s.size > 40)
def greatC (c : Chap) : Bool := decide (c.2.length > 15) || c.2.any greatL
def greatT (t : Txt) : Bool := decide (t.length > 10) || t.any greatC
noncomputable def body38 (n : Nat) : Code := ((Try.f6.body.map loops).getD [])[n]?.getD .skip
end Go.Ev
namespace Go.Ev
open Go.Proofs
set_option maxRecDepth 100000
set_option linter.unusedSimpArgs false
def wsG (ws : Line) (j : Nat) : Bool := (ws.drop j).any fun s => decide (s.size > 40)
theorem drop_any {α : Type} (p : α → Bool) (l : List α) (j : Nat) (x : α) (h : l[j]? = some x) : (l.drop j).any p = (p x || (l.drop (j + 1)).any p) := by
  obtain ⟨hj, rfl⟩ := List.getElem?_eq_some_iff.1 h
  rw [List.drop_eq_getElem_cons hj, List.any_cons]
theorem drop_all {α : Type} (p : α → Bool) (l : List α) (j : Nat) (x : α) (h : l[j]? = some x) : (l.drop j).all p = (p x && (l.drop (j + 1)).all p) := by
  obtain ⟨hj, rfl⟩ := List.getElem?_eq_some_iff.1 h
  rw [List.drop_eq_getElem_cons hj, List.all_cons]
theorem at_lt {α : Type} (l : List α) (j : Nat) (h : j < l.length) : ∃ x, l[j]? = some x := ⟨l[j], List.getElem?_eq_getElem h⟩
set_option maxHeartbeats 4000000 in
theorem loop38c {e : Exts} (xs lxs : List AV) (ch : AV) (hch : SlOf 2 xs ch) (i k : Nat) (id : Int) (l lx : AV) (hy : xs[i]? = some (.agg [intA id, l])) (hl : SlOf 1 lxs l) (hk : lxs[k]? = some lx) (ws : Line) (hlx : SlOf 1 (strs ws) lx) (hn : ws.length < 2 ^ 63) (K : Post) :
    ∀ m j : Nat, j + m = ws.length → (wsG ws j = false → AtK K (.exit 4) ⟨75, [(0, .agg [ch]), (1, .ptr 0 0 0), (2, .v (.bool false)), (9, .v (.bool false)), (3, intA i), (14, .v (.bool true)), (24, .v (.bool false)), (4, intA k), (33, .v (.bool true)), (46, .v (.bool false)), (5, intA (ws.length : Nat))], []⟩ ⟨[some (.cells 0 0 24 1 false [ch])], 0⟩) → (wsG ws j = true → ∀ tl HH, assoc 2 tl = some (.v (.bool true)) → AtK K .ret ⟨75, tl, []⟩ HH) →
    Lp (Cx e) 6 none [0, 1, 2, 9, 3, 14, 24, 4, 33, 46, 5] (body38 2) ⟨75, [(0, .agg [ch]), (1, .ptr 0 0 0), (2, .v (.bool false)), (9, .v (.bool false)), (3, intA i), (14, .v (.bool true)), (24, .v (.bool false)), (4, intA k), (33, .v (.bool true)), (46, .v (.bool false)), (5, intA j)], []⟩ ⟨[some (.cells 0 0 24 1 false [ch])], 0⟩ K := by
  intro m
  induction m with
  | zero =>
    intro j hj h1 h2
    rw [Lp_step]
    generalize hK : loopK (Cx e) 6 none [0, 1, 2, 9, 3, 14, 24, 4, 33, 46, 5] (body38 2) _ K = KK
    unfold body38
    obtain rfl : j = ws.length := by omega
    simp only [Try.f6, loops, Option.map_some, Option.getD_some, List.nil_append, List.append_nil, List.cons_append, List.getElem?_cons_zero, List.getElem?_cons_succ]
    simp -implicitDefEqProofs only [go_sem, ↓reduceIte, intA, Int.lt_irrefl, hch.len, hch.idx hy, hl.len, hl.idx hk, hlx.len, hlx.cells, strs_len]
    subst hK
    simp -implicitDefEqProofs only [go_sem, ↓reduceIte]
    exact h1 (by simp [wsG])
  | succ m ih =>
    intro j hj h1 h2
    rw [Lp_step]
    generalize hK : loopK (Cx e) 6 none [0, 1, 2, 9, 3, 14, 24, 4, 33, 46, 5] (body38 2) _ K = KK
    unfold body38
    have hlt : (j : Int) < ((ws.length : Nat) : Int) := by omega
    have hw := wrap_succ j (by omega)
    have hj0 : (0 : Int) ≤ (j : Int) := by omega
    simp only [Try.f6, loops, Option.map_some, Option.getD_some, List.nil_append, List.append_nil, List.cons_append, List.getElem?_cons_zero, List.getElem?_cons_succ]
    obtain ⟨s, hs⟩ := at_lt ws j (by omega)
    have hd : wsG ws j = (decide (s.size > 40) || wsG ws (j + 1)) := drop_any _ ws j s hs
    by_cases c1 : 40 < (s.size : Int)
    · simp -implicitDefEqProofs only [go_sem, ↓reduceIte, intA, hlt, hw, hch.len, hch.idx hy, hl.len, hl.idx hk, hlx.len, hlx.cells, strs_len, hlx.idx (strs_get hs), c1]
      subst hK
      simp -implicitDefEqProofs only [go_sem, ↓reduceIte]
      exact h2 (by rw [hd]; simp; left; omega) _ _ rfl
    · simp -implicitDefEqProofs only [go_sem, ↓reduceIte, intA, hlt, hw, hch.len, hch.idx hy, hl.len, hl.idx hk, hlx.len, hlx.cells, strs_len, hlx.idx (strs_get hs), c1]
      subst hK
      simp -implicitDefEqProofs only [go_sem, ↓reduceIte]
      have hd' : wsG ws j = wsG ws (j + 1) := by rw [hd]; simp; omega
      rw [hd'] at h1 h2
      exact ih (j + 1) (by omega) h1 h2
def lnG (ls : List Line) (j : Nat) : Bool := (ls.drop j).any greatL
def chG (t : Txt) (j : Nat) : Bool := (t.drop j).any greatC
theorem greatL_eq (ws : Line) : greatL ws = (decide (ws.length > 15) || wsG ws 0) := rfl
set_option maxHeartbeats 4000000 in
theorem loop38b {e : Exts} (xs lxs : List AV) (ch : AV) (hch : SlOf 2 xs ch) (i : Nat) (id : Int) (l : AV) (hy : xs[i]? = some (.agg [intA id, l])) (hl : SlOf 1 lxs l) (ls : List Line) (hls : All2 LineA ls lxs) (hn : ls.length < 2 ^ 63) (hz : ∀ s ∈ ls, s.length < 2 ^ 63) (K : Post) :
    ∀ m j : Nat, j + m = ls.length → (lnG ls j = false → AtK K (.exit 2) ⟨75, [(0, .agg [ch]), (1, .ptr 0 0 0), (2, .v (.bool false)), (9, .v (.bool false)), (3, intA i), (14, .v (.bool true)), (24, .v (.bool false)), (4, intA (ls.length : Nat))], []⟩ ⟨[some (.cells 0 0 24 1 false [ch])], 0⟩) → (lnG ls j = true → ∀ tl HH, assoc 2 tl = some (.v (.bool true)) → AtK K .ret ⟨75, tl, []⟩ HH) →
    Lp (Cx e) 6 none [0, 1, 2, 9, 3, 14, 24, 4] (body38 1) ⟨75, [(0, .agg [ch]), (1, .ptr 0 0 0), (2, .v (.bool false)), (9, .v (.bool false)), (3, intA i), (14, .v (.bool true)), (24, .v (.bool false)), (4, intA j)], []⟩ ⟨[some (.cells 0 0 24 1 false [ch])], 0⟩ K := by
  intro m
  induction m with
  | zero =>
    intro j hj h1 h2
    rw [Lp_step]
    generalize hK : loopK (Cx e) 6 none [0, 1, 2, 9, 3, 14, 24, 4] (body38 1) _ K = KK
    unfold body38
    obtain rfl : j = ls.length := by omega
    simp only [Try.f6, loops, Option.map_some, Option.getD_some, List.nil_append, List.append_nil, List.cons_append, List.getElem?_cons_zero, List.getElem?_cons_succ]
    simp -implicitDefEqProofs only [go_sem, ↓reduceIte, intA, Int.lt_irrefl, hch.len, hch.idx hy, hl.len, ← hls.1]
    subst hK
    simp -implicitDefEqProofs only [go_sem, ↓reduceIte]
    exact h1 (by simp [lnG])
  | succ m ih =>
    intro j hj h1 h2
    rw [Lp_step]
    generalize hK : loopK (Cx e) 6 none [0, 1, 2, 9, 3, 14, 24, 4] (body38 1) _ K = KK
    unfold body38
    have hlt : (j : Int) < ((ls.length : Nat) : Int) := by omega
    have hw := wrap_succ j (by omega)
    have hj0 : (0 : Int) ≤ (j : Int) := by omega
    simp only [Try.f6, loops, Option.map_some, Option.getD_some, List.nil_append, List.append_nil, List.cons_append, List.getElem?_cons_zero, List.getElem?_cons_succ]
    obtain ⟨ws, hs⟩ := at_lt ls j (by omega)
    obtain ⟨lx, hk, hlx⟩ := hls.get hs
    have hlx : SlOf 1 (strs ws) lx := hlx
    have hd : lnG ls j = (greatL ws || lnG ls (j + 1)) := drop_any _ ls j ws hs
    by_cases c1 : 15 < (ws.length : Int)
    · simp -implicitDefEqProofs only [go_sem, ↓reduceIte, intA, hlt, hw, hch.len, hch.idx hy, hl.len, hl.idx hk, hlx.len, hlx.cells, strs_len, ← hls.1, c1]
      subst hK
      simp -implicitDefEqProofs only [go_sem, ↓reduceIte]
      exact h2 (by rw [hd, greatL_eq]; simp; left; left; omega) _ _ rfl
    · simp -implicitDefEqProofs only [go_sem, ↓reduceIte, intA, hlt, hw, hch.len, hch.idx hy, hl.len, hl.idx hk, hlx.len, hlx.cells, strs_len, ← hls.1, c1]
      refine loop38c xs lxs ch hch i j id l lx hy hl hk ws hlx (hz ws (List.mem_of_getElem? hs)) _ ws.length 0 (by omega) ?_ ?_
      · intro hf
        simp -implicitDefEqProofs only [go_sem, ↓reduceIte, intA, hw]
        subst hK
        simp -implicitDefEqProofs only [go_sem, ↓reduceIte]
        have hd' : lnG ls j = lnG ls (j + 1) := by rw [hd, greatL_eq, hf]; simp; omega
        rw [hd'] at h1 h2
        exact ih (j + 1) (by omega) h1 h2
      · intro hf l HH hl
        subst hK
        simp -implicitDefEqProofs only [go_sem, ↓reduceIte]
        exact h2 (by rw [hd, greatL_eq, hf]; simp) l HH hl
set_option maxHeartbeats 4000000 in
theorem loop38a {e : Exts} (xs : List AV) (ch : AV) (hch : SlOf 2 xs ch) (t : Txt) (ht : Fits t) (hn : t.length < 2 ^ 63) (hall : All2 ChapA t xs) (K : Post) :
    ∀ m j : Nat, j + m = t.length → (chG t j = false → AtK K (.exit 0) ⟨75, [(0, .agg [ch]), (1, .ptr 0 0 0), (2, .v (.bool false)), (9, .v (.bool false)), (3, intA (t.length : Nat))], []⟩ ⟨[some (.cells 0 0 24 1 false [ch])], 0⟩) → (chG t j = true → ∀ tl HH, assoc 2 tl = some (.v (.bool true)) → AtK K .ret ⟨75, tl, []⟩ HH) →
    Lp (Cx e) 6 none [0, 1, 2, 9, 3] (body38 0) ⟨75, [(0, .agg [ch]), (1, .ptr 0 0 0), (2, .v (.bool false)), (9, .v (.bool false)), (3, intA j)], []⟩ ⟨[some (.cells 0 0 24 1 false [ch])], 0⟩ K := by
  intro m
  induction m with
  | zero =>
    intro j hj h1 h2
    rw [Lp_step]
    generalize hK : loopK (Cx e) 6 none [0, 1, 2, 9, 3] (body38 0) _ K = KK
    unfold body38
    obtain rfl : j = t.length := by omega
    simp only [Try.f6, loops, Option.map_some, Option.getD_some, List.nil_append, List.append_nil, List.cons_append, List.getElem?_cons_zero, List.getElem?_cons_succ]
    simp -implicitDefEqProofs only [go_sem, ↓reduceIte, intA, Int.lt_irrefl, hch.len, ← hall.1]
    subst hK
    simp -implicitDefEqProofs only [go_sem, ↓reduceIte]
    exact h1 (by simp [chG])
  | succ m ih =>
    intro j hj h1 h2
    rw [Lp_step]
    generalize hK : loopK (Cx e) 6 none [0, 1, 2, 9, 3] (body38 0) _ K = KK
    unfold body38
    have hlt : (j : Int) < ((t.length : Nat) : Int) := by omega
    have hw := wrap_succ j (by omega)
    have hj0 : (0 : Int) ≤ (j : Int) := by omega
    simp only [Try.f6, loops, Option.map_some, Option.getD_some, List.nil_append, List.append_nil, List.cons_append, List.getElem?_cons_zero, List.getElem?_cons_succ]
    have hfit := ht.chs
    have hw := wrap_succ j (by omega)
    obtain ⟨c, hs⟩ := at_lt t j (by omega)
    obtain ⟨y, hy, l, rfl, lxs, hl, hls⟩ := hall.get hs
    have hd : chG t j = (greatC c || chG t (j + 1)) := drop_any _ t j c hs
    have hm := List.mem_of_getElem? hs
    by_cases c1 : 15 < (c.2.length : Int)
    · simp -implicitDefEqProofs only [go_sem, ↓reduceIte, intA, hlt, hw, hch.len, hch.idx hy, hl.len, hl.cells, ← hls.1, ← hall.1, c1]
      subst hK
      simp -implicitDefEqProofs only [go_sem, ↓reduceIte]
      exact h2 (by rw [hd]; unfold greatC; simp; left; left; omega) _ _ rfl
    · simp -implicitDefEqProofs only [go_sem, ↓reduceIte, intA, hlt, hw, hch.len, hch.idx hy, hl.len, hl.cells, ← hls.1, ← hall.1, c1]
      refine loop38b xs lxs ch hch j c.1 l hy hl c.2 hls (ht.lines c hm) (ht.words c hm) _ c.2.length 0 (by omega) ?_ ?_
      · intro hf
        simp -implicitDefEqProofs only [go_sem, ↓reduceIte, intA, hw]
        subst hK
        simp -implicitDefEqProofs only [go_sem, ↓reduceIte]
        have hd' : chG t j = chG t (j + 1) := by
          rw [hd]; unfold greatC; rw [show c.2.any greatL = lnG c.2 0 from rfl, hf]; simp; omega
        rw [hd'] at h1 h2
        exact ih (j + 1) (by omega) h1 h2
      · intro hf l HH hl
        subst hK
        simp -implicitDefEqProofs only [go_sem, ↓reduceIte]
        exact h2 (by rw [hd]; unfold greatC; rw [show c.2.any greatL = lnG c.2 0 from rfl, hf]; simp) l HH hl
set_option maxHeartbeats 1000000 in
theorem ans38 {e : Exts} (t : Txt) (ht : Fits t) (x : AV) (hx : TextA t x) : Ans (Cx e) 6 [x] (.v (.bool (greatT t))) := by
  obtain ⟨ch, rfl, xs, hch, hall⟩ := hx
  unfold Ans
  rw [fn_step (fn_6 e) (show Try.f6.body = some _ from rfl)]
  by_cases h1 : 10 < (t.length : Int)
  · simp -implicitDefEqProofs only [Try.f6, intA, go_sem, ↓reduceIte, hch.len, hch.cells, hch.flat, hch.bound, ← hall.1, h1]
    have : greatT t = true := by unfold greatT; simp; left; omega
    rw [this]
  · simp -implicitDefEqProofs only [Try.f6, intA, go_sem, ↓reduceIte, hch.len, hch.cells, hch.flat, hch.bound, ← hall.1, h1]
    refine loop38a xs ch hch t ht ht.chs hall _ t.length 0 (by omega) ?_ ?_
    · intro hf
      simp -implicitDefEqProofs only [go_sem, ↓reduceIte]
      have : greatT t = false := by unfold greatT; rw [show t.any greatC = chG t 0 from rfl, hf]; simp; omega
      rw [this]
    · intro hf l HH hl
      simp -implicitDefEqProofs only [go_sem, ↓reduceIte, hl]
      have : greatT t = true := by unfold greatT; rw [show t.any greatC = chG t 0 from rfl, hf]; simp
      rw [this]
end Go.Ev
namespace Go.Ev
open Go.Proofs
set_option maxRecDepth 100000
set_option linter.unusedSimpArgs false
def wsB (ws : Line) (j : Nat) : Bool := !(ws.drop j).all wordB
def lineB (l : Line) : Bool := withinB 1 10 [(l.length : Int)] && l.all wordB
def lnB (ls : List Line) (j : Nat) : Bool := !(ls.drop j).all lineB
def idB (t : Txt) (id : Int) (j n : Nat) : Bool := ((t.take n).drop j).any fun c => decide (c.1 = id)
def condC (t : Txt) (i : Nat) (c : Chap) : Bool := withinB 0 9999 [c.1] && withinB 1 10 [(c.2.length : Int)] && !idB t c.1 0 i && c.2.all lineB
def okFrom (t : Txt) : Nat → Txt → Bool
  | _, [] => true
  | j, c :: r => condC t j c && okFrom t (j + 1) r
def textB (t : Txt) : Bool := withinB 1 6 [(t.length : Int)] && okFrom t 0 t
noncomputable def body39 (n : Nat) : Code := ((Try.f42.body.map loops).getD [])[n]?.getD .skip
theorem idB_step (t : Txt) (id : Int) (n j : Nat) (c : Chap) (_hn : n ≤ t.length) (hj : j < n) (h : t[j]? = some c) : idB t id j n = (decide (c.1 = id) || idB t id (j + 1) n) := by
  unfold idB
  exact drop_any _ _ j c (by rw [List.getElem?_take, if_pos hj]; exact h)
set_option maxHeartbeats 4000000 in
theorem loop39i {e : Exts} (t : Txt) (xs : List AV) (ch : AV) (hch : SlOf 2 xs ch) (hall : All2 ChapA t xs) (i : Nat) (hi : i ≤ t.length) (hn : i < 2 ^ 63) (id : Int) (l : AV) (K : Post) :
    ∀ m j : Nat, j + m = i → (idB t id j i = false → AtK K (.exit 2) ⟨85, [(0, .agg [ch]), (1, .ptr 0 0 0), (2, .v (.bool false)), (12, .v (.bool false)), (3, intA i), (17, .v (.bool true)), (4, .ptr 1 0 0), (35, .v (.bool false)), (5, intA (i : Nat))], []⟩ ⟨[some (.cells 0 0 24 1 false [ch]), some (.cells 0 0 78 1 false [intA id, l])], 0⟩) → (idB t id j i = true → ∀ tl HH, assoc 2 tl = some (.v (.bool false)) → AtK K .ret ⟨85, tl, []⟩ HH) →
    Lp (Cx e) 42 none [0, 1, 2, 12, 3, 17, 4, 35, 5] (body39 1) ⟨85, [(0, .agg [ch]), (1, .ptr 0 0 0), (2, .v (.bool false)), (12, .v (.bool false)), (3, intA i), (17, .v (.bool true)), (4, .ptr 1 0 0), (35, .v (.bool false)), (5, intA j)], []⟩ ⟨[some (.cells 0 0 24 1 false [ch]), some (.cells 0 0 78 1 false [intA id, l])], 0⟩ K := by
  intro m
  induction m with
  | zero =>
    intro j hj h1 h2
    rw [Lp_step]
    generalize hK : loopK (Cx e) 42 none [0, 1, 2, 12, 3, 17, 4, 35, 5] (body39 1) _ K = KK
    unfold body39
    obtain rfl : j = i := by omega
    simp only [Try.f42, loops, Option.map_some, Option.getD_some, List.nil_append, List.append_nil, List.cons_append, List.getElem?_cons_zero, List.getElem?_cons_succ]
    simp -implicitDefEqProofs only [go_sem, ↓reduceIte, intA, Int.lt_irrefl, hch.len]
    subst hK
    simp -implicitDefEqProofs only [go_sem, ↓reduceIte]
    exact h1 (by unfold idB; rw [List.drop_of_length_le (by simp; omega)]; rfl)
  | succ m ih =>
    intro j hj h1 h2
    rw [Lp_step]
    generalize hK : loopK (Cx e) 42 none [0, 1, 2, 12, 3, 17, 4, 35, 5] (body39 1) _ K = KK
    unfold body39
    have hlt : (j : Int) < ((i : Nat) : Int) := by omega
    have hw := wrap_succ j (by omega)
    have hj0 : (0 : Int) ≤ (j : Int) := by omega
    simp only [Try.f42, loops, Option.map_some, Option.getD_some, List.nil_append, List.append_nil, List.cons_append, List.getElem?_cons_zero, List.getElem?_cons_succ]
    obtain ⟨c, hs⟩ := at_lt t j (by omega)
    obtain ⟨y, hy, lj, rfl, -⟩ := hall.get hs
    have hd := idB_step t id i j c hi (by omega) hs
    simp -implicitDefEqProofs only [go_sem, ↓reduceIte, intA, hlt, hw]
    refine wp_draw (by kernel_rfl) ?_
    by_cases c1 : c.1 = id
    · simp -implicitDefEqProofs only [go_sem, ↓reduceIte, intA, hlt, hw, hch.idx hy, c1]
      subst hK
      simp -implicitDefEqProofs only [go_sem, ↓reduceIte]
      exact h2 (by rw [hd]; simp [c1]) _ _ rfl
    · simp -implicitDefEqProofs only [go_sem, ↓reduceIte, intA, hlt, hw, hch.idx hy, c1]
      subst hK
      simp -implicitDefEqProofs only [go_sem, ↓reduceIte]
      have hd' : idB t id j i = idB t id (j + 1) i := by rw [hd]; simp [c1]
      rw [hd'] at h1 h2
      exact ih (j + 1) (by omega) h1 h2
set_option maxHeartbeats 4000000 in
theorem loop39w {e : Exts} (he : Quiet e) (ch : AV) (i k : Nat) (id : Int) (lxs : List AV) (l lx : AV) (hl : SlOf 1 lxs l) (hk : lxs[k]? = some lx) (ws : Line) (hlx : SlOf 1 (strs ws) lx) (hn : ws.length < 2 ^ 63) (hz : ∀ s ∈ ws, s.size < 2 ^ 63) (K : Post) :
    ∀ m j : Nat, j + m = ws.length → (wsB ws j = false → AtK K (.exit 6) ⟨85, [(0, .agg [ch]), (1, .ptr 0 0 0), (2, .v (.bool false)), (12, .v (.bool false)), (3, intA i), (17, .v (.bool true)), (4, .ptr 1 0 0), (35, .v (.bool false)), (5, intA i), (6, intA k), (54, .v (.bool true)), (64, .v (.bool false)), (7, intA (ws.length : Nat))], []⟩ ⟨[some (.cells 0 0 24 1 false [ch]), some (.cells 0 0 78 1 false [intA id, l])], 0⟩) → (wsB ws j = true → ∀ tl HH, assoc 2 tl = some (.v (.bool false)) → AtK K .ret ⟨85, tl, []⟩ HH) →
    Lp (Cx e) 42 none [0, 1, 2, 12, 3, 17, 4, 35, 5, 6, 54, 64, 7] (body39 3) ⟨85, [(0, .agg [ch]), (1, .ptr 0 0 0), (2, .v (.bool false)), (12, .v (.bool false)), (3, intA i), (17, .v (.bool true)), (4, .ptr 1 0 0), (35, .v (.bool false)), (5, intA i), (6, intA k), (54, .v (.bool true)), (64, .v (.bool false)), (7, intA j)], []⟩ ⟨[some (.cells 0 0 24 1 false [ch]), some (.cells 0 0 78 1 false [intA id, l])], 0⟩ K := by
  intro m
  induction m with
  | zero =>
    intro j hj h1 h2
    rw [Lp_step]
    generalize hK : loopK (Cx e) 42 none [0, 1, 2, 12, 3, 17, 4, 35, 5, 6, 54, 64, 7] (body39 3) _ K = KK
    unfold body39
    obtain rfl : j = ws.length := by omega
    simp only [Try.f42, loops, Option.map_some, Option.getD_some, List.nil_append, List.append_nil, List.cons_append, List.getElem?_cons_zero, List.getElem?_cons_succ]
    simp -implicitDefEqProofs only [go_sem, ↓reduceIte, intA, Int.lt_irrefl, hl.len, hl.cells, hl.idx hk, hlx.len, hlx.cells, strs_len]
    subst hK
    simp -implicitDefEqProofs only [go_sem, ↓reduceIte]
    exact h1 (by unfold wsB; rw [List.drop_of_length_le (by simp)]; rfl)
  | succ m ih =>
    intro j hj h1 h2
    rw [Lp_step]
    generalize hK : loopK (Cx e) 42 none [0, 1, 2, 12, 3, 17, 4, 35, 5, 6, 54, 64, 7] (body39 3) _ K = KK
    unfold body39
    have hlt : (j : Int) < ((ws.length : Nat) : Int) := by omega
    have hw := wrap_succ j (by omega)
    have hj0 : (0 : Int) ≤ (j : Int) := by omega
    simp only [Try.f42, loops, Option.map_some, Option.getD_some, List.nil_append, List.append_nil, List.cons_append, List.getElem?_cons_zero, List.getElem?_cons_succ]
    obtain ⟨s, hs⟩ := at_lt ws j (by omega)
    have hd : wsB ws j = (!wordB s || wsB ws (j + 1)) := by unfold wsB; rw [drop_all _ ws j s hs, Bool.not_and]
    have hc := call61 he s (hz s (List.mem_of_getElem? hs))
    cases c1 : wordB s
    · rw [c1] at hc
      simp -implicitDefEqProofs only [go_sem, ↓reduceIte, intA, hlt, hw, hl.len, hl.cells, hl.idx hk, hlx.len, hlx.cells, strs_len, hlx.idx (strs_get hs), hc]
      subst hK
      simp -implicitDefEqProofs only [go_sem, ↓reduceIte]
      exact h2 (by rw [hd, c1]; rfl) _ _ rfl
    · rw [c1] at hc
      simp -implicitDefEqProofs only [go_sem, ↓reduceIte, intA, hlt, hw, hl.len, hl.cells, hl.idx hk, hlx.len, hlx.cells, strs_len, hlx.idx (strs_get hs), hc]
      subst hK
      simp -implicitDefEqProofs only [go_sem, ↓reduceIte]
      have hd' : wsB ws j = wsB ws (j + 1) := by rw [hd, c1]; rfl
      rw [hd'] at h1 h2
      exact ih (j + 1) (by omega) h1 h2
set_option maxHeartbeats 4000000 in
theorem loop39l {e : Exts} (he : Quiet e) (ch : AV) (i : Nat) (id : Int) (lxs : List AV) (l : AV) (hl : SlOf 1 lxs l) (ls : List Line) (hls : All2 LineA ls lxs) (hn : ls.length < 2 ^ 63) (hz : ∀ s ∈ ls, s.length < 2 ^ 63) (hzz : ∀ l ∈ ls, ∀ s ∈ l, s.size < 2 ^ 63) (K : Post) :
    ∀ m j : Nat, j + m = ls.length → (lnB ls j = false → AtK K (.exit 4) ⟨85, [(0, .agg [ch]), (1, .ptr 0 0 0), (2, .v (.bool false)), (12, .v (.bool false)), (3, intA i), (17, .v (.bool true)), (4, .ptr 1 0 0), (35, .v (.bool false)), (5, intA i), (6, intA (ls.length : Nat))], []⟩ ⟨[some (.cells 0 0 24 1 false [ch]), some (.cells 0 0 78 1 false [intA id, l])], 0⟩) → (lnB ls j = true → ∀ tl HH, assoc 2 tl = some (.v (.bool false)) → AtK K .ret ⟨85, tl, []⟩ HH) →
    Lp (Cx e) 42 none [0, 1, 2, 12, 3, 17, 4, 35, 5, 6] (body39 2) ⟨85, [(0, .agg [ch]), (1, .ptr 0 0 0), (2, .v (.bool false)), (12, .v (.bool false)), (3, intA i), (17, .v (.bool true)), (4, .ptr 1 0 0), (35, .v (.bool false)), (5, intA i), (6, intA j)], []⟩ ⟨[some (.cells 0 0 24 1 false [ch]), some (.cells 0 0 78 1 false [intA id, l])], 0⟩ K := by
  intro m
  induction m with
  | zero =>
    intro j hj h1 h2
    rw [Lp_step]
    generalize hK : loopK (Cx e) 42 none [0, 1, 2, 12, 3, 17, 4, 35, 5, 6] (body39 2) _ K = KK
    unfold body39
    obtain rfl : j = ls.length := by omega
    simp only [Try.f42, loops, Option.map_some, Option.getD_some, List.nil_append, List.append_nil, List.cons_append, List.getElem?_cons_zero, List.getElem?_cons_succ]
    simp -implicitDefEqProofs only [go_sem, ↓reduceIte, intA, Int.lt_irrefl, hl.len, hl.cells, ← hls.1]
    subst hK
    simp -implicitDefEqProofs only [go_sem, ↓reduceIte]
    exact h1 (by unfold lnB; rw [List.drop_of_length_le (by simp)]; rfl)
  | succ m ih =>
    intro j hj h1 h2
    rw [Lp_step]
    generalize hK : loopK (Cx e) 42 none [0, 1, 2, 12, 3, 17, 4, 35, 5, 6] (body39 2) _ K = KK
    unfold body39
    have hlt : (j : Int) < ((ls.length : Nat) : Int) := by omega
    have hw := wrap_succ j (by omega)
    have hj0 : (0 : Int) ≤ (j : Int) := by omega
    simp only [Try.f42, loops, Option.map_some, Option.getD_some, List.nil_append, List.append_nil, List.cons_append, List.getElem?_cons_zero, List.getElem?_cons_succ]
    obtain ⟨ws, hs⟩ := at_lt ls j (by omega)
    obtain ⟨lx, hk, hlx⟩ := hls.get hs
    have hlx : SlOf 1 (strs ws) lx := hlx
    have hd : lnB ls j = (!lineB ws || lnB ls (j + 1)) := by unfold lnB; rw [drop_all _ ls j ws hs, Bool.not_and]
    have hm := List.mem_of_getElem? hs
    have hc := call43 he (ws.length : Int) 1 10
    cases c1 : withinB 1 10 [(ws.length : Int)]
    · rw [c1] at hc
      simp -implicitDefEqProofs only [go_sem, ↓reduceIte, intA, hlt, hw, hl.len, hl.cells, hl.idx hk, hlx.len, hlx.cells, strs_len, ← hls.1, hc]
      subst hK
      simp -implicitDefEqProofs only [go_sem, ↓reduceIte]
      exact h2 (by rw [hd]; unfold lineB; rw [c1]; rfl) _ _ rfl
    · rw [c1] at hc
      simp -implicitDefEqProofs only [go_sem, ↓reduceIte, intA, hlt, hw, hl.len, hl.cells, hl.idx hk, hlx.len, hlx.cells, strs_len, ← hls.1, hc]
      refine loop39w he ch i j id lxs l lx hl hk ws hlx (hz ws hm) (hzz ws hm) _ ws.length 0 (by omega) ?_ ?_
      · intro hf
        simp -implicitDefEqProofs only [go_sem, ↓reduceIte, intA, hw]
        subst hK
        simp -implicitDefEqProofs only [go_sem, ↓reduceIte]
        have hf' : ws.all wordB = true := by unfold wsB at hf; simpa using hf
        have hd' : lnB ls j = lnB ls (j + 1) := by rw [hd]; unfold lineB; rw [c1, hf']; rfl
        rw [hd'] at h1 h2
        exact ih (j + 1) (by omega) h1 h2
      · intro hf l HH hl
        subst hK
        simp -implicitDefEqProofs only [go_sem, ↓reduceIte]
        have hf' : ws.all wordB = false := by unfold wsB at hf; simpa using hf
        exact h2 (by rw [hd]; unfold lineB; rw [hf', Bool.and_false]; rfl) l HH hl
def chB (t : Txt) (j : Nat) : Bool := !okFrom t j (t.drop j)
theorem chB_step (t : Txt) (j : Nat) (c : Chap) (h : t[j]? = some c) : chB t j = (!condC t j c || chB t (j + 1)) := by
  obtain ⟨hj, rfl⟩ := List.getElem?_eq_some_iff.1 h
  unfold chB
  rw [List.drop_eq_getElem_cons hj]
  simp only [okFrom, Bool.not_and]
set_option maxHeartbeats 4000000 in
theorem loop39c {e : Exts} (he : Quiet e) (t : Txt) (ht : Fits t) (xs : List AV) (ch : AV) (hch : SlOf 2 xs ch) (hn : t.length < 2 ^ 63) (hall : All2 ChapA t xs) (K : Post) :
    ∀ m j : Nat, j + m = t.length → (chB t j = false → AtK K (.exit 0) ⟨85, [(0, .agg [ch]), (1, .ptr 0 0 0), (2, .v (.bool false)), (12, .v (.bool false)), (3, intA (t.length : Nat))], []⟩ ⟨[some (.cells 0 0 24 1 false [ch])], 0⟩) → (chB t j = true → ∀ tl HH, assoc 2 tl = some (.v (.bool false)) → AtK K .ret ⟨85, tl, []⟩ HH) →
    Lp (Cx e) 42 none [0, 1, 2, 12, 3] (body39 0) ⟨85, [(0, .agg [ch]), (1, .ptr 0 0 0), (2, .v (.bool false)), (12, .v (.bool false)), (3, intA j)], []⟩ ⟨[some (.cells 0 0 24 1 false [ch])], 0⟩ K := by
  intro m
  induction m with
  | zero =>
    intro j hj h1 h2
    rw [Lp_step]
    generalize hK : loopK (Cx e) 42 none [0, 1, 2, 12, 3] (body39 0) _ K = KK
    unfold body39
    obtain rfl : j = t.length := by omega
    simp only [Try.f42, loops, Option.map_some, Option.getD_some, List.nil_append, List.append_nil, List.cons_append, List.getElem?_cons_zero, List.getElem?_cons_succ]
    simp -implicitDefEqProofs only [go_sem, ↓reduceIte, intA, Int.lt_irrefl, hch.len, ← hall.1]
    subst hK
    simp -implicitDefEqProofs only [go_sem, ↓reduceIte]
    exact h1 (by unfold chB; rw [List.drop_of_length_le (by simp)]; rfl)
  | succ m ih =>
    intro j hj h1 h2
    rw [Lp_step]
    generalize hK : loopK (Cx e) 42 none [0, 1, 2, 12, 3] (body39 0) _ K = KK
    unfold body39
    have hlt : (j : Int) < ((t.length : Nat) : Int) := by omega
    have hw := wrap_succ j (by omega)
    have hj0 : (0 : Int) ≤ (j : Int) := by omega
    simp only [Try.f42, loops, Option.map_some, Option.getD_some, List.nil_append, List.append_nil, List.cons_append, List.getElem?_cons_zero, List.getElem?_cons_succ]
    obtain ⟨c, hs⟩ := at_lt t j (by omega)
    obtain ⟨y, hy, l, rfl, lxs, hl, hls⟩ := hall.get hs
    have hd := chB_step t j c hs
    have hm := List.mem_of_getElem? hs
    have hca := call43 he c.1 0 9999
    have hcb := call43 he (c.2.length : Int) 1 10
    cases c1 : withinB 0 9999 [c.1]
    · rw [c1] at hca
      simp -implicitDefEqProofs only [go_sem, ↓reduceIte, intA, hlt, hw, hch.len, hch.idx hy, hl.len, hl.cells, hl.flat, hl.bound, ← hls.1, ← hall.1, hca]
      subst hK
      simp -implicitDefEqProofs only [go_sem, ↓reduceIte]
      exact h2 (by rw [hd]; unfold condC; rw [c1]; rfl) _ _ rfl
    · rw [c1] at hca
      cases c2 : withinB 1 10 [(c.2.length : Int)]
      · rw [c2] at hcb
        simp -implicitDefEqProofs only [go_sem, ↓reduceIte, intA, hlt, hw, hch.len, hch.idx hy, hl.len, hl.cells, hl.flat, hl.bound, ← hls.1, ← hall.1, hca, hcb]
        subst hK
        simp -implicitDefEqProofs only [go_sem, ↓reduceIte]
        exact h2 (by rw [hd]; unfold condC; rw [c1, c2]; rfl) _ _ rfl
      · rw [c2] at hcb
        simp -implicitDefEqProofs only [go_sem, ↓reduceIte, intA, hlt, hw, hch.len, hch.idx hy, hl.len, hl.cells, hl.flat, hl.bound, ← hls.1, ← hall.1, hca, hcb]
        refine loop39i t xs ch hch hall j (by omega) (by omega) c.1 l _ j 0 (by omega) ?_ ?_
        · intro hf
          simp -implicitDefEqProofs only [go_sem, ↓reduceIte, intA]
          refine loop39l he ch j c.1 lxs l hl c.2 hls (ht.lines c hm) (ht.words c hm) (ht.size c hm) _ c.2.length 0 (by omega) ?_ ?_
          · intro hg
            have hg' : c.2.all lineB = true := by unfold lnB at hg; simpa using hg
            simp -implicitDefEqProofs only [go_sem, ↓reduceIte, intA, hw]
            subst hK
            simp -implicitDefEqProofs only [go_sem, ↓reduceIte, trim_at, hch.flat, hch.bound, hch.cells]
            have hd' : chB t j = chB t (j + 1) := by rw [hd]; unfold condC; rw [c1, c2, hf, hg']; rfl
            rw [hd'] at h1 h2
            exact ih (j + 1) (by omega) h1 h2
          · intro hg tl HH htl
            have hg' : c.2.all lineB = false := by unfold lnB at hg; simpa using hg
            subst hK
            simp -implicitDefEqProofs only [go_sem, ↓reduceIte]
            exact h2 (by rw [hd]; unfold condC; rw [hg', Bool.and_false]; rfl) tl HH htl
        · intro hf tl HH htl
          subst hK
          simp -implicitDefEqProofs only [go_sem, ↓reduceIte]
          exact h2 (by rw [hd]; unfold condC; rw [c1, c2, hf]; rfl) tl HH htl
set_option maxHeartbeats 1000000 in
theorem ans39 {e : Exts} (he : Quiet e) (t : Txt) (ht : Fits t) (x : AV) (hx : TextA t x) : Ans (Cx e) 42 [x] (.v (.bool (textB t))) := by
  obtain ⟨ch, rfl, xs, hch, hall⟩ := hx
  unfold Ans
  rw [fn_step (fn_42 e) (show Try.f42.body = some _ from rfl)]
  have hc := call43 he (t.length : Int) 1 6
  cases h1 : withinB 1 6 [(t.length : Int)]
  · rw [h1] at hc
    simp -implicitDefEqProofs only [Try.f42, intA, go_sem, ↓reduceIte, hch.len, hch.cells, hch.flat, hch.bound, ← hall.1, hc]
    unfold textB; rw [h1]; rfl
  · rw [h1] at hc
    simp -implicitDefEqProofs only [Try.f42, intA, go_sem, ↓reduceIte, hch.len, hch.cells, hch.flat, hch.bound, ← hall.1, hc]
    refine loop39c he t ht xs ch hch ht.chs hall _ t.length 0 (by omega) ?_ ?_
    · intro hf
      have hf' : okFrom t 0 t = true := by unfold chB at hf; simpa using hf
      simp -implicitDefEqProofs only [go_sem, ↓reduceIte]
      unfold textB; rw [h1, hf']; rfl
    · intro hf tl HH htl
      have hf' : okFrom t 0 t = false := by unfold chB at hf; simpa using hf
      simp -implicitDefEqProofs only [go_sem, ↓reduceIte, htl]
      unfold textB; rw [h1, hf']; rfl
end Go.Ev
namespace Go.Ev
open Go.Proofs
set_option maxRecDepth 100000
set_option linter.unusedSimpArgs false
def placeA (i k : Nat) (w : Int) : AV := .agg [intA i, intA k, intA w]
def slElems (x : AV) : List AV := match x with | .vs _ xs _ => xs | _ => []
theorem SlOf.elems {sz : Nat} {xs : List AV} {x : AV} (h : SlOf sz xs x) : slElems x = xs := by
  rcases h with ⟨rfl, rfl⟩ | ⟨cap, rfl⟩ <;> rfl
def linesOf (y : AV) : List AV := match y with | .agg [_, l] => slElems l | _ => []
def lineIts (i : Nat) : Nat → List AV → List (List AV)
  | _, [] => []
  | k, x :: r => [placeA i k 0, x] :: lineIts i (k + 1) r
def chapIts : Nat → List AV → List (List AV)
  | _, [] => []
  | i, y :: r => lineIts i 0 (linesOf y) ++ chapIts (i + 1) r
noncomputable def body88 (n : Nat) : Code := ((Try.f97.body.map loops).getD [])[n]?.getD .skip
theorem lineIts_drop (i : Nat) (xs : List AV) (j : Nat) (x : AV) (h : xs[j]? = some x) : lineIts i j (xs.drop j) = [placeA i j 0, x] :: lineIts i (j + 1) (xs.drop (j + 1)) := by
  obtain ⟨hj, rfl⟩ := List.getElem?_eq_some_iff.1 h
  rw [List.drop_eq_getElem_cons hj]; rfl
set_option maxHeartbeats 4000000 in
theorem loop88b {e : Exts} (ch : AV) (xs lxs : List AV) (id : Int) (l0 : AV) (hl0 : SlOf 1 lxs l0) (hlc : ∀ x ∈ lxs, x.cells = [x]) (hlen : lxs.length < 2 ^ 63)
    (l : Nat) (S : Type) (hp : S → Heap) (stp : S → List AV → Bool × S) (ok : List AV → Prop) (live : S → Prop) (n : Nat) (hsrc : Src (Cx e) l S hp stp ok live n) (i b mm : Nat) (F : List (Option AObj))
    (hb : ∀ s G, ((hp s).plus (F ++ G)).row b 0 = some (mm, 78, 1, false, [intA id, l0])) (hok : ∀ j x, lxs[j]? = some x → ok [placeA i j 0, x]) (K : Post) :
    ∀ m j s F', j + m = lxs.length → (∃ G, F' = F ++ G) → live s →
    ((runIt stp (lineIts i j (lxs.drop j)) s).1 = true → ∀ G, AtK K (.exit 2) ⟨34, [(0, .yld l), (1, .ro (.agg [ch]) 0), (8, ch), (9, intA xs.length), (10, intA i), (11, .v (.bool true)), (4, .ptr b 0 0), (3, intA i), (17, intA lxs.length), (18, intA lxs.length)], []⟩ ((hp (runIt stp (lineIts i j (lxs.drop j)) s).2).plus (F ++ G))) →
    ((runIt stp (lineIts i j (lxs.drop j)) s).1 = false → ∀ G tl, AtK K .ret ⟨34, tl, []⟩ ((hp (runIt stp (lineIts i j (lxs.drop j)) s).2).plus (F ++ G))) →
    Lp (Cx e) 97 none [0, 1, 8, 9, 10, 11, 4, 3, 17, 18] (body88 1) ⟨34, [(0, .yld l), (1, .ro (.agg [ch]) 0), (8, ch), (9, intA xs.length), (10, intA i), (11, .v (.bool true)), (4, .ptr b 0 0), (3, intA i), (17, intA lxs.length), (18, intA j)], []⟩ ((hp s).plus F') K := by
  have hn := hsrc.size
  intro m
  induction m with
  | zero =>
    intro j s F' hj hF hli h1 h2
    obtain ⟨G0, rfl⟩ := hF
    rw [Lp_step]
    generalize hK : loopK (Cx e) 97 none [0, 1, 8, 9, 10, 11, 4, 3, 17, 18] (body88 1) _ K = KK
    unfold body88
    obtain rfl : j = lxs.length := by omega
    simp only [Try.f97, loops, Option.map_some, Option.getD_some, List.nil_append, List.append_nil, List.cons_append, List.getElem?_cons_zero, List.getElem?_cons_succ]
    simp -implicitDefEqProofs only [go_sem, ↓reduceIte, intA, Int.lt_irrefl, plus_size, hn, settle_none (hn _)]
    subst hK
    simp -implicitDefEqProofs only [go_sem, ↓reduceIte, plus_size, hn]
    rw [List.drop_of_length_le (Nat.le_refl _)] at h1 h2
    have : ((hp s).plus (F ++ G0)).trim (n + (F ++ G0).length) = fun vs ms => (hp s).plus (F ++ G0) := by
      funext vs ms
      rw [show n + (F ++ G0).length = ((hp s).plus (F ++ G0)).size by rw [plus_size, hn]]; exact trim_size _ _ _
    rw [this]
    exact h1 rfl G0
  | succ m ih =>
    intro j s F' hj hF hli h1 h2
    obtain ⟨G0, hG0⟩ := hF
    have hrow : ∀ s, ((hp s).plus F').row b 0 = some (mm, 78, 1, false, [.v (.int .i64 id), l0]) := fun s => by rw [hG0]; exact hb s G0
    obtain ⟨x, hx⟩ := at_lt lxs j (by omega)
    have hxc := hlc x (List.mem_of_getElem? hx)
    have hdr := lineIts_drop i lxs j x hx
    obtain ⟨G1, hR⟩ := hsrc.round s [placeA i j 0, x] F' hli (hok j x hx)
    unfold placeA intA at hR
    have hlt : (j : Int) < ((lxs.length : Nat) : Int) := by omega
    have hw := wrap_succ j (by omega)
    rw [Lp_step]
    generalize hK : loopK (Cx e) 97 none [0, 1, 8, 9, 10, 11, 4, 3, 17, 18] (body88 1) _ K = KK
    unfold body88
    simp only [Try.f97, loops, Option.map_some, Option.getD_some, List.nil_append, List.append_nil, List.cons_append, List.getElem?_cons_zero, List.getElem?_cons_succ]
    obtain ⟨G2, hS⟩ := settle_plus (H := hp (stp s [placeA i j 0, x]).2) F' G1 (n := n + F'.length) (by rw [hn])
    unfold placeA intA at hS
    rw [hdr] at h1 h2
    unfold runIt at h1 h2
    by_cases hst : (stp s [placeA i j 0, x]).1 = true
    · have hlv := hsrc.step s _ hli (hok j x hx) hst
      rw [hst] at h1 h2
      simp only [if_true] at h1 h2
      unfold placeA intA at hst
      rw [hst] at hR
      simp -implicitDefEqProofs only [go_sem, ↓reduceIte, intA, hlt, hw, plus_size, hn, settle_none (hn _), hrow, hl0.idx hx, hxc, hR, hS]
      subst hK
      simp -implicitDefEqProofs only [go_sem, ↓reduceIte, plus_size, hn]
      refine at_trim (fun X => Lp _ _ _ _ _ _ X _) (by simp only [hn]) fun G3 => ?_
      exact ih (j + 1) _ (F' ++ G3) (by omega) ⟨G0 ++ G3, by rw [hG0, List.append_assoc]⟩ hlv h1 h2
    · have hst' : (stp s [placeA i j 0, x]).1 = false := by simpa using hst
      rw [hst'] at h1 h2
      simp only [Bool.false_eq_true, if_false] at h1 h2
      unfold placeA intA at hst'
      rw [hst'] at hR
      simp -implicitDefEqProofs only [go_sem, ↓reduceIte, intA, hlt, hw, plus_size, hn, settle_none (hn _), hrow, hl0.idx hx, hxc, hR, hS]
      subst hK
      simp -implicitDefEqProofs only [go_sem, ↓reduceIte]
      rw [hG0, List.append_assoc]
      exact h2 trivial _ _
theorem lineIts_of (i : Nat) : ∀ (l : List AV) (k : Nat) (x : List AV), x ∈ lineIts i k l → ∃ j z, l[j]? = some z ∧ x = [placeA i (k + j) 0, z]
  | [], _, _, h => by simp [lineIts] at h
  | y :: r, k, x, h => by
    rcases List.mem_cons.1 h with rfl | h
    · exact ⟨0, y, rfl, rfl⟩
    · obtain ⟨j, z, h1, h2⟩ := lineIts_of i r (k + 1) x h
      exact ⟨j + 1, z, by simpa using h1, by rw [h2, show k + 1 + j = k + (j + 1) by omega]⟩
/-- a chapter in memory that nothing turns -/
def OkCh (y : AV) : Prop := ∃ id l0 lxs, y = .agg [intA id, l0] ∧ SlOf 1 lxs l0 ∧ (∀ x ∈ lxs, x.cells = [x]) ∧ lxs.length < 2 ^ 63
theorem chapIts_drop (xs : List AV) (i : Nat) (y : AV) (h : xs[i]? = some y) : chapIts i (xs.drop i) = lineIts i 0 (linesOf y) ++ chapIts (i + 1) (xs.drop (i + 1)) := by
  obtain ⟨hj, rfl⟩ := List.getElem?_eq_some_iff.1 h
  rw [List.drop_eq_getElem_cons hj]; rfl
set_option maxHeartbeats 4000000 in
theorem loop88a {e : Exts} (ch : AV) (xs : List AV) (hch : SlOf 2 xs ch) (hall : ∀ y ∈ xs, OkCh y) (hlen : xs.length < 2 ^ 63)
    (l : Nat) (S : Type) (hp : S → Heap) (stp : S → List AV → Bool × S) (ok : List AV → Prop) (live : S → Prop) (n : Nat) (hsrc : Src (Cx e) l S hp stp ok live n) (E : List (Option AObj))
    (hok : ∀ i y j x, xs[i]? = some y → (linesOf y)[j]? = some x → ok [placeA i j 0, x]) (K : Post) :
    ∀ m i s F, i + m = xs.length → (∃ G, F = E ++ G) → live s →
    ((runIt stp (chapIts i (xs.drop i)) s).1 = true → ∀ G, AtK K (.exit 0) ⟨34, [(0, .yld l), (1, .ro (.agg [ch]) 0), (8, ch), (9, intA xs.length), (10, intA xs.length)], []⟩ ((hp (runIt stp (chapIts i (xs.drop i)) s).2).plus (E ++ G))) →
    ((runIt stp (chapIts i (xs.drop i)) s).1 = false → ∀ G tl, AtK K .ret ⟨34, tl, []⟩ ((hp (runIt stp (chapIts i (xs.drop i)) s).2).plus (E ++ G))) →
    Lp (Cx e) 97 none [0, 1, 8, 9, 10] (body88 0) ⟨34, [(0, .yld l), (1, .ro (.agg [ch]) 0), (8, ch), (9, intA xs.length), (10, intA i)], []⟩ ((hp s).plus F) K := by
  have hn := hsrc.size
  have hlk : ∀ s, (hp s).lock ≤ n := fun s => by have := hsrc.lock s; have := hsrc.lt; omega
  intro m
  induction m with
  | zero =>
    intro j s F' hj hF hli h1 h2
    obtain ⟨G0, rfl⟩ := hF
    rw [Lp_step]
    generalize hK : loopK (Cx e) 97 none [0, 1, 8, 9, 10] (body88 0) _ K = KK
    unfold body88
    obtain rfl : j = xs.length := by omega
    simp only [Try.f97, loops, Option.map_some, Option.getD_some, List.nil_append, List.append_nil, List.cons_append, List.getElem?_cons_zero, List.getElem?_cons_succ]
    simp -implicitDefEqProofs only [go_sem, ↓reduceIte, intA, Int.lt_irrefl, plus_size, hn, settle_none (hn _)]
    subst hK
    simp -implicitDefEqProofs only [go_sem, ↓reduceIte, plus_size, hn]
    rw [List.drop_of_length_le (Nat.le_refl _)] at h1 h2
    have : ((hp s).plus (E ++ G0)).trim (n + (E ++ G0).length) = fun vs ms => (hp s).plus (E ++ G0) := by
      funext vs ms
      rw [show n + (E ++ G0).length = ((hp s).plus (E ++ G0)).size by rw [plus_size, hn]]; exact trim_size _ _ _
    rw [this]
    exact h1 rfl G0
  | succ m ih =>
    intro i s F hj hF hlv h1 h2
    obtain ⟨G0, hG0⟩ := hF
    obtain ⟨y, hy⟩ := at_lt xs i (by omega)
    have hdr := chapIts_drop xs i y hy
    obtain ⟨id, l0, lxs, rfl, hl0, hlc, hll⟩ := hall y (List.mem_of_getElem? hy)
    have hli : linesOf (.agg [intA id, l0]) = lxs := hl0.elems
    have hlt : (i : Int) < ((xs.length : Nat) : Int) := by omega
    have hw := wrap_succ i (by omega)
    rw [hdr, hli] at h1 h2
    rw [runIt_append] at h1 h2
    rw [Lp_step]
    generalize hK : loopK (Cx e) 97 none [0, 1, 8, 9, 10] (body88 0) _ K = KK
    unfold body88
    simp only [Try.f97, loops, Option.map_some, Option.getD_some, List.nil_append, List.append_nil, List.cons_append, List.getElem?_cons_zero, List.getElem?_cons_succ]
    simp -implicitDefEqProofs only [go_sem, ↓reduceIte, intA, hlt, hw, hch.len, hch.idx hy, hl0.len, hl0.cells, hl0.flat, hl0.bound, plus_size, hn, settle_none (hn _), plus_put_end (hn _), plus_store_end (hn _) (hlk _), settle_end (hn _), plus_row_at (hn _)]
    refine loop88b ch xs lxs id l0 hl0 hlc hll l S hp stp ok live n hsrc i (n + F.length) 0 (F ++ [some (.cells 0 0 78 1 false [intA id, l0])]) ?_ ?_ _ lxs.length 0 s _ (by omega) ⟨[], by rw [List.append_nil]; rfl⟩ hlv ?_ ?_
    · intro s G
      rw [List.append_assoc]
      exact plus_row_at (hn s) F G 0 0 0 78 1 false [intA id, l0]
    · intro j x hx
      exact hok i _ j x hy (by rw [hli]; exact hx)
    · intro hf G
      rw [List.drop_zero] at hf ⊢
      rw [hf] at h1 h2
      simp only [if_true] at h1 h2
      simp -implicitDefEqProofs only [go_sem, ↓reduceIte, intA, hw, plus_size, hn, settle_none (hn _)]
      subst hK
      simp -implicitDefEqProofs only [go_sem, ↓reduceIte, plus_size, hn]
      rw [List.append_assoc]
      have hlv2 : live (runIt stp (lineIts i 0 lxs) s).2 := runIt_live hsrc _ s (fun x hx => by
        obtain ⟨j, z, hz, rfl⟩ := lineIts_of i lxs 0 x hx
        rw [Nat.zero_add]
        exact hok i _ j z hy (by rw [hli]; exact hz)) hlv hf
      refine at_trim (fun X => Lp _ _ _ _ _ _ X _) (by simp only [hn]) fun G3 => ?_
      exact ih (i + 1) _ (F ++ G3) (by omega) ⟨G0 ++ G3, by rw [hG0, List.append_assoc]⟩ hlv2 h1 h2
    · intro hf G tl
      rw [List.drop_zero] at hf ⊢
      rw [hf] at h1 h2
      simp only [Bool.false_eq_true, if_false] at h1 h2
      subst hK
      simp -implicitDefEqProofs only [go_sem, ↓reduceIte]
      rw [hG0, List.append_assoc, List.append_assoc]
      exact h2 hf _ _
theorem fn_ex {C : Cfg} {f : FuncId} {args : List AV} {H : Heap} {K : PostO} (h : Fn' C f args H K) : ∃ v H', lim C (.call f args H) = some (.ret v H') ∧ K v H' := by
  unfold Fn' at h
  rw [bindO_iff] at h
  obtain ⟨o, h1, h2⟩ := h
  cases o with
  | ret v H' => exact ⟨v, H', h1, h2⟩
  | go => exact h2.elim
theorem lineIts_mem (i : Nat) : ∀ (l : List AV) (k j : Nat) (x : AV), l[j]? = some x → [placeA i (k + j) 0, x] ∈ lineIts i k l
  | [], _, j, _, h => by simp at h
  | y :: r, k, 0, x, h => by simp at h; subst h; simp [lineIts]
  | y :: r, k, j + 1, x, h => by
    have := lineIts_mem i r (k + 1) j x (by simpa using h)
    rw [show k + 1 + j = k + (j + 1) by omega] at this
    exact List.mem_cons_of_mem _ this
theorem chapIts_mem0 : ∀ (xs : List AV) (k i : Nat) (y : AV) (j : Nat) (x : AV), xs[i]? = some y → (linesOf y)[j]? = some x → [placeA (k + i) j 0, x] ∈ chapIts k xs
  | [], _, i, _, _, _, h, _ => by simp at h
  | z :: r, k, 0, y, j, x, h, hx => by
    simp at h; subst h
    have := lineIts_mem k (linesOf z) 0 j x hx
    rw [Nat.zero_add] at this
    exact List.mem_append_left _ this
  | z :: r, k, i + 1, y, j, x, h, hx => by
    have := chapIts_mem0 r (k + 1) i y j x (by simpa using h) hx
    rw [show k + 1 + i = k + (i + 1) by omega] at this
    exact List.mem_append_right _ this
theorem chapIts_mem (xs : List AV) (i : Nat) (y : AV) (j : Nat) (x : AV) (h : xs[i]? = some y) (hx : (linesOf y)[j]? = some x) : [placeA i j 0, x] ∈ chapIts 0 xs := by
  have := chapIts_mem0 xs 0 i y j x h hx
  rwa [Nat.zero_add] at this
set_option maxHeartbeats 4000000 in
theorem yields88 {e : Exts} (ch : AV) (xs : List AV) (hch : SlOf 2 xs ch) (hall : ∀ y ∈ xs, OkCh y) (hlen : xs.length < 2 ^ 63) : Yields (Cx e) 97 [.ro (.agg [ch]) 0] (chapIts 0 xs) := by
  intro l S hp stp ok live n hsrc hok s E hlv
  have hn := hsrc.size
  have key : Fn' (Cx e) 97 [.yld l, .ro (.agg [ch]) 0] ((hp s).plus E) fun v H' => v = .tup [] ∧ ∃ G, H' = (hp (runIt stp (chapIts 0 xs) s).2).plus (E ++ G) := by
    rw [fn_step (fn_97 e) (show Try.f97.body = some _ from rfl)]
    simp -implicitDefEqProofs only [Try.f97, intA, go_sem, ↓reduceIte, hch.len, hch.cells, plus_size, hn, settle_none (hn _)]
    refine loop88a ch xs hch hall hlen l S hp stp ok live n hsrc E ?_ _ xs.length 0 s E (by omega) ⟨[], (List.append_nil E).symm⟩ hlv ?_ ?_
    · intro i y j x hy hx
      exact hok _ (chapIts_mem xs i y j x hy hx)
    · intro hf G
      simp -implicitDefEqProofs only [go_sem, ↓reduceIte]
      exact ⟨rfl, G, rfl⟩
    · intro hf G tl
      simp -implicitDefEqProofs only [go_sem, ↓reduceIte]
      exact ⟨rfl, G, rfl⟩
  obtain ⟨v, H', h1, rfl, G, rfl⟩ := fn_ex key
  exact ⟨G, h1⟩
end Go.Ev
namespace Go.Ev
open Go.Proofs
set_option maxRecDepth 100000
set_option linter.unusedSimpArgs false
theorem freeze_cl {sz : Nat} {xs : List AV} {ch : AV} (h : SlOf sz xs ch) (f : FuncId) (t : TypeId) : freezeV ⟨[some (.cells 0 0 t 1 false [ch])], 0⟩ 1000000 (.fn (.func f) [] [.ptr 0 0 0]) = some (.fn (.func f) [] [.ro (.agg [ch]) 0]) := by
  rcases h with ⟨rfl, rfl⟩ | ⟨cap, rfl⟩
  · kernel_rfl
  · kernel_rfl
set_option maxHeartbeats 1000000 in
theorem ans64 {e : Exts} (ch : AV) (xs : List AV) (hch : SlOf 2 xs ch) : Ans (Cx e) 70 [.agg [ch]] (.fn (.func 97) [] [.ro (.agg [ch]) 0]) := by
  unfold Ans
  rw [fn_step (fn_70 e) (show Try.f70.body = some _ from rfl)]
  simp -implicitDefEqProofs only [Try.f70, intA, go_sem, ↓reduceIte, hch.cells, hch.flat, hch.bound, freeze_cl hch]
theorem call64 {e : Exts} (he : Quiet e) (ch : AV) (xs : List AV) (hch : SlOf 2 xs ch) (me : FuncId) (d : Option Tmp) (H : Heap) : callA (Cx e) (lim (Cx e)) me 70 d [.agg [ch]] H = some (.fn (.func 97) [] [.ro (.agg [ch]) 0], H) :=
  (ans64 ch xs hch).call (ext_70 he) (pure_70 _ _ _) (by simp only [boundL_cons, bound_agg, hch.bound, boundL_nil]; rfl) H
end Go.Ev
namespace Go.Ev
open Go.Proofs
set_option maxRecDepth 100000
set_option linter.unusedSimpArgs false
theorem setT_nil (n : Nat) (t : List (Tmp × AV)) : setTmps n t [] = t := rfl
theorem setT_cons (n : Nat) (t : List (Tmp × AV)) (d : Tmp) (v : AV) (r : List (Tmp × AV)) : setTmps n t ((d, v) :: r) = setTmps n (if d < n then setAssoc d v t else t) r := rfl
end Go.Ev
namespace Go.Ev
open Go.Proofs
set_option maxRecDepth 100000
set_option linter.unusedSimpArgs false
theorem runIt_cons {S : Type} (stp : S → List AV → Bool × S) (x : List AV) (r : List (List AV)) (s : S) : runIt stp (x :: r) s = if (stp s x).1 then runIt stp r (stp s x).2 else (false, (stp s x).2) := rfl
/-- a chapter of lines of texts in memory that nothing turns -/
def OkCh2 (y : AV) : Prop := ∃ id l0 lxs, y = .agg [intA id, l0] ∧ SlOf 1 lxs l0 ∧ lxs.length < 2 ^ 63 ∧ ∀ x ∈ lxs, ∃ els, SlOf 1 els x ∧ (∀ z ∈ els, z.cells = [z]) ∧ els.length < 2 ^ 63
theorem OkCh2.ok {y : AV} (h : OkCh2 y) : OkCh y := by
  obtain ⟨id, l0, lxs, h1, h2, h3, h4⟩ := h
  exact ⟨id, l0, lxs, h1, h2, fun x hx => by obtain ⟨els, h5, -⟩ := h4 x hx; exact h5.cells, h3⟩
theorem chapIts_of : ∀ (xs : List AV) (k : Nat) (x : List AV), x ∈ chapIts k xs → ∃ i y j z, xs[i]? = some y ∧ (linesOf y)[j]? = some z ∧ x = [placeA (k + i) j 0, z]
  | [], _, _, h => by simp [chapIts] at h
  | y :: r, k, x, h => by
    rcases List.mem_append.1 h with h | h
    · obtain ⟨j, z, h1, rfl⟩ := lineIts_of k _ 0 x h
      exact ⟨0, y, j, z, rfl, h1, by rw [Nat.zero_add]; rfl⟩
    · obtain ⟨i, y', j, z, h1, h2, rfl⟩ := chapIts_of r (k + 1) x h
      exact ⟨i + 1, y', j, z, by simpa using h1, h2, by rw [show k + 1 + i = k + (i + 1) by omega]⟩
end Go.Ev
namespace Go.Ev
open Go.Proofs
set_option maxRecDepth 100000
set_option linter.unusedSimpArgs false
/-! ### calls on memory that is there -/
theorem call_k2 {C : Cfg} {me f : FuncId} {d : Option Tmp} {args : List AV} {H : Heap} {x : Value} (hx : C.ext f = none) (hp : C.pure me f d = true) (hb : Nat.beq (boundL args) 0 = false) (hy : args.any isYld = false)
    (h : Fn' C f args { H with lock := H.size } fun v _ => v = .v x) : callA C (lim C) me f d args H = some (.v x, H) := by
  obtain ⟨v, H', h1, rfl⟩ := fn_ex h
  have hk : callKind C me f d args = 2 := by unfold callKind; rw [hp, hb, hy]; rfl
  unfold callA; rw [hx]; simp only
  unfold callB; rw [hk]; simp only [h1]
  rfl
theorem call_k0 {C : Cfg} {me f : FuncId} {d : Option Tmp} {args : List AV} {H : Heap} {x : Value} (hx : C.ext f = none) (hp : C.pure me f d = false)
    (h : Fn' C f args H fun v H' => v = .v x ∧ H' = H) : callA C (lim C) me f d args H = some (.v x, H) := by
  obtain ⟨v, H', h1, rfl, rfl⟩ := fn_ex h
  have hk : callKind C me f d args = 0 := by unfold callKind; rw [hp]; rfl
  unfold callA; rw [hx]; simp only
  unfold callB; rw [hk]; simp only [h1, trim_size]
set_option maxHeartbeats 1000000 in
theorem ans51 {e : Exts} (he : Quiet e) (n : Int) : Ans (Cx e) 63 [intA n] (.v (.bool (withinB 0 9999 [n]))) := by
  unfold Ans
  rw [fn_step (fn_63 e) (show Try.f63.body = some _ from rfl)]
  have hc := call69 he 0 9999 [n] (by simp) (.vs 1 [.v (.int .i64 n)] (some 1)) (Or.inr ⟨_, rfl⟩)
  unfold intA at hc
  simp -implicitDefEqProofs only [Try.f63, intA, go_sem, ↓reduceIte, hc]
theorem call51 {e : Exts} (he : Quiet e) (n : Int) (me : FuncId) (d : Option Tmp) (H : Heap) : callA (Cx e) (lim (Cx e)) me 63 d [.v (.int .i64 n)] H = some (.v (.bool (withinB 0 9999 [n])), H) :=
  (ans51 he n).call (ext_63 he) (pure_63 _ _ _) rfl H
theorem callI51 {e : Exts} (he : Quiet e) (n : Int) (me : FuncId) (d : Option Tmp) : callI (Cx e) me 63 d [.v (.int .i64 n)] = some (.v (.bool (withinB 0 9999 [n]))) :=
  (ans51 he n).callI (ext_63 he) (pure_63 _ _ _) rfl
set_option maxHeartbeats 1000000 in
theorem ans82 {e : Exts} (he : Quiet e) (n : Int) : Ans (Cx e) 81 [.vs 1 [intA n] (some 1)] (.v (.bool (withinB 1 10 [n]))) := by
  unfold Ans
  rw [fn_step (fn_81 e) (show Try.f81.body = some _ from rfl)]
  have hc := call69 he 1 10 [n] (by simp) (.vs 1 [.v (.int .i64 n)] (some 1)) (Or.inr ⟨_, rfl⟩)
  unfold intA at hc
  simp -implicitDefEqProofs only [Try.f81, intA, go_sem, ↓reduceIte, hc]
theorem call82 {e : Exts} (he : Quiet e) (n : Int) (me : FuncId) (d : Option Tmp) (H : Heap) : callA (Cx e) (lim (Cx e)) me 81 d [.vs 1 [.v (.int .i64 n)] (some 1)] H = some (.v (.bool (withinB 1 10 [n])), H) :=
  (ans82 he n).call (ext_81 he) (pure_81 _ _ _) rfl H
/-! ### hasId -/
def hId (id : Int) : Heap := ⟨[some (.cells 0 0 3 1 false [intA id])], 0⟩
set_option maxHeartbeats 1000000 in
theorem call101 {e : Exts} (he : Quiet e) (id n : Int) (l : AV) (ls : List AV) (hl : SlOf 1 ls l) (me : FuncId) (d : Option Tmp) : callA (Cx e) (lim (Cx e)) me 111 d [.agg [.v (.int .i64 n), l], .ptr 0 0 0] (hId id) = some (.v (.bool (decide (n = id))), hId id) := by
  refine call_k2 (ext_111 he) (pure_111 _ _ _) (by simp only [boundL_cons, bound_agg, bound_ptr, bound_v, hl.bound, boundL_nil]; rfl) rfl ?_
  rw [fn_step (fn_111 e) (show Try.f111.body = some _ from rfl)]
  simp -implicitDefEqProofs only [Try.f111, hId, intA, go_sem, ↓reduceIte, hl.cells, hl.flat, hl.bound]
  rfl
noncomputable def body120 : Code := ((Try.f130.body.map loops).getD [])[0]?.getD .skip
set_option maxHeartbeats 1000000 in
theorem loop120 {e : Exts} (he : Quiet e) (id : Int) (t : Txt) (x : AV) (xs : List AV) (hx : SlOf 2 xs x) (hall : All2 ChapA t xs) (hn : t.length < 2 ^ 63) (K : Post) :
    ∀ m j : Nat, j + m = t.length → ((t.drop j).any (fun c => decide (c.1 = id)) = false → ∀ tl, AtK K (.exit 0) ⟨19, tl, []⟩ (hId id)) → ((t.drop j).any (fun c => decide (c.1 = id)) = true → ∀ (n : Nat) tl, assoc 4 tl = some (intA n) → AtK K .ret ⟨19, tl, []⟩ (hId id)) →
    Lp (Cx e) 130 none [0, 1, 4, 7, 8] body120 ⟨19, [(0, x), (1, .fn (.func 111) [] [.ptr 0 0 0]), (4, intA 0), (7, intA t.length), (8, intA j)], []⟩ (hId id) K := by
  intro m
  induction m with
  | zero =>
    intro j hj h1 h2
    rw [Lp_step]
    generalize hK : loopK (Cx e) 130 none _ body120 _ K = KK
    unfold body120
    obtain rfl : j = t.length := by omega
    simp only [Try.f130, loops, Option.map_some, Option.getD_some, List.nil_append, List.append_nil, List.cons_append, List.getElem?_cons_zero, List.getElem?_cons_succ]
    simp -implicitDefEqProofs only [go_sem, ↓reduceIte, intA, hId, Int.lt_irrefl]
    subst hK
    simp -implicitDefEqProofs only [go_sem, ↓reduceIte, hId]
    exact h1 (by simp) _
  | succ m ih =>
    intro j hj h1 h2
    obtain ⟨c, hs⟩ := at_lt t j (by omega)
    obtain ⟨y, hy, l, rfl, ls, hl, -⟩ := hall.get hs
    have hd := drop_any (fun c : Chap => decide (c.1 = id)) t j c hs
    have hlt : (j : Int) < ((t.length : Nat) : Int) := by omega
    have hw := wrap_succ j (by omega)
    have hc := call101 he id c.1 l ls hl
    unfold hId intA at hc
    rw [Lp_step]
    generalize hK : loopK (Cx e) 130 none _ body120 _ K = KK
    unfold body120
    simp only [Try.f130, loops, Option.map_some, Option.getD_some, List.nil_append, List.append_nil, List.cons_append, List.getElem?_cons_zero, List.getElem?_cons_succ]
    by_cases c1 : c.1 = id
    · simp only [c1, decide_true] at hc
      simp -implicitDefEqProofs only [go_sem, ↓reduceIte, intA, hId, hlt, hw, hx.idx hy, hc, c1]
      subst hK
      simp -implicitDefEqProofs only [go_sem, ↓reduceIte]
      exact h2 (by rw [hd]; simp [c1]) j _ rfl
    · simp only [c1, decide_false] at hc
      simp -implicitDefEqProofs only [go_sem, ↓reduceIte, intA, hId, hlt, hw, hx.idx hy, hc]
      subst hK
      simp -implicitDefEqProofs only [go_sem, ↓reduceIte, hId]
      rw [hd] at h1 h2
      simp only [c1, decide_false, Bool.false_or] at h1 h2
      exact ih (j + 1) (by omega) h1 h2
def hasIdB (t : Txt) (id : Int) : Bool := t.any fun c => decide (c.1 = id)
theorem pure120 (e : Exts) (h : FuncId) (d : Option Tmp) : (Cx e).pure h 130 d = false := by simp [Cx, pureF, impF, impC]
theorem pure100 (e : Exts) (h : FuncId) (d : Option Tmp) : (Cx e).pure h 110 d = false := by simp [Cx, pureF, impF, impC]
set_option maxHeartbeats 1000000 in
theorem fn120 {e : Exts} (he : Quiet e) (id : Int) (t : Txt) (x : AV) (xs : List AV) (hx : SlOf 2 xs x) (hall : All2 ChapA t xs) (hn : t.length < 2 ^ 63) :
    ∃ n : Int, decide (0 ≤ n) = hasIdB t id ∧ Fn' (Cx e) 130 [x, .fn (.func 111) [] [.ptr 0 0 0]] (hId id) fun v H' => v = intA n ∧ H' = hId id := by
  have key : Fn' (Cx e) 130 [x, .fn (.func 111) [] [.ptr 0 0 0]] (hId id) fun v H' => (∃ n : Int, decide (0 ≤ n) = hasIdB t id ∧ v = intA n) ∧ H' = hId id := by
    rw [fn_step (fn_130 e) (show Try.f130.body = some _ from rfl)]
    simp -implicitDefEqProofs only [Try.f130, hId, intA, go_sem, ↓reduceIte, hx.len, ← hall.1]
    refine loop120 he id t x xs hx hall hn _ t.length 0 (by omega) ?_ ?_
    · intro hf tl
      simp -implicitDefEqProofs only [go_sem, ↓reduceIte, hId]
      exact ⟨⟨-1, by unfold hasIdB; rw [List.drop_zero] at hf; rw [hf]; rfl, rfl⟩, rfl⟩
    · intro hf n tl htl
      simp -implicitDefEqProofs only [go_sem, ↓reduceIte, htl]
      exact ⟨⟨n, by unfold hasIdB; rw [List.drop_zero] at hf; rw [hf]; simp, rfl⟩, rfl⟩
  obtain ⟨v, H', h1, ⟨n, hnn, rfl⟩, rfl⟩ := fn_ex key
  refine ⟨n, hnn, ?_⟩
  unfold Fn'; rw [h1]; exact ⟨rfl, rfl⟩
set_option maxHeartbeats 1000000 in
theorem call100 {e : Exts} (he : Quiet e) (id : Int) (t : Txt) (x : AV) (xs : List AV) (hx : SlOf 2 xs x) (hall : All2 ChapA t xs) (hn : t.length < 2 ^ 63) (me : FuncId) (d : Option Tmp) :
    callA (Cx e) (lim (Cx e)) me 110 d [x, .fn (.func 111) [] [.ptr 0 0 0]] (hId id) = some (.v (.bool (hasIdB t id)), hId id) := by
  refine call_k0 (ext_110 he) (pure100 _ _ _) ?_
  obtain ⟨n, hnn, hf⟩ := fn120 he id t x xs hx hall hn
  have hc := call_k0 (me := 110) (d := some 7) (ext_130 he) (pure120 e _ _) hf
  unfold hId intA at hc
  rw [fn_step (fn_110 e) (show Try.f110.body = some _ from rfl)]
  simp -implicitDefEqProofs only [Try.f110, hId, intA, go_sem, ↓reduceIte, hc]
  exact ⟨by rw [hnn], rfl⟩
set_option maxHeartbeats 1000000 in
theorem ans86 {e : Exts} (he : Quiet e) (id : Int) (t : Txt) (x : AV) (xs : List AV) (hx : SlOf 2 xs x) (hall : All2 ChapA t xs) (hn : t.length < 2 ^ 63) : Ans (Cx e) 95 [x, intA id] (.v (.bool (hasIdB t id))) := by
  unfold Ans
  have hc := call100 he id t x xs hx hall hn 95 (some 7)
  unfold hId intA at hc
  rw [fn_step (fn_95 e) (show Try.f95.body = some _ from rfl)]
  simp -implicitDefEqProofs only [Try.f95, intA, go_sem, ↓reduceIte, hc]
theorem callI86 {e : Exts} (he : Quiet e) (id : Int) (t : Txt) (x : AV) (xs : List AV) (hx : SlOf 2 xs x) (hall : All2 ChapA t xs) (hn : t.length < 2 ^ 63) (me : FuncId) (d : Option Tmp) : callI (Cx e) me 95 d [x, .v (.int .i64 id)] = some (.v (.bool (hasIdB t id))) :=
  (ans86 he id t x xs hx hall hn).callI (ext_95 he) (pure_95 _ _ _) (by simp only [boundL_cons, hx.bound, intA, bound_v, boundL_nil]; rfl)
/-! ### isLines -/
noncomputable def body87 (n : Nat) : Code := ((Try.f96.body.map loops).getD [])[n]?.getD .skip
def okUpto (ls : List Line) (j : Nat) : Nat := ((ls.take j).filter lineB).length
theorem okUpto_succ (ls : List Line) (j : Nat) (l : Line) (h : ls[j]? = some l) : okUpto ls (j + 1) = okUpto ls j + if lineB l then 1 else 0 := by
  obtain ⟨hj, rfl⟩ := List.getElem?_eq_some_iff.1 h
  unfold okUpto
  rw [List.take_succ_eq_append_getElem hj, List.filter_append, List.length_append]
  congr 1
  cases h : lineB ls[j] <;> simp [h]
theorem okUpto_le (ls : List Line) (j : Nat) : okUpto ls j ≤ j := by
  unfold okUpto
  exact Nat.le_trans (List.length_filter_le _ _) (by simp; omega)
theorem okUpto_all (ls : List Line) : (okUpto ls ls.length = ls.length) ↔ ls.all lineB = true := by
  unfold okUpto
  rw [List.take_of_length_le (Nat.le_refl _), List.length_filter_eq_length_iff, List.all_eq_true]
def allW (ws : Line) (j : Nat) : Bool := (ws.drop j).all wordB
set_option maxHeartbeats 1000000 in
theorem loop87w {e : Exts} (he : Quiet e) (x lx : AV) (r nl i : Nat) (ws : Line) (hlx : SlOf 1 (strs ws) lx) (hn : ws.length < 2 ^ 63) (hz : ∀ s ∈ ws, s.size < 2 ^ 63) (K : Post) :
    ∀ m j : Nat, j + m = ws.length → (allW ws j = true → ∀ k : Nat, AtK K (.exit 2) ⟨46, [(0, x), (2, .v (.bool false)), (12, .v (.bool false)), (3, intA r), (14, intA nl), (15, intA i), (16, .v (.bool true)), (4, intA i), (25, .v (.bool false)), (29, lx), (30, intA ws.length), (31, intA k)], []⟩ ⟨[], 0⟩) →
      (allW ws j = false → ∀ k : Nat, AtK K (.exit 1) ⟨46, [(0, x), (2, .v (.bool false)), (12, .v (.bool false)), (3, intA r), (14, intA nl), (15, intA i), (16, .v (.bool true)), (4, intA i), (25, .v (.bool false)), (29, lx), (30, intA ws.length), (31, intA k)], []⟩ ⟨[], 0⟩) →
    Lp (Cx e) 96 none [0, 2, 12, 3, 14, 15, 16, 4, 25, 29, 30, 31] (body87 1) ⟨46, [(0, x), (2, .v (.bool false)), (12, .v (.bool false)), (3, intA r), (14, intA nl), (15, intA i), (16, .v (.bool true)), (4, intA i), (25, .v (.bool false)), (29, lx), (30, intA ws.length), (31, intA j)], []⟩ ⟨[], 0⟩ K := by
  intro m
  induction m with
  | zero =>
    intro j hj h1 h2
    rw [Lp_step]
    generalize hK : loopK (Cx e) 96 none _ (body87 1) _ K = KK
    unfold body87
    obtain rfl : j = ws.length := by omega
    simp only [Try.f96, loops, Option.map_some, Option.getD_some, List.nil_append, List.append_nil, List.cons_append, List.getElem?_cons_zero, List.getElem?_cons_succ]
    simp -implicitDefEqProofs only [go_sem, ↓reduceIte, intA, Int.lt_irrefl]
    subst hK
    simp -implicitDefEqProofs only [go_sem, ↓reduceIte]
    exact h1 (by unfold allW; rw [List.drop_of_length_le (Nat.le_refl _)]; rfl) _
  | succ m ih =>
    intro j hj h1 h2
    obtain ⟨s, hs⟩ := at_lt ws j (by omega)
    have hd : allW ws j = (wordB s && allW ws (j + 1)) := drop_all _ ws j s hs
    have hlt : (j : Int) < ((ws.length : Nat) : Int) := by omega
    have hw := wrap_succ j (by omega)
    have hc := call49 he s (hz s (List.mem_of_getElem? hs))
    rw [Lp_step]
    generalize hK : loopK (Cx e) 96 none _ (body87 1) _ K = KK
    unfold body87
    simp only [Try.f96, loops, Option.map_some, Option.getD_some, List.nil_append, List.append_nil, List.cons_append, List.getElem?_cons_zero, List.getElem?_cons_succ]
    cases c1 : wordB s
    · rw [c1] at hc
      simp -implicitDefEqProofs only [go_sem, ↓reduceIte, intA, hlt, hw, hlx.idx (strs_get hs), hc]
      subst hK
      simp -implicitDefEqProofs only [go_sem, ↓reduceIte]
      exact h2 (by rw [hd, c1]; rfl) j
    · rw [c1] at hc
      simp -implicitDefEqProofs only [go_sem, ↓reduceIte, intA, hlt, hw, hlx.idx (strs_get hs), hc]
      subst hK
      simp -implicitDefEqProofs only [go_sem, ↓reduceIte]
      rw [hd, c1, Bool.true_and] at h1 h2
      exact ih (j + 1) (by omega) h1 h2
set_option maxHeartbeats 1000000 in
theorem loop87l {e : Exts} (he : Quiet e) (x : AV) (lxs : List AV) (hx : SlOf 1 lxs x) (ls : List Line) (hls : All2 LineA ls lxs) (hn : ls.length < 2 ^ 63) (hnn : ∀ l ∈ ls, l.length < 2 ^ 63) (hz : ∀ l ∈ ls, ∀ s ∈ l, s.size < 2 ^ 63) (K : Post)
    (hK0 : AtK K (.exit 0) ⟨46, [(0, x), (2, .v (.bool false)), (12, .v (.bool false)), (3, intA (okUpto ls ls.length)), (14, intA ls.length), (15, intA ls.length)], []⟩ ⟨[], 0⟩) :
    ∀ m j : Nat, j + m = ls.length →
    Lp (Cx e) 96 none [0, 2, 12, 3, 14, 15] (body87 0) ⟨46, [(0, x), (2, .v (.bool false)), (12, .v (.bool false)), (3, intA (okUpto ls j)), (14, intA ls.length), (15, intA j)], []⟩ ⟨[], 0⟩ K := by
  intro m
  induction m with
  | zero =>
    intro j hj
    rw [Lp_step]
    generalize hK : loopK (Cx e) 96 none _ (body87 0) _ K = KK
    unfold body87
    obtain rfl : j = ls.length := by omega
    simp only [Try.f96, loops, Option.map_some, Option.getD_some, List.nil_append, List.append_nil, List.cons_append, List.getElem?_cons_zero, List.getElem?_cons_succ]
    simp -implicitDefEqProofs only [go_sem, ↓reduceIte, intA, Int.lt_irrefl]
    subst hK
    simp -implicitDefEqProofs only [go_sem, ↓reduceIte]
    exact hK0
  | succ m ih =>
    intro j hj
    obtain ⟨ws, hs⟩ := at_lt ls j (by omega)
    obtain ⟨lx, hy, hlx⟩ := hls.get hs
    have hlx : SlOf 1 (strs ws) lx := hlx
    have hm := List.mem_of_getElem? hs
    have hsu := okUpto_succ ls j ws hs
    have hle := okUpto_le ls j
    have hlt : (j : Int) < ((ls.length : Nat) : Int) := by omega
    have hw := wrap_succ j (by omega)
    have hw2 := wrap_succ (okUpto ls j) (by omega)
    have hc := call82 he (ws.length : Int)
    have hih := ih (j + 1) (by omega)
    rw [Lp_step]
    generalize hK : loopK (Cx e) 96 none _ (body87 0) _ K = KK
    unfold body87
    simp only [Try.f96, loops, Option.map_some, Option.getD_some, List.nil_append, List.append_nil, List.cons_append, List.getElem?_cons_zero, List.getElem?_cons_succ]
    cases c1 : withinB 1 10 [(ws.length : Int)]
    · rw [c1] at hc
      have hb : lineB ws = false := by unfold lineB; rw [c1]; rfl
      simp -implicitDefEqProofs only [go_sem, ↓reduceIte, intA, hlt, hw, hx.idx hy, hlx.cells, hlx.len, strs_len, hc]
      subst hK
      simp -implicitDefEqProofs only [go_sem, ↓reduceIte]
      rw [hsu, hb] at hih
      exact hih
    · rw [c1] at hc
      simp -implicitDefEqProofs only [go_sem, ↓reduceIte, intA, hlt, hw, hx.idx hy, hlx.cells, hlx.len, strs_len, hc]
      refine loop87w he x lx (okUpto ls j) ls.length j ws hlx (hnn ws hm) (hz ws hm) _ ws.length 0 (by omega) ?_ ?_
      · intro hf k
        have hb : lineB ws = true := by unfold lineB; rw [c1]; unfold allW at hf; rw [List.drop_zero] at hf; rw [hf]; rfl
        simp -implicitDefEqProofs only [go_sem, ↓reduceIte, intA, hw, hw2]
        subst hK
        simp -implicitDefEqProofs only [go_sem, ↓reduceIte]
        rw [hsu, hb] at hih
        exact hih
      · intro hf k
        have hb : lineB ws = false := by unfold lineB; unfold allW at hf; rw [List.drop_zero] at hf; rw [hf, Bool.and_false]
        simp -implicitDefEqProofs only [go_sem, ↓reduceIte, intA, hw]
        subst hK
        simp -implicitDefEqProofs only [go_sem, ↓reduceIte]
        rw [hsu, hb] at hih
        exact hih
def linesB (ls : List Line) : Bool := withinB 1 10 [(ls.length : Int)] && ls.all lineB
set_option maxHeartbeats 1000000 in
theorem ans87 {e : Exts} (he : Quiet e) (x : AV) (ls : List Line) (hx : LinesA ls x) (hn : ls.length < 2 ^ 63) (hnn : ∀ l ∈ ls, l.length < 2 ^ 63) (hz : ∀ l ∈ ls, ∀ s ∈ l, s.size < 2 ^ 63) : Ans (Cx e) 96 [x] (.v (.bool (linesB ls))) := by
  obtain ⟨lxs, hx, hls⟩ := hx
  unfold Ans
  have hc := call69 he 1 10 [(ls.length : Int)] (by simp) (.vs 1 [.v (.int .i64 ls.length)] (some 1)) (Or.inr ⟨_, rfl⟩)
  unfold intA at hc
  rw [fn_step (fn_96 e) (show Try.f96.body = some _ from rfl)]
  cases c1 : withinB 1 10 [(ls.length : Int)]
  · rw [c1] at hc
    simp -implicitDefEqProofs only [Try.f96, intA, go_sem, ↓reduceIte, hx.len, ← hls.1, hc]
    unfold linesB; rw [c1]; rfl
  · rw [c1] at hc
    simp -implicitDefEqProofs only [Try.f96, intA, go_sem, ↓reduceIte, hx.len, ← hls.1, hc]
    refine loop87l he x lxs hx ls hls hn hnn hz _ ?_ ls.length 0 (by omega)
    by_cases hall : ls.all lineB = true
    · have h1 := (okUpto_all ls).2 hall
      simp -implicitDefEqProofs only [go_sem, ↓reduceIte, intA, hx.len, ← hls.1, h1]
      unfold linesB; rw [c1, hall]; rfl
    · have h1 : ¬ okUpto ls ls.length = ls.length := fun h => hall ((okUpto_all ls).1 h)
      have h2 : ¬ ((okUpto ls ls.length : Nat) : Int) = (ls.length : Int) := by omega
      simp -implicitDefEqProofs only [go_sem, ↓reduceIte, intA, hx.len, ← hls.1, h2]
      have h3 : ls.all lineB = false := by simpa using hall
      unfold linesB; rw [c1, h3]; rfl
theorem callI87 {e : Exts} (he : Quiet e) (x : AV) (ls : List Line) (hx : LinesA ls x) (hn : ls.length < 2 ^ 63) (hnn : ∀ l ∈ ls, l.length < 2 ^ 63) (hz : ∀ l ∈ ls, ∀ s ∈ l, s.size < 2 ^ 63) (me : FuncId) (d : Option Tmp) : callI (Cx e) me 96 d [x] = some (.v (.bool (linesB ls))) :=
  (ans87 he x ls hx hn hnn hz).callI (ext_96 he) (pure_96 _ _ _) (by obtain ⟨lxs, hx, -⟩ := hx; simp only [boundL_cons, hx.bound, boundL_nil]; rfl)
end Go.Ev
namespace Go.Ev
open Go.Proofs
set_option maxRecDepth 100000
set_option linter.unusedSimpArgs false
def condD (t : Txt) (i : Nat) (c : Chap) : Bool := withinB 0 9999 [c.1] && !hasIdB (t.take i) c.1 && linesB c.2
theorem condD_eq (t : Txt) (i : Nat) (c : Chap) : condD t i c = condC t i c := by
  unfold condD condC linesB hasIdB idB
  rw [List.drop_zero]
  cases withinB 0 9999 [c.1] <;> cases withinB 1 10 [(c.2.length : Int)] <;> cases (t.take i).any (fun c_1 => decide (c_1.1 = c.1)) <;> simp
noncomputable def body62 : Code := ((Try.f68.body.map loops).getD [])[0]?.getD .skip
theorem All2.take {α β : Type} {R : α → β → Prop} {l : List α} {m : List β} (h : All2 R l m) (n : Nat) : All2 R (l.take n) (m.take n) := by
  refine ⟨by simp [h.1], fun i a b ha hb => ?_⟩
  rw [List.getElem?_take] at ha hb
  split at ha
  · rename_i hi; rw [if_pos hi] at hb; exact h.2 i a b ha hb
  · cases ha
set_option maxHeartbeats 4000000 in
theorem loop62 {e : Exts} (he : Quiet e) (t : Txt) (ht : Fits t) (xs : List AV) (ch : AV) (hch : SlOf 2 xs ch) (hn : t.length < 2 ^ 63) (hall : All2 ChapA t xs) (K : Post) :
    ∀ m j : Nat, j + m = t.length → (chB t j = false → AtK K (.exit 0) ⟨40, [(0, .agg [ch]), (1, .ptr 0 0 0), (2, .v (.bool false)), (11, .v (.bool false)), (13, ch), (14, intA t.length), (15, intA (t.length : Nat))], []⟩ ⟨[some (.cells 0 0 24 1 false [ch])], 0⟩) → (chB t j = true → ∀ tl HH, assoc 2 tl = some (.v (.bool false)) → AtK K .ret ⟨40, tl, []⟩ HH) →
    Lp (Cx e) 68 none [0, 1, 2, 11, 13, 14, 15] (body62) ⟨40, [(0, .agg [ch]), (1, .ptr 0 0 0), (2, .v (.bool false)), (11, .v (.bool false)), (13, ch), (14, intA t.length), (15, intA j)], []⟩ ⟨[some (.cells 0 0 24 1 false [ch])], 0⟩ K := by
  intro m
  induction m with
  | zero =>
    intro j hj h1 h2
    rw [Lp_step]
    generalize hK : loopK (Cx e) 68 none [0, 1, 2, 11, 13, 14, 15] (body62) _ K = KK
    unfold body62
    obtain rfl : j = t.length := by omega
    simp only [Try.f68, loops, Option.map_some, Option.getD_some, List.nil_append, List.append_nil, List.cons_append, List.getElem?_cons_zero, List.getElem?_cons_succ]
    simp -implicitDefEqProofs only [go_sem, ↓reduceIte, intA, Int.lt_irrefl, hch.len, ← hall.1]
    subst hK
    simp -implicitDefEqProofs only [go_sem, ↓reduceIte]
    exact h1 (by unfold chB; rw [List.drop_of_length_le (by simp)]; rfl)
  | succ m ih =>
    intro j hj h1 h2
    rw [Lp_step]
    generalize hK : loopK (Cx e) 68 none [0, 1, 2, 11, 13, 14, 15] (body62) _ K = KK
    unfold body62
    have hlt : (j : Int) < ((t.length : Nat) : Int) := by omega
    have hw := wrap_succ j (by omega)
    have hj0 : (0 : Int) ≤ (j : Int) := by omega
    simp only [Try.f68, loops, Option.map_some, Option.getD_some, List.nil_append, List.append_nil, List.cons_append, List.getElem?_cons_zero, List.getElem?_cons_succ]
    obtain ⟨c, hs⟩ := at_lt t j (by omega)
    obtain ⟨y, hy, l, rfl, hl'⟩ := hall.get hs
    obtain ⟨lxs, hl, hls⟩ := hl'
    have hd := chB_step t j c hs
    have hm := List.mem_of_getElem? hs
    have hca := callI51 he c.1
    obtain ⟨z, hz1, hz2⟩ := hch.slice und_22 size_78 j (by rw [← hall.1]; omega)
    have hcb := callI86 he c.1 (t.take j) z _ hz2 (hall.take j) (by simp; omega)
    have hcc := callI87 he l c.2 ⟨lxs, hl, hls⟩ (ht.lines c hm) (ht.words c hm) (ht.size c hm)
    simp -implicitDefEqProofs only [go_sem, ↓reduceIte, intA, hlt, hw, hch.len, hch.cells, hch.idx hy, hl.len, hl.cells, hl.flat, hl.bound]
    refine wp_draw (by kernel_rfl) ?_
    rw [← condD_eq] at hd
    cases c1 : withinB 0 9999 [c.1]
    · rw [c1] at hca
      simp -implicitDefEqProofs only [go_sem, ↓reduceIte, intA, hlt, hw, hca]
      subst hK
      simp -implicitDefEqProofs only [go_sem, ↓reduceIte]
      exact h2 (by rw [hd]; unfold condD; rw [c1]; rfl) _ _ rfl
    · rw [c1] at hca
      cases c2 : hasIdB (t.take j) c.1
      · rw [c2] at hcb
        cases c3 : linesB c.2
        · rw [c3] at hcc
          simp -implicitDefEqProofs only [go_sem, ↓reduceIte, intA, hlt, hw, hca, hcb, hcc, hz1]
          subst hK
          simp -implicitDefEqProofs only [go_sem, ↓reduceIte]
          exact h2 (by rw [hd]; unfold condD; rw [c1, c2, c3]; rfl) _ _ rfl
        · rw [c3] at hcc
          simp -implicitDefEqProofs only [go_sem, ↓reduceIte, intA, hlt, hw, hca, hcb, hcc, hz1]
          subst hK
          simp -implicitDefEqProofs only [go_sem, ↓reduceIte, trim_at, hch.flat, hch.bound, hch.cells]
          have hd' : chB t j = chB t (j + 1) := by rw [hd]; unfold condD; rw [c1, c2, c3]; rfl
          rw [hd'] at h1 h2
          exact ih (j + 1) (by omega) h1 h2
      · rw [c2] at hcb
        simp -implicitDefEqProofs only [go_sem, ↓reduceIte, intA, hlt, hw, hca, hcb, hz1]
        subst hK
        simp -implicitDefEqProofs only [go_sem, ↓reduceIte]
        exact h2 (by rw [hd]; unfold condD; rw [c1, c2]; rfl) _ _ rfl
set_option maxHeartbeats 1000000 in
theorem ans62 {e : Exts} (he : Quiet e) (t : Txt) (ht : Fits t) (x : AV) (hx : TextA t x) : Ans (Cx e) 68 [x] (.v (.bool (textB t))) := by
  obtain ⟨ch, rfl, xs, hch, hall⟩ := hx
  unfold Ans
  have hc := call69 he 1 6 [(t.length : Int)] (by simp) (.vs 1 [.v (.int .i64 t.length)] (some 1)) (Or.inr ⟨_, rfl⟩)
  unfold intA at hc
  rw [fn_step (fn_68 e) (show Try.f68.body = some _ from rfl)]
  cases h1 : withinB 1 6 [(t.length : Int)]
  · rw [h1] at hc
    simp -implicitDefEqProofs only [Try.f68, intA, go_sem, ↓reduceIte, hch.len, hch.cells, hch.flat, hch.bound, ← hall.1, hc]
    unfold textB; rw [h1]; rfl
  · rw [h1] at hc
    simp -implicitDefEqProofs only [Try.f68, intA, go_sem, ↓reduceIte, hch.len, hch.cells, hch.flat, hch.bound, ← hall.1, hc]
    refine loop62 he t ht xs ch hch ht.chs hall _ t.length 0 (by omega) ?_ ?_
    · intro hf
      have hf' : okFrom t 0 t = true := by unfold chB at hf; simpa using hf
      simp -implicitDefEqProofs only [go_sem, ↓reduceIte]
      unfold textB; rw [h1, hf']; rfl
    · intro hf tl HH htl
      have hf' : okFrom t 0 t = false := by unfold chB at hf; simpa using hf
      simp -implicitDefEqProofs only [go_sem, ↓reduceIte, htl]
      unfold textB; rw [h1, hf']; rfl
theorem call62 {e : Exts} (he : Quiet e) (t : Txt) (ht : Fits t) (x : AV) (hx : TextA t x) (me : FuncId) (d : Option Tmp) (H : Heap) : callA (Cx e) (lim (Cx e)) me 68 d [x] H = some (.v (.bool (textB t)), H) :=
  (ans62 he t ht x hx).call (ext_68 he) (pure_68 _ _ _) (by obtain ⟨ch, rfl, xs, hch, -⟩ := hx; simp only [boundL_cons, bound_agg, hch.bound, boundL_nil]; rfl) H
end Go.Ev
namespace Go.Ev
open Go.Proofs
set_option maxRecDepth 100000
set_option linter.unusedSimpArgs false
theorem okCh2_of {t : Txt} (ht : Fits t) {xs : List AV} (hall : All2 ChapA t xs) : ∀ y ∈ xs, OkCh2 y := by
  intro y hy
  obtain ⟨i, hi⟩ := List.getElem?_of_mem hy
  have hlt := (List.getElem?_eq_some_iff.1 hi).1
  obtain ⟨c, hc⟩ := at_lt t i (by rw [hall.1]; exact hlt)
  obtain ⟨l, rfl, lxs, hl, hls⟩ := hall.2 i c y hc hi
  have hm := List.mem_of_getElem? hc
  refine ⟨c.1, l, lxs, rfl, hl, by rw [← hls.1]; exact ht.lines c hm, fun x hx => ?_⟩
  obtain ⟨j, hj⟩ := List.getElem?_of_mem hx
  have hjl := (List.getElem?_eq_some_iff.1 hj).1
  obtain ⟨ws, hws⟩ := at_lt c.2 j (by rw [hls.1]; exact hjl)
  have hlx : SlOf 1 (strs ws) x := hls.2 j ws x hws hj
  exact ⟨strs ws, hlx, fun z hz => by obtain ⟨s, -, rfl⟩ := List.mem_map.1 hz; rfl, by rw [strs_len]; exact ht.words c hm ws (List.mem_of_getElem? hws)⟩
end Go.Ev
namespace Go.Ev
open Go.Proofs
set_option maxRecDepth 100000
set_option linter.unusedSimpArgs false
theorem call38 {e : Exts} (he : Quiet e) (t : Txt) (ht : Fits t) (x : AV) (hx : TextA t x) (me : FuncId) (d : Option Tmp) (H : Heap) : callA (Cx e) (lim (Cx e)) me 6 d [x] H = some (.v (.bool (greatT t)), H) :=
  (ans38 t ht x hx).call (ext_6 he) (pure_6 _ _ _) (by obtain ⟨ch, rfl, xs, hch, -⟩ := hx; simp only [boundL_cons, bound_agg, hch.bound, boundL_nil]; rfl) H
/-- a place is before another one -/
def beforeB (a b : Int × Int × Int) : Bool := if a.1 ≠ b.1 then decide (a.1 < b.1) else if a.2.1 ≠ b.2.1 then decide (a.2.1 < b.2.1) else decide (a.2.2 < b.2.2)
end Go.Ev
namespace Go.Ev
open Go.Proofs
set_option maxRecDepth 100000
set_option linter.unusedSimpArgs false
/-! ### words of a text with their places, as plain lists -/
theorem All2.cons {α β : Type} {R : α → β → Prop} {a : α} {l : List α} {m : List β} (h : All2 R (a :: l) m) : ∃ b m', m = b :: m' ∧ R a b ∧ All2 R l m' := by
  cases m with
  | nil => have := h.1; simp at this
  | cons b m' => exact ⟨b, m', rfl, h.2 0 a b rfl rfl, by simpa using h.1, fun i x y hx hy => h.2 (i + 1) x y (by simpa using hx) (by simpa using hy)⟩
/-! ### their order -/
end Go.Ev
namespace Go.Ev
open Go.Proofs
set_option maxRecDepth 100000
set_option linter.unusedSimpArgs false
/-! ### a text that is valid is small -/
theorem okFrom_mem : ∀ (t t' : Txt) (j : Nat), okFrom t j t' = true → ∀ c ∈ t', withinB 1 10 [(c.2.length : Int)] = true ∧ c.2.all lineB = true
  | t, [], j, _, c, hc => by cases hc
  | t, c' :: r, j, h, c, hc => by
    simp only [okFrom, Bool.and_eq_true, condC] at h
    rcases List.mem_cons.1 hc with rfl | hc
    · exact ⟨h.1.1.1.2, h.1.2⟩
    · exact okFrom_mem t r (j + 1) h.2 c hc
structure Small (t : Txt) : Prop where
  chs : 1 ≤ t.length ∧ t.length ≤ 6
  lines : ∀ c ∈ t, 1 ≤ c.2.length ∧ c.2.length ≤ 10
  words : ∀ c ∈ t, ∀ l ∈ c.2, 1 ≤ l.length ∧ l.length ≤ 10
  word : ∀ c ∈ t, ∀ l ∈ c.2, ∀ s ∈ l, wordB s = true
theorem small_of {t : Txt} (h : textB t = true) : Small t := by
  unfold textB at h
  simp only [Bool.and_eq_true] at h
  obtain ⟨h1, h2⟩ := h
  have hl : ∀ c ∈ t, ∀ l ∈ c.2, lineB l = true := fun c hc l hl => List.all_eq_true.1 (okFrom_mem t t 0 h2 c hc).2 l hl
  refine ⟨?_, fun c hc => ?_, fun c hc l hlm => ?_, fun c hc l hlm s hs => ?_⟩
  · rw [range1] at h1; simp at h1; omega
  · have := (okFrom_mem t t 0 h2 c hc).1
    rw [range1] at this; simp at this; omega
  · have := hl c hc l hlm
    unfold lineB at this
    rw [range1] at this; simp at this; omega
  · have := hl c hc l hlm
    unfold lineB at this
    simp only [Bool.and_eq_true] at this
    exact List.all_eq_true.1 this.2 s hs
/-! ### the first that is found, by a counter -/
end Go.Ev
namespace Go.Ev
open Go.Proofs
set_option maxRecDepth 100000
set_option linter.unusedSimpArgs false
/-! ### PlaceOf -/
end Go.Ev
namespace Go.Ev
open Go.Proofs
set_option maxRecDepth 100000
set_option linter.unusedSimpArgs false
/-! ### Number -/
/-- places, compared -/
def eqP (a b c a' b' c' : Int) : Bool := decide (a = a') && (decide (b = b') && decide (c = c'))
end Go.Ev
namespace Go.Ev
open Go.Proofs
set_option maxRecDepth 100000
set_option linter.unusedSimpArgs false
def lineAt (t : Txt) (a b : Int) : Option Line := if 0 ≤ a ∧ 0 ≤ b then (t[a.toNat]?).bind fun c => c.2[b.toNat]? else none
/-- a line that is there, or none -/
def LineO (o : Option Line) (x : AV) : Prop := match o with | some l => LineA l x | none => x = .v (.slice none 0 0)
theorem within_len (a : Int) (n : Nat) : withinB 0 ((n : Int) - 1) [a] = decide (0 ≤ a ∧ a < n) := by
  rw [range1]
  by_cases h : 0 ≤ a <;> by_cases h2 : a < n <;> simp [h, h2] <;> omega
/-! ### Place -/
theorem lineAt_mem {t : Txt} {a b : Int} {l : Line} (h : lineAt t a b = some l) : ∃ c ∈ t, l ∈ c.2 := by
  unfold lineAt at h
  split at h
  · obtain ⟨c, h1, h2⟩ := Option.bind_eq_some_iff.1 h
    exact ⟨c, List.mem_of_getElem? h1, List.mem_of_getElem? h2⟩
  · cases h
/-! ### Before -/
end Go.Ev
/- Functions that stand for themselves: what is known of them. -/
namespace Go.Ev
theorem cmp_bytes : ∀ (a b : List UInt8), Lib.compareBytes a b = if bytesLt a b then -1 else if bytesLt b a then 1 else 0
  | [], [] => by simp [Lib.compareBytes, bytesLt]
  | [], _ :: _ => by simp [Lib.compareBytes, bytesLt]
  | _ :: _, [] => by simp [Lib.compareBytes, bytesLt]
  | x :: a, y :: b => by
    have ih := cmp_bytes a b
    unfold Lib.compareBytes bytesLt
    simp only [UInt8.lt_iff_toNat_lt]
    by_cases h1 : x.toNat < y.toNat
    · have e1 : Nat.blt x.toNat y.toNat = true := Nat.ble_eq_true_of_le h1
      simp [h1, e1]
    · have e1 : Nat.blt x.toNat y.toNat = false := by
        cases hb : Nat.blt x.toNat y.toNat
        · rfl
        · exact absurd (Nat.le_of_ble_eq_true hb) h1
      by_cases h2 : y.toNat < x.toNat
      · have e2 : Nat.blt y.toNat x.toNat = true := Nat.ble_eq_true_of_le h2
        have e3 : (x.toNat == y.toNat) = false := by simp; omega
        simp [h1, h2, e1, e2, e3]
      · have e2 : Nat.blt y.toNat x.toNat = false := by
          cases hb : Nat.blt y.toNat x.toNat
          · rfl
          · exact absurd (Nat.le_of_ble_eq_true hb) h2
        have e3 : x.toNat = y.toNat := by omega
        simp [h1, h2, e1, e2, e3, ih]
theorem ext_cmp {P : Program} {f : FuncId} {fn : Func} (hf : P.funcs[f]? = some fn) (hb : fn.body = none) (hn : (fn.name == "runtime.NumGoroutine") = false) (h1 : (Extern.findNext fn).isNone = true) (h2 : Extern.find fn = some Extern.BytealgCompare.compare)
    {args : List AV} {v : AV} (h : cmpStr args = some v) (Z : Fzn) (ρ : Pls) (H : Heap) (w : World) (vals : List Value) (hs : Sim Z ρ H w) (hl : RepL Z ρ args vals) : FnMeets P f vals w (After Z ρ H w v H) := by
  unfold cmpStr at h
  split at h
  · rename_i a b
    obtain ⟨v1, ws, rfl, hv1, hl⟩ := hl.uncons
    obtain ⟨v2, ws, rfl, hv2, hl⟩ := hl.uncons
    have : ws = [] := by have := hl.1; exact List.length_eq_zero_iff.1 this.symm
    subst this
    obtain ⟨rfl, -⟩ := hv1.v_inv
    obtain ⟨rfl, -⟩ := hv2.v_inv
    simp only [Option.some.injEq] at h
    subst h
    refine Or.inl ⟨.int .i64 (Lib.compareBytes a.data.toList b.data.toList), w, ?_, Z, ρ, ?_, hs, Ext.refl _ _ _ _⟩
    · have hfn : Extern.findNext fn = none := Option.isNone_iff_eq_none.1 h1
      have := Lib.run_compareString (P := P) a b w
      have hn' : ¬ fn.name = "runtime.NumGoroutine" := by
        intro e; rw [e] at hn; simp at hn
      simp [callFunc, hf, hn', hb, hfn, h2, this]
    · rw [cmp_bytes]; exact .v rfl
  · cases h
/-- more functions that stand for themselves -/
def moreExt (e : FuncId → Option (List AV → Option AV)) (f : FuncId) (g : List AV → Option AV) : FuncId → Option (List AV → Option AV) := fun f' => if Nat.beq f' f then some g else e f'
theorem extOK_more {C C' : Cfg} (hP : C'.P = C.P) {f : FuncId} {g : List AV → Option AV} (hg : ∀ args v, g args = some v → ∀ (Z : Fzn) (ρ : Pls) (H : Heap) (w : World) (vals : List Value), Sim Z ρ H w → RepL Z ρ args vals → FnMeets C.P f vals w (After Z ρ H w v H))
    (hext : ExtOK C) (he : C'.ext = moreExt C.ext f g) (hlay : C'.lay = C.lay := by rfl) : ExtOK C' := by
  refine ⟨fun f' g' hf' args v hv Z ρ H w vals hs hl => ?_, fun f' g' hf' => by rw [hP]; rw [hlay] at hf'; exact hext.lay f' g' hf'⟩
  rw [hP]
  rw [he] at hf'
  unfold moreExt at hf'
  split at hf'
  · rename_i hb
    have := Nat.eq_of_beq_eq_true hb
    subst this
    simp only [Option.some.injEq] at hf'
    subst hf'
    exact hg args v hv Z ρ H w vals hs hl
  · exact hext.ext f' g' hf' args v hv Z ρ H w vals hs hl
/-! ### answers that are told by heart -/
end Go.Ev
namespace Go.Ev
open Go.Proofs
set_option maxRecDepth 100000
set_option linter.unusedSimpArgs false
end Go.Ev
/- From what a statement says of its arguments to values of the evaluator, and back. -/
namespace Go.Ev
/-- the fields lie one behind the other, from k on up to the end -/
def tiled (P : Program) : Nat → List Field → Nat → Bool
  | k, [], e => k == e
  | k, f :: r, e => f.offset == k && tiled P (k + P.cellsOf f.type) r e
/-- types of plain data, by depth -/
def plainT (P : Program) : Nat → TypeId → Bool
  | 0, _ => false
  | n + 1, t =>
    match P.underlying t with
    | some .bool => true
    | some (.int _) => true
    | some .string => true
    | some (.slice e) => decide (0 < P.cellsOf e) && plainT P n e
    | some (.struct fs) => tiled P 0 fs.toList (P.cellsOf t) && fs.toList.all fun f => plainT P n f.type
    | _ => false
/-- an element of a slice, of its cells -/
def elemOf (cs : List AV) : AV := match cs with | [c] => c | cs => .agg cs
/-- what plain data is -/
def Plain (P : Program) : Nat → TypeId → List AV → Prop
  | 0, _, _ => False
  | n + 1, t, cs =>
    match P.underlying t with
    | some .bool => ∃ b, cs = [.v (.bool b)]
    | some (.int k) => ∃ m, cs = [.v (.int k m)] ∧ (Lit.int k m).wf = true
    | some .string => ∃ s, cs = [.v (.string s)] ∧ s.size ≤ maxLen
    | some (.slice e) => ∃ x xs, cs = [x] ∧ SlOf (P.cellsOf e) xs x ∧ xs.length ≤ maxLen ∧ ∀ y ∈ xs, ∃ c, y = elemOf c ∧ c.length = P.cellsOf e ∧ Plain P n e c
    | some (.struct fs) => cs.length = P.cellsOf t ∧ ∀ f ∈ fs.toList, Plain P n f.type ((cs.drop f.offset).take (P.cellsOf f.type))
    | _ => False
theorem elem_cells {cs : List AV} (h : ∀ c ∈ cs, c.flat = true) : (elemOf cs).cells = cs := by
  unfold elemOf
  split
  · rename_i c
    have := h c (by simp)
    cases c <;> simp_all [AV.cells, AV.flat]
  · rfl
theorem exists_list {α : Type} {Q : Nat → α → Prop} : ∀ (n : Nat), (∀ i, i < n → ∃ y, Q i y) → ∃ l : List α, l.length = n ∧ ∀ i y, l[i]? = some y → Q i y
  | 0, _ => ⟨[], rfl, fun i y h => by simp at h⟩
  | n + 1, h => by
    obtain ⟨l, hl, hq⟩ := exists_list n fun i hi => h i (by omega)
    obtain ⟨y, hy⟩ := h n (by omega)
    refine ⟨l ++ [y], by simp [hl], fun i z hz => ?_⟩
    by_cases hi : i < l.length
    · rw [List.getElem?_append_left hi] at hz; exact hq i z hz
    · have hlt := (List.getElem?_eq_some_iff.1 hz).1
      simp at hlt
      have : i = l.length := by omega
      subst this
      simp at hz; subst hz; rw [hl]; exact hy
theorem tile_rep {Z : Fzn} {ρ : Pls} {P : Program} {Q : Field → List AV → Prop} : ∀ (fs : List Field) (k e : Nat) (cs : List Value), tiled P k fs e = true → cs.length = e →
    (∀ f ∈ fs, ∃ a, RepL Z ρ a ((cs.drop f.offset).take (P.cellsOf f.type)) ∧ Q f a ∧ ∀ c ∈ a, c.flat = true) →
    k ≤ e → ∃ A, RepL Z ρ A (cs.drop k) ∧ (∀ c ∈ A, c.flat = true) ∧ ∀ f ∈ fs, k ≤ f.offset ∧ f.offset + P.cellsOf f.type ≤ e ∧ Q f ((A.drop (f.offset - k)).take (P.cellsOf f.type))
  | [], k, e, cs, ht, hl, _, _ => by
    have : k = e := by simpa [tiled] using ht
    subst this
    refine ⟨[], ?_, by simp, by simp⟩
    rw [List.drop_of_length_le (by omega)]; exact RepL.nil
  | f :: r, k, e, cs, ht, hl, hf, hk => by
    simp only [tiled, Bool.and_eq_true, beq_iff_eq] at ht
    obtain ⟨ho, ht⟩ := ht
    have hle : ∀ (fs : List Field) (k : Nat), tiled P k fs e = true → k ≤ e := by
      intro fs
      induction fs with
      | nil => intro k h; have : k = e := by simpa [tiled] using h
               omega
      | cons g s ih => intro k h; simp only [tiled, Bool.and_eq_true] at h; have := ih _ h.2; omega
    have hle' := hle _ _ ht
    obtain ⟨A, hA, hAf, hAq⟩ := tile_rep r (k + P.cellsOf f.type) e cs ht hl (fun g hg => hf g (List.mem_cons_of_mem _ hg)) hle'
    obtain ⟨a, ha, hq, haf⟩ := hf f List.mem_cons_self
    have hal : a.length = P.cellsOf f.type := by rw [ha.1]; simp; omega
    refine ⟨a ++ A, ?_, ?_, ?_⟩
    · have : cs.drop k = (cs.drop f.offset).take (P.cellsOf f.type) ++ cs.drop (k + P.cellsOf f.type) := by
        rw [ho, ← List.drop_drop]; exact (List.take_append_drop _ _).symm
      rw [this]; exact ha.append hA
    · intro c hc
      rcases List.mem_append.1 hc with h | h
      · exact haf c h
      · exact hAf c h
    · intro g hg
      rcases List.mem_cons.1 hg with rfl | hg
      · refine ⟨by omega, by omega, ?_⟩
        rw [ho, Nat.sub_self, List.drop_zero, List.take_append_of_le_length (by omega), List.take_of_length_le (by omega)]
        exact hq
      · obtain ⟨h1, h2, h3⟩ := hAq g hg
        refine ⟨by omega, h2, ?_⟩
        have : (a ++ A).drop (g.offset - k) = A.drop (g.offset - (k + P.cellsOf f.type)) := by
          rw [List.drop_append, List.drop_of_length_le (by omega), List.nil_append, hal]; congr 1; omega
        rw [this]; exact h3
section
variable {HH : Type} {enc : TypeId × Value → HH} {P : Program} {w : World}
theorem cells_at {a : Addr} {n : Nat} {cs : List Value} (h : w.cells? 0 a n = some cs) (hn : 0 < n) : a.spot = none ∧ ∃ arr e fr, w.heap[a.block]? = some (.cells arr e fr) ∧ cs.length = n ∧ ∀ j, j < n → arr[a.off + j]? = cs[j]? := by
  obtain ⟨_, hl, hc⟩ := World.cells?_some h
  have h0 := hc 0 hn
  obtain ⟨c0, hc0⟩ : ∃ c0, cs[0]? = some c0 := ⟨cs[0]'(by omega), List.getElem?_eq_getElem _⟩
  have hsp : a.spot = none := by
    have := World.cell?_spot (h0.trans hc0)
    simpa [Addr.add] using this
  have hcell := h0.trans hc0
  have hb : ∀ j, (a.add j).block = a.block := by intro j; unfold Addr.add; split <;> rfl
  have hs : ∀ j, (a.add j).spot = none := by
    intro j; unfold Addr.add; split
    · exact hsp
    · rfl
  have ho : ∀ j, (a.add j).off = a.off + j := by
    intro j; unfold Addr.add; split
    · rename_i hj; subst hj; rfl
    · rfl
  refine ⟨hsp, ?_⟩
  unfold World.cell? at hcell
  rw [hb] at hcell
  split at hcell
  · rename_i arr e fr hh
    refine ⟨arr, e, fr, hh, hl, fun j hj => ?_⟩
    have := hc j hj
    unfold World.cell? at this
    rw [hb, hh] at this
    simp only [hs, ho, Option.isSome_none, Bool.false_eq_true, if_false] at this
    exact this
  · cases hcell
theorem plain_rep : ∀ (N t fuel : Nat) (cs : List Value) (x : DataW HH × List MemPlace), plainT P N t = true → DataW.trod enc P w 0 (fun _ => true) true fuel t cs = some x →
    ∃ A, RepL (allZ w) noPls A cs ∧ Plain P N t A ∧ ∀ c ∈ A, c.flat = true
  | 0, _, _, _, _, hp, _ => by simp [plainT] at hp
  | N + 1, t, fuel, cs, x, hp, h => by
    unfold plainT at hp
    cases hu : P.underlying t with
    | none => rw [hu] at hp; simp at hp
    | some u =>
      rw [hu] at hp
      cases u <;> simp only [Bool.false_eq_true] at hp
      case bool =>
        obtain ⟨b, rfl, -⟩ := DataW.trod_bool hu h
        exact ⟨[.v (.bool b)], RepL.cons (.v rfl) RepL.nil, by unfold Plain; rw [hu]; exact ⟨b, rfl⟩, by simp [AV.flat]⟩
      case int k =>
        obtain ⟨n, rfl, -, hw⟩ := DataW.trod_int hu h
        exact ⟨[.v (.int k n)], RepL.cons (.v rfl) RepL.nil, by unfold Plain; rw [hu]; exact ⟨n, rfl, hw⟩, by simp [AV.flat]⟩
      case string =>
        obtain ⟨n, rfl, -, hw⟩ := DataW.trod_string hu h
        exact ⟨[.v (.string n)], RepL.cons (.v rfl) RepL.nil, by unfold Plain; rw [hu]; exact ⟨n, rfl, hw⟩, by simp [AV.flat]⟩
      case struct fs =>
        rw [Bool.and_eq_true, List.all_eq_true] at hp
        obtain ⟨xs, n, -, -, hl, hlen, hf⟩ := DataW.trod_struct hu h
        have hall : ∀ f ∈ fs.toList, ∃ a, RepL (allZ w) noPls a ((cs.drop f.offset).take (P.cellsOf f.type)) ∧ Plain P N f.type a ∧ ∀ c ∈ a, c.flat = true := by
          intro f hfm
          obtain ⟨i, hi⟩ := List.getElem?_of_mem hfm
          have hi' : fs[i]? = some f := by simpa using hi
          have hxi := hf i f hi'
          have hlt : i < xs.length := by
            rw [hlen]
            have := (List.getElem?_eq_some_iff.1 hi).1
            simpa using this
          rw [List.getElem?_eq_getElem hlt] at hxi
          exact plain_rep N f.type n _ _ (hp.2 f hfm) hxi
        obtain ⟨A, hA, hAf, hAq⟩ := tile_rep fs.toList 0 (P.cellsOf t) cs hp.1 hl hall (Nat.zero_le _)
        rw [List.drop_zero] at hA
        refine ⟨A, hA, ?_, hAf⟩
        unfold Plain; rw [hu]
        refine ⟨by rw [hA.1]; exact hl, fun f hf => ?_⟩
        have := (hAq f hf).2.2
        rwa [Nat.sub_zero] at this
      case slice e =>
        simp only [Bool.and_eq_true, decide_eq_true_eq] at hp
        rcases DataW.trod_slice hu h with ⟨rfl, -⟩ | ⟨a, len, cap, elems, rest, n, -, rfl, -, -, hlc, hcm, hel, hget, -, -⟩
        · refine ⟨[.v (.slice none 0 0)], RepL.cons (.v rfl) RepL.nil, ?_, by simp [AV.flat]⟩
          unfold Plain; rw [hu]
          exact ⟨_, [], rfl, Or.inl ⟨rfl, rfl⟩, Nat.zero_le _, by simp⟩
        · have hone : ∀ i, i < len → ∃ y : AV, ∃ A ci, w.cells? 0 (a.add (i * P.cellsOf e)) (P.cellsOf e) = some ci ∧ RepL (allZ w) noPls A ci ∧ Plain P N e A ∧ (∀ c ∈ A, c.flat = true) ∧ y = elemOf A := by
            intro i hi
            have := hget i hi
            rw [List.getElem?_eq_getElem (by omega), Option.bind_eq_some_iff] at this
            obtain ⟨ci, hc1, hc2⟩ := this
            obtain ⟨A, h1, h2, h3⟩ := plain_rep N e n ci _ hp.2 hc2
            exact ⟨_, A, ci, hc1, h1, h2, h3, rfl⟩
          obtain ⟨xs, hxl, hxq⟩ := exists_list len hone
          have hsz : ∀ y ∈ xs, y.cells.length = P.cellsOf e := by
            intro y hy
            obtain ⟨i, hi⟩ := List.getElem?_of_mem hy
            obtain ⟨A, ci, h1, h2, h3, h4, rfl⟩ := hxq i y hi
            rw [elem_cells h4, h2.1]
            exact (World.cells?_some h1).2.1
          have hplain : Plain P (N + 1) t [.vs (P.cellsOf e) xs (some cap)] := by
            unfold Plain; rw [hu]
            refine ⟨_, xs, rfl, Or.inr ⟨_, rfl⟩, by omega, fun y hy => ?_⟩
            obtain ⟨i, hi⟩ := List.getElem?_of_mem hy
            obtain ⟨A, ci, h1, h2, h3, h4, rfl⟩ := hxq i y hi
            exact ⟨A, rfl, by rw [h2.1]; exact (World.cells?_some h1).2.1, h3⟩
          by_cases h0 : len = 0
          · subst h0
            have : xs = [] := List.length_eq_zero_iff.1 hxl
            subst this
            exact ⟨_, RepL.cons (.vs0 (by simp)) RepL.nil, hplain, by simp [AV.flat]⟩
          · -- the block
            have hpos := hp.1
            obtain ⟨y0, hy0⟩ : ∃ y, xs[0]? = some y := ⟨xs[0]'(by omega), List.getElem?_eq_getElem _⟩
            obtain ⟨A0, c0, hc0, -⟩ := hxq 0 y0 hy0
            obtain ⟨hsp0, arr, et, fr, hh, -, -⟩ := cells_at hc0 hpos
            have hb : ∀ j, (a.add j).block = a.block := by intro j; unfold Addr.add; split <;> rfl
            have ho : ∀ j, (a.add j).off = a.off + j := by
              intro j; unfold Addr.add; split
              · rename_i hj; subst hj; rfl
              · rfl
            rw [hb] at hh
            have hsp : a.spot = none := by simpa [Addr.add] using hsp0
            have hall : ∀ i j, i < len → j < P.cellsOf e → ∃ A ci, xs[i]? = some (elemOf A) ∧ (∀ c ∈ A, c.flat = true) ∧ RepL (allZ w) noPls A ci ∧ ci.length = P.cellsOf e ∧ arr[a.off + i * P.cellsOf e + j]? = ci[j]? := by
              intro i j hi hj
              obtain ⟨y, hy⟩ : ∃ y, xs[i]? = some y := ⟨xs[i]'(by omega), List.getElem?_eq_getElem _⟩
              obtain ⟨A, ci, h1, h2, h3, h4, rfl⟩ := hxq i y hy
              obtain ⟨-, arr', et', fr', hh', hl', hg⟩ := cells_at h1 hpos
              rw [hb, hh] at hh'
              obtain ⟨rfl, rfl, rfl⟩ : arr = arr' ∧ et = et' ∧ fr = fr' := by simpa using hh'
              have := hg j hj
              rw [ho] at this
              exact ⟨A, ci, hy, h4, h2, hl', this⟩
            have hfl : (xs.flatMap AV.cells).length = len * P.cellsOf e := by rw [flat_len hsz, hxl]
            have hfit : a.off + len * P.cellsOf e ≤ arr.size := by
              obtain ⟨A, ci, -, -, -, hl', hg⟩ := hall (len - 1) (P.cellsOf e - 1) (by omega) (by omega)
              rw [List.getElem?_eq_getElem (by omega)] at hg
              have := (Array.getElem?_eq_some_iff.1 hg).1
              have e1 : (len - 1) * P.cellsOf e + P.cellsOf e = len * P.cellsOf e := by
                have : len = (len - 1) + 1 := by omega
                conv => rhs; rw [this, Nat.succ_mul]
              omega
            refine ⟨[.vs (P.cellsOf e) xs (some cap)], RepL.cons ?_ RepL.nil, hplain, by simp [AV.flat]⟩
            have hval : (Value.slice (some a) len cap) = .slice (some ⟨a.block, (arr.toList.take a.off).length, none⟩) xs.length cap := by
              have : (arr.toList.take a.off).length = a.off := by simp; omega
              rw [this, hxl]; cases a; simp_all
            rw [hval]
            refine .vs (vs := (arr.toList.drop a.off).take (len * P.cellsOf e)) (post := (arr.toList.drop a.off).drop (len * P.cellsOf e)) (pre := arr.toList.take a.off) (e := et) (fz := fr) (arr := arr) hh ?_ hsz ?_ ?_ (by simp) (by omega)
            · rw [List.append_assoc, List.take_append_drop, List.take_append_drop]
            · rw [hfl]; simp; omega
            · intro i c v hc hv
              have hi := (List.getElem?_eq_some_iff.1 hc).1
              rw [hfl] at hi
              have hq : i / P.cellsOf e < len := Nat.div_lt_of_lt_mul (by rw [Nat.mul_comm]; exact hi)
              have hr : i % P.cellsOf e < P.cellsOf e := Nat.mod_lt _ hpos
              have hdm : i / P.cellsOf e * P.cellsOf e + i % P.cellsOf e = i := by rw [Nat.mul_comm]; exact Nat.div_add_mod _ _
              obtain ⟨A, ci, hx, hA, hR, hl', hg⟩ := hall _ _ hq hr
              have hfa := (flat_at hsz hx).1
              rw [elem_cells hA] at hfa
              have hcA : A[i % P.cellsOf e]? = some c := by
                rw [← hfa, List.getElem?_take, if_pos hr, List.getElem?_drop, hdm]; exact hc
              have hvA : ci[i % P.cellsOf e]? = some v := by
                rw [← hg]
                rw [List.getElem?_take, if_pos hi, List.getElem?_drop] at hv
                rw [show a.off + i / P.cellsOf e * P.cellsOf e + i % P.cellsOf e = a.off + i by omega]
                simpa using hv
              exact hR.2 _ _ _ hcA hvA
/-- what is not looked at of spare places -/
theorem plain_spare {base : Nat} {sp : Nat → Bool} : ∀ (N t fuel : Nat) (cs : List Value) (x : DataW HH × List MemPlace), plainT P N t = true → DataW.trod enc P w base (fun _ => true) true fuel t cs = some x →
    (∀ p ∈ x.2, sp p.block = true) → DataW.trod enc P w base sp true fuel t cs = some x
  | 0, _, _, _, _, hp, _, _ => by simp [plainT] at hp
  | N + 1, t, fuel, cs, x, hp, h, hs => by
    unfold plainT at hp
    cases fuel with
    | zero => simp [DataW.trod] at h
    | succ n =>
      cases hu : P.underlying t with
      | none => rw [hu] at hp; simp at hp
      | some u =>
        rw [hu] at hp
        cases u <;> simp only [Bool.false_eq_true] at hp
        case bool => obtain ⟨b, rfl, rfl⟩ := DataW.trod_bool hu h; rw [DataW.trod_step]; unfold DataW.trodStep; rw [hu]
        case int k => obtain ⟨m, rfl, rfl, hw⟩ := DataW.trod_int hu h; rw [DataW.trod_step]; unfold DataW.trodStep; rw [hu]; simp [hw]
        case string => obtain ⟨m, rfl, rfl, hw⟩ := DataW.trod_string hu h; rw [DataW.trod_step]; unfold DataW.trodStep; rw [hu]; simp [hw]
        case struct fs =>
          rw [Bool.and_eq_true, List.all_eq_true] at hp
          rw [DataW.trod_step] at h ⊢
          unfold DataW.trodStep at h ⊢
          rw [hu] at h ⊢
          simp only at h ⊢
          split at h
          · rename_i hl
            rw [if_pos hl]
            simp only [Option.map_eq_some_iff] at h ⊢
            obtain ⟨xs, hxs, rfl⟩ := h
            refine ⟨xs, mapM_carry hxs fun f y hf hy hfy => plain_spare N f.type n _ y (hp.2 f hf) hfy fun p hpm => hs p ?_, rfl⟩
            exact List.mem_flatMap.2 ⟨y, hy, hpm⟩
          · cases h
        case slice e =>
          simp only [Bool.and_eq_true, decide_eq_true_eq] at hp
          have h0 := h
          rw [DataW.trod_step] at h ⊢
          unfold DataW.trodStep at h ⊢
          rw [hu] at h ⊢
          rcases DataW.trod_slice hu h0 with ⟨rfl, rfl⟩ | ⟨a, len, cap, elems, rest, n', hn', rfl, rfl, -, hlc, hcm, hel, hget, hrest, -⟩
          · rfl
          · simp only at h ⊢
            split at h
            · rename_i hc
              rw [if_pos hc]
              simp only [if_true, Option.bind_eq_some_iff, Option.map_eq_some_iff] at h ⊢
              obtain ⟨es, hes, rs, hrs, heq⟩ := h
              have hin : ∀ y, y ∈ es ++ rs → ∀ p ∈ y.2, sp p.block = true := by
                intro y hy p hpm
                refine hs p ?_
                have := congrArg Prod.snd heq
                simp only at this
                rw [← this]
                exact List.mem_append_right _ (List.mem_flatMap.2 ⟨y, hy, hpm⟩)
              refine ⟨es, mapM_carry hes fun i y _ hy hfy => ?_, rs, ?_, heq⟩
              · obtain ⟨ci, h1, h2⟩ := Option.bind_eq_some_iff.1 hfy
                rw [h1]
                exact plain_spare N e n ci y hp.2 h2 (hin y (List.mem_append_left _ hy))
              · have hrl : rs.length = cap - len := by
                  have := mapM_some_length hrs
                  simpa using this
                by_cases hz : cap - len = 0
                · have : rs = [] := List.length_eq_zero_iff.1 (by omega)
                  subst this
                  split
                  · rw [hz] at hrs ⊢; exact hrs
                  · rfl
                · have hsp : sp a.block = true := by
                    have hel' : es.length = len := by
                      have := mapM_some_length hes
                      simpa using this
                    have := congrArg Prod.snd heq
                    simp only at this
                    have hm : MemPlace.cell a.block (a.off + 0) ∈ MemPlace.row a ((elems.length + rest.length) * P.cellsOf e) ++ (elems ++ rest).flatMap (·.2) := by
                      rw [← this]
                      refine List.mem_append_left _ (MemPlace.mem_row.2 ⟨0, ?_, rfl⟩)
                      exact Nat.mul_pos (by omega) hp.1
                    exact hs _ hm
                  rw [if_pos hsp]
                  refine mapM_carry hrs fun i y _ hy hfy => ?_
                  obtain ⟨ci, h1, h2⟩ := Option.bind_eq_some_iff.1 hfy
                  rw [h1]
                  exact plain_spare N e n ci y hp.2 h2 (hin y (List.mem_append_right _ hy))
            · cases h
end
end Go.Ev
