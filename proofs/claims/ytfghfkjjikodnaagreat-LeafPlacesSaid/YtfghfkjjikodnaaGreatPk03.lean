/- What the proof of this claim stands on, part 4: an evaluator of the model, proved right, and what it answers for functions of the program. -/
import Derived.Test.YtfghfkjjikodnaaGreatPk02
import Derived.Shelf.GgSortFunc.RowK
import Derived.Sort.Statements
import Derived.Shelf.SlSortCmp.NoneTotal
import Derived.Shelf.SlLaysF0
import Derived.Test.YtfghfkjjikodnaaGreatProg
import Derived.Shelf.SlLaysF
set_option linter.unusedSimpArgs false
/- Regions in any order that turn memory. -/
namespace Go.Ev
section
variable {C : Cfg} {me : FuncId} {rd : Option Nat}
def putO (G : Heap) : Option (Nat × AObj) → Heap
  | none => G
  | some (b, o) => G.put b o
theorem merge_putO {G : Heap} {vis : Nat → Bool} {eff : Option (Nat × AObj)} (h : ∀ b o, eff = some (b, o) → b < G.size ∧ vis b = true) : G.merge vis (putO (G.hide vis) eff) = putO G eff ∧ (putO (G.hide vis) eff).size = G.size ∧ (putO G eff).size = G.size := by
  have hsz : (putO (G.hide vis) eff).size = G.size := by
    cases eff with
    | none => exact hide_size G vis
    | some p => obtain ⟨b, o⟩ := p; exact (put_sizeI o (by rw [hide_size]; exact (h b o rfl).1)).trans (hide_size G vis)
  have hsz2 : (putO G eff).size = G.size := by
    cases eff with
    | none => rfl
    | some p => obtain ⟨b, o⟩ := p; exact put_sizeI o (h b o rfl).1
  refine ⟨?_, hsz, hsz2⟩
  refine heap_ext ?_ ?_ ?_
  · cases eff with
    | none => rfl
    | some p => rfl
  · rw [merge_size _ (by omega), hsz, hsz2]
  · intro b
    rw [merge_get _ (by omega)]
    rcases Nat.lt_or_ge b G.size with hb | hb
    · rw [if_pos hb]
      cases eff with
      | none =>
        simp only [putO, hide_get, if_pos hb]
        split <;> rfl
      | some p =>
        obtain ⟨c, o⟩ := p
        obtain ⟨h1, h2⟩ := h c o rfl
        simp only [putO]
        by_cases hbc : b = c
        · subst hbc
          rw [if_pos h2, put_get_eq _ (by rw [hide_size]; omega), put_get_eq _ (by omega)]
        · rw [put_get_ne _ (by rw [hide_size]; omega) hbc, put_get_ne _ (by omega) hbc, hide_get, if_pos hb]
          split <;> rfl
    · rw [if_neg (by omega), get_none (by omega), get_none (by omega)]
/-- what it does comes of the objects that it reads, and is one object that is laid -/
def Loc {α : Type} (reads : List Nat) (slot : Nat) (f : Heap → Option (α × Heap)) (G : Heap) (r : α) (G' : Heap) : Prop :=
  ∃ eff, (∀ b o, eff = some (b, o) → (b ∈ reads ∧ (G.get b).isSome = true) ∨ b = slot) ∧ G' = putO G eff ∧ ∀ Gx : Heap, Gx.lock = G.lock → (∀ b ∈ reads, Gx.get b = G.get b) → f Gx = some (r, putO Gx eff)
theorem row_eqI {G Gx : Heap} {b v : Nat} (h : Gx.get b = G.get b) : Gx.row b v = G.row b v := by unfold Heap.row; rw [h]
theorem Loc.pure {α : Type} {reads : List Nat} {slot : Nat} {f : Heap → Option α} {G : Heap} {r : α} (h : ∀ Gx : Heap, Gx.lock = G.lock → (∀ b ∈ reads, Gx.get b = G.get b) → f Gx = some r) : Loc reads slot (fun G => (f G).map fun r => (r, G)) G r G :=
  ⟨none, (fun _ _ h => nomatch h), rfl, fun Gx h1 h2 => by simp only; rw [h Gx h1 h2]; rfl⟩
theorem load_loc {G : Heap} {t : TypeId} {p v : AV} (h : loadA C.P G t p = some v) {Gx : Heap} (h2 : ∀ b ∈ objsOf p, Gx.get b = G.get b) : loadA C.P Gx t p = some v := by
  cases p
  case ptr b v k =>
    unfold loadA at h ⊢
    simp only at h ⊢
    rw [row_eqI (h2 _ (by simp [objsOf]))]; exact h
  all_goals exact h
theorem cells_loc {G : Heap} {s : Nat} {x : AV} {r : Nat × List AV} (h : cellsFrom G s x = some r) {Gx : Heap} (h2 : ∀ b ∈ objsOf x, Gx.get b = G.get b) : cellsFrom Gx s x = some r := by
  cases x
  case sl b v off len cap =>
    unfold cellsFrom at h ⊢
    simp only at h ⊢
    rw [row_eqI (h2 _ (by simp [objsOf]))]; exact h
  case v x =>
    have key : cellsFrom Gx s (.v x) = cellsFrom G s (.v x) := by
      unfold cellsFrom
      cases x <;> try rfl
      rename_i p n c
      cases p <;> try rfl
      cases n <;> try rfl
      cases c <;> rfl
    rw [key]; exact h
  all_goals exact h
theorem store_loc {G G' : Heap} {b v k : Nat} {xs : List AV} (h : storeCells G b v k xs = some G') : ∃ o, G' = G.put b o ∧ (G.get b).isSome = true ∧ ∀ Gx : Heap, Gx.lock = G.lock → Gx.get b = G.get b → storeCells Gx b v k xs = some (Gx.put b o) := by
  unfold storeCells at h
  split at h
  · rename_i m e sz g cs hr
    split at h
    · rename_i hc
      cases h
      refine ⟨_, rfl, by rw [Heap.row_get hr]; rfl, fun Gx h1 h2 => ?_⟩
      unfold storeCells
      rw [row_eqI h2, hr]
      simp only
      rw [h1, if_pos hc]
    · cases h
  · cases h
theorem storeA_loc {G G' : Heap} {t : TypeId} {p v : AV} (h : storeA C.P G t p v = some G') : ∃ b o, (b ∈ objsOf p ∧ (G.get b).isSome = true) ∧ G' = G.put b o ∧ ∀ Gx : Heap, Gx.lock = G.lock → Gx.get b = G.get b → storeA C.P Gx t p v = some (Gx.put b o) := by
  unfold storeA at h
  split at h
  · rename_i b w k n hn
    split at h
    · rename_i hc
      obtain ⟨o, h1, hg, h2⟩ := store_loc h
      refine ⟨b, o, ⟨by simp [objsOf], hg⟩, h1, fun Gx h3 h4 => ?_⟩
      unfold storeA
      rw [hn]; simp only
      rw [if_pos hc]; exact h2 Gx h3 h4
    · cases h
  · cases h
theorem made_loc {G G' : Heap} {slot : Nat} {e : TypeId} {i : TypeInfo} {need : Nat} {old new : List AV} {v : AV} (h : madeA G slot e i need old new = some (v, G')) : ∃ o, G' = G.put slot o ∧ ∀ Gx : Heap, madeA Gx slot e i need old new = some (v, Gx.put slot o) := by
  unfold madeA at h
  split at h
  · rename_i hc
    cases h
    refine ⟨_, rfl, fun Gx => ?_⟩
    unfold madeA; rw [if_pos hc]
  · cases h
theorem appendTo_loc {G G' : Heap} {slot : Nat} {e : TypeId} {i : TypeInfo} {n : Nat} {new : List AV} {s v : AV} (h : appendTo G slot e i n new s = some (v, G')) : Loc (objsOf s) slot (fun G => appendTo G slot e i n new s) G v G' := by
  have made : ∀ {need old}, madeA G slot e i need old new = some (v, G') → ∀ f : Heap → Option (AV × Heap), (∀ Gx : Heap, Gx.lock = G.lock → (∀ b ∈ objsOf s, Gx.get b = G.get b) → f Gx = madeA Gx slot e i need old new) → Loc (objsOf s) slot f G v G' := by
    intro need old hm f hf
    obtain ⟨o, h1, h2⟩ := made_loc hm
    exact ⟨some (slot, o), fun b o' he => by cases he; exact Or.inr rfl, h1, fun Gx a b => by rw [hf Gx a b]; exact h2 Gx⟩
  have same : (v, G') = (s, G) → ∀ f : Heap → Option (AV × Heap), (∀ Gx : Heap, Gx.lock = G.lock → (∀ b ∈ objsOf s, Gx.get b = G.get b) → f Gx = some (s, Gx)) → Loc (objsOf s) slot f G v G' := by
    intro he f hf
    cases he
    exact ⟨none, (fun _ _ h => nomatch h), rfl, hf⟩
  unfold appendTo at h
  split at h
  · split at h
    · rename_i hn
      exact same (by cases h; rfl) _ fun Gx _ _ => by simp only [appendTo]; rw [if_pos hn]
    · rename_i hn
      exact made h _ fun Gx _ _ => by simp only [appendTo]; rw [if_neg hn]
  · rename_i sz xs cap
    split at h
    · cases h
    · rename_i hsz
      split at h
      · rename_i hn
        exact same (by cases h; rfl) _ fun Gx _ _ => by simp only [appendTo]; rw [if_neg hsz, if_pos hn]
      · rename_i hn
        split at h
        · split at h
          · rename_i hc
            exact made h _ fun Gx _ _ => by simp only [appendTo]; rw [if_neg hsz, if_neg hn, if_pos hc]
          · cases h
        · cases h
  · rename_i b w off len cap
    split at h
    · rename_i hn
      exact same (by cases h; rfl) _ fun Gx _ _ => by simp only [appendTo]; rw [if_pos hn]
    · rename_i hn
      have hrw : ∀ Gx : Heap, (∀ b' ∈ objsOf (AV.sl b w off len cap), Gx.get b' = G.get b') → Gx.row b w = G.row b w ∧ Gx.get b = G.get b := fun Gx h => ⟨row_eqI (h b (by simp [objsOf])), h b (by simp [objsOf])⟩
      split at h
      · rename_i m e' sz g cs hr
        split at h
        · rename_i c
          split at h
          · rename_i hc
            split at h
            · rename_i H' hst
              cases h
              obtain ⟨o, h1, hg, h2⟩ := store_loc hst
              refine ⟨some (b, o), fun b' o' he => by cases he; exact Or.inl ⟨by simp [objsOf], hg⟩, h1, fun Gx a b' => ?_⟩
              obtain ⟨r1, r2⟩ := hrw Gx b'
              simp only [appendTo, r1, hr]
              rw [if_neg hn, if_pos hc, h2 Gx a r2]; rfl
            · cases h
          · rename_i hc
            split at h
            · rename_i hc2
              refine made h _ fun Gx a b' => ?_
              obtain ⟨r1, r2⟩ := hrw Gx b'
              simp only [appendTo, r1, hr]
              rw [if_neg hn, if_neg hc, if_pos hc2]
            · cases h
        · split at h
          · cases h
          · rename_i hsz
            split at h
            · rename_i hc
              split at h
              · rename_i H' hst
                cases h
                obtain ⟨o, h1, hg, h2⟩ := store_loc hst
                refine ⟨some (b, o), fun b' o' he => by cases he; exact Or.inl ⟨by simp [objsOf], hg⟩, h1, fun Gx a b' => ?_⟩
                obtain ⟨r1, r2⟩ := hrw Gx b'
                simp only [appendTo, r1, hr]
                rw [if_neg hn, if_neg hsz, if_pos hc, h2 Gx a r2]; rfl
              · cases h
            · rename_i hc
              split at h
              · rename_i hc2
                cases h
                refine ⟨some (b, _), fun b' o' he => by cases he; exact Or.inl ⟨by simp [objsOf], by rw [Heap.row_get hr]; rfl⟩, rfl, fun Gx a b' => ?_⟩
                obtain ⟨r1, r2⟩ := hrw Gx b'
                simp only [appendTo, r1, hr]
                rw [if_neg hn, if_neg hsz, if_neg hc, a, if_pos hc2]; rfl
              · cases h
      · cases h
  · cases h
theorem appendA_loc {G G' : Heap} {slot : Nat} {ts : List TypeId} {args : List AV} {v : AV} (h : appendA C.P G slot ts args = some (v, G')) : Loc (args.flatMap objsOf) slot (fun G => appendA C.P G slot ts args) G v G' := by
  unfold appendA at h
  split at h
  · rename_i t u s x
    split at h
    · rename_i hi
      unfold growA at h
      split at h
      · rename_i e k l hu hud
        split at h
        · rename_i i z hinf hz
          split at h
          · rename_i hc
            obtain ⟨o, h1, h2⟩ := made_loc h
            refine ⟨some (slot, o), fun b o' he => by cases he; exact Or.inr rfl, h1, fun Gx a b => ?_⟩
            simp only [appendA, if_pos hi, growA, hu, hud, hinf, hz]
            rw [if_pos hc]; exact h2 Gx
          · cases h
        · cases h
      · cases h
    · rename_i hi
      split at h
      · rename_i e hu
        split at h
        · rename_i i z hinf hz
          split at h
          · cases h
          · rename_i n new hcl
            split at h
            · cases h
            · rename_i hc
              obtain ⟨eff, h1, h2, h3⟩ := appendTo_loc h
              refine ⟨eff, fun b o he => ?_, h2, fun Gx a b => ?_⟩
              · rcases h1 b o he with h4 | h4
                · exact Or.inl ⟨by simp [h4.1], h4.2⟩
                · exact Or.inr h4
              · have hcl' := cells_loc hcl (Gx := Gx) fun b' hb' => b b' (by simp [hb'])
                have h3' := h3 Gx a fun b' hb' => b b' (by simp [hb'])
                simp only [appendA, if_neg hi, hu, hinf, hz, hcl']
                rw [if_neg hc]; exact h3'
        · cases h
      · cases h
  · cases h
/-! ### operations that may stand in such a region -/
def locOp (op : Op) : Bool :=
  match op with
  | .load _ _ | .store _ _ _ | .alloc _ | .box _ _ | .buildSlice _ _ _ | .lookup _ _ _ _ | .mapUpdate _ _ _ _ => true
  | .call c => match c.callee with | .builtin .append => true | _ => false
  | _ => false
theorem build_loc {mt : Bool} {G G' : Heap} {slot t len : Nat} {parts : List (Nat × AV)} {v : AV} (h : buildSliceA C.P mt G slot t len parts = some (v, G')) : Loc [] slot (fun G => buildSliceA C.P mt G slot t len parts) G v G' := by
  unfold buildSliceA at h
  split at h
  · rename_i e hu
    split at h
    · rename_i n z hn hz
      split at h
      · rename_i hc
        split at h
        · rename_i cs hcs
          split at h
          · cases h
          · rename_i hf
            split at h
            · rename_i hm
              cases h
              refine ⟨some (slot, _), fun b o he => by cases he; exact Or.inr rfl, rfl, fun Gx _ _ => ?_⟩
              simp only [buildSliceA, hu, hn, hz, hcs]
              rw [if_pos hc, if_neg hf, if_pos hm]; rfl
            · rename_i hm
              cases h
              refine ⟨none, (fun _ _ h => nomatch h), rfl, fun Gx _ _ => ?_⟩
              simp only [buildSliceA, hu, hn, hz, hcs]
              rw [if_pos hc, if_neg hf, if_neg hm]; rfl
        · cases h
      · cases h
    · cases h
  · cases h
theorem lookup_loc {G : Heap} {t : TypeId} {m k v : AV} {ok : Bool} (h : lookupA C.P G t m k ok = some v) {Gx : Heap} (h2 : ∀ b ∈ objsOf m, Gx.get b = G.get b) : lookupA C.P Gx t m k ok = some v := by
  have e : mapOfA Gx m = mapOfA G m := by
    cases m
    case mp b => unfold mapOfA; simp only; rw [h2 b (by simp [objsOf])]
    case v x =>
      unfold mapOfA
      cases x <;> try rfl
      rename_i o
      cases o <;> rfl
    all_goals rfl
  unfold lookupA at h ⊢
  rw [e]; exact h
theorem update_loc {G G' : Heap} {t : TypeId} {m k v : AV} (h : updateA C.P G t m k v = some G') : ∃ b o, (b ∈ objsOf m ∧ (G.get b).isSome = true) ∧ G' = G.put b o ∧ ∀ Gx : Heap, Gx.lock = G.lock → Gx.get b = G.get b → updateA C.P Gx t m k v = some (Gx.put b o) := by
  unfold updateA at h
  split at h
  · rename_i kt x b hk
    split at h
    · rename_i mx es c hg
      split at h
      · rename_i hl
        split at h
        · rename_i i y hf
          split at h
          · rename_i k' x1 x2 he
            split at h
            · rename_i hs
              cases h
              refine ⟨b, _, ⟨by simp [objsOf], by rw [hg]; rfl⟩, rfl, fun Gx h1 h2 => ?_⟩
              simp only [updateA, hk, h2, hg, h1, hl, if_true, hf, he, hs]
            · cases h
          · cases h
        · rename_i hf
          cases h
          refine ⟨b, _, ⟨by simp [objsOf], by rw [hg]; rfl⟩, rfl, fun Gx h1 h2 => ?_⟩
          simp only [updateA, hk, h2, hg, h1, hl, if_true, hf]
        · cases h
      · cases h
    · cases h
  · cases h
theorem opA_loc {o : Oper} {a : AAct} {G G' : Heap} {slot : Nat} {r : Option AV} (hl : locOp o.op = true) (h : opA C (lim C) me o a G slot = some (r, G')) :
    ∃ reads, (footA C me o a slot).reads = some reads ∧ Loc reads slot (fun G => opA C (lim C) me o a G slot) G r G' := by
  obtain ⟨dst, op, ty, pos, after, guard⟩ := o
  simp only at hl
  cases op <;> simp only [locOp] at hl <;> try (cases hl; done)
  case load t x =>
    simp only [opA] at h
    split at h
    · rename_i p hp
      obtain ⟨v, hv, he⟩ := Option.map_eq_some_iff.1 h
      cases he
      refine ⟨objsOf p, by simp only [footA, objsO, hp], none, (fun _ _ h => nomatch h), rfl, fun Gx _ h2 => ?_⟩
      simp only [opA, hp]
      rw [load_loc hv h2]; rfl
    · cases h
  case store t x y =>
    simp only [opA] at h
    split at h
    · rename_i p v hp hv
      obtain ⟨G1, hs, he⟩ := Option.map_eq_some_iff.1 h
      cases he
      obtain ⟨b, o, h1, h2, h3⟩ := storeA_loc hs
      refine ⟨objsOf p, by simp only [footA, objsO, hp], some (b, o), fun b' o' he => by cases he; exact Or.inl h1, h2, fun Gx a1 a2 => ?_⟩
      simp only [opA, hp, hv]
      rw [h3 Gx a1 (a2 b h1.1)]; rfl
    · cases h
  case lookup t m k ok =>
    simp only [opA] at h
    split at h
    · rename_i p q hp hq
      obtain ⟨v, hv, he⟩ := Option.map_eq_some_iff.1 h
      cases he
      refine ⟨objsOf p, by simp only [footA, objsO, hp], none, (fun _ _ h => nomatch h), rfl, fun Gx _ h2 => ?_⟩
      simp only [opA, hp, hq]
      rw [lookup_loc hv h2]; rfl
    · cases h
  case mapUpdate t m k v =>
    simp only [opA] at h
    split at h
    · rename_i p q u hp hq hu
      obtain ⟨G1, hs, he⟩ := Option.map_eq_some_iff.1 h
      cases he
      obtain ⟨b, o, h1, h2, h3⟩ := update_loc hs
      refine ⟨objsOf p, by simp only [footA, objsO, hp], some (b, o), fun b' o' he => by cases he; exact Or.inl h1, h2, fun Gx a1 a2 => ?_⟩
      simp only [opA, hp, hq, hu]
      rw [h3 Gx a1 (a2 b h1.1)]; rfl
    · cases h
  case alloc e =>
    simp only [opA] at h
    split at h
    · rename_i z hz
      split at h
      · cases h
      · rename_i hf
        cases h
        refine ⟨[], rfl, some (slot, _), fun b' o' he => by cases he; exact Or.inr rfl, rfl, fun Gx _ _ => ?_⟩
        simp only [opA, hz]
        rw [if_neg hf]; rfl
    · cases h
  case box e x =>
    simp only [opA] at h
    split at h
    · rename_i z hz
      split at h
      · cases h
      · rename_i hf
        cases h
        refine ⟨[], rfl, some (slot, _), fun b' o' he => by cases he; exact Or.inr rfl, rfl, fun Gx _ _ => ?_⟩
        simp only [opA, hz]
        rw [if_neg hf]; rfl
    · cases h
  case buildSlice t n ps =>
    simp only [opA] at h
    split at h
    · rename_i l hp
      obtain ⟨⟨v, G1⟩, hs, he⟩ := Option.map_eq_some_iff.1 h
      cases he
      obtain ⟨eff, h1, h2, h3⟩ := build_loc hs
      refine ⟨[], rfl, eff, h1, h2, fun Gx a1 a2 => ?_⟩
      simp only [opA, hp]
      have h3' := h3 Gx a1 a2
      simp only at h3'
      rw [h3']; rfl
    · cases h
  case call c =>
    obtain ⟨cal, args, ts⟩ := c
    have hcal : cal = .builtin .append := by
      cases cal with
      | builtin bi => cases bi <;> first | rfl | (simp at hl; done)
      | _ => simp at hl
    subst hcal
    cases hp : evals a args.toList with
    | none => simp only [opA, hp] at h; cases h
    | some l =>
      simp only [opA, hp] at h
      obtain ⟨⟨v, G1⟩, hs, he⟩ := Option.map_eq_some_iff.1 h
      cases he
      obtain ⟨eff, h1, h2, h3⟩ := appendA_loc hs
      have hob : args.toList.flatMap (objsO a) = l.flatMap objsOf := by
        have : ∀ (ars : List Operand) (l : List AV), evals a ars = some l → ars.flatMap (objsO a) = l.flatMap objsOf := by
          intro ars
          induction ars with
          | nil => intro l h; simp only [evals, Option.some.injEq] at h; subst h; rfl
          | cons x r ih =>
            intro l h
            simp only [evals] at h
            split at h
            · rename_i u us hu hus
              cases h
              simp only [List.flatMap_cons, ih us hus]
              rw [show objsO a x = objsOf u by unfold objsO; rw [hu]]
            · cases h
        exact this _ _ hp
      refine ⟨l.flatMap objsOf, by simp only [footA]; rw [hob], eff, h1, h2, fun Gx a1 a2 => ?_⟩
      simp only [opA, hp]
      have h3' := h3 Gx a1 a2
      simp only at h3'
      rw [h3']; rfl
/-- what it looks at is there for it -/
def okFoot (base top w : Nat) (ft : Foot) : Bool := match ft.reads with | some l => l.all fun b => Nat.blt b base || Nat.ble top b || w.testBit (b - base) | none => false
def callFoot : Foot := ⟨some [], some [], [], false, false⟩
/-- what it looks at, of an operation that leaves memory as it was -/
def idleFoot (C : Cfg) (me : FuncId) (o : Oper) (a : AAct) (slot : Nat) : Foot :=
  match o.op with
  | .call c => match c.callee with | .value _ => callFoot | _ => footA C me o a slot
  | _ => footA C me o a slot
def frOne (o : Option Foot) (f : Foot) : Bool := match o with | some g => !clash g f | none => false
/-- those that are not bound to an order with it may be exchanged with it -/
def freeT (feet : List Foot) (u : List Nat) (ft : Foot) : Bool := u.all fun k => frOne (feet[k]?) ft
def ltB (a b : Nat) : Bool := decide (a < b)
def okFootT (base : Nat) (w : List Nat) (ft : Foot) : Bool := match ft.reads with | some l => l.all fun b => ltB b base || w.any fun k => b == base + k | none => false
abbrev Tab := List (List Nat × List Nat × Bool)
noncomputable def callX (C : Cfg) (me : FuncId) (d : Option Tmp) (v : AV) (l : List AV) (H : Heap) : Option (AV × Heap) :=
  match v with
  | .fn (.func f) x y => callA C (lim C) me f d (x ++ l ++ y) H
  | .yld b => (match lim C (.round b l H) with | some (.ret v H') => some (v, H') | _ => none)
  | _ => none
/-- a call that sees, and may turn, all memory -/
def kind0 (C : Cfg) (me : FuncId) (d : Option Tmp) (v : AV) (l : List AV) : Bool :=
  match v with
  | .fn (.func f) x y => (C.ext f).isNone && Nat.beq (callKind C me f d (x ++ l ++ y)) 0
  | .yld _ => true
  | _ => false
def SameOut (base top : Nat) (G G' : Heap) : Prop := ∀ b, (b < base ∨ top ≤ b) → G'.get b = G.get b
def effV (C : Cfg) (me : FuncId) (base top : Nat) (d : Option Tmp) (v : AV) (l : List AV) (G : Heap) (cont : AV → Heap → Prop) : Prop :=
  kind0 C me d v l = true ∧ ∀ Gh : Heap, Gh.lock = G.lock → Gh.size = G.size → SameOut base top G Gh → ∃ r Y, callX C me d v l Gh = some (r, Y) ∧ G.size ≤ Y.size ∧
    ∀ G' : Heap, G'.lock = G.lock → G'.size = Y.size → SameOut base top Y G' → (∀ b, base ≤ b → b < top → G'.get b = G.get b ∨ G'.get b = Y.get b) → cont r G'
def effO (C : Cfg) (me : FuncId) (base top : Nat) (o : Oper) (a : AAct) (G : Heap) (cont : AV → Heap → Prop) : Prop :=
  match o.op with
  | .call c => (match c.callee with | .value g => bindO (evals a c.args.toList) fun l => bindO (a.eval g) fun v => effV C me base top o.dst v l G cont | _ => False)
  | _ => False
/-- a call that looks at memory, and leaves it as it was -/
def kind2 (C : Cfg) (me : FuncId) (d : Option Tmp) (v : AV) (l : List AV) : Bool :=
  match v with
  | .fn (.func f) x y => (C.ext f).isNone && Nat.beq (callKind C me f d (x ++ l ++ y)) 2
  | _ => false
/-- the same but for slots of a region: those that are named are the same, too -/
def SameVis (base top : Nat) (vl : List Nat) (G G' : Heap) : Prop := ∀ b, (b < base ∨ top ≤ b ∨ (base ≤ b ∧ vl.contains (b - base) = true)) → G'.get b = G.get b
def stillV (C : Cfg) (me : FuncId) (base top : Nat) (vl : List Nat) (d : Option Tmp) (v : AV) (l : List AV) (G : Heap) (cont : AV → Heap → Prop) : Prop :=
  kind2 C me d v l = true ∧ ∃ r, (∀ Gh : Heap, Gh.lock = G.lock → Gh.size = G.size → SameVis base top vl G Gh → ∃ Y, callX C me d v l Gh = some (r, Y)) ∧ cont r G
def stillO (C : Cfg) (me : FuncId) (base top : Nat) (vl : List Nat) (o : Oper) (a : AAct) (G : Heap) (cont : AV → Heap → Prop) : Prop :=
  match o.op with
  | .call c => (match c.callee with | .value g => bindO (evals a c.args.toList) fun l => bindO (a.eval g) fun v => stillV C me base top vl o.dst v l G cont | _ => False)
  | _ => False
def stillFoot : Foot := ⟨none, some [], [], false, false⟩
def effFoot : Foot := ⟨none, none, [], false, true⟩
/-- a region in any order, operation by operation -/
def drawP (C : Cfg) (me : FuncId) (arr : Array Oper) (base : Nat) : Tab → List Oper → Nat → List Foot → AAct → Heap → PostS → Prop
  | _, [], _, _, a, G, K => AtS K a G
  | tb, o :: r, i, feet, a, G, K => bindO (wantedA arr a o) fun w => iteB w
      (iteB (plainO o) (WpO C me o.dst o.op a G (base + i) fun v _ => drawP C me arr base tb.tail r (i + 1) (feet ++ [noFoot]) (a.put o.dst v) G K)
        (iteB (locOp o.op) (iteB (okFootT base (tb.headD ([], [], false)).2.1 (footA C me o a (base + i)) && freeT feet (tb.headD ([], [], false)).1 (footA C me o a (base + i)))
            (WpO C me o.dst o.op a G (base + i) fun v G' => drawP C me arr base tb.tail r (i + 1) (feet ++ [footA C me o a (base + i)]) (a.put o.dst v) G' K) False)
          (iteB (tb.headD ([], [], false)).2.2
            (iteB (tb.headD ([], [], false)).1.isEmpty (effO C me base (base + arr.toList.length) o a G fun v G' => drawP C me arr base tb.tail r (i + 1) (feet ++ [effFoot]) (a.put o.dst v) G' K)
              (iteB (freeT feet (tb.headD ([], [], false)).1 stillFoot) (stillO C me base (base + arr.toList.length) (tb.headD ([], [], false)).2.1 o a G fun v G' => drawP C me arr base tb.tail r (i + 1) (feet ++ [stillFoot]) (a.put o.dst v) G' K) False))
            (iteB (freeT feet (tb.headD ([], [], false)).1 (idleFoot C me o a (base + i)))
              (bindO (opI C me { objs := [], lock := 0 } o.dst o.op a) fun v => drawP C me arr base tb.tail r (i + 1) (feet ++ [idleFoot C me o a (base + i)]) (a.put o.dst v) G K) False))))
      (drawP C me arr base tb.tail r (i + 1) (feet ++ [noFoot]) (a.put o.dst undefA) G K)
def plainAt (l : List Oper) (i : Nat) : Bool := match l[i]? with | some o => plainO o | none => false
def rowOk (l : List Oper) (wi : Nat) (i : Nat) (u w : List Nat) : Bool := plainAt l i || ((List.range i).all fun k => wi.testBit k || plainAt l k || u.contains k) && w.all fun k => wi.testBit k
def tabOk (l : List Oper) (ws : List Nat) (tb : Tab) : Bool := (List.range l.length).all fun i => rowOk l (ws.getD i 0) i (tb.getD i ([], [], false)).1 (tb.getD i ([], [], false)).2.1
theorem clash_no (ft : Foot) : clash noFoot ft = false := by
  obtain ⟨rx, wx, fx, px, gx⟩ := ft
  have e1 : ∀ z, meet (some []) z = false := fun _ => rfl
  simp [clash, noFoot, e1]
theorem free_of {l : List Oper} {wi i : Nat} {u w : List Nat} {feet : List Foot} {ft : Foot} (hr : rowOk l wi i u w = true) (hnp : plainAt l i = false) (hp : ∀ k o, k < i → l[k]? = some o → plainO o = true → feet[k]? = some noFoot) (hf : freeT feet u ft = true) : freeOf feet wi ft i = true := by
  unfold rowOk at hr
  rw [hnp, Bool.false_or] at hr
  simp only [Bool.and_eq_true, List.all_eq_true] at hr
  have key : ∀ n, n ≤ i → freeOf feet wi ft n = true := by
    intro n
    induction n with
    | zero => intro _; rfl
    | succ k ih =>
      intro hk
      unfold freeOf
      rw [ih (by omega), Bool.and_true]
      have := hr.1 k (List.mem_range.2 (by omega))
      simp only [Bool.or_eq_true] at this
      rcases this with (h | h) | h
      · rw [h, Bool.true_or]
      · unfold plainAt at h
        split at h
        · rename_i o ho
          rw [hp k o (by omega) ho h]
          simp only [clash_no, Bool.not_false, Bool.or_true]
        · cases h
      · have h2 := List.all_eq_true.1 hf k (by simpa using h)
        unfold frOne at h2
        rw [Bool.or_eq_true]
        exact Or.inr h2
  exact key i (Nat.le_refl _)
theorem ok_of {l : List Oper} {wi i base top : Nat} {u w : List Nat} {ft : Foot} (hr : rowOk l wi i u w = true) (hnp : plainAt l i = false) (h : okFootT base w ft = true) : okFoot base top wi ft = true := by
  unfold rowOk at hr
  rw [hnp, Bool.false_or] at hr
  simp only [Bool.and_eq_true, List.all_eq_true] at hr
  unfold okFootT at h
  unfold okFoot
  split at h
  · rename_i rl hrl
    rw [List.all_eq_true] at h ⊢
    intro b hb
    have := h b hb
    simp only [Bool.or_eq_true] at this ⊢
    rcases this with h1 | h1
    · left; left; exact Nat.ble_eq_true_of_le (of_decide_eq_true h1)
    · obtain ⟨k, hk, he⟩ := List.any_eq_true.1 h1
      right
      have : b = base + k := by simpa using he
      rw [this, Nat.add_sub_cancel_left]; exact hr.2 k hk
  · cases h
theorem free_no {feet : List Foot} {w : Nat} : ∀ n, n ≤ feet.length → freeOf feet w noFoot n = true
  | 0, _ => rfl
  | k + 1, hn => by
    unfold freeOf
    rw [free_no k (by omega), Bool.and_true, Bool.or_eq_true]
    right
    cases h : feet[k]? with
    | none => exact absurd (List.getElem?_eq_none_iff.1 h) (by omega)
    | some f =>
      obtain ⟨rx, wx, fx, px, gx⟩ := f
      have e2 : ∀ r : Option (List Nat), meet r (some []) = false := by
        intro r; unfold meet; split <;> simp_all
      simp [clash, noFoot, e2]
theorem vis_of {ft : Foot} {base top w slot : Nat} {l : List Nat} (hr : ft.reads = some l) (h : okFoot base top w ft = true) : (∀ b ∈ l, visB base top w slot ft b = true) ∧ visB base top w slot ft slot = true := by
  unfold okFoot at h
  rw [hr] at h
  simp only [List.all_eq_true] at h
  refine ⟨fun b hb => ?_, ?_⟩
  · unfold visB
    rw [hr]
    simp only [h b hb, Bool.true_and, Bool.or_eq_true]
    exact Or.inr (List.any_eq_true.2 ⟨b, hb, Nat.beq_refl b⟩)
  · unfold visB; rw [Nat.beq_refl]; rfl
theorem foot_grows {o : Oper} {a : AAct} {slot : Nat} : (footA C me o a slot).grows = false := by
  unfold footA
  split <;> try rfl
  split <;> try rfl
  split <;> try rfl
  split <;> try rfl
  split <;> rfl
theorem opI_any {o : Oper} {a : AAct} {v : AV} (hp : plainO o = false) (hl : locOp o.op = false) (h : opI C me { objs := [], lock := 0 } o.dst o.op a = some v) (slot : Nat) :
    (∀ G : Heap, opA C (lim C) me o a G slot = some (some v, G)) ∧ (footA C me o a slot).idle = true ∧ idleFoot C me o a slot = footA C me o a slot := by
  obtain ⟨dst, op, ty, pos, after, guard⟩ := o
  simp only at hl h hp
  unfold opI at h
  split at h
  · cases hl
  · rename_i t x l hh m
    simp only [Option.bind_eq_some_iff] at h
    obtain ⟨u, hu, l', hl', h', hh', m', hm', h⟩ := h
    have hs : ∀ G : Heap, sliceA C.P G t u l' h' m' = some v := by
      intro G
      unfold sliceI at h
      split at h
      · cases h
      · rename_i hne
        rw [← h]
        unfold sliceA
        cases C.P.underlying t with
        | none => cases u <;> rfl
        | some d => cases d <;> cases u <;> first | rfl | (exact absurd rfl (hne _ _ _ _ _)) | (rename_i y; cases y <;> first | rfl | (rename_i p n c; cases p <;> first | rfl | (cases n <;> first | rfl | (cases c <;> rfl))))
    refine ⟨fun G => ?_, rfl, rfl⟩
    simp only [opA, hu]
    show (match (some u), lookO a l, lookO a hh, lookO a m with | some v, some l, some h, some m => (sliceA C.P G t v l h m).map fun v => (some v, G) | _, _, _, _ => none) = _
    rw [hl', hh', hm']
    simp only [hs G, Option.map_some]
  · rename_i c
    obtain ⟨cal, args, ts⟩ := c
    simp only at h
    split at h
    · obtain ⟨l, hev, h⟩ := Option.bind_eq_some_iff.1 h
      have hs : ∀ G : Heap, lenA C.P G ts.toList l = some v := by
        intro G
        unfold lenI at h
        split at h
        · cases h
        · rename_i hne
          rw [← h]
          unfold lenA
          cases ts.toList with
          | nil => rfl
          | cons t r =>
            cases l with
            | nil => rfl
            | cons x s =>
              simp only
              cases C.P.underlying t with
              | none => cases x <;> rfl
              | some d => cases d <;> cases x <;> first | rfl | (exact absurd rfl (hne _ _)) | (rename_i y; cases y <;> first | rfl | (rename_i p; cases p <;> rfl) | (rename_i p n c; cases p <;> first | rfl | (cases n <;> first | rfl | (cases c <;> rfl))))
      refine ⟨fun G => ?_, ?_, rfl⟩
      · simp only [opA, hev, hs G, Option.map_some]
      · simp only [footA]; rfl
    · obtain ⟨l, hev, h⟩ := Option.bind_eq_some_iff.1 h
      refine ⟨fun G => ?_, rfl, rfl⟩
      cases l with
      | nil => cases h
      | cons x r =>
        have h : minmaxA false x r = some v := h
        simp only [opA, hev, h, Option.map_some]
    · rename_i g
      simp only [Option.bind_eq_some_iff] at h
      obtain ⟨l, hev, gv, hg, h⟩ := h
      unfold callV at h
      split at h
      · rename_i f x y
        unfold callI at h
        split at h
        · rename_i hex
          cases h
          obtain ⟨h1, h2⟩ := hex.choose_spec
          have hfe : ∀ ty pos after guard, footA C me ⟨dst, .call ⟨.value g, args, ts⟩, ty, pos, after, guard⟩ a slot = callFoot := by
            intro ty pos after guard
            simp only [footA, hg, hev]
            rcases h2 with h2 | h2
            · rw [if_pos h2]; rfl
            · split
              · rfl
              · rw [h2]; rfl
          refine ⟨fun G => ?_, ?_, ?_⟩
          · simp only [opA, hev, hg]
            rw [h1 G]; rfl
          · rw [hfe]; rfl
          · rw [hfe]; rfl
        · cases h
      · cases h
    · cases h
  · rename_i h1 h2 h3
    have : plainO (bareO dst op) = false := hp
    rw [this] at h
    simp at h
/-- the region, by its operations -/
theorem drawP_runs {arr : Array Oper} {ops : List Oper} {ws : List Nat} {base n : Nat} {K : PostS} (hn : arr.toList.length = n) : ∀ (l : List Oper) (tb : Tab) (i : Nat) (feetM feet : List Foot) (a : AAct) (G : Heap), feet.length = i → feetM.length = i → i + l.length ≤ n → base + n ≤ G.size → (∀ (k : Nat) (ft : Foot), frOne (feetM[k]?) ft = true → frOne (feet[k]?) ft = true) → (∀ k, l[k]? = ops[i + k]?) →
    (∀ k, i + k < i + l.length → rowOk ops (ws.getD (i + k) 0) (i + k) (tb.getD k ([], [], false)).1 (tb.getD k ([], [], false)).2.1 = true) → (∀ k o, k < i → ops[k]? = some o → plainO o = true → feet[k]? = some noFoot) → drawP C me arr base tb l i feetM a G K →
    ∃ r, drawA C (lim C) me arr base (base + n) ws l i feet a G = some r ∧ K r.1 r.2
  | [], tb, i, feetM, feet, a, G, _, _, _, _, _, _, _, _, h => ⟨(a, G), rfl, (by unfold drawP at h; exact h)⟩
  | o :: r, tb, i, feetM, feet, a, G, hf, hfM, hi, hs, hle, hops, htb, hpl, h => by
    have hle' : ∀ f f' : Foot, (∀ ft, frOne (some f) ft = true → frOne (some f') ft = true) → ∀ (k : Nat) (ft : Foot), frOne ((feetM ++ [f])[k]?) ft = true → frOne ((feet ++ [f'])[k]?) ft = true := by
      intro f f' hff k ft hk
      rcases Nat.lt_or_ge k i with h1 | h1
      · rw [List.getElem?_append_left (by omega)] at hk ⊢; exact hle k ft hk
      · rw [List.getElem?_append_right (by omega)] at hk ⊢
        rw [hfM] at hk; rw [hf]
        cases hki : k - i with
        | zero => rw [hki] at hk; exact hff ft hk
        | succ z => rw [hki] at hk; simp [frOne] at hk
    have hsame : ∀ f : Foot, ∀ ft, frOne (some f) ft = true → frOne (some f) ft = true := fun _ _ h => h
    have hfree : ∀ (u : List Nat) (ft : Foot), freeT feetM u ft = true → freeT feet u ft = true := fun u ft h => List.all_eq_true.2 fun k hk => hle k ft (List.all_eq_true.1 h k hk)
    have hrow := htb 0 (by simp)
    have ho0 : ops[i]? = some o := by have := hops 0; simpa using this.symm
    have hops' : ∀ k, r[k]? = ops[i + 1 + k]? := fun k => by have := hops (k + 1); rw [List.getElem?_cons_succ] at this; rw [this, show i + (k + 1) = i + 1 + k by omega]
    have htd : ∀ k, tb.tail.getD k ([], [], false) = tb.getD (k + 1) ([], [], false) := fun k => by cases tb <;> simp
    have htb' : ∀ k, i + 1 + k < i + 1 + r.length → rowOk ops (ws.getD (i + 1 + k) 0) (i + 1 + k) (tb.tail.getD k ([], [], false)).1 (tb.tail.getD k ([], [], false)).2.1 = true := fun k hk => by
      rw [htd, show i + 1 + k = i + (k + 1) by omega]; exact htb (k + 1) (by simp; omega)
    have hhd : tb.getD 0 ([], [], false) = tb.headD ([], [], false) := by cases tb <;> rfl
    have hpl' : ∀ (ft : Foot), (plainO o = true → ft = noFoot) → ∀ k o', k < i + 1 → ops[k]? = some o' → plainO o' = true → (feet ++ [ft])[k]? = some noFoot := by
      intro ft hft k o' hk ho' hp
      rcases Nat.lt_or_ge k i with h1 | h1
      · rw [List.getElem?_append_left (by omega)]; exact hpl k o' h1 ho' hp
      · have : k = i := by omega
        subst this
        rw [ho0] at ho'; cases ho'
        rw [List.getElem?_append_right (by omega), hf, Nat.sub_self, hft hp]; rfl
    rw [hhd, Nat.add_zero] at hrow
    have hi' : i + (r.length + 1) ≤ n := by simpa using hi
    unfold drawP at h
    rw [bindO_iff] at h
    obtain ⟨w, hw, h⟩ := h
    unfold drawA stepD
    rw [hw]
    cases w
    · simp only [iteB_false] at h
      simp only
      rw [free_no i (by omega), if_pos rfl]
      exact drawP_runs hn r _ (i + 1) _ _ _ G (by simp [hf]) (by simp [hfM]) (by omega) hs (hle' _ _ (hsame _)) hops' htb' (hpl' noFoot fun _ => rfl) h
    · simp only [iteB_true] at h
      simp only
      by_cases hp : plainO o = true
      · rw [hp] at h
        simp only [iteB_true] at h
        rw [if_pos hp]
        unfold WpO at h
        rw [bindO_iff, ← opA_same] at h
        obtain ⟨⟨v, G1⟩, hop, h⟩ := h
        rw [hop]
        simp only
        rw [free_no i (by omega), if_pos rfl]
        exact drawP_runs hn r _ (i + 1) _ _ _ G (by simp [hf]) (by simp [hfM]) (by omega) hs (hle' _ _ (hsame _)) hops' htb' (hpl' noFoot fun _ => rfl) h
      · have hp' : plainO o = false := by simpa using hp
        rw [hp'] at h
        simp only [iteB_false] at h
        rw [if_neg hp]
        have hnp : plainAt ops i = false := by unfold plainAt; rw [ho0]; exact hp'
        by_cases hl : locOp o.op = true
        · rw [hl] at h
          simp only [iteB_true] at h
          generalize hft : footA C me o a (base + i) = ft at h ⊢
          cases hokT : okFootT base (tb.headD ([], [], false)).2.1 ft && freeT feetM (tb.headD ([], [], false)).1 ft
          · rw [hokT] at h; exact h.elim
          · rw [hokT] at h
            simp only [iteB_true] at h
            simp only [Bool.and_eq_true] at hokT
            have hok : okFoot base (base + n) (ws.getD i 0) ft = true ∧ freeOf feet (ws.getD i 0) ft i = true := ⟨ok_of hrow hnp hokT.1, free_of hrow hnp hpl (hfree _ _ hokT.2)⟩
            unfold WpO at h
            rw [bindO_iff, ← opA_same] at h
            obtain ⟨⟨v, G1⟩, hop, h⟩ := h
            obtain ⟨reads, hr, eff, he1, he2, he3⟩ := opA_loc hl hop
            rw [hft] at hr
            obtain ⟨hv1, hv2⟩ := vis_of (slot := base + i) hr hok.1
            generalize hvis : visB base (base + n) (ws.getD i 0) (base + i) ft = vis at hv1 hv2 ⊢
            have hrl : ∀ b ∈ reads, b < G.size → (G.hide vis).get b = G.get b := fun b hb hbs => by rw [hide_get, if_pos hbs, if_pos (hv1 b hb)]
            have hrl2 : ∀ b ∈ reads, (G.hide vis).get b = G.get b := fun b hb => by
              rcases Nat.lt_or_ge b G.size with h1 | h1
              · exact hrl b hb h1
              · rw [hide_get, if_neg (by omega), get_none (by omega)]
            have hrun := he3 (G.hide vis) rfl hrl2
            simp only at hrun
            rw [hrun]
            simp only
            have heff : ∀ b o', eff = some (b, o') → b < G.size ∧ vis b = true := by
              intro b o' he
              rcases he1 b o' he with ⟨h1, h2⟩ | h1
              · obtain ⟨o2, ho2⟩ := Option.isSome_iff_exists.1 h2
                exact ⟨get_ltS ho2, hv1 b h1⟩
              · subst h1; exact ⟨by omega, hv2⟩
            obtain ⟨hm1, hm2, hm3⟩ := merge_putO heff
            have hg : ({ ft with grows := false } : Foot) = ft := by rw [← hft]; have := foot_grows (C := C) (me := me) (o := o) (a := a) (slot := base + i); cases hq : footA C me o a (base + i); rw [hq] at this; simp only at this; subst this; rfl
            have hcont := drawP_runs (n := n) (ws := ws) (ops := ops) hn r _ (i + 1) _ (feet ++ [ft]) _ G1 (by simp [hf]) (by simp [hfM]) (by omega) (by rw [he2, hm3]; exact hs) (hle' _ _ (hsame _)) hops' htb' (hpl' ft fun h => absurd h hp) h
            by_cases hid : ft.idle = true
            · rw [if_pos hid]
              have hG1 : G1 = G := by
                have hW : ∃ W, (footA C me o a (base + i)).writes = some W ∧ W ++ (footA C me o a (base + i)).fresh = [] := by
                  rw [hft]
                  unfold Foot.idle at hid
                  split at hid
                  · rename_i hw; exact ⟨[], hw, by simpa using hid⟩
                  · cases hid
                obtain ⟨W, hW1, hW2⟩ := hW
                have := opA_keeps hop (by omega) hW1
                rw [hW2] at this
                exact heap_ext this.1 this.2.1 fun b => this.2.2 b (by simp)
              simp only [hok.2, if_true]
              rw [hG1] at hcont
              exact hcont
            · rw [if_neg hid, hm2, Nat.ble_eq_true_of_le (Nat.le_refl _)]
              simp only [if_true, hm1, Nat.beq_refl, Bool.not_true, hg, hok.2]
              rw [he2] at hcont
              exact hcont
        · have hl' : locOp o.op = false := by simpa using hl
          rw [hl'] at h
          simp only [iteB_false] at h
          cases hflag : (tb.headD ([], [], false)).2.2
          case false =>
            rw [hflag] at h
            simp only [iteB_false] at h
            generalize hft : idleFoot C me o a (base + i) = ft at h
            cases hokT : freeT feetM (tb.headD ([], [], false)).1 ft
            · rw [hokT] at h; exact h.elim
            · rw [hokT] at h
              simp only [iteB_true] at h
              have hok : freeOf feet (ws.getD i 0) ft i = true := free_of hrow hnp hpl (hfree _ _ hokT)
              rw [bindO_iff] at h
              obtain ⟨v, hv, h⟩ := h
              obtain ⟨h1, h2, h3⟩ := opI_any hp' hl' hv (base + i)
              rw [hft] at h3
              rw [← h3] at h2 ⊢
              rw [h1]
              simp only
              rw [if_pos h2]
              simp only [hok, if_true]
              exact drawP_runs hn r _ (i + 1) _ _ _ G (by simp [hf]) (by simp [hfM]) (by omega) hs (hle' _ _ (hsame _)) hops' htb' (hpl' _ fun h => absurd h hp) h
          case true =>
            rw [hflag] at h
            simp only [iteB_true] at h
            cases hem : (tb.headD ([], [], false)).1.isEmpty
            · rw [hem] at h
              simp only [iteB_false] at h
              cases hokT : freeT feetM (tb.headD ([], [], false)).1 stillFoot
              · rw [hokT] at h; exact h.elim
              · rw [hokT] at h
                simp only [iteB_true] at h
                have hok : freeOf feet (ws.getD i 0) stillFoot i = true := free_of hrow hnp hpl (hfree _ _ hokT)
                obtain ⟨dst, op, ty, pos, after, guard⟩ := o
                unfold stillO at h
                simp only at h
                split at h
                · rename_i c
                  split at h
                  · rename_i g hcal
                    rw [bindO_iff] at h
                    obtain ⟨l, hev, h⟩ := h
                    rw [bindO_iff] at h
                    obtain ⟨v, hg, h⟩ := h
                    obtain ⟨hk, rv, hrun, h⟩ := h
                    obtain ⟨cal, args, ts⟩ := c
                    simp only at hcal hev
                    subst hcal
                    cases v <;> simp only [kind2] at hk <;> try (cases hk; done)
                    rename_i f x y
                    cases f <;> simp only [Bool.and_eq_true] at hk <;> try (cases hk; done)
                    rename_i f
                    have hft : footA C me ⟨dst, .call ⟨.value g, args, ts⟩, ty, pos, after, guard⟩ a (base + i) = stillFoot := by
                      have h1 : (C.ext f).isSome = false := by
                        have := hk.1
                        cases hx : C.ext f <;> rw [hx] at this <;> simp_all
                      have h2 := Nat.eq_of_beq_eq_true hk.2
                      simp only [footA, hg, hev, h1, h2, Bool.false_eq_true, if_false, stillFoot]
                    rw [hft]
                    generalize hvis : visB base (base + n) (ws.getD i 0) (base + i) stillFoot = vis
                    have hwl : ∀ k, (tb.headD ([], [], false)).2.1.contains k = true → (ws.getD i 0).testBit k = true := by
                      have hr2 := hrow
                      unfold rowOk at hr2
                      rw [hnp, Bool.false_or, Bool.and_eq_true] at hr2
                      exact fun k hk => List.all_eq_true.1 hr2.2 k (List.contains_iff_mem.1 hk)
                    have hvo : ∀ b, (b < base ∨ base + n ≤ b ∨ (base ≤ b ∧ (tb.headD ([], [], false)).2.1.contains (b - base) = true)) → vis b = true := by
                      intro b hb
                      rw [← hvis]
                      unfold visB stillFoot
                      simp only [Bool.and_true, Bool.or_eq_true]
                      right
                      rcases hb with hb | hb | hb
                      · left; left; exact Nat.ble_eq_true_of_le hb
                      · left; right; exact Nat.ble_eq_true_of_le hb
                      · right; exact hwl _ hb.2
                    obtain ⟨Y, hY⟩ := hrun (G.hide vis) rfl (hide_size G vis) (fun b hb => by
                      rcases Nat.lt_or_ge b G.size with h1 | h1
                      · rw [hide_get, if_pos h1, if_pos (hvo b (by rw [hn] at hb; exact hb))]
                      · rw [hide_get, if_neg (by omega), get_none (by omega)])
                    have hop : opA C (lim C) me ⟨dst, .call ⟨.value g, args, ts⟩, ty, pos, after, guard⟩ a (G.hide vis) (base + i) = some (some rv, Y) := by
                      simp only [opA, hev, hg]
                      unfold callX at hY
                      simp only at hY ⊢
                      rw [hY]; rfl
                    rw [hop]
                    simp only
                    rw [if_pos (by rfl)]
                    simp only [hok, if_true]
                    exact drawP_runs hn r _ (i + 1) _ _ _ G (by simp [hf]) (by simp [hfM]) (by omega) hs (hle' _ _ (hsame _)) hops' htb' (hpl' _ fun h => absurd h hp) h
                  · exact h.elim
                · exact h.elim
            · rw [hem] at h
              simp only [iteB_true] at h
              have hu : (tb.headD ([], [], false)).1 = [] := List.isEmpty_iff.1 hem
              rw [hu] at hrow
              obtain ⟨dst, op, ty, pos, after, guard⟩ := o
              unfold effO at h
              simp only at h
              split at h
              · rename_i c
                split at h
                · rename_i g hcal
                  rw [bindO_iff] at h
                  obtain ⟨l, hev, h⟩ := h
                  rw [bindO_iff] at h
                  obtain ⟨v, hg, h⟩ := h
                  obtain ⟨hk, h⟩ := h
                  obtain ⟨cal, args, ts⟩ := c
                  simp only at hcal hev
                  subst hcal
                  have hft : footA C me ⟨dst, .call ⟨.value g, args, ts⟩, ty, pos, after, guard⟩ a (base + i) = ⟨none, none, [], false, false⟩ := by
                    simp only [footA, hg, hev]
                    cases v <;> simp only [kind0] at hk <;> try (cases hk; done)
                    · rename_i f x y
                      cases f <;> simp only [Bool.and_eq_true] at hk <;> try (cases hk; done)
                      rename_i f
                      have h1 : (C.ext f).isSome = false := by
                        have := hk.1
                        cases hx : C.ext f <;> rw [hx] at this <;> simp_all
                      have h2 := Nat.eq_of_beq_eq_true hk.2
                      simp only [h1, h2, Bool.false_eq_true, if_false]
                    · rfl
                  rw [hft]
                  generalize hvis : visB base (base + n) (ws.getD i 0) (base + i) ⟨none, none, [], false, false⟩ = vis
                  have hvo : ∀ b, (b < base ∨ base + n ≤ b) → vis b = true := by
                    intro b hb
                    rw [← hvis]
                    unfold visB
                    simp only [Bool.and_true, Bool.or_eq_true]
                    right
                    rcases hb with hb | hb
                    · left; left; exact Nat.ble_eq_true_of_le hb
                    · left; right; exact Nat.ble_eq_true_of_le hb
                  obtain ⟨rv, Y, hY, hYs, hcont⟩ := h (G.hide vis) rfl (hide_size G vis) (fun b hb => by
                    rcases Nat.lt_or_ge b G.size with h1 | h1
                    · rw [hide_get, if_pos h1, if_pos (hvo b (by rw [hn] at hb; exact hb))]
                    · rw [hide_get, if_neg (by omega), get_none (by omega)])
                  have hop : opA C (lim C) me ⟨dst, .call ⟨.value g, args, ts⟩, ty, pos, after, guard⟩ a (G.hide vis) (base + i) = some (some rv, Y) := by
                    simp only [opA, hev, hg]
                    unfold callX at hY
                    cases v with
                    | fn f x y =>
                      cases f with
                      | func f =>
                        simp only at hY ⊢
                        rw [hY]; rfl
                      | _ => simp at hY
                    | yld b =>
                      simp only at hY ⊢
                      split at hY
                      · rename_i hr
                        simp only [Option.some.injEq, Prod.mk.injEq] at hY
                        obtain ⟨rfl, rfl⟩ := hY
                        rw [hr]
                      · cases hY
                    | _ => simp at hY
                  rw [hop]
                  simp only
                  rw [if_neg (by simp [Foot.idle]), Nat.ble_eq_true_of_le hYs, if_pos rfl]
                  simp only
                  have hok : ∀ gr : Bool, freeOf feet (ws.getD i 0) ⟨none, none, [], false, gr⟩ i = true := fun gr => free_of hrow hnp hpl rfl
                  rw [hok, if_pos rfl]
                  have hG' := hcont (G.merge vis Y) rfl (merge_size vis hYs) (fun b hb => by
                    rw [merge_get _ hYs]
                    rcases Nat.lt_or_ge b G.size with h1 | h1
                    · rw [if_pos h1, if_pos (hvo b (by rw [hn] at hb; exact hb))]
                    · rw [if_neg (by omega)]) (fun b h1 h2 => by
                    rw [merge_get _ hYs]
                    split
                    · split
                      · exact Or.inr rfl
                      · exact Or.inl rfl
                    · exact Or.inr rfl)
                  refine drawP_runs hn r _ (i + 1) _ _ _ _ (by simp [hf]) (by simp [hfM]) (by omega) (by rw [merge_size vis hYs]; omega) (hle' effFoot _ ?_) hops' htb' (hpl' _ fun h => absurd h hp) hG'
                  intro ft hft'
                  obtain ⟨r', w', f', p', g'⟩ := ft
                  unfold frOne effFoot clash at hft'
                  unfold frOne clash
                  simp only [Bool.not_eq_true', Bool.or_eq_false_iff, Bool.true_and] at hft' ⊢
                  obtain ⟨⟨⟨⟨⟨⟨q1, q2⟩, q3⟩, q4⟩, q5⟩, q6⟩, q7⟩ := hft'
                  exact ⟨⟨⟨⟨⟨⟨q1, q2⟩, q3⟩, q4⟩, q5⟩, by rw [q6, Bool.and_false]⟩, q7⟩
                · exact h.elim
              · exact h.elim
theorem wp_drawD {id : Nat} {ops : Array Oper} {a : AAct} {H : Heap} {K : Post} (tb : Tab) (hok : drawOk ops = true) (htb : tabOk ops.toList (waitsAll ops.toList) tb = true)
    (h : drawP C me ops H.size tb ops.toList 0 [] a ⟨H.objs ++ List.replicate ops.toList.length none, H.lock⟩ (setK C me H.size K)) : Wp C me rd (.region id ops true) a H K := by
  obtain ⟨r, h1, h2⟩ := drawP_runs (ops := ops.toList) (ws := waitsAll ops.toList) (n := ops.toList.length) rfl ops.toList tb 0 [] [] a _ rfl rfl (by omega) (by unfold Heap.size; simp) (fun _ _ h => h) (fun k => by rw [Nat.zero_add]) (fun k hk => by rw [Nat.zero_add] at hk ⊢; exact List.all_eq_true.1 htb k (List.mem_range.2 (by omega))) (fun k o hk => by omega) h
  have hreg : regionA C (lim C) me ops true a H = some r := by
    unfold regionA
    unfold drawOk at hok
    simp only [if_true]
    rw [if_pos hok]; exact h1
  unfold Wp
  simp only [codeA, hreg, Option.map_some, bindO_some]
  exact h2
/-! ### as equations -/
@[congr] theorem drawP_congr {arr : Array Oper} {base : Nat} {tb : Tab} {l : List Oper} {i i' : Nat} {feet feet' : List Foot} {a a' : AAct} {G G' : Heap} {K : PostS} (hi : i = i') (hf : feet = feet') (ha : a = a') (hG : G = G') : drawP C me arr base tb l i feet a G K = drawP C me arr base tb l i' feet' a' G' K := by rw [hi, hf, ha, hG]
section eqs
variable {arr : Array Oper} {base : Nat} {tb : Tab}
@[go_sem ↓] theorem drawP_nil (i : Nat) (feet : List Foot) (a : AAct) (G : Heap) (K : PostS) : drawP C me arr base tb [] i feet a G K = AtS K a G := by unfold drawP; rfl
def plainOp (op : Op) : Bool :=
  match op with
  | .move _ | .assign _ | .pick .. | .build .. | .nilCheck _ | .binOp .. | .unOp .. | .convert .. | .makeInterface .. | .makeFunc .. | .fieldAddr .. | .field .. | .indexAddr .. | .index .. | .extract .. => true
  | _ => false
theorem plainOp_eq (o : Oper) : plainO o = plainOp o.op := rfl
def footD (C : Cfg) (me : FuncId) (d : Option Tmp) (op : Op) (a : AAct) (slot : Nat) : Foot := footA C me (bareO d op) a slot
def contP (C : Cfg) (me : FuncId) (arr : Array Oper) (base : Nat) (tb : Tab) (r : List Oper) (i : Nat) (feet : List Foot) (d : Option Tmp) (a : AAct) (K : PostS) : PostO := fun v G => drawP C me arr base tb r i feet (a.put d v) G K
def contQ (C : Cfg) (me : FuncId) (arr : Array Oper) (base : Nat) (tb : Tab) (r : List Oper) (i : Nat) (feet : List Foot) (d : Option Tmp) (a : AAct) (G : Heap) (K : PostS) : PostO := fun v _ => drawP C me arr base tb r i feet (a.put d v) G K
@[go_sem ↓] theorem contP_some (r : List Oper) (i : Nat) (feet : List Foot) (d : Tmp) (s : Nat) (l : List (Tmp × AV)) (m : List Nat) (K : PostS) (v : AV) (G : Heap) : AtO (contP C me arr base tb r i feet (some d) ⟨s, l, m⟩ K) v G = drawP C me arr base tb r i feet ⟨s, putT s d v l, m⟩ G K := by
  unfold AtO contP; simp only [AAct.put, putT]; split <;> rfl
@[go_sem ↓] theorem contP_none (r : List Oper) (i : Nat) (feet : List Foot) (a : AAct) (K : PostS) (v : AV) (G : Heap) : AtO (contP C me arr base tb r i feet none a K) v G = drawP C me arr base tb r i feet a G K := rfl
@[go_sem ↓] theorem contQ_some (r : List Oper) (i : Nat) (feet : List Foot) (d : Tmp) (s : Nat) (l : List (Tmp × AV)) (m : List Nat) (G : Heap) (K : PostS) (v : AV) (G' : Heap) : AtO (contQ C me arr base tb r i feet (some d) ⟨s, l, m⟩ G K) v G' = drawP C me arr base tb r i feet ⟨s, putT s d v l, m⟩ G K := by
  unfold AtO contQ; simp only [AAct.put, putT]; split <;> rfl
def stepDP (C : Cfg) (me : FuncId) (arr : Array Oper) (base : Nat) (tb : Tab) (d : Option Tmp) (op : Op) (r : List Oper) (i : Nat) (feet : List Foot) (a : AAct) (G : Heap) (K : PostS) : Prop :=
  iteB (plainOp op) (WpO C me d op a G 0 (contQ C me arr base tb.tail r (i + 1) (feet ++ [noFoot]) d a G K))
    (iteB (locOp op) (iteB (okFootT base (tb.headD ([], [], false)).2.1 (footD C me d op a (base + i)) && freeT feet (tb.headD ([], [], false)).1 (footD C me d op a (base + i)))
        (WpO C me d op a G (base + i) (contP C me arr base tb.tail r (i + 1) (feet ++ [footD C me d op a (base + i)]) d a K)) False)
      (iteB (tb.headD ([], [], false)).2.2
        (iteB (tb.headD ([], [], false)).1.isEmpty (effO C me base (base + arr.toList.length) (bareO d op) a G (contP C me arr base tb.tail r (i + 1) (feet ++ [effFoot]) d a K)) (iteB (freeT feet (tb.headD ([], [], false)).1 stillFoot) (stillO C me base (base + arr.toList.length) (tb.headD ([], [], false)).2.1 (bareO d op) a G (contP C me arr base tb.tail r (i + 1) (feet ++ [stillFoot]) d a K)) False))
        (iteB (freeT feet (tb.headD ([], [], false)).1 (idleFoot C me (bareO d op) a (base + i)))
          (WpJ C me d op a { objs := [], lock := 0 } (contQ C me arr base tb.tail r (i + 1) (feet ++ [idleFoot C me (bareO d op) a (base + i)]) d a G K)) False)))
@[congr] theorem stepDP_congr {d : Option Tmp} {op : Op} {r : List Oper} {i i' : Nat} {feet feet' : List Foot} {a a' : AAct} {G G' : Heap} {K : PostS} (hi : i = i') (hf : feet = feet') (ha : a = a') (hG : G = G') : stepDP C me arr base tb d op r i feet a G K = stepDP C me arr base tb d op r i' feet' a' G' K := by rw [hi, hf, ha, hG]
theorem drawP_step (o : Oper) (r : List Oper) (i : Nat) (feet : List Foot) (a : AAct) (G : Heap) (K : PostS) :
    drawP C me arr base tb (o :: r) i feet a G K = bindO (wantedA arr a o) fun w => iteB w (stepDP C me arr base tb o.dst o.op r i feet a G K) (drawP C me arr base tb.tail r (i + 1) (feet ++ [noFoot]) (a.put o.dst undefA) G K) := by
  have e1 : ∀ s, footA C me o a s = footD C me o.dst o.op a s := fun s => rfl
  have e2 : ∀ s, idleFoot C me o a s = idleFoot C me (bareO o.dst o.op) a s := fun s => rfl
  conv => lhs; unfold drawP
  unfold stepDP
  rw [plainOp_eq, e1, e2]
  congr 1
  funext w
  cases w
  · rfl
  · simp only [iteB_true]
    cases hp : plainOp o.op
    · simp only [iteB_false]
      rfl
    · simp only [iteB_true]
      unfold WpO
      have := plain_slot (C := C) (me := me) (o := bareO o.dst o.op) hp a G (base + i) 0
      show bindO (opA C (lim C) me (bareO o.dst o.op) a G (base + i)) _ = bindO (opA C (lim C) me (bareO o.dst o.op) a G 0) _
      rw [this]; rfl
@[go_sem ↓] theorem drawP_op (d : Option Tmp) (op : Op) (ty : TypeId) (p : String) (af : Array Edge) (r : List Oper) (i : Nat) (feet : List Foot) (a : AAct) (G : Heap) (K : PostS) :
    drawP C me arr base tb (⟨d, op, ty, p, af, none⟩ :: r) i feet a G K = stepDP C me arr base tb d op r i feet a G K := by
  rw [drawP_step]; rfl
@[go_sem ↓] theorem drawP_guard (d : Tmp) (op : Op) (ty : TypeId) (p : String) (af : Array Edge) (j : Nat) (w : Bool) (r : List Oper) (i : Nat) (feet : List Foot) (s : Nat) (l : List (Tmp × AV)) (m : List Nat) (G : Heap) (K : PostS) :
    drawP C me arr base tb (⟨some d, op, ty, p, af, some (j, w)⟩ :: r) i feet ⟨s, l, m⟩ G K = bindO (yieldAt ((arr.toList[j]?).bind (·.dst)) ⟨s, l, m⟩) fun y => iteB (y == some w) (stepDP C me arr base tb (some d) op r i feet ⟨s, l, m⟩ G K) (drawP C me arr base tb.tail r (i + 1) (feet ++ [noFoot]) ⟨s, putT s d undefA l, m⟩ G K) := by
  rw [drawP_step]
  have e : (AAct.mk s l m).put (some d) undefA = ⟨s, putT s d undefA l, m⟩ := by simp only [AAct.put, putT]; split <;> rfl
  rw [e]
  simp only [wantedA, yieldedA, yieldAt, Array.getElem?_toList]
  cases (arr[j]?).bind (·.dst) with
  | none => rfl
  | some d =>
    simp only
    rcases assoc d l with _ | v
    · rfl
    · rcases v with v | _ | l | _ | _ | _ | _ | _ | _ | _ | _ <;> try rfl
      · cases v <;> rfl
      · cases l <;> rfl
@[go_sem ↓] theorem stepDP_move (d : Option Tmp) (x) (r : List Oper) (i : Nat) (feet : List Foot) (a : AAct) (G : Heap) (K : PostS) : stepDP C me arr base tb d (.move x) r i feet a G K = WpO C me d (.move x) a G 0 (contQ C me arr base tb.tail r (i + 1) (feet ++ [noFoot]) d a G K) := rfl
@[go_sem ↓] theorem stepDP_assign (d : Option Tmp) (x) (r : List Oper) (i : Nat) (feet : List Foot) (a : AAct) (G : Heap) (K : PostS) : stepDP C me arr base tb d (.assign x) r i feet a G K = WpO C me d (.assign x) a G 0 (contQ C me arr base tb.tail r (i + 1) (feet ++ [noFoot]) d a G K) := rfl
@[go_sem ↓] theorem stepDP_pick (d : Option Tmp) (x y z) (r : List Oper) (i : Nat) (feet : List Foot) (a : AAct) (G : Heap) (K : PostS) : stepDP C me arr base tb d (.pick x y z) r i feet a G K = WpO C me d (.pick x y z) a G 0 (contQ C me arr base tb.tail r (i + 1) (feet ++ [noFoot]) d a G K) := rfl
@[go_sem ↓] theorem stepDP_binOp (d : Option Tmp) (o t x y z) (r : List Oper) (i : Nat) (feet : List Foot) (a : AAct) (G : Heap) (K : PostS) : stepDP C me arr base tb d (.binOp o t x y z) r i feet a G K = WpO C me d (.binOp o t x y z) a G 0 (contQ C me arr base tb.tail r (i + 1) (feet ++ [noFoot]) d a G K) := rfl
@[go_sem ↓] theorem stepDP_unOp (d : Option Tmp) (o t x) (r : List Oper) (i : Nat) (feet : List Foot) (a : AAct) (G : Heap) (K : PostS) : stepDP C me arr base tb d (.unOp o t x) r i feet a G K = WpO C me d (.unOp o t x) a G 0 (contQ C me arr base tb.tail r (i + 1) (feet ++ [noFoot]) d a G K) := rfl
@[go_sem ↓] theorem stepDP_convert (d : Option Tmp) (t u x) (r : List Oper) (i : Nat) (feet : List Foot) (a : AAct) (G : Heap) (K : PostS) : stepDP C me arr base tb d (.convert t u x) r i feet a G K = WpO C me d (.convert t u x) a G 0 (contQ C me arr base tb.tail r (i + 1) (feet ++ [noFoot]) d a G K) := rfl
@[go_sem ↓] theorem stepDP_fieldAddr (d : Option Tmp) (t x j) (r : List Oper) (i : Nat) (feet : List Foot) (a : AAct) (G : Heap) (K : PostS) : stepDP C me arr base tb d (.fieldAddr t x j) r i feet a G K = WpO C me d (.fieldAddr t x j) a G 0 (contQ C me arr base tb.tail r (i + 1) (feet ++ [noFoot]) d a G K) := rfl
@[go_sem ↓] theorem stepDP_indexAddr (d : Option Tmp) (t x y) (r : List Oper) (i : Nat) (feet : List Foot) (a : AAct) (G : Heap) (K : PostS) : stepDP C me arr base tb d (.indexAddr t x y) r i feet a G K = WpO C me d (.indexAddr t x y) a G 0 (contQ C me arr base tb.tail r (i + 1) (feet ++ [noFoot]) d a G K) := rfl
@[go_sem ↓] theorem stepDP_extract (d : Option Tmp) (x j) (r : List Oper) (i : Nat) (feet : List Foot) (a : AAct) (G : Heap) (K : PostS) : stepDP C me arr base tb d (.extract x j) r i feet a G K = WpO C me d (.extract x j) a G 0 (contQ C me arr base tb.tail r (i + 1) (feet ++ [noFoot]) d a G K) := rfl
@[go_sem ↓] theorem stepDP_load (d : Option Tmp) (t x) (r : List Oper) (i : Nat) (feet : List Foot) (a : AAct) (G : Heap) (K : PostS) : stepDP C me arr base tb d (.load t x) r i feet a G K = bindO (nf (footD C me d (.load t x) a (base + i))) fun ft => iteB (okFootT base (tb.headD ([], [], false)).2.1 ft && freeT feet (tb.headD ([], [], false)).1 ft) (WpO C me d (.load t x) a G (base + i) (contP C me arr base tb.tail r (i + 1) (feet ++ [ft]) d a K)) False := rfl
@[go_sem ↓] theorem stepDP_store (d : Option Tmp) (t x y) (r : List Oper) (i : Nat) (feet : List Foot) (a : AAct) (G : Heap) (K : PostS) : stepDP C me arr base tb d (.store t x y) r i feet a G K = bindO (nf (footD C me d (.store t x y) a (base + i))) fun ft => iteB (okFootT base (tb.headD ([], [], false)).2.1 ft && freeT feet (tb.headD ([], [], false)).1 ft) (WpO C me d (.store t x y) a G (base + i) (contP C me arr base tb.tail r (i + 1) (feet ++ [ft]) d a K)) False := rfl
@[go_sem ↓] theorem stepDP_mapUpdate (d : Option Tmp) (t x y z) (r : List Oper) (i : Nat) (feet : List Foot) (a : AAct) (G : Heap) (K : PostS) : stepDP C me arr base tb d (.mapUpdate t x y z) r i feet a G K = bindO (nf (footD C me d (.mapUpdate t x y z) a (base + i))) fun ft => iteB (okFootT base (tb.headD ([], [], false)).2.1 ft && freeT feet (tb.headD ([], [], false)).1 ft) (WpO C me d (.mapUpdate t x y z) a G (base + i) (contP C me arr base tb.tail r (i + 1) (feet ++ [ft]) d a K)) False := rfl
@[go_sem ↓] theorem stepDP_lookup (d : Option Tmp) (t x y z) (r : List Oper) (i : Nat) (feet : List Foot) (a : AAct) (G : Heap) (K : PostS) : stepDP C me arr base tb d (.lookup t x y z) r i feet a G K = bindO (nf (footD C me d (.lookup t x y z) a (base + i))) fun ft => iteB (okFootT base (tb.headD ([], [], false)).2.1 ft && freeT feet (tb.headD ([], [], false)).1 ft) (WpO C me d (.lookup t x y z) a G (base + i) (contP C me arr base tb.tail r (i + 1) (feet ++ [ft]) d a K)) False := rfl
@[go_sem ↓] theorem stepDP_alloc (d : Option Tmp) (t) (r : List Oper) (i : Nat) (feet : List Foot) (a : AAct) (G : Heap) (K : PostS) : stepDP C me arr base tb d (.alloc t) r i feet a G K = bindO (nf (footD C me d (.alloc t) a (base + i))) fun ft => iteB (okFootT base (tb.headD ([], [], false)).2.1 ft && freeT feet (tb.headD ([], [], false)).1 ft) (WpO C me d (.alloc t) a G (base + i) (contP C me arr base tb.tail r (i + 1) (feet ++ [ft]) d a K)) False := rfl
@[go_sem ↓] theorem stepDP_buildSlice (d : Option Tmp) (t n x) (r : List Oper) (i : Nat) (feet : List Foot) (a : AAct) (G : Heap) (K : PostS) : stepDP C me arr base tb d (.buildSlice t n x) r i feet a G K = bindO (nf (footD C me d (.buildSlice t n x) a (base + i))) fun ft => iteB (okFootT base (tb.headD ([], [], false)).2.1 ft && freeT feet (tb.headD ([], [], false)).1 ft) (WpO C me d (.buildSlice t n x) a G (base + i) (contP C me arr base tb.tail r (i + 1) (feet ++ [ft]) d a K)) False := rfl
@[go_sem ↓] theorem stepDP_append (d : Option Tmp) (args ts) (r : List Oper) (i : Nat) (feet : List Foot) (a : AAct) (G : Heap) (K : PostS) : stepDP C me arr base tb d (.call ⟨.builtin .append, args, ts⟩) r i feet a G K = bindO (nf (footD C me d (.call ⟨.builtin .append, args, ts⟩) a (base + i))) fun ft => iteB (okFootT base (tb.headD ([], [], false)).2.1 ft && freeT feet (tb.headD ([], [], false)).1 ft) (WpO C me d (.call ⟨.builtin .append, args, ts⟩) a G (base + i) (contP C me arr base tb.tail r (i + 1) (feet ++ [ft]) d a K)) False := rfl
@[go_sem ↓] theorem stepDP_callv (d : Option Tmp) (g args ts) (r : List Oper) (i : Nat) (feet : List Foot) (a : AAct) (G : Heap) (K : PostS) : stepDP C me arr base tb d (.call ⟨.value g, args, ts⟩) r i feet a G K = iteB (tb.headD ([], [], false)).2.2 (iteB (tb.headD ([], [], false)).1.isEmpty (effO C me base (base + arr.toList.length) (bareO d (.call ⟨.value g, args, ts⟩)) a G (contP C me arr base tb.tail r (i + 1) (feet ++ [effFoot]) d a K)) (iteB (freeT feet (tb.headD ([], [], false)).1 stillFoot) (stillO C me base (base + arr.toList.length) (tb.headD ([], [], false)).2.1 (bareO d (.call ⟨.value g, args, ts⟩)) a G (contP C me arr base tb.tail r (i + 1) (feet ++ [stillFoot]) d a K)) False)) (bindO (nf (idleFoot C me (bareO d (.call ⟨.value g, args, ts⟩)) a (base + i))) fun ft => iteB (freeT feet (tb.headD ([], [], false)).1 ft) (WpJ C me d (.call ⟨.value g, args, ts⟩) a { objs := [], lock := 0 } (contQ C me arr base tb.tail r (i + 1) (feet ++ [ft]) d a G K)) False) := rfl
def objsE (o : Option AV) : List Nat := match o with | some v => objsOf v | none => []
@[go_sem] theorem objsE_some (v : AV) : objsE (some v) = objsOf v := rfl
@[go_sem] theorem objs_ptr (b v k : Nat) : objsOf (.ptr b v k) = [b] := rfl
@[go_sem] theorem objs_sl (b v o n : Nat) (c : Option Nat) : objsOf (.sl b v o n c) = [b] := rfl
@[go_sem] theorem objs_v (x : Value) : objsOf (.v x) = [] := rfl
@[go_sem] theorem objs_vs (s : Nat) (l : List AV) (c : Option Nat) : objsOf (.vs s l c) = [] := rfl
@[go_sem] theorem objs_ro (x : AV) (k : Nat) : objsOf (.ro x k) = [] := rfl
def objsL (a : AAct) : List Operand → List Nat
  | [] => []
  | x :: r => objsE (a.eval x) ++ objsL a r
theorem objsL_eq (a : AAct) : ∀ l : List Operand, l.flatMap (objsO a) = objsL a l
  | [] => rfl
  | x :: r => by rw [List.flatMap_cons, objsL_eq a r]; rfl
@[go_sem] theorem objsL_nil (a : AAct) : objsL a [] = [] := rfl
@[go_sem] theorem objsL_cons (a : AAct) (x : Operand) (r : List Operand) : objsL a (x :: r) = objsE (a.eval x) ++ objsL a r := rfl
def objs1 (a : AAct) (l : List Operand) : List Nat := match l with | [] => [] | x :: _ => objsE (a.eval x)
@[go_sem] theorem objs1_cons (a : AAct) (x : Operand) (r : List Operand) : objs1 a (x :: r) = objsE (a.eval x) := rfl
@[go_sem] theorem footD_load (d : Option Tmp) (t x) (a : AAct) (s : Nat) : footD C me d (.load t x) a s = ⟨some (objsE (a.eval x)), some [], [], false, false⟩ := rfl
@[go_sem] theorem footD_store (d : Option Tmp) (t x y) (a : AAct) (s : Nat) : footD C me d (.store t x y) a s = ⟨some (objsE (a.eval x)), some (objsE (a.eval x)), [], false, false⟩ := rfl
@[go_sem] theorem footD_mapUpdate (d : Option Tmp) (t x y z) (a : AAct) (s : Nat) : footD C me d (.mapUpdate t x y z) a s = ⟨some (objsE (a.eval x)), some (objsE (a.eval x)), [], false, false⟩ := rfl
@[go_sem] theorem footD_lookup (d : Option Tmp) (t x y z) (a : AAct) (s : Nat) : footD C me d (.lookup t x y z) a s = ⟨some (objsE (a.eval x)), some [], [], false, false⟩ := rfl
@[go_sem] theorem footD_alloc (d : Option Tmp) (t) (a : AAct) (s : Nat) : footD C me d (.alloc t) a s = ⟨some [], some [], [s], false, false⟩ := rfl
@[go_sem] theorem footD_build (d : Option Tmp) (t n x) (a : AAct) (s : Nat) : footD C me d (.buildSlice t n x) a s = ⟨some [], some [], [s], false, false⟩ := rfl
@[go_sem] theorem footD_append (d : Option Tmp) (args ts) (a : AAct) (s : Nat) : footD C me d (.call ⟨.builtin .append, args, ts⟩) a s = ⟨some (objsL a args.toList), some (objs1 a args.toList), [s], false, false⟩ := by
  unfold footD footA bareO; simp only
  rw [objsL_eq]
  cases args.toList <;> rfl
@[go_sem] theorem idleFoot_call (d : Option Tmp) (g args ts) (a : AAct) (s : Nat) : idleFoot C me (bareO d (.call ⟨.value g, args, ts⟩)) a s = ⟨some [], some [], [], false, false⟩ := rfl
@[go_sem] theorem okFootT_mk (b : Nat) (w l : List Nat) (x : Option (List Nat)) (f : List Nat) (p g : Bool) : okFootT b w ⟨some l, x, f, p, g⟩ = l.all fun c => ltB c b || w.any fun k => c == b + k := rfl
@[go_sem] theorem freeT_nil (feet : List Foot) (ft : Foot) : freeT feet [] ft = true := rfl
@[go_sem] theorem freeT_cons (feet : List Foot) (k : Nat) (u : List Nat) (ft : Foot) : freeT feet (k :: u) ft = (frOne (feet[k]?) ft && freeT feet u ft) := rfl
def meetL (l : List Nat) (m : List Nat) : Bool := l.any fun x => m.any fun y => x == y
@[go_sem] theorem meetL_nil (m : List Nat) : meetL [] m = false := rfl
@[go_sem] theorem meetL_nilr (l : List Nat) : meetL l [] = false := by unfold meetL; induction l <;> simp_all
theorem meet_L : ∀ l m : List Nat, meet (some l) (some m) = meetL l m
  | [], _ => rfl
  | x :: l, [] => by rw [meetL_nilr]; rfl
  | x :: l, y :: m => by
    show ((x :: l).any (y :: m).contains) = _
    unfold meetL
    congr 1
    funext z
    exact List.contains_eq_any_beq
@[go_sem] theorem frOne_mk (r w f : List Nat) (p : Bool) (r' w' f' : List Nat) (p' : Bool) : frOne (some ⟨some r, some w, f, p, false⟩) ⟨some r', some w', f', p', false⟩ = !(meetL w r' || meetL w w' || meetL r w' || meetL f r' || meetL f w') := by
  unfold frOne clash
  simp only [meet_L, Bool.false_and, Bool.or_false]
@[go_sem] theorem meetL_one (x y : Nat) : meetL [x] [y] = (x == y) := by simp [meetL]
@[go_sem] theorem ltB_zero (n : Nat) : ltB 0 (n + 1) = true := by simp [ltB]
@[go_sem] theorem ltB_succ (a n : Nat) : ltB (a + 1) (n + 1) = ltB a n := by simp [ltB]
@[go_sem] theorem tail_tab (x : List Nat × List Nat × Bool) (tb : Tab) : (x :: tb).tail = tb := rfl
@[congr] theorem stillV_congr {top : Nat} {vl : List Nat} {d : Option Tmp} {v v' : AV} {l l' : List AV} {G G' : Heap} {cont : AV → Heap → Prop} (hv : v = v') (hl : l = l') (hG : G = G') : stillV C me base top vl d v l G cont = stillV C me base top vl d v' l' G' cont := by rw [hv, hl, hG]
@[congr] theorem effV_congr {top : Nat} {d : Option Tmp} {v v' : AV} {l l' : List AV} {G G' : Heap} {cont : AV → Heap → Prop} (hv : v = v') (hl : l = l') (hG : G = G') : effV C me base top d v l G cont = effV C me base top d v' l' G' cont := by rw [hv, hl, hG]
end eqs
end
end Go.Ev
/- Appending; memory that is not known, with a list behind it that is. -/
namespace Go.Ev
section
variable {P : Program}
/-- n elements more -/
def appTo (e sz by' : Nat) (H : Heap) (slot n : Nat) (new : List AV) (s : AV) : Option (AV × Heap) :=
  match s with
  | .v (.slice none 0 0) => if n = 0 then some (s, H) else (if fitsA by' n && ([] : List AV).all AV.flat then some (.sl slot 0 0 n none, H.put slot (.cells 0 (Nat.max (boundL []) (boundL new)) e sz true ([] ++ new))) else none)
  | .vs z xs cap =>
    if z ≠ sz then none else
    if n = 0 then some (s, H) else
    match cap with
    | some c => if c = xs.length then (if fitsA by' (xs.length + n) && (xs.flatMap AV.cells).all AV.flat then some (.sl slot 0 0 (xs.length + n) none, H.put slot (.cells 0 (Nat.max (boundL (xs.flatMap AV.cells)) (boundL new)) e sz true (xs.flatMap AV.cells ++ new))) else none) else none
    | none => none
  | .sl b v off len cap =>
    if n = 0 then some (s, H) else
    match H.row b v with
    | some (m, _, z, g, cs) =>
      match cap with
      | some c =>
        if len + n ≤ c then
          (match storeCells H b v (off + len * sz) new with | some H' => some (.sl b v off (len + n) cap, H') | none => none)
        else if off + len * sz ≤ cs.length then (if fitsA by' (len + n) && ((cs.drop off).take (len * sz)).all AV.flat then some (.sl slot 0 0 (len + n) none, H.put slot (.cells 0 (Nat.max (boundL ((cs.drop off).take (len * sz))) (boundL new)) e sz true ((cs.drop off).take (len * sz) ++ new))) else none) else none
      | none =>
        if z ≠ sz then none else
        if off + (len + n) * sz ≤ cs.length then
          (match storeCells H b v (off + len * sz) new with | some H' => some (.sl b v off (len + n) cap, H') | none => none)
        else if g = true ∧ off + len * sz = cs.length ∧ H.lock ≤ b ∧ fitsA by' (len + n) = true then
          some (.sl b (v + 1) 0 (len + n) none, H.put b (.cells (v + 1) (Nat.max m (boundL new)) e sz true (cs.drop off ++ new)))
        else none
    | _ => none
  | _ => none
theorem appTo_eq (e : TypeId) (i : TypeInfo) (H : Heap) (slot n : Nat) (new : List AV) (s : AV) : appendTo H slot e i n new s = appTo e i.size i.bytes H slot n new s := by
  unfold appendTo appTo madeA
  rfl
def appG (e sz by' : Nat) (H : Heap) (slot : Nat) (s : AV) (c : Option (Nat × List AV)) : Option (AV × Heap) :=
  match c with
  | none => none
  | some (n, new) => if new.all AV.flat = false then none else appTo e sz by' H slot n new s
theorem app_eq {t u e : TypeId} {i : TypeInfo} {z : AV} (hi : isIntT P u = false) (hu : P.underlying t = some (.slice e)) (hinf : P.info? e = some i) (hz : zeroT P e = some z) (h1 : i.size ≠ 0) (h2 : i.bytes ≠ 0) (h3 : z.cells.length = i.size) (H : Heap) (slot : Nat) (s x : AV) :
    appendA P H slot [t, u] [s, x] = appG e i.size i.bytes H slot s (cellsFrom H i.size x) := by
  unfold appendA appG
  simp only [hi, hu, hinf, hz, Bool.false_eq_true, if_false]
  cases cellsFrom H i.size x with
  | none => rfl
  | some p =>
    simp only
    by_cases hf : p.2.all AV.flat = false
    · rw [if_pos (Or.inr (Or.inr (Or.inl hf))), if_pos hf]
    · rw [if_neg (by rintro (h | h | h | h); exact h1 h; exact h2 h; exact hf h; exact h h3), if_neg hf, appTo_eq]
theorem app_eq2 {t u e sz by' : Nat} (hi : isIntT P u = false) (hu : P.underlying t = some (.slice e)) (hinf : (P.info? e).map (fun i => (i.size, i.bytes)) = some (sz, by')) (hz : (zeroT P e).map (fun z => z.cells.length) = some sz) (h1 : sz ≠ 0) (h2 : by' ≠ 0) (H : Heap) (slot : Nat) (s x : AV) :
    appendA P H slot [t, u] [s, x] = appG e sz by' H slot s (cellsFrom H sz x) := by
  obtain ⟨i, hi1, hi2⟩ := Option.map_eq_some_iff.1 hinf
  obtain ⟨z, hz1, hz2⟩ := Option.map_eq_some_iff.1 hz
  simp only [Prod.mk.injEq] at hi2
  obtain ⟨rfl, rfl⟩ := hi2
  exact app_eq hi hu hi1 hz1 h1 h2 hz2 H slot s x
end
@[go_sem] theorem appG_some (e sz b : Nat) (H : Heap) (slot : Nat) (s : AV) (n : Nat) (new : List AV) : appG e sz b H slot s (some (n, new)) = if new.all AV.flat = false then none else appTo e sz b H slot n new s := rfl
@[go_sem] theorem cells_vs' (H : Heap) (sz z : Nat) (xs : List AV) (c : Option Nat) : cellsFrom H sz (.vs z xs c) = if z = sz then some (xs.length, xs.flatMap AV.cells) else none := rfl
def rowCells (off len sz : Nat) (r : Option (Nat × TypeId × Nat × Bool × List AV)) : Option (Nat × List AV) := match r with | some (_, _, _, _, cs) => if off + len * sz ≤ cs.length then some (len, (cs.drop off).take (len * sz)) else none | _ => none
@[go_sem] theorem cells_sl' (H : Heap) (sz b v off len : Nat) (c : Option Nat) : cellsFrom H sz (.sl b v off len c) = rowCells off len sz (H.row b v) := rfl
@[go_sem] theorem rowCells_some (off len sz m e z : Nat) (g : Bool) (cs : List AV) : rowCells off len sz (some (m, e, z, g, cs)) = if off + len * sz ≤ cs.length then some (len, (cs.drop off).take (len * sz)) else none := rfl
/-- to nothing: a row of its own -/
@[go_sem] theorem appTo_nil (e sz b : Nat) (H : Heap) (slot n : Nat) (new : List AV) : appTo e sz b H slot n new (.v (.slice none 0 0)) = if n = 0 then some (.v (.slice none 0 0), H) else if fitsA b n = true then some (.sl slot 0 0 n none, H.put slot (.cells 0 (boundL new) e sz true new)) else none := by
  unfold appTo
  simp only [List.all_nil, Bool.and_true, List.nil_append]
  rw [show Nat.max (boundL []) (boundL new) = boundL new from Nat.zero_max (boundL new)]
theorem appTo_own {e sz b' : Nat} {H : Heap} {slot b v len n : Nat} {new : List AV} {m e' : Nat} {cs : List AV} (hr : H.row b v = some (m, e', sz, true, cs)) (hl : len * sz = cs.length) (hk : H.lock ≤ b) (hf : fitsA b' (len + n) = true) (hn : 0 < n) (hs : 0 < sz) :
    appTo e sz b' H slot n new (.sl b v 0 len none) = some (.sl b (v + 1) 0 (len + n) none, H.put b (.cells (v + 1) (Nat.max m (boundL new)) e sz true (cs ++ new))) := by
  unfold appTo
  simp only [hr]
  rw [if_neg (by omega), if_neg (by simp), if_neg, if_pos ⟨trivial, by simpa using hl, hk, hf⟩]
  · rfl
  · have : (len + n) * sz = len * sz + n * sz := Nat.add_mul ..
    have h2 : 0 < n * sz := Nat.mul_pos hn hs
    omega
/-! ### memory that is not known, with a list behind it -/
@[go_sem] theorem plus_mk (l : List (Option AObj)) (k : Nat) (E : List (Option AObj)) : (Heap.mk l k).plus E = ⟨l ++ E, k⟩ := rfl
@[go_sem] theorem plus_plus' (X : Heap) (E F : List (Option AObj)) : (X.plus E).plus F = X.plus (E ++ F) := plus_plus X E F
section
variable {X : Heap} {N : Nat}
theorem rowP (hN : X.size = N) (E : List (Option AObj)) (k v : Nat) : (X.plus E).row (N + k) v = objRow v ((E[k]?).join) := by
  subst hN
  unfold Heap.row objRow
  rw [plus_get_hi _ (by omega), Nat.add_sub_cancel_left]
  cases (E[k]?).join with
  | none => rfl
  | some o => cases o <;> rfl
theorem rowP0 (hN : X.size = N) (E : List (Option AObj)) (v : Nat) : (X.plus E).row N v = objRow v ((E[0]?).join) := rowP hN E 0 v
theorem putP (hN : X.size = N) (E : List (Option AObj)) (k : Nat) (o : AObj) : (X.plus E).put (N + k) o = X.plus (setOrPush (some o) k E) := by
  subst hN
  rw [plus_put_hi _ _ (by omega), Nat.add_sub_cancel_left]
theorem putP0 (hN : X.size = N) (E : List (Option AObj)) (o : AObj) : (X.plus E).put N o = X.plus (setOrPush (some o) 0 E) := putP hN E 0 o
def stP (X : Heap) (E : List (Option AObj)) (k v off : Nat) (xs : List AV) (o : Option AObj) : Option Heap :=
  match o with
  | some (.cells w m e sz g cs) => if w = v ∧ off + xs.length ≤ cs.length ∧ xs.all AV.flat = true then some (X.plus (setOrPush (some (.cells w (Nat.max m (boundL xs)) e sz g (splice off xs cs))) k E)) else none
  | _ => none
@[go_sem] theorem stP_cells (X : Heap) (E : List (Option AObj)) (k v off : Nat) (xs : List AV) (w m e sz g) (cs : List AV) : stP X E k v off xs (some (.cells w m e sz g cs)) = if w = v ∧ off + xs.length ≤ cs.length ∧ xs.all AV.flat = true then some (X.plus (setOrPush (some (.cells w (Nat.max m (boundL xs)) e sz g (splice off xs cs))) k E)) else none := rfl
theorem storeP (hN : X.size = N) (hl : X.lock ≤ N) (E : List (Option AObj)) (k v off : Nat) (xs : List AV) : storeCells (X.plus E) (N + k) v off xs = stP X E k v off xs ((E[k]?).join) := by
  unfold storeCells
  rw [rowP hN]
  unfold objRow stP
  have hk : (X.plus E).lock ≤ N + k := by rw [plus_lock]; omega
  cases (E[k]?).join with
  | none => rfl
  | some o =>
    cases o with
    | cells w m e sz g cs =>
      simp only
      by_cases hw : w = v
      · subst hw
        simp only [if_true, true_and, hk, putP hN]
      · simp only [hw, if_false, false_and]
    | _ => rfl
theorem storeP0 (hN : X.size = N) (hl : X.lock ≤ N) (E : List (Option AObj)) (v off : Nat) (xs : List AV) : storeCells (X.plus E) N v off xs = stP X E 0 v off xs ((E[0]?).join) := storeP hN hl E 0 v off xs
theorem sizeP (hN : X.size = N) (E : List (Option AObj)) : (X.plus E).size = N + E.length := by rw [plus_size, hN]
theorem settleP (hN : X.size = N) (E : List (Option AObj)) (k : Nat) : settleH (N + k) (X.plus E) = if (E.drop k).all Option.isNone = true then X.plus (E.take k) else X.plus E := by
  subst hN
  unfold settleH Heap.plus Heap.size
  simp only
  rw [List.drop_append, List.drop_of_length_le (by omega), List.nil_append, Nat.add_sub_cancel_left]
  by_cases h : (E.drop k).all Option.isNone = true
  · rw [if_pos h, if_pos h, List.take_append, List.take_of_length_le (by omega), Nat.add_sub_cancel_left]
  · rw [if_neg h, if_neg h]
theorem settleP0 (hN : X.size = N) (E : List (Option AObj)) : settleH N (X.plus E) = if (E.drop 0).all Option.isNone = true then X.plus (E.take 0) else X.plus E := settleP hN E 0
theorem rowLo {b : Nat} (hb : b < X.size) (E : List (Option AObj)) (v : Nat) : (X.plus E).row b v = X.row b v := plus_row E hb
theorem putLo {b : Nat} (hb : b < X.size) (E : List (Option AObj)) (o : AObj) : (X.plus E).put b o = (X.put b o).plus E := plus_put E o hb
end
section
variable {C : Cfg} {me : FuncId} {rd : Option Nat}
theorem wp_drawX {id : Nat} {ops : Array Oper} {a : AAct} {H : Heap} {K : Post} (tb : Tab) (hok : drawOk ops = true) (htb : tabOk ops.toList (waitsAll ops.toList) tb = true)
    (h : drawP C me ops H.size tb ops.toList 0 [] a (H.plus (List.replicate ops.toList.length none)) (setK C me H.size K)) : Wp C me rd (.region id ops true) a H K := wp_drawD tb hok htb h
end
end Go.Ev
/- The same, of memory that begins with a list that is known, with places that stay behind it. -/
namespace Go.Ev
def HasE (rows : Fm) (E : List (Option AObj)) : Prop := ∀ p ∈ rows, E[p.1]? = some (some p.2)
structure MovesE (rows : Fm) (E : List (Option AObj)) (rows' : Fm) (E' : List (Option AObj)) : Prop where
  size : E.length ≤ E'.length
  same : ∀ j, j < E.length → ¬ keyIn j rows → E'[j]? = E[j]?
  keys : ∀ p ∈ rows', keyIn p.1 rows ∨ E.length ≤ p.1
theorem MovesE.refl (rows : Fm) (E : List (Option AObj)) : MovesE rows E rows E := ⟨Nat.le_refl _, fun _ _ _ => rfl, fun p hp => Or.inl ⟨p, hp, rfl⟩⟩
theorem MovesE.append (rows : Fm) (E G : List (Option AObj)) : MovesE rows E rows (E ++ G) := ⟨by simp, fun j hj _ => List.getElem?_append_left hj, fun p hp => Or.inl ⟨p, hp, rfl⟩⟩
theorem HasE.append {rows : Fm} {E : List (Option AObj)} (h : HasE rows E) (G : List (Option AObj)) : HasE rows (E ++ G) := fun p hp => by
  rw [List.getElem?_append_left (List.getElem?_eq_some_iff.1 (h p hp)).1]; exact h p hp
section
variable {C : Cfg} {me : FuncId} {S : Type}
end
end Go.Ev
/- What the rules for weakest preconditions take besides: plain lists, tests, numbers. -/
namespace Go.Ev
theorem ltB_n0 (a : Nat) : ltB a 0 = false := by simp [ltB]
attribute [go_sem] ltB_n0 List.any_cons List.any_nil repeatCells splice chunk bsFin ne_eq not_true_eq_false not_false_eq_true List.headD_cons Bool.false_eq_true Nat.le_refl Nat.zero_mul Nat.one_mul Nat.mul_one assoc_setI decide_true decide_false Bool.not_true Bool.not_false List.mem_cons List.not_mem_nil true_or or_true false_or or_false and_true true_and and_self List.getElem?_cons_succ List.getElem?_cons_zero Option.bind_some Option.map_some Option.map_none List.map_cons List.map_nil List.length_cons List.length_nil List.filterMap_cons List.filterMap_nil List.cons_append List.nil_append List.append_nil Nat.zero_add Nat.add_zero List.take_succ_cons List.take_zero List.take_nil List.drop_succ_cons List.drop_zero List.drop_nil List.all_cons List.all_nil Bool.and_true Bool.true_and Bool.false_and Bool.and_false Bool.or_true Bool.true_or Bool.or_false Bool.false_or beq_iff_eq beq_self_eq_true List.zip_cons_cons List.zip_nil_right List.zip_nil_left
end Go.Ev
namespace Go.Ev
open Go.Proofs
set_option maxRecDepth 100000
set_option linter.unusedSimpArgs false
/-! ### isIndex, lineOf -/
theorem ans65 {e : Exts} (he : Quiet e) (a : Int) (n : Nat) (hn : n < 2 ^ 63) : Ans (Cx e) 65 [intA a, intA n] (.v (.bool (decide (0 ≤ a ∧ a < n)))) := by
  have hw : IntKind.i64.wrap ((n : Int) - 1) = (n : Int) - 1 := wrap_in _ (by omega) (by omega)
  have hc := call69 he 0 ((n : Int) - 1) [a] (by simp) (.vs 1 [.v (.int .i64 a)] (some 1)) (Or.inr ⟨_, rfl⟩)
  rw [within_len] at hc
  unfold intA at hc
  unfold Ans
  rw [fn_step (fn_65 e) (show Tryz.f65.body = some _ from rfl)]
  simp -implicitDefEqProofs only [Tryz.f65, go_sem, ↓reduceIte, Int.reduceEq, Int.reduceLT, Int.reduceLE, List.reduceReplicate, intA, setT_nil, setT_cons, hw, hc]
theorem call65 {e : Exts} (he : Quiet e) (a : Int) (n : Nat) (hn : n < 2 ^ 63) (me : FuncId) (d : Option Tmp) (H : Heap) : callA (Cx e) (lim (Cx e)) me 65 d [.v (.int .i64 a), .v (.int .i64 n)] H = some (.v (.bool (decide (0 ≤ a ∧ a < n))), H) :=
  (ans65 he a n hn).call (ext_65 he) (pure_65 _ _ _) rfl H
theorem callI65 {e : Exts} (he : Quiet e) (a : Int) (n : Nat) (hn : n < 2 ^ 63) (me : FuncId) (d : Option Tmp) : callI (Cx e) me 65 d [.v (.int .i64 a), .v (.int .i64 n)] = some (.v (.bool (decide (0 ≤ a ∧ a < n)))) :=
  (ans65 he a n hn).callI (ext_65 he) (pure_65 _ _ _) rfl
set_option maxHeartbeats 2000000 in
theorem ans45 {e : Exts} (he : Quiet e) (t : Txt) (ht : Fits t) (ch : AV) (xs : List AV) (hch : SlOf 2 xs ch) (hall : All2 ChapA t xs) (a b c : Int) : ∃ x, LineO (lineAt t a b) x ∧ Ans (Cx e) 45 [.agg [ch], .agg [intA a, intA b, intA c]] x := by
  have hc1 := call65 he a t.length ht.chs
  by_cases h1 : 0 ≤ a ∧ a < t.length
  · obtain ⟨i, rfl⟩ : ∃ i : Nat, a = i := ⟨a.toNat, by omega⟩
    obtain ⟨cp, hs⟩ := at_lt t i (by omega)
    obtain ⟨y, hy, l, rfl, lxs, hl, hls⟩ := hall.get hs
    have hm := List.mem_of_getElem? hs
    have hc2 := call65 he b cp.2.length (ht.lines cp hm)
    rw [decide_eq_true h1] at hc1
    by_cases h2 : 0 ≤ b ∧ b < cp.2.length
    · obtain ⟨j, rfl⟩ : ∃ j : Nat, b = j := ⟨b.toNat, by omega⟩
      obtain ⟨ln, hn⟩ := at_lt cp.2 j (by omega)
      obtain ⟨lx, hx, hlx⟩ := hls.get hn
      have hlx : SlOf 1 (strs ln) lx := hlx
      rw [decide_eq_true h2] at hc2
      have hL : lineAt t i j = some ln := by unfold lineAt; rw [if_pos (by omega)]; simp [hs, hn]
      rw [hL]
      refine ⟨lx, hlx, ?_⟩
      unfold Ans
      rw [fn_step (fn_45 e) (show Tryz.f45.body = some _ from rfl)]
      simp -implicitDefEqProofs only [Tryz.f45, go_sem, ↓reduceIte, Int.reduceEq, Int.reduceLT, Int.reduceLE, List.reduceReplicate, intA, setT_nil, setT_cons, hch.cells, hch.flat, hch.bound, hch.len, ← hall.1, hc1, hch.idx hy, hl.len, hl.cells, ← hls.1, hc2, hl.idx hx, hlx.cells]
      rcases hlx with ⟨rfl, -⟩ | ⟨cap, rfl⟩ <;> rfl
    · rw [decide_eq_false h2] at hc2
      have hL : lineAt t i b = none := by
        unfold lineAt
        split
        · simp only [Int.toNat_natCast, hs, Option.bind_some]
          rw [List.getElem?_eq_none_iff]; omega
        · rfl
      rw [hL]
      refine ⟨_, rfl, ?_⟩
      unfold Ans
      rw [fn_step (fn_45 e) (show Tryz.f45.body = some _ from rfl)]
      simp -implicitDefEqProofs only [Tryz.f45, go_sem, ↓reduceIte, Int.reduceEq, Int.reduceLT, Int.reduceLE, List.reduceReplicate, intA, setT_nil, setT_cons, hch.cells, hch.flat, hch.bound, hch.len, ← hall.1, hc1, hch.idx hy, hl.len, hl.cells, ← hls.1, hc2]
  · rw [decide_eq_false h1] at hc1
    have hL : lineAt t a b = none := by
      unfold lineAt
      split
      · have : t[a.toNat]? = none := by rw [List.getElem?_eq_none_iff]; omega
        rw [this]; rfl
      · rfl
    rw [hL]
    refine ⟨_, rfl, ?_⟩
    unfold Ans
    rw [fn_step (fn_45 e) (show Tryz.f45.body = some _ from rfl)]
    simp -implicitDefEqProofs only [Tryz.f45, go_sem, ↓reduceIte, Int.reduceEq, Int.reduceLT, Int.reduceLE, List.reduceReplicate, intA, setT_nil, setT_cons, hch.cells, hch.flat, hch.bound, hch.len, ← hall.1, hc1]
theorem LineO.bound {o : Option Line} {x : AV} (h : LineO o x) : bound x = 0 := by
  cases o with
  | none => simp only [LineO] at h; subst h; rfl
  | some l => exact SlOf.bound h
theorem call45 {e : Exts} (he : Quiet e) (t : Txt) (ht : Fits t) (ch : AV) (xs : List AV) (hch : SlOf 2 xs ch) (hall : All2 ChapA t xs) (a b c : Int) : ∃ x, LineO (lineAt t a b) x ∧ (∀ (me : FuncId) (d : Option Tmp) (H : Heap), callA (Cx e) (lim (Cx e)) me 45 d [.agg [ch], .agg [.v (.int .i64 a), .v (.int .i64 b), .v (.int .i64 c)]] H = some (x, H)) ∧ ∀ (me : FuncId) (d : Option Tmp), callI (Cx e) me 45 d [.agg [ch], .agg [.v (.int .i64 a), .v (.int .i64 b), .v (.int .i64 c)]] = some x := by
  obtain ⟨x, hx, h⟩ := ans45 he t ht ch xs hch hall a b c
  exact ⟨x, hx, fun me d H => h.call (ext_45 he) (pure_45 _ _ _) (by simp only [boundL_cons, bound_agg, hch.bound, boundL_nil, intA, bound_v]; rfl) H, fun me d => h.callI (ext_45 he) (pure_45 _ _ _) (by simp only [boundL_cons, bound_agg, hch.bound, boundL_nil, intA, bound_v]; rfl)⟩
end Go.Ev
namespace Go.Ev
open Go.Proofs
set_option maxRecDepth 100000
set_option linter.unusedSimpArgs false
/-! ### hasPlace, comparePlaces -/
set_option maxHeartbeats 2000000 in
theorem ans44 {e : Exts} (he : Quiet e) (t : Txt) (ht : Fits t) (ch : AV) (xs : List AV) (hch : SlOf 2 xs ch) (hall : All2 ChapA t xs) (a b c : Int) : Ans (Cx e) 44 [.agg [ch], .agg [intA a, intA b, intA c]] (.v (.bool (placeB' t a b c))) := by
  obtain ⟨x, hx, -, hc⟩ := call45 he t ht ch xs hch hall a b c
  unfold placeB' Ans
  rw [fn_step (fn_44 e) (show Tryz.f44.body = some _ from rfl)]
  cases hL : lineAt t a b with
  | none =>
    rw [hL] at hx
    simp only [LineO] at hx
    subst hx
    have h65 := callI65 he c 0 (by omega)
    rw [decide_eq_false (by omega)] at h65
    simp -implicitDefEqProofs only [Tryz.f44, go_sem, ↓reduceIte, Int.reduceEq, Int.reduceLT, Int.reduceLE, List.reduceReplicate, intA, setT_nil, setT_cons, hch.cells, hch.flat, hch.bound]
    refine wp_draw (by kernel_rfl) ?_
    simp -implicitDefEqProofs only [go_sem, ↓reduceIte, Int.reduceEq, Int.reduceLT, Int.reduceLE, List.reduceReplicate, intA, setT_nil, setT_cons, hch.cells, hch.flat, hch.bound, hc]
    show bindO (callI (Cx e) 44 65 (some 11) [.v (.int .i64 c), .v (.int .i64 0)]) _
    rw [show ((0 : Nat) : Int) = 0 from rfl] at h65
    rw [h65]; rfl
  | some l =>
    rw [hL] at hx
    have hx : SlOf 1 (strs l) x := hx
    obtain ⟨cp, hcm, hlm⟩ := lineAt_mem hL
    have h65 := callI65 he c l.length (ht.words cp hcm l hlm)
    simp -implicitDefEqProofs only [Tryz.f44, go_sem, ↓reduceIte, Int.reduceEq, Int.reduceLT, Int.reduceLE, List.reduceReplicate, intA, setT_nil, setT_cons, hch.cells, hch.flat, hch.bound]
    refine wp_draw (by kernel_rfl) ?_
    simp -implicitDefEqProofs only [go_sem, ↓reduceIte, Int.reduceEq, Int.reduceLT, Int.reduceLE, List.reduceReplicate, intA, setT_nil, setT_cons, hch.cells, hch.flat, hch.bound, hc, hx.len, hx.lenI, strs_len, h65]
theorem call44 {e : Exts} (he : Quiet e) (t : Txt) (ht : Fits t) (ch : AV) (xs : List AV) (hch : SlOf 2 xs ch) (hall : All2 ChapA t xs) (a b c : Int) (me : FuncId) (d : Option Tmp) (H : Heap) : callA (Cx e) (lim (Cx e)) me 44 d [.agg [ch], .agg [.v (.int .i64 a), .v (.int .i64 b), .v (.int .i64 c)]] H = some (.v (.bool (placeB' t a b c)), H) :=
  (ans44 he t ht ch xs hch hall a b c).call (ext_44 he) (pure_44 _ _ _) (by simp only [boundL_cons, bound_agg, hch.bound, boundL_nil, intA, bound_v]; rfl) H
/-- which one is first -/
def cmpI (a b : Int) : Int := if a < b then -1 else if b < a then 1 else 0
theorem ans119 {e : Exts} (a : Int) : Ans (Cx e) 119 [intA a] (.v (.bool false)) := by
  unfold Ans
  rw [fn_step (fn_119 e) (show Tryz.f119.body = some _ from rfl)]
  simp -implicitDefEqProofs only [Tryz.f119, go_sem, ↓reduceIte, Int.reduceEq, Int.reduceLT, Int.reduceLE, List.reduceReplicate, intA, setT_nil, setT_cons]
theorem call119 {e : Exts} (he : Quiet e) (a : Int) (me : FuncId) (d : Option Tmp) (H : Heap) : callA (Cx e) (lim (Cx e)) me 119 d [.v (.int .i64 a)] H = some (.v (.bool false), H) :=
  (ans119 a).call (ext_119 he) (pure_119 _ _ _) rfl H
theorem ans99 {e : Exts} (he : Quiet e) (a b : Int) : Ans (Cx e) 99 [intA a, intA b] (intA (cmpI a b)) := by
  unfold Ans cmpI
  rw [fn_step (fn_99 e) (show Tryz.f99.body = some _ from rfl)]
  by_cases h1 : a < b
  · simp -implicitDefEqProofs only [Tryz.f99, go_sem, ↓reduceIte, Int.reduceEq, Int.reduceLT, Int.reduceLE, List.reduceReplicate, intA, setT_nil, setT_cons, call119 he, h1]
  · by_cases h2 : b < a
    · simp -implicitDefEqProofs only [Tryz.f99, go_sem, ↓reduceIte, Int.reduceEq, Int.reduceLT, Int.reduceLE, List.reduceReplicate, intA, setT_nil, setT_cons, call119 he, h1, h2]
    · simp -implicitDefEqProofs only [Tryz.f99, go_sem, ↓reduceIte, Int.reduceEq, Int.reduceLT, Int.reduceLE, List.reduceReplicate, intA, setT_nil, setT_cons, call119 he, h1, h2]
theorem callI99 {e : Exts} (he : Quiet e) (a b : Int) (me : FuncId) (d : Option Tmp) : callI (Cx e) me 99 d [.v (.int .i64 a), .v (.int .i64 b)] = some (.v (.int .i64 (cmpI a b))) :=
  (ans99 he a b).callI (ext_99 he) (pure_99 _ _ _) rfl
/-- the first that is not 0 -/
def orI : List Int → Int
  | [] => 0
  | a :: r => if a = 0 then orI r else a
set_option maxHeartbeats 2000000 in
theorem ans98 {e : Exts} (ns : List Int) (hn : ns.length < 2 ^ 63) (x : AV) (hx : SlOf 1 (ns.map intA) x) : Ans (Cx e) 98 [x] (intA (orI ns)) := by
  unfold Ans
  rw [fn_step (fn_98 e) (show Tryz.f98.body = some _ from rfl)]
  simp -implicitDefEqProofs only [Tryz.f98, go_sem, ↓reduceIte, Int.reduceEq, Int.reduceLT, Int.reduceLE, List.reduceReplicate, intA, setT_nil, setT_cons, hx.len, List.length_map]
  refine Lp_rule (P := fun μ a H => ∃ j, j + μ = ns.length ∧ a = ⟨18, [(0, x), (2, intA 0), (3, intA 0), (6, x), (7, intA ns.length), (8, intA j)], []⟩ ∧ H = ⟨[], 0⟩ ∧ orI ns = orI (ns.drop j)) ?_ ns.length _ _ ⟨0, by omega, rfl, rfl, rfl⟩
  rintro μ _ _ ⟨j, hj, rfl, rfl, ho⟩
  cases μ with
  | zero =>
    obtain rfl : j = ns.length := by omega
    rw [List.drop_of_length_le (Nat.le_refl _)] at ho
    simp -implicitDefEqProofs only [go_sem, ↓reduceIte, Int.reduceEq, Int.reduceLT, Int.reduceLE, List.reduceReplicate, intA, setT_nil, setT_cons, Int.lt_irrefl]
    rw [ho]; rfl
  | succ μ =>
    have hlt : (j : Int) < (ns.length : Int) := by omega
    have hw := wrap_succ j (by omega)
    have hy : (ns.map intA)[j]? = some (.v (.int .i64 ns[j])) := by rw [List.getElem?_map, List.getElem?_eq_getElem (by omega)]; rfl
    rw [List.drop_eq_getElem_cons (by omega : j < ns.length)] at ho
    cases h1 : decide (ns[j] = 0)
    · simp -implicitDefEqProofs only [go_sem, ↓reduceIte, Int.reduceEq, Int.reduceLT, Int.reduceLE, List.reduceReplicate, intA, setT_nil, setT_cons, hlt, hw, hx.idx hy, h1]
      rw [ho]; simp only [orI]
      rw [if_neg (of_decide_eq_false h1)]
    · simp -implicitDefEqProofs only [go_sem, ↓reduceIte, Int.reduceEq, Int.reduceLT, Int.reduceLE, List.reduceReplicate, intA, setT_nil, setT_cons, hlt, hw, hx.idx hy, h1]
      refine ⟨μ, by omega, j + 1, by omega, rfl, rfl, ?_⟩
      rw [ho]; simp only [orI]
      rw [if_pos (of_decide_eq_true h1)]
theorem callI98 {e : Exts} (he : Quiet e) (a b c : Int) (me : FuncId) (d : Option Tmp) : callI (Cx e) me 98 d [.vs 1 [.v (.int .i64 a), .v (.int .i64 b), .v (.int .i64 c)] (some 3)] = some (.v (.int .i64 (orI [a, b, c]))) :=
  (ans98 [a, b, c] (by simp) _ (Or.inr ⟨_, rfl⟩)).callI (ext_98 he) (pure_98 _ _ _) rfl
def cmpP (a b c a' b' c' : Int) : Int := orI [cmpI a a', cmpI b b', cmpI c c']
set_option maxHeartbeats 2000000 in
theorem ans85 {e : Exts} (he : Quiet e) (a b c a' b' c' : Int) : Ans (Cx e) 85 [.agg [intA a, intA b, intA c], .agg [intA a', intA b', intA c']] (intA (cmpP a b c a' b' c')) := by
  unfold Ans cmpP
  rw [fn_step (fn_85 e) (show Tryz.f85.body = some _ from rfl)]
  simp -implicitDefEqProofs only [Tryz.f85, go_sem, ↓reduceIte, Int.reduceEq, Int.reduceLT, Int.reduceLE, List.reduceReplicate, intA, setT_nil, setT_cons]
  refine wp_drawX [([], [], false), ([], [], false), ([], [], false), ([1], [], false), ([], [], false), ([], [], false), ([1, 3, 4], [], false), ([], [], false), ([1, 3, 4, 6], [], false), ([], [], false), ([], [], false), ([1, 3, 4, 6, 8, 9], [], false), ([], [], false), ([1, 3, 4, 6, 8, 9, 11], [], false), ([], [], false), ([], [], false), ([], [15], false), ([], [], false)] (by kernel_rfl) (by kernel_rfl) ?_
  simp -implicitDefEqProofs only [go_sem, ↓reduceIte, Int.reduceEq, Int.reduceLT, Int.reduceLE, List.reduceReplicate, intA, setT_nil, setT_cons, callI99 he, callI98 he]
end Go.Ev
/- A function that sorts a row of memory, and stands for itself. -/
namespace Go.Ev
open Go.Sort
/-! ### lists in order -/
section
variable {α : Type}
def insL (lt : α → α → Bool) (x : α) : List α → List α
  | [] => [x]
  | y :: r => if lt y x then y :: insL lt x r else x :: y :: r
def sortL (lt : α → α → Bool) : List α → List α
  | [] => []
  | x :: r => insL lt x (sortL lt r)
def Asc (lt : α → α → Bool) (l : List α) : Prop := l.Pairwise fun a b => lt b a = false
theorem insL_perm (lt : α → α → Bool) (x : α) : ∀ l, (insL lt x l).Perm (x :: l)
  | [] => .refl _
  | y :: r => by
    unfold insL; split
    · exact ((insL_perm lt x r).cons y).trans (.swap _ _ _)
    · exact .refl _
theorem sortL_perm (lt : α → α → Bool) : ∀ l, (sortL lt l).Perm l
  | [] => .refl _
  | x :: r => (insL_perm lt x _).trans ((sortL_perm lt r).cons x)
theorem insL_asc {lt : α → α → Bool} (hO : SWO lt) (x : α) : ∀ {l : List α}, Asc lt l → Asc lt (insL lt x l)
  | [], _ => by unfold insL Asc; simp
  | y :: r, h => by
    obtain ⟨h1, h2⟩ := List.pairwise_cons.1 h
    unfold insL; split
    · rename_i hyx
      refine List.pairwise_cons.2 ⟨fun z hz => ?_, insL_asc hO x h2⟩
      rcases List.mem_cons.1 ((insL_perm lt x r).mem_iff.1 hz) with rfl | hz
      · cases hxy : lt z y
        · rfl
        · have := hO.trans _ _ _ hxy hyx; rw [hO.irrefl] at this; cases this
      · exact h1 z hz
    · rename_i hyx
      have hyx : lt y x = false := by cases h : lt y x <;> simp_all
      refine List.pairwise_cons.2 ⟨fun z hz => ?_, h⟩
      rcases List.mem_cons.1 hz with rfl | hz
      · exact hyx
      · exact hO.ntrans _ _ _ (h1 z hz) hyx
theorem sortL_asc {lt : α → α → Bool} (hO : SWO lt) : ∀ l : List α, Asc lt (sortL lt l)
  | [] => List.Pairwise.nil
  | x :: r => insL_asc hO x (sortL_asc hO r)
theorem asc_uniq {lt : α → α → Bool} (hO : SWO lt) : ∀ {l m : List α}, l.Perm m → Asc lt l → Asc lt m → (∀ a ∈ l, ∀ b ∈ l, lt a b = false → lt b a = false → a = b) → l = m
  | [], m, h, _, _, _ => by rw [List.Perm.nil_eq h]
  | x :: l, [], h, _, _, _ => by have := h.length_eq; simp at this
  | x :: l, y :: m, h, hl, hm, ha => by
    obtain ⟨l1, l2⟩ := List.pairwise_cons.1 hl
    obtain ⟨m1, m2⟩ := List.pairwise_cons.1 hm
    have hx : lt x y = false := by
      rcases List.mem_cons.1 (h.mem_iff.1 (List.mem_cons_self (a := x))) with rfl | hz
      · exact hO.irrefl _
      · exact m1 x hz
    have hym := h.mem_iff.2 (List.mem_cons_self (a := y))
    have hy : lt y x = false := by
      rcases List.mem_cons.1 hym with rfl | hz
      · exact hO.irrefl _
      · exact l1 y hz
    obtain rfl := ha x List.mem_cons_self y hym hx hy
    rw [asc_uniq hO h.cons_inv l2 m2 fun a h1 b h2 => ha a (List.mem_cons_of_mem _ h1) b (List.mem_cons_of_mem _ h2)]
end
/-! ### cells of a row, as things -/
section
variable {α : Type} [Inhabited α]
def takeE (k : Nat) (dec : List AV → Option α) : Nat → List AV → Option (List α)
  | 0, _ => some []
  | n + 1, cs => match dec (cs.take k), takeE k dec n (cs.drop k) with | some a, some l => some (a :: l) | _, _ => none
def flatE (enc : α → List Value) (l : List α) : List Value := l.flatMap enc
/-- how things lie in cells -/
structure Coded (k : Nat) (enc : α → List Value) (dec : List AV → Option α) : Prop where
  pos : 0 < k
  len : ∀ x, (enc x).length = k
  de : ∀ cs a, dec cs = some a → cs = (enc a).map AV.v
  en : ∀ a, dec ((enc a).map AV.v) = some a
  atom : ∀ a, ∀ v ∈ enc a, atom v = true
theorem takeE_some {β : Type} {k : Nat} {enc : β → List Value} {dec : List AV → Option β} (hc : Coded k enc dec) : ∀ {n : Nat} {cs : List AV} {l : List β}, takeE k dec n cs = some l → l.length = n ∧ cs.take (n * k) = (flatE enc l).map AV.v ∧ n * k ≤ cs.length
  | 0, cs, l, h => by simp [takeE] at h; subst h; simp [flatE]
  | n + 1, cs, l, h => by
    unfold takeE at h
    split at h
    · rename_i a r h1 h2
      simp only [Option.some.injEq] at h
      subst h
      obtain ⟨e1, e2, e3⟩ := takeE_some hc h2
      have e4 := hc.de _ _ h1
      have e5 : k ≤ cs.length := by
        have := congrArg List.length e4
        rw [List.length_take, List.length_map, hc.len] at this; omega
      refine ⟨by simp [e1], ?_, ?_⟩
      · rw [Nat.add_mul, Nat.one_mul, Nat.add_comm, List.take_add, e4, e2]
        simp [flatE]
      · rw [List.length_drop] at e3
        rw [Nat.add_mul, Nat.one_mul]; omega
    · cases h
theorem takeE_flat {β : Type} {k : Nat} {enc : β → List Value} {dec : List AV → Option β} (hc : Coded k enc dec) (rest : List AV) : ∀ l : List β, takeE k dec l.length ((flatE enc l).map AV.v ++ rest) = some l
  | [] => rfl
  | a :: r => by
    have h1 : ((flatE enc (a :: r)).map AV.v ++ rest).take k = (enc a).map AV.v := by
      simp only [flatE, List.flatMap_cons, List.map_append, List.append_assoc]
      rw [List.take_append_of_le_length (by simp [hc.len])]
      rw [List.take_of_length_le (by simp [hc.len])]
    have h2 : ((flatE enc (a :: r)).map AV.v ++ rest).drop k = (flatE enc r).map AV.v ++ rest := by
      simp only [flatE, List.flatMap_cons, List.map_append, List.append_assoc]
      rw [List.drop_append_of_le_length (by simp [hc.len]), List.drop_of_length_le (by simp [hc.len]), List.nil_append]
    show (match dec (((flatE enc (a :: r)).map AV.v ++ rest).take k), takeE k dec r.length (((flatE enc (a :: r)).map AV.v ++ rest).drop k) with | some a, some l => some (a :: l) | _, _ => none) = _
    rw [h1, h2, hc.en, takeE_flat hc rest r]
theorem flatE_len {β : Type} {enc : β → List Value} {k : Nat} (hk : ∀ x, (enc x).length = k) : ∀ l : List β, (flatE enc l).length = l.length * k
  | [] => by simp [flatE]
  | a :: r => by
    have := flatE_len hk r
    simp only [flatE, List.flatMap_cons, List.length_append, hk] at this ⊢
    rw [this, List.length_cons, Nat.add_mul, Nat.one_mul, Nat.add_comm]
theorem flatE_get {enc : α → List Value} {k : Nat} (hk : ∀ x, (enc x).length = k) (h0 : 0 < k) : ∀ (l : List α) (t : Nat), t < l.length * k → (flatE enc l)[t]! = (enc l[t / k]!)[t % k]!
  | [], t, h => by simp at h
  | a :: r, t, h => by
    by_cases ht : t < k
    · rw [Nat.div_eq_of_lt ht, Nat.mod_eq_of_lt ht]
      simp only [flatE, List.flatMap_cons, List.getElem!_cons_zero]
      rw [List.getElem!_eq_getElem?_getD, List.getElem!_eq_getElem?_getD, List.getElem?_append_left (by rw [hk]; exact ht)]
    · obtain ⟨u, rfl⟩ : ∃ u, t = k + u := ⟨t - k, by omega⟩
      have hu : u < r.length * k := by rw [List.length_cons, Nat.add_mul, Nat.one_mul] at h; omega
      have := flatE_get hk h0 r u hu
      rw [Nat.add_div_left _ h0, Nat.add_mod_left, List.getElem!_cons_succ, ← this]
      simp only [flatE, List.flatMap_cons]
      rw [List.getElem!_eq_getElem?_getD, List.getElem!_eq_getElem?_getD, List.getElem?_append_right (by rw [hk]; exact Nat.le_add_right _ _), hk, Nat.add_sub_cancel_left]
theorem flatK_eq {enc : α → List Value} {k : Nat} (hk : ∀ x, (enc x).length = k) (h0 : 0 < k) (d : Array α) : flatK enc k d = (flatE enc d.toList).toArray := by
  refine ext_get! (by simp [flatE_len hk]) fun t ht => ?_
  have ht' : t < d.size * k := by simpa using ht
  rw [get_flatK _ _ _ _ ht']
  have h := flatE_get hk h0 d.toList t (by simpa using ht')
  have h1 : (flatE enc d.toList).toArray[t]! = (flatE enc d.toList)[t]! := by simp
  have h2 : d.toList[t / k]! = d[t / k]! := by
    rw [List.getElem!_eq_getElem?_getD, Array.getElem!_eq_getD, Array.getD_eq_getD_getElem?, Array.getElem?_toList]
  rw [h1, h, h2]
end
/-! ### a world with more behind -/
theorem later {Z : Fzn} {ρ : Pls} {H : Heap} {w : World} (hs : Sim Z ρ H w) (n : Nat) (os : Array Obj) : Sim Z ρ H (grow (Sort.ahead w n) os) ∧ Ext Z ρ H w Z ρ H (grow (Sort.ahead w n) os) := by
  have hb : ∀ k, k < w.heap.size → (grow (Sort.ahead w n) os).heap[k]? = w.heap[k]? := fun k hk => heap_grow_old (Sort.ahead w n) os hk
  refine ⟨⟨fun b o h hl => ?_, hs.inj, fun k o hk => ?_, hs.fresh, hs.lk⟩, ⟨.refl _, .refl _, fun k hk _ => hb k hk, fun _ _ h => h, ?_, rfl, rfl, rfl, Nat.le_add_right _ _, fun a ha => ?_, rfl, fun _ _ => rfl, Nat.le_refl _, fun _ _ _ => rfl, fun _ _ _ => rfl, fun _ _ h _ => ⟨h, fun _ => rfl⟩⟩⟩
  · obtain ⟨pl, obj, h1, h2, h3, h4⟩ := hs.objs b o h hl
    exact ⟨pl, obj, h1, (hb _ (Array.getElem?_eq_some_iff.1 h2).1).trans h2, h3, h4⟩
  · exact (hb k (Array.getElem?_eq_some_iff.1 (hs.zok k o hk)).1).trans (hs.zok k o hk)
  · rw [size_grow]; exact Nat.le_add_right _ _
  · simp only [World.frozen?, hb _ ha]
theorem freeze_toV {H : Heap} {K : Nat} {x : AV} {y : Value} (h : freezeV H K x = some (.v y)) : x = .v y := by
  cases K with
  | zero => cases h
  | succ K =>
    unfold freezeV at h
    cases x with
    | v z => simpa using h
    | ro z k => simp at h
    | vs s l c => simp at h
    | agg l => simp only [Option.map_eq_some_iff] at h; obtain ⟨_, _, h⟩ := h; cases h
    | tup l => simp only [Option.map_eq_some_iff] at h; obtain ⟨_, _, h⟩ := h; cases h
    | ifc t z => simp only [Option.map_eq_some_iff] at h; obtain ⟨_, _, h⟩ := h; cases h
    | mp b => simp only at h; split at h <;> simp at h
    | yld b => simp only at h; split at h <;> simp at h
    | fn f a b => simp only at h; split at h <;> simp at h
    | ptr b v k =>
      simp only at h
      split at h
      · simp at h
      · split at h
        · split at h
          · split at h <;> simp at h
          · cases h
        · cases h
    | sl b v o l c =>
      simp only at h
      split at h
      · simp at h
      · split at h
        · split at h
          · split at h
            · simp at h
            · split at h
              · split at h <;> simp at h
              · cases h
          · cases h
        · cases h
/-- a call on closed arguments, in whatever world -/
theorem calls_closed {C : Cfg} (hgo : NoGo C.P) (hm : C.P.follows .mixedOrders = true) (hext : ExtOK C) {f : FuncId} {args : List AV} {v : Value} (h : Ans C f args (.v v)) {vals : List Value} (w : World) (hl : RepL (allZ w) noPls args vals) :
    Calls C.P f vals.toArray w fun e w' => e = .returned v ∧ ∃ q os, w' = grow (w.drewN q) os := by
  obtain ⟨x, H', h1, h2⟩ := Ans.iff.1 h
  rw [freeze_toV h2] at h1
  refine Calls.mono' (lim_right hgo hm hext h1 (start_sim w) hl) ?_
  rintro e w' ⟨y, rfl, Z', ρ', k1, k2, k3⟩
  refine ⟨by rw [k1.v_inv.1], w'.drawn - w.drawn, w'.heap.extract w.heap.size w'.heap.size, ?_⟩
  have hd := k3.drawn
  have hheap : w'.heap = w.heap ++ w'.heap.extract w.heap.size w'.heap.size := by
    apply Array.ext_getElem?
    intro i
    by_cases hi : i < w.heap.size
    · rw [Array.getElem?_append_left hi]; exact k3.frame i hi (start_own w i)
    · rw [Array.getElem?_append_right (by omega), Array.getElem?_extract]
      have hsz := k3.size
      by_cases hi2 : i < w'.heap.size
      · rw [if_pos (by omega)]; congr 1; omega
      · rw [if_neg (by omega), Array.getElem?_eq_none (by omega)]
  have h1 := k3.os
  have h2 := k3.output
  have h3 := k3.tape
  cases w'; cases w
  simp only [grow, World.drewN] at *
  subst h1 h2 h3
  congr 1
  omega
theorem putCells_eq (o : Nat) (F : List Value) (arr : Array Value) (h : o + F.length ≤ arr.size) : putCells id o F.toArray arr = (arr.toList.take o ++ F ++ arr.toList.drop (o + F.length)).toArray := by
  refine Array.ext_getElem? fun i => ?_
  unfold putCells
  rw [Array.getElem?_mapIdx]
  simp only [List.getElem?_toArray, id_eq]
  by_cases hi : i < arr.size
  · rw [Array.getElem?_eq_getElem hi]
    simp only [Option.map_some]
    by_cases h1 : i < o
    · rw [if_neg (by omega), List.append_assoc, List.getElem?_append_left (by simp; omega), List.getElem?_take, if_pos h1]
      simp [hi]
    · by_cases h2 : i < o + F.length
      · rw [if_pos (by simp; omega), List.append_assoc, List.getElem?_append_right (by simp; omega), List.getElem?_append_left (by simp; omega)]
        have e : i - (arr.toList.take o).length = i - o := by simp; omega
        rw [e, List.getElem?_eq_getElem (by omega)]
        simp [show i - o < F.length by omega]
      · rw [if_neg (by simp; omega), List.getElem?_append_right (by simp; omega), List.getElem?_drop]
        have e : o + F.length + (i - (arr.toList.take o ++ F).length) = i := by simp; omega
        rw [e]; simp [hi]
  · rw [Array.getElem?_eq_none (by omega), List.getElem?_eq_none (by simp; omega)]
    rfl
/-! ### the function -/
section
variable {α : Type} [Inhabited α]
/-- 'cf a b < 0' -/
def ltF (cf : α → α → Int) (x y : α) : Bool := decide (cf x y < 0)
/-- of what lies in memory: it sorts whatever there is, by a function that is known -/
structure Sorts (P : Program) (f g : FuncId) (k : Nat) (enc : α → List Value) (cf : α → α → Int) : Prop where
  body : HasBody P f
  nil : ∀ p cap fv w, Calls P f #[.slice p 0 cap, fv] w fun e w' => e = .returned (.tuple #[]) ∧ w' = w
  row : ∀ (blk off cap : Nat) (d : Array α) (w : World), Holds id w blk off (flatE enc d.toList).toArray → blk < w.heap.size → d.size < 4611686018427387904 →
    Calls P f #[.slice (some ⟨blk, off, none⟩) d.size cap, .func (.func g) #[] #[]] w fun e w' =>
      e = .returned (.tuple #[]) ∧ ∃ d' n os, PermIn 0 d.size d d' ∧ SortedIn (ltF cf) 0 d.size d' ∧ w' = grow (putRow id (Sort.ahead w n) blk off (flatE enc d'.toList).toArray) os
def antiB (lt : α → α → Bool) (eqv : α → α → Bool) (l : List α) : Bool := l.all fun a => l.all fun b => lt a b || lt b a || eqv a b
def sortH (k : Nat) (enc : α → List Value) (dec : List AV → Option α) (eqv : α → α → Bool) (cf : α → α → Int) (g : FuncId) : List AV → Heap → Option (AV × Heap)
  | [x, .fn (.func g') [] []], H =>
    if g' = g then
      match x with
      | .v (.slice none 0 0) => some (.tup [], H)
      | .vs _ [] _ => some (.tup [], H)
      | .sl b v off len _ =>
        if len = 0 then some (.tup [], H) else
        match H.row b v with
        | some (_, _, _, _, cs) =>
          if len < 4611686018427387904 then
            match takeE k dec len (cs.drop off) with
            | some l => if antiB (ltF cf) eqv l then (storeCells H b v off ((flatE enc (sortL (ltF cf) l)).map AV.v)).map fun H' => (.tup [], H') else none
            | none => none
          else none
        | none => none
      | _ => none
    else none
  | _, _ => none
theorem sortH_meets {P : Program} {f g : FuncId} {k : Nat} {enc : α → List Value} {dec : List AV → Option α} {eqv : α → α → Bool} {cf : α → α → Int} (hO : SWO (ltF cf)) (hc : Coded k enc dec) (hq : ∀ a b, eqv a b = true → a = b) (hS : Sorts P f g k enc cf)
    {args : List AV} {H H' : Heap} {v : AV} (h : sortH k enc dec eqv cf g args H = some (v, H')) : MeetsCall P f args H v H' := by
  refine ⟨hS.body, fun Z ρ w vals hs hl => ?_⟩
  unfold sortH at h
  split at h
  · rename_i x g'
    obtain ⟨v1, ws, rfl, hv1, hl⟩ := hl.uncons
    obtain ⟨v2, ws, rfl, hv2, hl⟩ := hl.uncons
    have : ws = [] := List.length_eq_zero_iff.1 hl.1.symm
    subst this
    split at h
    · rename_i hg
      subst hg
      have hnone : ∀ p cap, v1 = .slice p 0 cap → v = .tup [] ∧ H' = H → Calls P f [v1, v2].toArray w fun e w' => ∃ x, e = .returned x ∧ After Z ρ H w v H' x w' := by
        rintro p cap rfl ⟨rfl, rfl⟩
        refine Calls.mono' (hS.nil p cap v2 w) ?_
        rintro e w' ⟨rfl, rfl⟩
        exact ⟨_, rfl, Z, ρ, .tup (cs := []) (vs := []) rfl (fun i c v h => by simp at h), hs, Ext.refl _ _ _ _⟩
      split at h
      · simp only [Option.some.injEq, Prod.mk.injEq] at h
        obtain ⟨rfl, -⟩ := hv1.v_inv
        exact hnone none 0 rfl ⟨h.1.symm, h.2.symm⟩
      · simp only [Option.some.injEq, Prod.mk.injEq] at h
        cases hv1 with
        | vs => exact hnone _ _ rfl ⟨h.1.symm, h.2.symm⟩
        | vs0 => exact hnone _ _ rfl ⟨h.1.symm, h.2.symm⟩
      · rename_i b ver off len cap
        cases hv1 with
        | sl hp hcap hn hle =>
          rename_i c pl
          split at h
          · rename_i hlen
            subst hlen
            simp only [Option.some.injEq, Prod.mk.injEq] at h
            exact hnone _ _ rfl ⟨h.1.symm, h.2.symm⟩
          · rename_i hlen
            split at h
            · rename_i m e sz gr cs hrow
              split at h
              · rename_i hbig
                split at h
                · rename_i l htake
                  split at h
                  · rename_i hanti
                    simp only [Option.map_eq_some_iff, Prod.mk.injEq] at h
                    obtain ⟨H2, hst, rfl, rfl⟩ := h
                    obtain ⟨hll, htk, hle2⟩ := takeE_some hc htake
                    obtain ⟨pl1, arr, e', h1, h2, h3, h3b, h3c, h4, pre, vs, post, h5, h6, h7, h7b, h8⟩ := hs.row hrow
                    rw [hp] at h1; cases h1
                    have hdl : (flatE enc l).length = len * k := by rw [flatE_len hc.len, hll]
                    have hcell : ∀ j x, (flatE enc l)[j]? = some x → vs[off + j]? = some x := by
                      intro j x hj
                      have hlt := (List.getElem?_eq_some_iff.1 hj).1
                      have hcj : cs[off + j]? = some (.v x) := by
                        have : (cs.drop off)[j]? = some (.v x) := by
                          have h9 : ((cs.drop off).take (len * k))[j]? = some (.v x) := by rw [htk, List.getElem?_map, hj]; rfl
                          rw [List.getElem?_take] at h9
                          split at h9
                          · exact h9
                          · cases h9
                        rwa [List.getElem?_drop] at this
                      obtain ⟨y, hy, hr⟩ := h8.get hcj
                      rw [hy, hr.v_inv.1]
                    have hholds : Holds id w pl.blk (pl.base + off) (flatE enc l.toArray.toList).toArray := by
                      intro j hj
                      have hj' : j < (flatE enc l).length := by simpa using hj
                      refine ⟨?_, ?_⟩
                      · have := cell_at (w := w) h2 h5 (hcell j _ (List.getElem?_eq_getElem hj'))
                        rw [← h6, Nat.add_assoc, this]
                        simp [hj']
                      · simp [World.frozen?, h2]
                    have hblk := (Array.getElem?_eq_some_iff.1 h2).1
                    have hcall := hS.row pl.blk (pl.base + off) c l.toArray w hholds hblk (by simpa [hll] using hbig)
                    have hfn : v2 = .func (.func g') #[] #[] := by
                      cases hv2 with
                      | fn q1 q2 q3 q4 =>
                        have e1 := List.length_eq_zero_iff.1 q1.symm
                        have e2 := List.length_eq_zero_iff.1 q2.symm
                        rw [e1, e2]
                    rw [hfn, ← hll, show l.length = l.toArray.size by simp]
                    refine Calls.mono' hcall ?_
                    rintro e w' ⟨rfl, d', n, os, hpm, hsd, rfl⟩
                    have hd' : d'.toList = sortL (ltF cf) l := by
                      obtain ⟨p1, -, p3⟩ := hpm
                      have p3 : d'.toList.Perm l := by
                        have e1 : d'.extract 0 l.toArray.size = d' := by rw [← p1]; simp
                        have e2 : l.toArray.extract 0 l.toArray.size = l.toArray := by simp
                        rw [e1, e2] at p3; simpa using p3
                      refine asc_uniq hO (p3.trans (sortL_perm _ l).symm) ?_ (sortL_asc hO l) ?_
                      · refine List.pairwise_iff_getElem.2 fun i j hi hj hij => ?_
                        have hj2 : j < d'.size := by simpa using hj
                        have hi2 : i < d'.size := by simpa using hi
                        have := hsd i j (Nat.zero_le _) hij (by rw [← p1]; exact hj2)
                        rw [getElem!_pos d' j hj2, getElem!_pos d' i hi2] at this
                        simpa using this
                      · intro a ha b hb h1 h2
                        have ha := p3.mem_iff.1 ha
                        have hb := p3.mem_iff.1 hb
                        have := List.all_eq_true.1 (List.all_eq_true.1 hanti a ha) b hb
                        rw [h1, h2] at this
                        exact hq _ _ (by simpa using this)
                    rw [hd']
                    have hys : RepL Z ρ ((flatE enc (sortL (ltF cf) l)).map AV.v) (flatE enc (sortL (ltF cf) l)) := by
                      refine ⟨by simp, fun i c v hc' hv => ?_⟩
                      rw [List.getElem?_map, hv] at hc'
                      simp only [Option.map_some, Option.some.injEq] at hc'
                      subst hc'
                      obtain ⟨a, -, ha⟩ := List.mem_flatMap.1 (List.mem_of_getElem? hv)
                      exact .v (hc.atom a v ha)
                    obtain ⟨w1, Z1, ρ1, r1, s1, x1⟩ := cells_does (P := P) hs hp hys hst
                    have hsl : (flatE enc (sortL (ltF cf) l)).length = len * k := by rw [flatE_len hc.len, (sortL_perm _ l).length_eq, hll]
                    have hvl : off + len * k ≤ vs.length := by
                      rw [← h8.1]; rw [List.length_drop] at hle2
                      have : 0 < len * k := Nat.mul_pos (Nat.pos_of_ne_zero hlen) hc.pos
                      omega
                    have hsz : arr.size = pre.length + vs.length + post.length := by rw [← Array.length_toList, h5]; simp; omega
                    have hrun := run_storeCells_at P pl.blk (pl.base + off) e' (flatE enc (sortL (ltF cf) l)) 0 arr w h2 (by rw [hsl]; omega) (fun y hy => by
                      obtain ⟨a, -, ha⟩ := List.mem_flatMap.1 hy
                      have := hc.atom a y ha
                      exact (Rep.v (Z := Z) (ρ := ρ) this).flat rfl)
                    have hw1 : w1 = w.setRow pl.blk (arr.toList.take (pl.base + off + 0) ++ flatE enc (sortL (ltF cf) l) ++ arr.toList.drop (pl.base + off + 0 + (flatE enc (sortL (ltF cf) l)).length)).toArray := by
                      rw [hrun] at r1
                      simpa using r1.symm
                    obtain ⟨s2, x2⟩ := later s1 n os
                    have hput : putRow id (Sort.ahead w n) pl.blk (pl.base + off) (flatE enc (sortL (ltF cf) l)).toArray = Sort.ahead w1 n := by
                      rw [hw1]
                      unfold putRow mapBlock World.setRow Sort.ahead
                      simp only []
                      congr 1
                      refine Array.ext_getElem? fun i => ?_
                      rw [Array.getElem?_modify, Array.getElem?_modify]
                      by_cases hi : pl.blk = i
                      · subst hi
                        have h2' : w.heap[pl.blk]? = some (.cells arr e' (0, 0)) := h2
                        simp only [if_true, h2', Option.map_some, onCells]
                        rw [Nat.add_zero, putCells_eq _ _ _ (by rw [hsl]; omega)]
                      · simp [hi]
                    rw [hput]
                    exact ⟨_, rfl, Z1, ρ1, .tup (cs := []) (vs := []) rfl (fun i c v h => by simp at h), s2, x1.trans x2⟩
                  · cases h
                · cases h
              · cases h
            · cases h
      · cases h
    · cases h
  · cases h
end
end Go.Ev
/- slices.SortFunc of Go's library, by the shelf's contracts. -/
namespace Go.Ev
open Go.Proofs Go.Shelf Go.RowKit Go.Sort
section
variable {α : Type} [Inhabited α] {P : Program} {ρn : Ren}
/-- slices of structs -/
theorem sorts_many (L : SlLaysF0.n6 P ρn) {f : FuncId} (hf : ρn.f 6 = f) (hbody : HasBody P f) {k : Nat} (aE : ∀ w, (isAgg (ρn.t 24)).run P w = .ok true w) (zE : ∀ w, (Go.sizeOf (ρn.t 24)).run P w = .ok k w) {enc : α → List Value} {dec : List AV → Option α} (hc : Coded k enc dec) (h1 : ∀ x, ∀ v ∈ enc x, v.oneCell' = true)
    {cf : α → α → Int} (hO : SWO (ltF cf)) {g : FuncId} (hg : HasBody P g)
    (hcmp : ∀ (w : World) (x y : α), Calls P g #[.agg (enc x).toArray, .agg (enc y).toArray] w fun e w' => e = .returned (.int .i64 (cf x y)) ∧ ∃ q os, w' = grow (w.drewN q) os) : Sorts P f g k enc cf := by
  subst hf
  refine ⟨hbody, fun p cap fv w => AnyF.slices_SortFunc_none L p cap fv w, fun blk off cap d w hh hblk hsz => ?_⟩
  have hH : HoldsK enc k w blk off d := by unfold HoldsK; rw [flatK_eq hc.len hc.pos]; exact hh
  have h := AnyQ.slices_SortFunc L k aE zE enc hc.len h1 cf hO g #[] blk off cap d w (fun args w => hg.run args w) (fun m os dk _ x y => hcmp _ x y) hH hblk hsz
  refine Calls.mono' h ?_
  rintro e w' ⟨rfl, d', n, os, p1, p2, rfl⟩
  refine ⟨rfl, d', n, os, p1, p2, ?_⟩
  unfold sortWorldK putRowK
  rw [flatK_eq hc.len hc.pos]
theorem flat_one {β : Type} (enc : β → Value) (l : List β) : flatE (fun x => [enc x]) l = l.map enc := by
  unfold flatE; induction l with
  | nil => rfl
  | cons a r ih => simp [ih]
theorem putRow_one (enc : α → Value) (w : World) (blk off : Nat) (d : Array α) : putRow enc w blk off d = putRow id w blk off (d.toList.map enc).toArray := by
  unfold putRow
  congr 1
  funext c
  unfold putCells
  congr 1
  funext k x
  simp only [List.size_toArray, List.length_map, Array.length_toList, id_eq]
  split
  · rename_i h
    have hk : k - off < d.size := by omega
    simp [hk]
  · rfl
/-- slices of things of one cell -/
theorem sorts_one (L : SlLaysF.n6 P ρn) (L0 : SlLaysF0.n6 P ρn) {f : FuncId} (hf : ρn.f 6 = f) (hbody : HasBody P f) {enc : α → Value} (h1 : OneCell enc)
    {cf : α → α → Int} (hO : SWO (ltF cf)) {g : FuncId} (hg : HasBody P g)
    (hcmp : ∀ (w : World) (x y : α), Calls P g #[enc x, enc y] w fun e w' => e = .returned (.int .i64 (cf x y)) ∧ ∃ q os, w' = grow (w.drewN q) os) : Sorts P f g 1 (fun x => [enc x]) cf := by
  subst hf
  refine ⟨hbody, fun p cap fv w => AnyF.slices_SortFunc_none L0 p cap fv w, fun blk off cap d w hh hblk hsz => ?_⟩
  rw [flat_one] at hh
  have hH : Holds enc w blk off d := by
    intro j hj
    have := hh j (by simpa using hj)
    simpa [hj] using this
  have h := Any.slices_SortFunc L enc h1 cf hO g #[] blk off cap d w (fun args w => hg.run args w) (fun m os dk _ x y => hcmp _ x y) hH hblk hsz
  refine Calls.mono' h ?_
  rintro e w' ⟨rfl, d', n, os, p1, p2, rfl⟩
  refine ⟨rfl, d', n, os, p1, p2, ?_⟩
  rw [flat_one]
  unfold sortWorld
  rw [putRow_one]
end
end Go.Ev
/- slices.SortFunc of Go's library at this program: where the shelf's contract finds its parts. -/
namespace Go.Proofs
open Go.Shelf
def Tryz.sortPl_ren : Go.Shelf.Ren := ⟨fun | 6 => 97 | 15 => 90 | 14 => 118 | 28 => 110 | 29 => 111 | 20 => 126 | 21 => 127 | 22 => 128 | 23 => 129 | 24 => 130 | 25 => 131 | 26 => 132 | 27 => 133 | 46 => 135 | 47 => 122 | 48 => 123 | 49 => 136 | 50 => 137 | 57 => 138 | n => n, fun | 22 => 47 | 24 => 32 | 25 => 136 | 3 => 3 | 39 => 142 | 0 => 0 | 53 => 168 | 55 => 170 | 4 => 4 | 46 => 161 | 45 => 160 | 50 => 165 | 5 => 5 | 9 => 9 | 66 => 173 | 70 => 177 | 76 => 184 | 77 => 185 | n => n, fun | n => n⟩
theorem Tryz.sortPl : Go.Proofs.SlLaysF0.n6 Tryz.prog Tryz.sortPl_ren := {
  mixed := by kernel_rfl
  f6 := ⟨Tryz.f97.name, by decide, Tryz.func97.trans (congrArg some (by kernel_rfl))⟩
  f14 := ⟨Tryz.f118.name, by decide, Tryz.func118.trans (congrArg some (by kernel_rfl))⟩
  f15 := Tryz.func90.trans (congrArg some (by kernel_rfl))
  f20 := ⟨Tryz.f126.name, by decide, Tryz.func126.trans (congrArg some (by kernel_rfl))⟩
  f21 := ⟨Tryz.f127.name, by decide, Tryz.func127.trans (congrArg some (by kernel_rfl))⟩
  f22 := ⟨Tryz.f128.name, by decide, Tryz.func128.trans (congrArg some (by kernel_rfl))⟩
  f23 := ⟨Tryz.f129.name, by decide, Tryz.func129.trans (congrArg some (by kernel_rfl))⟩
  f24 := ⟨Tryz.f130.name, by decide, Tryz.func130.trans (congrArg some (by kernel_rfl))⟩
  f25 := ⟨Tryz.f131.name, by decide, Tryz.func131.trans (congrArg some (by kernel_rfl))⟩
  f26 := ⟨Tryz.f132.name, by decide, Tryz.func132.trans (congrArg some (by kernel_rfl))⟩
  f27 := ⟨Tryz.f133.name, by decide, Tryz.func133.trans (congrArg some (by kernel_rfl))⟩
  f28 := Tryz.func110.trans (congrArg some (by kernel_rfl))
  f29 := Tryz.func111.trans (congrArg some (by kernel_rfl))
  f46 := ⟨Tryz.f135.name, by decide, Tryz.func135.trans (congrArg some (by kernel_rfl))⟩
  f47 := Tryz.func122.trans (congrArg some (by kernel_rfl))
  f48 := Tryz.func123.trans (congrArg some (by kernel_rfl))
  f49 := ⟨Tryz.f136.name, by decide, Tryz.func136.trans (congrArg some (by kernel_rfl))⟩
  f50 := ⟨Tryz.f137.name, by decide, Tryz.func137.trans (congrArg some (by kernel_rfl))⟩
  f57 := ⟨Tryz.f138.name, by decide, Tryz.func138.trans (congrArg some (by kernel_rfl))⟩
  t0 := Tryz.underlying0
  a0 := Tryz.isAgg0
  z0 := Tryz.sizeOf0
  v0 := Tryz.zeroValue0
  t3 := Tryz.underlying3
  a3 := Tryz.isAgg3
  z3 := Tryz.sizeOf3
  v3 := Tryz.zeroValue3
  t4 := Tryz.underlying4
  a4 := Tryz.isAgg4
  z4 := Tryz.sizeOf4
  v4 := Tryz.zeroValue4
  t5 := Tryz.underlying5
  a5 := Tryz.isAgg5
  z5 := Tryz.sizeOf5
  v5 := Tryz.zeroValue5
  t9 := Tryz.underlying9
  a9 := Tryz.isAgg9
  z9 := Tryz.sizeOf9
  v9 := Tryz.zeroValue9
  t22 := Tryz.underlying47
  a22 := Tryz.isAgg47
  z22 := Tryz.sizeOf47
  v22 := Tryz.zeroValue47
  t25 := Tryz.underlying136
  a25 := Tryz.isAgg136
  z25 := Tryz.sizeOf136
  v25 := Tryz.zeroValue136
  t39 := Tryz.underlying142
  a39 := Tryz.isAgg142
  z39 := Tryz.sizeOf142
  v39 := Tryz.zeroValue142
  t45 := Tryz.underlying160
  a45 := Tryz.isAgg160
  z45 := Tryz.sizeOf160
  v45 := Tryz.zeroValue160
  t46 := Tryz.underlying161
  a46 := Tryz.isAgg161
  z46 := Tryz.sizeOf161
  v46 := Tryz.zeroValue161
  t50 := Tryz.underlying165
  a50 := Tryz.isAgg165
  z50 := Tryz.sizeOf165
  v50 := Tryz.zeroValue165
  t53 := Tryz.underlying168
  a53 := Tryz.isAgg168
  z53 := Tryz.sizeOf168
  v53 := Tryz.zeroValue168
  t55 := Tryz.underlying170
  a55 := Tryz.isAgg170
  z55 := Tryz.sizeOf170
  v55 := Tryz.zeroValue170
  t66 := Tryz.underlying173
  a66 := Tryz.isAgg173
  z66 := Tryz.sizeOf173
  v66 := Tryz.zeroValue173
  t70 := Tryz.underlying177
  a70 := Tryz.isAgg177
  z70 := Tryz.sizeOf177
  v70 := Tryz.zeroValue177
  t76 := Tryz.underlying184
  a76 := Tryz.isAgg184
  z76 := Tryz.sizeOf184
  v76 := Tryz.zeroValue184
  t77 := Tryz.underlying185
  a77 := Tryz.isAgg185
  z77 := Tryz.sizeOf185
  v77 := Tryz.zeroValue185 }
end Go.Proofs
/- slices.SortFunc of Go's library at this program, for words: where the shelf's contract finds its parts. -/
namespace Go.Proofs
open Go.Shelf
def Tryz.sortSt_ren : Go.Shelf.Ren := ⟨fun | 6 => 67 | 15 => 90 | 14 => 89 | 28 => 110 | 29 => 111 | 20 => 102 | 21 => 103 | 22 => 104 | 23 => 105 | 24 => 106 | 25 => 107 | 26 => 108 | 27 => 109 | 46 => 121 | 47 => 122 | 48 => 123 | 49 => 124 | 50 => 125 | 57 => 134 | n => n, fun | 22 => 41 | 24 => 9 | 25 => 94 | 3 => 3 | 39 => 142 | 0 => 0 | 53 => 168 | 55 => 170 | 4 => 4 | 46 => 161 | 45 => 160 | 50 => 165 | 5 => 5 | 9 => 9 | 66 => 173 | 70 => 177 | 76 => 184 | 77 => 185 | n => n, fun | n => n⟩
theorem Tryz.sortSt : Go.Proofs.SlLaysF.n6 Tryz.prog Tryz.sortSt_ren := {
  mixed := by kernel_rfl
  f6 := ⟨Tryz.f67.name, by decide, Tryz.func67.trans (congrArg some (by kernel_rfl))⟩
  f14 := ⟨Tryz.f89.name, by decide, Tryz.func89.trans (congrArg some (by kernel_rfl))⟩
  f15 := Tryz.func90.trans (congrArg some (by kernel_rfl))
  f20 := ⟨Tryz.f102.name, by decide, Tryz.func102.trans (congrArg some (by kernel_rfl))⟩
  f21 := ⟨Tryz.f103.name, by decide, Tryz.func103.trans (congrArg some (by kernel_rfl))⟩
  f22 := ⟨Tryz.f104.name, by decide, Tryz.func104.trans (congrArg some (by kernel_rfl))⟩
  f23 := ⟨Tryz.f105.name, by decide, Tryz.func105.trans (congrArg some (by kernel_rfl))⟩
  f24 := ⟨Tryz.f106.name, by decide, Tryz.func106.trans (congrArg some (by kernel_rfl))⟩
  f25 := ⟨Tryz.f107.name, by decide, Tryz.func107.trans (congrArg some (by kernel_rfl))⟩
  f26 := ⟨Tryz.f108.name, by decide, Tryz.func108.trans (congrArg some (by kernel_rfl))⟩
  f27 := ⟨Tryz.f109.name, by decide, Tryz.func109.trans (congrArg some (by kernel_rfl))⟩
  f28 := Tryz.func110.trans (congrArg some (by kernel_rfl))
  f29 := Tryz.func111.trans (congrArg some (by kernel_rfl))
  f46 := ⟨Tryz.f121.name, by decide, Tryz.func121.trans (congrArg some (by kernel_rfl))⟩
  f47 := Tryz.func122.trans (congrArg some (by kernel_rfl))
  f48 := Tryz.func123.trans (congrArg some (by kernel_rfl))
  f49 := ⟨Tryz.f124.name, by decide, Tryz.func124.trans (congrArg some (by kernel_rfl))⟩
  f50 := ⟨Tryz.f125.name, by decide, Tryz.func125.trans (congrArg some (by kernel_rfl))⟩
  f57 := ⟨Tryz.f134.name, by decide, Tryz.func134.trans (congrArg some (by kernel_rfl))⟩
  t0 := Tryz.underlying0
  a0 := Tryz.isAgg0
  z0 := Tryz.sizeOf0
  v0 := Tryz.zeroValue0
  t3 := Tryz.underlying3
  a3 := Tryz.isAgg3
  z3 := Tryz.sizeOf3
  v3 := Tryz.zeroValue3
  t4 := Tryz.underlying4
  a4 := Tryz.isAgg4
  z4 := Tryz.sizeOf4
  v4 := Tryz.zeroValue4
  t5 := Tryz.underlying5
  a5 := Tryz.isAgg5
  z5 := Tryz.sizeOf5
  v5 := Tryz.zeroValue5
  t9 := Tryz.underlying9
  a9 := Tryz.isAgg9
  z9 := Tryz.sizeOf9
  v9 := Tryz.zeroValue9
  t22 := Tryz.underlying41
  a22 := Tryz.isAgg41
  z22 := Tryz.sizeOf41
  v22 := Tryz.zeroValue41
  a24 := Tryz.isAgg9
  z24 := Tryz.sizeOf9
  t25 := Tryz.underlying94
  a25 := Tryz.isAgg94
  z25 := Tryz.sizeOf94
  v25 := Tryz.zeroValue94
  t39 := Tryz.underlying142
  a39 := Tryz.isAgg142
  z39 := Tryz.sizeOf142
  v39 := Tryz.zeroValue142
  t45 := Tryz.underlying160
  a45 := Tryz.isAgg160
  z45 := Tryz.sizeOf160
  v45 := Tryz.zeroValue160
  t46 := Tryz.underlying161
  a46 := Tryz.isAgg161
  z46 := Tryz.sizeOf161
  v46 := Tryz.zeroValue161
  t50 := Tryz.underlying165
  a50 := Tryz.isAgg165
  z50 := Tryz.sizeOf165
  v50 := Tryz.zeroValue165
  t53 := Tryz.underlying168
  a53 := Tryz.isAgg168
  z53 := Tryz.sizeOf168
  v53 := Tryz.zeroValue168
  t55 := Tryz.underlying170
  a55 := Tryz.isAgg170
  z55 := Tryz.sizeOf170
  v55 := Tryz.zeroValue170
  t66 := Tryz.underlying173
  a66 := Tryz.isAgg173
  z66 := Tryz.sizeOf173
  v66 := Tryz.zeroValue173
  t70 := Tryz.underlying177
  a70 := Tryz.isAgg177
  z70 := Tryz.sizeOf177
  v70 := Tryz.zeroValue177
  t76 := Tryz.underlying184
  a76 := Tryz.isAgg184
  z76 := Tryz.sizeOf184
  v76 := Tryz.zeroValue184
  t77 := Tryz.underlying185
  a77 := Tryz.isAgg185
  z77 := Tryz.sizeOf185
  v77 := Tryz.zeroValue185 }
theorem Tryz.sortSt0 : Go.Proofs.SlLaysF0.n6 Tryz.prog Tryz.sortSt_ren := {
  mixed := by kernel_rfl
  f6 := ⟨Tryz.f67.name, by decide, Tryz.func67.trans (congrArg some (by kernel_rfl))⟩
  f14 := ⟨Tryz.f89.name, by decide, Tryz.func89.trans (congrArg some (by kernel_rfl))⟩
  f15 := Tryz.func90.trans (congrArg some (by kernel_rfl))
  f20 := ⟨Tryz.f102.name, by decide, Tryz.func102.trans (congrArg some (by kernel_rfl))⟩
  f21 := ⟨Tryz.f103.name, by decide, Tryz.func103.trans (congrArg some (by kernel_rfl))⟩
  f22 := ⟨Tryz.f104.name, by decide, Tryz.func104.trans (congrArg some (by kernel_rfl))⟩
  f23 := ⟨Tryz.f105.name, by decide, Tryz.func105.trans (congrArg some (by kernel_rfl))⟩
  f24 := ⟨Tryz.f106.name, by decide, Tryz.func106.trans (congrArg some (by kernel_rfl))⟩
  f25 := ⟨Tryz.f107.name, by decide, Tryz.func107.trans (congrArg some (by kernel_rfl))⟩
  f26 := ⟨Tryz.f108.name, by decide, Tryz.func108.trans (congrArg some (by kernel_rfl))⟩
  f27 := ⟨Tryz.f109.name, by decide, Tryz.func109.trans (congrArg some (by kernel_rfl))⟩
  f28 := Tryz.func110.trans (congrArg some (by kernel_rfl))
  f29 := Tryz.func111.trans (congrArg some (by kernel_rfl))
  f46 := ⟨Tryz.f121.name, by decide, Tryz.func121.trans (congrArg some (by kernel_rfl))⟩
  f47 := Tryz.func122.trans (congrArg some (by kernel_rfl))
  f48 := Tryz.func123.trans (congrArg some (by kernel_rfl))
  f49 := ⟨Tryz.f124.name, by decide, Tryz.func124.trans (congrArg some (by kernel_rfl))⟩
  f50 := ⟨Tryz.f125.name, by decide, Tryz.func125.trans (congrArg some (by kernel_rfl))⟩
  f57 := ⟨Tryz.f134.name, by decide, Tryz.func134.trans (congrArg some (by kernel_rfl))⟩
  t0 := Tryz.underlying0
  a0 := Tryz.isAgg0
  z0 := Tryz.sizeOf0
  v0 := Tryz.zeroValue0
  t3 := Tryz.underlying3
  a3 := Tryz.isAgg3
  z3 := Tryz.sizeOf3
  v3 := Tryz.zeroValue3
  t4 := Tryz.underlying4
  a4 := Tryz.isAgg4
  z4 := Tryz.sizeOf4
  v4 := Tryz.zeroValue4
  t5 := Tryz.underlying5
  a5 := Tryz.isAgg5
  z5 := Tryz.sizeOf5
  v5 := Tryz.zeroValue5
  t9 := Tryz.underlying9
  a9 := Tryz.isAgg9
  z9 := Tryz.sizeOf9
  v9 := Tryz.zeroValue9
  t22 := Tryz.underlying41
  a22 := Tryz.isAgg41
  z22 := Tryz.sizeOf41
  v22 := Tryz.zeroValue41
  t25 := Tryz.underlying94
  a25 := Tryz.isAgg94
  z25 := Tryz.sizeOf94
  v25 := Tryz.zeroValue94
  t39 := Tryz.underlying142
  a39 := Tryz.isAgg142
  z39 := Tryz.sizeOf142
  v39 := Tryz.zeroValue142
  t45 := Tryz.underlying160
  a45 := Tryz.isAgg160
  z45 := Tryz.sizeOf160
  v45 := Tryz.zeroValue160
  t46 := Tryz.underlying161
  a46 := Tryz.isAgg161
  z46 := Tryz.sizeOf161
  v46 := Tryz.zeroValue161
  t50 := Tryz.underlying165
  a50 := Tryz.isAgg165
  z50 := Tryz.sizeOf165
  v50 := Tryz.zeroValue165
  t53 := Tryz.underlying168
  a53 := Tryz.isAgg168
  z53 := Tryz.sizeOf168
  v53 := Tryz.zeroValue168
  t55 := Tryz.underlying170
  a55 := Tryz.isAgg170
  z55 := Tryz.sizeOf170
  v55 := Tryz.zeroValue170
  t66 := Tryz.underlying173
  a66 := Tryz.isAgg173
  z66 := Tryz.sizeOf173
  v66 := Tryz.zeroValue173
  t70 := Tryz.underlying177
  a70 := Tryz.isAgg177
  z70 := Tryz.sizeOf177
  v70 := Tryz.zeroValue177
  t76 := Tryz.underlying184
  a76 := Tryz.isAgg184
  z76 := Tryz.sizeOf184
  v76 := Tryz.zeroValue184
  t77 := Tryz.underlying185
  a77 := Tryz.isAgg185
  z77 := Tryz.sizeOf185
  v77 := Tryz.zeroValue185 }
end Go.Proofs
/- Lists in strict order: each once. -/
namespace Go.Ev
section
variable {α : Type} [DecidableEq α]
/-- in strict order -/
structure StrictO (lt : α → α → Bool) : Prop where
  irrefl : ∀ a, lt a a = false
  trans : ∀ a b c, lt a b = true → lt b c = true → lt a c = true
  total : ∀ a b, lt a b = false → lt b a = false → a = b
/-- how many of one list are in another one, both in strict order -/
theorem nodup_sub_len : ∀ {l m : List α}, l.Nodup → (∀ a ∈ l, a ∈ m) → l.length ≤ m.length
  | [], _, _, _ => Nat.zero_le _
  | x :: l, m, hn, hs => by
    obtain ⟨h1, h2⟩ := List.nodup_cons.1 hn
    have hx := hs x List.mem_cons_self
    have : l.length ≤ (m.erase x).length := nodup_sub_len h2 fun a ha => by
      have hne : a ≠ x := fun e => h1 (e ▸ ha)
      exact (List.mem_erase_of_ne hne).2 (hs a (List.mem_cons_of_mem _ ha))
    rw [List.length_erase_of_mem hx] at this
    have hpos : 0 < m.length := List.length_pos_of_mem hx
    simp only [List.length_cons]; omega
/-! the same by steps -/
end
end Go.Ev
namespace Go.Ev
open Go.Proofs Go.Sort
set_option maxRecDepth 100000
set_option linter.unusedSimpArgs false
/-! ### words in order -/
theorem bytesLt_nil (a : List UInt8) : bytesLt a [] = false := by cases a <;> rfl
theorem bytesLt_irrefl : ∀ a : List UInt8, bytesLt a a = false
  | [] => rfl
  | x :: r => by
    show (Nat.blt x.toNat x.toNat || (x.toNat == x.toNat && bytesLt r r)) = false
    have h : Nat.blt x.toNat x.toNat = false := by
      cases h : Nat.blt x.toNat x.toNat with
      | false => rfl
      | true => exact absurd (Nat.le_of_ble_eq_true h) (by omega)
    rw [bytesLt_irrefl r, h]; simp
theorem bytesLt_cons (x y : UInt8) (a b : List UInt8) : bytesLt (x :: a) (y :: b) = true ↔ x.toNat < y.toNat ∨ x.toNat = y.toNat ∧ bytesLt a b = true := by
  show (Nat.blt x.toNat y.toNat || (x.toNat == y.toNat && bytesLt a b)) = true ↔ _
  rw [Bool.or_eq_true, Bool.and_eq_true, beq_iff_eq]
  refine or_congr ?_ Iff.rfl
  unfold Nat.blt; rw [Nat.ble_eq]; exact Iff.rfl
theorem bytesLt_trans : ∀ a b c : List UInt8, bytesLt a b = true → bytesLt b c = true → bytesLt a c = true
  | _, [], _, h, _ => by rw [bytesLt_nil] at h; cases h
  | _, _ :: _, [], _, h => by rw [bytesLt_nil] at h; cases h
  | [], _ :: _, _ :: _, _, _ => rfl
  | x :: a, y :: b, z :: c, h1, h2 => by
    rw [bytesLt_cons] at *
    rcases h1 with h1 | ⟨e1, h1⟩ <;> rcases h2 with h2 | ⟨e2, h2⟩
    · left; omega
    · left; omega
    · left; omega
    · right; exact ⟨by omega, bytesLt_trans a b c h1 h2⟩
theorem bytesLt_total : ∀ a b : List UInt8, bytesLt a b = false → bytesLt b a = false → a = b
  | [], [], _, _ => rfl
  | [], _ :: _, h, _ => by cases h
  | _ :: _, [], _, h => by cases h
  | x :: a, y :: b, h1, h2 => by
    have n1 : ¬ (x.toNat < y.toNat ∨ x.toNat = y.toNat ∧ bytesLt a b = true) := fun h => by rw [(bytesLt_cons ..).2 h] at h1; cases h1
    have n2 : ¬ (y.toNat < x.toNat ∨ y.toNat = x.toNat ∧ bytesLt b a = true) := fun h => by rw [(bytesLt_cons ..).2 h] at h2; cases h2
    have e : x.toNat = y.toNat := by omega
    have e' : x = y := UInt8.toNat_inj.1 e
    subst e'
    rw [bytesLt_total a b (by simpa using fun h => n1 (Or.inr ⟨rfl, h⟩)) (by simpa using fun h => n2 (Or.inr ⟨rfl, h⟩))]
def ltW (s t : ByteArray) : Bool := bytesLt s.data.toList t.data.toList
theorem strictW : StrictO ltW := by
  refine ⟨fun a => bytesLt_irrefl _, fun a b c h1 h2 => bytesLt_trans _ _ _ h1 h2, fun a b h1 h2 => ?_⟩
  have := bytesLt_total _ _ h1 h2
  obtain ⟨⟨a⟩⟩ := a
  obtain ⟨⟨b⟩⟩ := b
  simp only at this
  rw [this]
def cmpW (s t : ByteArray) : Int := if ltW s t then -1 else if ltW t s then 1 else 0
theorem ltF_W : ltF cmpW = ltW := by
  funext s t
  unfold ltF cmpW
  cases h : ltW s t
  · cases h2 : ltW t s <;> simp
  · simp
theorem swoW : SWO ltW := by
  refine ⟨fun x => strictW.irrefl x, fun x y z h1 h2 => strictW.trans _ _ _ h1 h2, fun x y z h1 h2 => ?_⟩
  cases h : ltW x z with
  | false => rfl
  | true =>
    cases h3 : ltW y x with
    | true => have := strictW.trans _ _ _ h3 h; rw [h2] at this; cases this
    | false => have := strictW.total _ _ h1 h3; subst this; rw [h2] at h; cases h
theorem swoW' : SWO (ltF cmpW) := by rw [ltF_W]; exact swoW
def eqvW (s t : ByteArray) : Bool := decide (s = t)
theorem antiW (l : List ByteArray) : antiB ltW eqvW l = true := by
  refine List.all_eq_true.2 fun a _ => List.all_eq_true.2 fun b _ => ?_
  simp only [eqvW, Bool.or_eq_true, decide_eq_true_eq]
  cases h : ltW a b with
  | true => exact Or.inl (Or.inl rfl)
  | false =>
    cases h2 : ltW b a with
    | true => exact Or.inl (Or.inr rfl)
    | false => exact Or.inr (strictW.total _ _ h h2)
def encW (s : ByteArray) : List Value := [.string s]
def decW : List AV → Option ByteArray
  | [.v (.string s)] => some s
  | _ => none
theorem codedW : Coded 1 encW decW := by
  refine ⟨by decide, fun _ => rfl, fun cs a h => ?_, fun _ => rfl, fun a v hv => ?_⟩
  · unfold decW at h
    split at h
    · simp only [Option.some.injEq] at h
      subst h; rfl
    · cases h
  · simp [encW] at hv
    subst hv; rfl
theorem call91 (me : FuncId) (d : Option Tmp) (s t : ByteArray) (H : Heap) : callA (Cx e0) (lim (Cx e0)) me 91 d [.v (.string s), .v (.string t)] H = some (.v (.int .i64 (cmpW s t)), H) := by
  have he : (Cx e0).ext 91 = some cmpStr := rfl
  unfold callA
  rw [he]
  rfl
theorem ans68 (s t : ByteArray) : Ans (Cx e0) 68 [.v (.string s), .v (.string t)] (intA (cmpW s t)) := by
  unfold Ans
  rw [fn_step (fn_68 e0) (show Tryz.f68.body = some _ from rfl)]
  simp -implicitDefEqProofs only [Tryz.f68, go_sem, ↓reduceIte, Int.reduceEq, Int.reduceLT, Int.reduceLE, List.reduceReplicate, intA, setT_nil, setT_cons, call91]
theorem ans48 (s t : ByteArray) : Ans (Cx e0) 48 [.v (.string s), .v (.string t)] (intA (cmpW s t)) := by
  have h68 := fun me d H => (ans68 s t).call (me := me) (d := d) (ext_68 quiet0) (pure_68 _ _ _) rfl H
  unfold intA at h68
  unfold Ans
  rw [fn_step (fn_48 e0) (show Tryz.f48.body = some _ from rfl)]
  simp -implicitDefEqProofs only [Tryz.f48, go_sem, ↓reduceIte, Int.reduceEq, Int.reduceLT, Int.reduceLE, List.reduceReplicate, intA, setT_nil, setT_cons, h68]
theorem body48 : HasBody Tryz.prog 48 := ⟨Tryz.f48, Tryz.func48, by kernel_rfl, by kernel_rfl⟩
theorem body67 : HasBody Tryz.prog 67 := ⟨Tryz.f67, Tryz.func67, by kernel_rfl, by kernel_rfl⟩
theorem sorts67 : Sorts Tryz.prog 67 48 1 encW cmpW := by
  refine sorts_one (enc := Value.string) Tryz.sortSt Tryz.sortSt0 rfl body67 (fun x => rfl) swoW' body48 fun w x y => ?_
  refine calls_closed (nogo e0) (mixed e0) extOK0 (ans48 x y) (vals := [.string x, .string y]) w ?_
  refine ⟨rfl, fun i c v hc hv => ?_⟩
  match i with
  | 0 => simp at hc hv; subst hc hv; exact .v rfl
  | 1 => simp at hc hv; subst hc hv; exact .v rfl
  | i + 2 => simp at hc
/-! ### places in order -/
abbrev P3 := Int × Int × Int
def encP (p : P3) : List Value := [.int .i64 p.1, .int .i64 p.2.1, .int .i64 p.2.2]
def decP : List AV → Option P3
  | [.v (.int .i64 a), .v (.int .i64 b), .v (.int .i64 c)] => some (a, b, c)
  | _ => none
def p3V (p : P3) : AV := .agg [intA p.1, intA p.2.1, intA p.2.2]
def cmpPl (p q : P3) : Int := cmpP p.1 p.2.1 p.2.2 q.1 q.2.1 q.2.2
def ltP (p q : P3) : Bool := decide (p.1 < q.1 ∨ p.1 = q.1 ∧ (p.2.1 < q.2.1 ∨ p.2.1 = q.2.1 ∧ p.2.2 < q.2.2))
theorem ltF_P : ltF cmpPl = ltP := by
  funext p q
  unfold ltF ltP cmpPl cmpP
  congr 1
  simp only [orI, cmpI, eq_iff_iff]
  by_cases a1 : p.1 < q.1
  · simp [a1]
  · by_cases a2 : q.1 < p.1
    · simp [a1, a2]; omega
    · have a3 : p.1 = q.1 := by omega
      by_cases b1 : p.2.1 < q.2.1
      · simp [a3, b1]
      · by_cases b2 : q.2.1 < p.2.1
        · simp [a3, b1, b2]; omega
        · have b3 : p.2.1 = q.2.1 := by omega
          by_cases c1 : p.2.2 < q.2.2
          · simp [a3, b3, c1]
          · by_cases c2 : q.2.2 < p.2.2
            · simp [a3, b3, c1, c2]
            · simp [a3, b3, c1, c2]
theorem swoP : SWO (ltF cmpPl) := by
  rw [ltF_P]
  refine ⟨fun x => ?_, fun x y z h1 h2 => ?_, fun x y z h1 h2 => ?_⟩
  · simp [ltP]
  · simp only [ltP, decide_eq_true_eq] at *; omega
  · simp only [ltP, decide_eq_false_iff_not] at *; omega
def eqvP (p q : P3) : Bool := decide (p = q)
theorem codedP : Coded 3 encP decP := by
  refine ⟨by decide, fun _ => rfl, fun cs a h => ?_, fun _ => rfl, fun a v hv => ?_⟩
  · unfold decP at h
    split at h
    · simp only [Option.some.injEq] at h
      subst h; rfl
    · cases h
  · simp [encP] at hv
    rcases hv with rfl | rfl | rfl <;> rfl
theorem body85 : HasBody Tryz.prog 85 := ⟨Tryz.f85, Tryz.func85, by kernel_rfl, by kernel_rfl⟩
theorem body97 : HasBody Tryz.prog 97 := ⟨Tryz.f97, Tryz.func97, by kernel_rfl, by kernel_rfl⟩
theorem repL_ints (Z : Fzn) (p : P3) : Rep Z noPls (p3V p) (.agg (encP p).toArray) := by
  refine .agg rfl fun i c v hc hv => ?_
  match i with
  | 0 => simp [encP, intA] at hc hv; subst hc hv; exact .v rfl
  | 1 => simp [encP, intA] at hc hv; subst hc hv; exact .v rfl
  | 2 => simp [encP, intA] at hc hv; subst hc hv; exact .v rfl
  | i + 3 => simp at hc
theorem sorts97 : Sorts Tryz.prog 97 85 3 encP cmpPl := by
  refine sorts_many Tryz.sortPl rfl body97 (fun w => Tryz.isAgg32 w) (fun w => Tryz.sizeOf32 w) codedP (fun x v hv => ?_) swoP body85 fun w x y => ?_
  · simp [encP] at hv
    rcases hv with rfl | rfl | rfl <;> rfl
  · have h := ans85 quiet0 x.1 x.2.1 x.2.2 y.1 y.2.1 y.2.2
    refine calls_closed (nogo e0) (mixed e0) extOK0 h (vals := [.agg (encP x).toArray, .agg (encP y).toArray]) w ?_
    refine ⟨rfl, fun i c v hc hv => ?_⟩
    match i with
    | 0 => simp at hc hv; subst hc hv; exact repL_ints _ x
    | 1 => simp at hc hv; subst hc hv; exact repL_ints _ y
    | i + 2 => simp at hc
end Go.Ev
namespace Go.Ev
open Go.Proofs Go.Sort
set_option maxRecDepth 100000
set_option linter.unusedSimpArgs false
/-! ### the configuration of a law -/
/-- the functions that sort places, and words -/
noncomputable def sortPl97 : List AV → Heap → Option (AV × Heap) := Go.Ev.sortH 3 encP decP eqvP cmpPl 85
noncomputable def sortSt67 : List AV → Heap → Option (AV × Heap) := Go.Ev.sortH 1 encW decW eqvW cmpW 48
noncomputable def eA : Exts := { x := fun f => if Nat.beq f 12 then some (atArgs [] (.v (.bool true))) else e0.x f, l1 := some sortPl97, l2 := some sortSt67 }
theorem extOKA : ExtOK (Cx eA) := by
  have hx : ExtOK (Cx (e0.more 12 (atArgs [] (.v (.bool true))))) := by
    refine extOK_more (C := Cx e0) (f := 12) (g := atArgs [] (.v (.bool true))) rfl ?_ extOK0 rfl
    intro args v hv Z ρ H w vals hs hl
    obtain ⟨rfl, rfl⟩ := atArgs_some hv
    exact ext_of_ans (nogo e3) (mixed e3) extOK3 a_alive rfl Z ρ H w vals hs hl
  refine ⟨hx.ext, fun f g hf args H v H' h => ?_⟩
  have hf' : (if Nat.beq f 97 then some sortPl97 else if Nat.beq f 67 then some sortSt67 else none) = some g := hf
  split at hf'
  · rename_i hb
    have := Nat.eq_of_beq_eq_true hb
    subst this
    simp only [Option.some.injEq] at hf'
    subst hf'
    exact sortH_meets swoP codedP (fun a b h => of_decide_eq_true h) sorts97 h
  · split at hf'
    · rename_i hb
      have := Nat.eq_of_beq_eq_true hb
      subst this
      simp only [Option.some.injEq] at hf'
      subst hf'
      exact sortH_meets swoW' codedW (fun a b h => of_decide_eq_true h) sorts67 h
    · cases hf'
theorem quietA : Quiet eA := by
  intro f h1 h2
  show (if Nat.beq f 12 then some (atArgs [] (.v (.bool true))) else e0.x f) = none
  rw [if_neg (fun h => h1 (Nat.eq_of_beq_eq_true h))]
  exact quiet0 f h1 h2
end Go.Ev
namespace Go.Ev
open Go.Proofs Go.Sort
set_option maxRecDepth 100000
set_option linter.unusedSimpArgs false
/-! ### the configuration in which places are sorted -/
noncomputable def Cs : Cfg := Cx eA
@[go_sem] theorem Cs_P : Cs.P = Tryz.prog := rfl
theorem extOKS : ExtOK Cs := extOKA
def toldF : List Nat := [13, 14, 15, 17, 18, 19, 28, 30, 40, 58, 59]
theorem toldF_ok {f : FuncId} (hf : toldF.contains f = true) : (Cx eA).ext f = none ∧ ∀ me d, (Cx eA).pure me f d = true := by
  have h : f ∈ toldF := by simpa using hf
  simp only [toldF, List.mem_cons, List.not_mem_nil, or_false] at h
  rcases h with rfl | rfl | rfl | rfl | rfl | rfl | rfl | rfl | rfl | rfl | rfl
  · exact ⟨ext_13 quietA, pure_13 eA⟩
  · exact ⟨ext_14 quietA, pure_14 eA⟩
  · exact ⟨ext_15 quietA, pure_15 eA⟩
  · exact ⟨ext_17 quietA, pure_17 eA⟩
  · exact ⟨ext_18 quietA, pure_18 eA⟩
  · exact ⟨ext_19 quietA, pure_19 eA⟩
  · exact ⟨ext_28 quietA, pure_28 eA⟩
  · exact ⟨ext_30 quietA, pure_30 eA⟩
  · exact ⟨ext_40 quietA, pure_40 eA⟩
  · exact ⟨ext_58 quietA, pure_58 eA⟩
  · exact ⟨ext_59 quietA, pure_59 eA⟩
theorem told {f : FuncId} (hf : toldF.contains f = true) {args : List AV} {v : AV} (h : Ans (Cx eA) f args v) (hb : boundL args = 0) (me : FuncId) (d : Option Tmp) (H : Heap) : callA Cs (lim Cs) me f d args H = some (v, H) :=
  h.call (C := Cx eA) (toldF_ok hf).1 ((toldF_ok hf).2 me d) hb H
theorem toldI {f : FuncId} (hf : toldF.contains f = true) {args : List AV} {v : AV} (h : Ans (Cx eA) f args v) (hb : boundL args = 0) (me : FuncId) (d : Option Tmp) : callI Cs me f d args = some v :=
  h.callI (C := Cx eA) (toldF_ok hf).1 ((toldF_ok hf).2 me d) hb
theorem callS12 (me : FuncId) (d : Option Tmp) (H : Heap) : callA Cs (lim Cs) me 12 d [] H = some (.v (.bool true), H) := by
  have h : Cs.ext 12 = some (atArgs [] (.v (.bool true))) := rfl
  unfold callA
  rw [h]; rfl
end Go.Ev
namespace Go.Ev
open Go.Proofs
set_option maxRecDepth 100000
set_option linter.unusedSimpArgs false
/-! ### copies -/
structure Rd where
  ch : Int
  ln : Int
  wd : Int
  kind : Int
  word : ByteArray
end Go.Ev
namespace Go.Ev
open Go.Proofs
set_option maxRecDepth 100000
set_option linter.unusedSimpArgs false
theorem str_eqB (u w : ByteArray) : bytesEq u.data.toList w.data.toList = decide (u = w) := by
  rw [bytesEq_iff, Bool.eq_iff_iff]
  simp only [decide_eq_true_eq]
  exact (str_ext u w).symm
theorem bin_seq {P : Program} {t : TypeId} (x y : Operand) (u w : ByteArray) : binA P .eql t x y (.v (.string u)) (.v (.string w)) = some (.v (.bool (decide (u = w)))) := by
  rw [← str_eqB]; rfl
theorem bin_sne {P : Program} {t : TypeId} (x y : Operand) (u w : ByteArray) : binA P .neq t x y (.v (.string u)) (.v (.string w)) = some (.v (.bool (!decide (u = w)))) := by
  rw [← str_eqB]; rfl
def emp : ByteArray := ⟨#[]⟩
def at0 (l : Line) (i : Int) : ByteArray := (l[i.toNat]?).getD emp
/-- what readings of a kind have to be like -/
def fits1 (l : Line) (r : Rd) : Bool := decide (0 ≤ r.wd ∧ r.wd < l.length) && decide (r.word = emp)
def fits2 (l : Line) (r : Rd) : Bool := withinB 0 l.length [r.wd] && wordB r.word
def fits3 (l : Line) (r : Rd) : Bool := decide (0 ≤ r.wd ∧ r.wd < l.length) && wordB r.word && !decide (r.word = at0 l r.wd)
end Go.Ev
/- Appending to slices of this seat's types. Made by program. -/
namespace Go.Ev
open Go.Proofs
set_option maxRecDepth 1000000
end Go.Ev
namespace Go.Ev
open Go.Proofs
set_option maxRecDepth 100000
set_option linter.unusedSimpArgs false
attribute [local irreducible] Wp WpS
/-! ### fit -/
end Go.Ev
namespace Go.Ev
open Go.Proofs
set_option maxRecDepth 100000
set_option linter.unusedSimpArgs false
attribute [local irreducible] Wp WpS
/-! ### the readings of a line -/
def atLine (ch ln wd : Int) (r : Rd) : Bool := eqP r.ch r.ln 0 ch ln wd
end Go.Ev
namespace Go.Ev
open Go.Proofs
set_option maxRecDepth 100000
set_option linter.unusedSimpArgs false
attribute [local irreducible] Wp WpS
/-! ### readers of lines -/
end Go.Ev
namespace Go.Ev
open Go.Proofs
set_option maxRecDepth 100000
set_option linter.unusedSimpArgs false
attribute [local irreducible] Wp WpS
theorem SlOf.objs {sz : Nat} {xs : List AV} {x : AV} (h : SlOf sz xs x) : objsOf x = [] := by rcases h with ⟨rfl, rfl⟩ | ⟨cap, rfl⟩ <;> rfl
end Go.Ev
namespace Go.Ev
open Go.Proofs
set_option maxRecDepth 100000
set_option linter.unusedSimpArgs false
attribute [local irreducible] Wp WpS
def rowOf : AV → Option Nat
  | .sl b _ _ _ _ => some b
  | _ => none
/-- what was read, and where it lies -/
def DoneR (X : Heap) (ds : List ByteArray) (dv : AV) : Prop :=
  (ds = [] ∧ dv = .v (.slice none 0 0)) ∨ ∃ b v, X.lock ≤ b ∧ b < X.size ∧ dv = .sl b v 0 ds.length none ∧ X.row b v = some (0, 9, 1, true, strs ds)
structure Turned (X Y : Heap) (dv dv' : AV) (ds' : List ByteArray) : Prop where
  lock : Y.lock = X.lock
  size : X.size ≤ Y.size
  same : ∀ i, i < X.size → rowOf dv ≠ some i → Y.get i = X.get i
  done : DoneR Y ds' dv'
  row : rowOf dv' = rowOf dv ∨ ∃ i, rowOf dv' = some i ∧ X.size ≤ i
theorem row_put_same {H : Heap} {b v m e sz : Nat} {g : Bool} {cs : List AV} (hb : b < H.size) : (H.put b (.cells v m e sz g cs)).row b v = some (m, e, sz, g, cs) := by
  unfold Heap.row
  rw [put_get_eq _ (by omega)]
  simp
end Go.Ev
namespace Go.Ev
open Go.Proofs
set_option maxRecDepth 100000
set_option linter.unusedSimpArgs false
attribute [local irreducible] Wp WpS
theorem takeH_get {n i : Nat} {H : Heap} (hi : i < n) : ({ H with objs := H.objs.take n } : Heap).get i = H.get i := by
  unfold Heap.get
  simp only
  rw [List.getElem?_take, if_pos hi]
theorem settle_lo {n i : Nat} {H : Heap} (hi : i < n) : (settleH n H).get i = H.get i := by
  unfold settleH
  split
  · exact takeH_get hi
  · rfl
theorem settle_some {n i : Nat} {H : Heap} {o : AObj} (h : H.get i = some o) : (settleH n H).get i = some o := by
  unfold settleH
  split
  · rename_i ha
    by_cases hi : i < n
    · rw [takeH_get hi]; exact h
    · exfalso
      unfold Heap.get at h
      have h2 : (H.objs.drop n)[i - n]? = some (some o) := by
        rw [List.getElem?_drop, show n + (i - n) = i by omega]
        cases hq : H.objs[i]? with
        | none => rw [hq] at h; exact nomatch h
        | some z => rw [hq] at h; simp only [Option.join] at h; rw [show z = some o from h]
      have := List.all_eq_true.1 ha _ (List.mem_of_getElem? h2)
      exact nomatch this
  · exact h
theorem settle_size' {n : Nat} {H : Heap} (h : n ≤ H.size) : n ≤ (settleH n H).size := by
  unfold settleH
  split
  · unfold Heap.size at *; simp only [List.length_take]; omega
  · exact h
theorem settle_lock {n : Nat} {H : Heap} : (settleH n H).lock = H.lock := by unfold settleH; split <;> rfl
theorem row_of_get {H : Heap} {b v m e sz : Nat} {g : Bool} {cs : List AV} (h : H.row b v = some (m, e, sz, g, cs)) : H.get b = some (.cells v m e sz g cs) := by
  unfold Heap.row at h
  split at h
  · rename_i hq; split at h
    · rename_i hv; subst hv; simp only [Option.some.injEq, Prod.mk.injEq] at h; obtain ⟨rfl, rfl, rfl, rfl, rfl⟩ := h; exact hq
    · exact nomatch h
  · exact nomatch h
theorem get_row {H : Heap} {b v m e sz : Nat} {g : Bool} {cs : List AV} (h : H.get b = some (.cells v m e sz g cs)) : H.row b v = some (m, e, sz, g, cs) := by
  unfold Heap.row; rw [h]; simp
theorem get_size {H : Heap} {b : Nat} {o : AObj} (h : H.get b = some o) : b < H.size := by
  unfold Heap.get at h
  unfold Heap.size
  cases hq : H.objs[b]? with
  | none => rw [hq] at h; exact nomatch h
  | some z => exact (List.getElem?_eq_some_iff.1 hq).1
/-- what was read stays where it lies when another object is laid -/
theorem DoneR.put {X : Heap} {ds : List ByteArray} {dv : AV} (h : DoneR X ds dv) {i : Nat} (o : AObj) (hi : i < X.size) (hne : rowOf dv ≠ some i) : DoneR (X.put i o) ds dv := by
  rcases h with h | ⟨b, v, h1, h2, rfl, h4⟩
  · exact Or.inl h
  · refine Or.inr ⟨b, v, h1, by rw [put_sizeI _ hi]; exact h2, rfl, get_row ?_⟩
    rw [put_get_ne _ (by omega) (fun h => hne (by rw [← h]; rfl))]
    exact row_of_get h4
theorem DoneR.settle {X : Heap} {ds : List ByteArray} {dv : AV} (h : DoneR X ds dv) (n : Nat) : DoneR (settleH n X) ds dv := by
  rcases h with h | ⟨b, v, h1, h2, rfl, h4⟩
  · exact Or.inl h
  · have := settle_some (n := n) (row_of_get h4)
    exact Or.inr ⟨b, v, by rw [settle_lock]; exact h1, get_size this, rfl, get_row this⟩
theorem DoneR.trim {X : Heap} {ds : List ByteArray} {dv : AV} (h : DoneR X ds dv) (n : Nat) (lx : AV) : DoneR (X.trim n [.agg [lx, dv]] []) ds dv := by
  rcases h with h | ⟨b, v, h1, h2, rfl, h4⟩
  · exact Or.inl h
  · unfold Heap.trim
    split
    · rename_i hq
      rw [Bool.and_eq_true, Bool.and_eq_true, Bool.and_eq_true, Nat.ble_eq] at hq
      have hb : b < n := by
        have h5 := hq.1.1.1
        have : b + 1 ≤ boundL [.agg [lx, .sl b v 0 ds.length none]] := by
          simp only [boundL, bound]
          exact Nat.le_trans (Nat.le_trans (Nat.le_max_left _ _) (Nat.le_max_right _ _)) (Nat.le_max_left _ _)
        omega
      have hg := (takeH_get (H := X) hb).trans (row_of_get h4)
      exact Or.inr ⟨b, v, h1, get_size hg, rfl, get_row hg⟩
    · exact Or.inr ⟨b, v, h1, h2, rfl, h4⟩
theorem trim_lo {n i : Nat} {H : Heap} {vs : List AV} {ms : List Nat} (hi : i < n) : (H.trim n vs ms).get i = H.get i := by
  unfold Heap.trim
  split
  · exact takeH_get hi
  · rfl
theorem trim_size' {n : Nat} {H : Heap} {vs : List AV} {ms : List Nat} (h : n ≤ H.size) : n ≤ (H.trim n vs ms).size := by
  unfold Heap.trim
  split
  · unfold Heap.size at *; simp only [List.length_take]; omega
  · exact h
theorem trim_lock {n : Nat} {H : Heap} {vs : List AV} {ms : List Nat} : (H.trim n vs ms).lock = H.lock := by unfold Heap.trim; split <;> rfl
end Go.Ev
namespace Go.Ev
open Go.Proofs
set_option maxRecDepth 100000
set_option linter.unusedSimpArgs false
attribute [local irreducible] Wp WpS
theorem DoneR.plus {X : Heap} {ds : List ByteArray} {dv : AV} (h : DoneR X ds dv) (E : List (Option AObj)) : DoneR (X.plus E) ds dv := by
  rcases h with h | ⟨b, v, h1, h2, rfl, h4⟩
  · exact Or.inl h
  · exact Or.inr ⟨b, v, h1, by rw [plus_size]; omega, rfl, by rw [rowLo h2]; exact h4⟩
theorem DoneR.below {X : Heap} {ds : List ByteArray} {dv : AV} (h : DoneR X ds dv) {i : Nat} (hi : X.size ≤ i) : rowOf dv ≠ some i := by
  rcases h with ⟨_, rfl⟩ | ⟨b, v, h1, h2, rfl, h4⟩
  · exact fun h => nomatch h
  · intro h; simp only [rowOf, Option.some.injEq] at h; omega
theorem Turned.off {X Y : Heap} {dv dv' : AV} {_ds ds' : List ByteArray} (ht : Turned X Y dv dv' ds') {i : Nat} (hi : i < X.size) (hne : rowOf dv ≠ some i) : rowOf dv' ≠ some i := by
  rcases ht.row with h | ⟨j, h, hj⟩
  · rw [h]; exact hne
  · rw [h]; intro h; simp only [Option.some.injEq] at h; omega
theorem DoneR.flat {X : Heap} {ds : List ByteArray} {dv : AV} (h : DoneR X ds dv) : dv.flat = true ∧ dv.cells = [dv] := by
  rcases h with ⟨_, rfl⟩ | ⟨b, v, h1, h2, rfl, h4⟩ <;> exact ⟨rfl, rfl⟩
end Go.Ev
namespace Go.Ev
open Go.Proofs
set_option maxRecDepth 100000
set_option linter.unusedSimpArgs false
attribute [local irreducible] Wp WpS
/-- how far a line is read, and to what -/
def rdOne (ls : List ByteArray) (st : Nat × List ByteArray) (r : Rd) : Nat × List ByteArray :=
  (if r.kind = 2 then r.wd.toNat else r.wd.toNat + 1, st.2 ++ (ls.drop st.1).take (r.wd.toNat - st.1) ++ if r.kind = 1 then [] else [r.word])
theorem chunk_one : ∀ (l : List AV), chunk 1 l.length l = l
  | [] => rfl
  | x :: r => by
    show (if 1 = 1 then (x :: r).headD undefA else _) :: chunk 1 r.length ((x :: r).drop 1) = x :: r
    rw [if_pos rfl, List.drop_one, List.tail_cons, chunk_one r]; rfl
theorem trim_whole {H : Heap} {n : Nat} (h : H.size ≤ n) (vs : List AV) (ms : List Nat) : H.trim n vs ms = H := by
  unfold Heap.trim
  split
  · unfold Heap.size at h
    rw [List.take_of_length_le h]
  · rfl
def readLineL (ls : List ByteArray) (l : List Rd) : List ByteArray := (l.foldl (rdOne ls) (0, [])).2 ++ ls.drop (l.foldl (rdOne ls) (0, [])).1
end Go.Ev
namespace Go.Ev
open Go.Proofs
set_option maxRecDepth 100000
set_option linter.unusedSimpArgs false
attribute [local irreducible] Wp WpS
/-- a row that is none of a region's own places -/
def Clear (base top : Nat) (dv : AV) : Prop := ∀ i, rowOf dv = some i → i < base ∨ top ≤ i
/-- what a region goes on with behind a call -/
structure Behind (base top : Nat) (G G' : Heap) (dv dv' : AV) (ds' : List ByteArray) : Prop where
  lock : G'.lock = G.lock
  size : G.size ≤ G'.size
  same : ∀ i, i < base → rowOf dv ≠ some i → G'.get i = G.get i
  done : DoneR G' ds' dv'
  clear : Clear base top dv'
  row : rowOf dv' = rowOf dv ∨ ∃ i, rowOf dv' = some i ∧ G.size ≤ i
theorem Behind.off {base top : Nat} {G G' : Heap} {dv dv' : AV} {ds' : List ByteArray} (h : Behind base top G G' dv dv' ds') {i : Nat} (hi : i < G.size) (hne : rowOf dv ≠ some i) : rowOf dv' ≠ some i := by
  rcases h.row with h | ⟨j, h, hj⟩
  · rw [h]; exact hne
  · rw [h]; intro h; simp only [Option.some.injEq] at h; omega
end Go.Ev
namespace Go.Ev
open Go.Proofs
set_option maxRecDepth 100000
set_option linter.unusedSimpArgs false
attribute [local irreducible] Wp WpS
end Go.Ev
namespace Go.Ev
open Go.Proofs
set_option maxRecDepth 100000
set_option linter.unusedSimpArgs false
attribute [local irreducible] Wp WpS
end Go.Ev
namespace Go.Ev
open Go.Proofs
set_option maxRecDepth 100000
set_option linter.unusedSimpArgs false
attribute [local irreducible] Wp WpS
/-- a chapter that is being read: its number, its lines so far, and the place of their row -/
structure Cst where
  id : AV
  ls : List AV
  b : Nat
  v : Nat
def Cst.sl (c : Cst) : AV := if c.ls = [] then .v (.slice none 0 0) else .sl c.b c.v 0 c.ls.length none
def Cst.cells (c : Cst) : List AV := [c.id, c.sl]
/-! ### what is handed back -/
def Cst.fz (c : Cst) : AV := if c.ls = [] then .v (.slice none 0 0) else .vs 1 c.ls none
end Go.Ev
namespace Go.Ev
open Go.Proofs
set_option maxRecDepth 100000
set_option linter.unusedSimpArgs false
attribute [local irreducible] Wp WpS
end Go.Ev
namespace Go.Ev
open Go.Proofs
set_option maxRecDepth 100000
set_option linter.unusedSimpArgs false
attribute [local irreducible] Wp WpS
/-! ### slices that are closed, or lie in memory -/
def SlH (X : Heap) (xs : List AV) (x : AV) : Prop := SlOf 1 xs x ∨ ∃ b v cap m e g cs, x = .sl b v 0 xs.length cap ∧ b < X.size ∧ X.row b v = some (m, e, 1, g, cs) ∧ cs.take xs.length = xs ∧ xs.length ≤ cs.length
theorem SlH.len {X : Heap} {xs : List AV} {x : AV} (h : SlH X xs x) : slLen x = some (.v (.int .i64 xs.length)) := by
  rcases h with h | ⟨b, v, cap, m, e, g, cs, rfl, -⟩
  · exact h.len
  · rfl
theorem SlH.get {X : Heap} {N : Nat} (hN : X.size = N) {xs : List AV} {x : AV} (h : SlH X xs x) {i : Nat} {z : AV} (hz : xs[i]? = some z) (hzc : z.cells = [z]) (k : IntKind) :
    ∃ p, slIdx 1 x (.v (.int k (i : Int))) = some p ∧ (∀ (t : TypeId) E, isAggT Tryz.prog t = some false → sizeT Tryz.prog t = some 1 → loadA Tryz.prog (X.plus E) t p = some z) ∧ ∀ top, N ≤ top → (objsOf p).all (fun c => ltB c top) = true := by
  have hi := (List.getElem?_eq_some_iff.1 hz).1
  rcases h with h | ⟨b, v, cap, m, e, g, cs, rfl, hb, hr, ht, hl⟩
  · refine ⟨.ro z 0, h.idx hz k, fun t E ha hs => ?_, fun _ _ => rfl⟩
    unfold loadA partOf
    rw [ha, hs]
    show z.cells[0]? = some z
    rw [hzc]; rfl
  · refine ⟨.ptr b v (0 + i * 1), ?_, fun t E ha hs => ?_, fun top h => ?_⟩
    · unfold slIdx
      simp; omega
    · have hrow : (X.plus E).row b v = some (m, e, 1, g, cs) := by rw [rowLo hb, hr]
      unfold loadA
      simp only [hrow]
      unfold partOf
      rw [ha, hs]
      simp only
      rw [Nat.zero_add, Nat.mul_one, ← List.getElem?_take_of_lt (j := xs.length) hi, ht, hz]
    · simp only [objsOf, List.all_cons, List.all_nil, Bool.and_true]
      unfold ltB
      simp; omega
theorem SlH.lock {X : Heap} {xs : List AV} {x : AV} (h : SlH X xs x) (k : Nat) : SlH { X with lock := k } xs x := by
  rcases h with h | ⟨b, v, cap, m, e, g, cs, rfl, hb, hr, ht⟩
  · exact Or.inl h
  · exact Or.inr ⟨b, v, cap, m, e, g, cs, rfl, hb, hr, ht⟩
theorem SlH.closed {X : Heap} {xs : List AV} {x : AV} (h : SlH X xs x) (hb : bound x = 0) (Y : Heap) : SlH Y xs x := by
  rcases h with h | ⟨b, v, cap, m, e, g, cs, rfl, -⟩
  · exact Or.inl h
  · simp [bound] at hb
theorem SlH.yld {X : Heap} {xs : List AV} {x : AV} (h : SlH X xs x) : isYld x = false := by
  rcases h with h | ⟨b, v, cap, m, e, g, cs, rfl, -⟩
  · rcases h with ⟨rfl, _⟩ | ⟨c, rfl⟩ <;> rfl
  · rfl
end Go.Ev
namespace Go.Ev
open Go.Proofs
set_option maxRecDepth 100000
set_option linter.unusedSimpArgs false
attribute [local irreducible] Wp WpS
theorem isAgg9 : isAggT Tryz.prog 9 = some false := by kernel_rfl
end Go.Ev
namespace Go.Ev
open Go.Proofs Go.Sort
set_option maxRecDepth 100000
set_option linter.unusedSimpArgs false
attribute [local irreducible] Wp WpS
/-! ### rows of places -/
def clP (ps : List P3) : List AV := (flatE encP ps).map AV.v
theorem clP_cons (p : P3) (ps : List P3) : clP (p :: ps) = [intA p.1, intA p.2.1, intA p.2.2] ++ clP ps := by
  unfold clP flatE encP intA
  simp
theorem clP_append (ps qs : List P3) : clP (ps ++ qs) = clP ps ++ clP qs := by
  unfold clP flatE; simp
theorem clP_len (ps : List P3) : (clP ps).length = ps.length * 3 := by
  unfold clP; rw [List.length_map, flatE_len (k := 3) (fun _ => rfl)]
theorem app47 (H : Heap) (slot : Nat) (s x : AV) : appendA Tryz.prog H slot [47, 47] [s, x] = appG 32 3 24 H slot s (cellsFrom H 3 x) := app_eq2 (by kernel_rfl) (by kernel_rfl) (by kernel_rfl) (by kernel_rfl) (by decide) (by decide) H slot s x
theorem appTo_vs0 (e sz b : Nat) (H : Heap) (slot n : Nat) (new : List AV) : appTo e sz b H slot n new (.vs sz [] (some 0)) = if n = 0 then some (.vs sz [] (some 0), H) else if fitsA b n = true then some (.sl slot 0 0 n none, H.put slot (.cells 0 (boundL new) e sz true new)) else none := by
  unfold appTo
  simp only [ne_eq, not_true_eq_false, if_false, List.length_nil, List.flatMap_nil, List.all_nil, Bool.and_true, List.nil_append, Nat.zero_add, if_true]
  rw [show Nat.max (boundL []) (boundL new) = boundL new from Nat.zero_max (boundL new)]
/-- what is left behind, to the object -/
def rawX (H : Heap) (w : AV) (Y : Heap) : PostO := fun v H' => v = w ∧ H'.trim H.size [v] [] = Y
theorem callA_rawX {C : Cfg} {me f : FuncId} {d : Option Tmp} {args : List AV} {H Y : Heap} {w : AV} (hx : C.ext f = none) (hp : C.pure me f d = false) (h : Fn' C f args H (rawX H w Y)) : callA C (lim C) me f d args H = some (w, Y) := by
  unfold Fn' at h
  rw [bindO_iff] at h
  obtain ⟨o, h1, h2⟩ := h
  have hk : callKind C me f d args = 0 := by unfold callKind; rw [hp]; rfl
  cases o with
  | ret v H' =>
    obtain ⟨rfl, hF⟩ := h2
    unfold callA callB
    rw [hx]
    simp only [hk, h1, hF]
  | _ => exact h2.elim
theorem rawX_far {X Y : Heap} {N : Nat} (hN : X.size = N) (w v : AV) (h : v = w) (hv : N < bound v) : AtO (rawX X w Y) v Y := by
  refine ⟨h, ?_⟩
  unfold Heap.trim
  rw [if_neg]
  rw [Bool.and_eq_true, Bool.and_eq_true, Bool.and_eq_true, Nat.ble_eq]
  have : boundL [v] = bound v := by show Nat.max (bound v) 0 = _; exact Nat.max_eq_left (Nat.zero_le _)
  rw [this]
  exact fun g => by have := g.1.1.1; omega
theorem rawX_same {X : Heap} (w v : AV) (h : v = w) : AtO (rawX X w X) v X := ⟨h, trim_size _ _ _⟩
/-! ### sorting -/
end Go.Ev
namespace Go.Ev
open Go.Proofs
set_option maxRecDepth 100000
set_option linter.unusedSimpArgs false
attribute [local irreducible] Wp WpS
/-! ### the words of a text, for bodies that lay memory -/
theorem okRun_app {S : Type} (stp : S → List AV → Bool × S) (ok : S → List AV → Prop) : ∀ (l r : List (List AV)) (s : S), okRun stp ok (l ++ r) s → okRun stp ok l s ∧ ((runIt stp l s).1 = true → okRun stp ok r (runIt stp l s).2)
  | [], r, s, h => ⟨trivial, fun _ => h⟩
  | x :: l, r, s, h => by
    have h2 := fun hg => okRun_app stp ok l r _ (h.2 hg)
    refine ⟨⟨h.1, fun hg => (h2 hg).1⟩, fun hq => ?_⟩
    rw [runIt_cons] at hq ⊢
    cases hs : (stp s x).1 with
    | true => rw [hs, if_pos rfl] at hq; rw [if_pos rfl]; exact (h2 hs).2 hq
    | false => rw [hs] at hq; simp at hq
def stp63b {S : Type} (stp : S → List AV → Bool × S) (s : S) (x : List AV) : AExit × S := (if (runIt stp (expandL x) s).1 then .normal else .ret, (runIt stp (expandL x) s).2)
def Ok63b {S : Type} (stp : S → List AV → Bool × S) (ok : S → List AV → Prop) (s : S) (x : List AV) : Prop := ∃ (i k : Nat) (lx : AV) (els : List AV), x = [placeA i k 0, lx] ∧ SlOf 1 els lx ∧ (∀ z ∈ els, z.cells = [z]) ∧ els.length < 2 ^ 63 ∧ okRun stp ok (expandL x) s
def It63 (x : List AV) : Prop := ∃ (i k : Nat) (lx : AV) (els : List AV), x = [placeA i k 0, lx] ∧ SlOf 1 els lx ∧ (∀ z ∈ els, z.cells = [z]) ∧ els.length < 2 ^ 63
theorem okRun63b {S : Type} (stp : S → List AV → Bool × S) (ok : S → List AV → Prop) : ∀ (T : List (List AV)) (s : S), (∀ x ∈ T, It63 x) → okRun stp ok (T.flatMap expandL) s → okRun (fun s x => (isGo (stp63b stp s x).1, (stp63b stp s x).2)) (Ok63b stp ok) T s
  | [], _, _, _ => trivial
  | x :: r, s, hx, h => by
    rw [List.flatMap_cons] at h
    obtain ⟨h1, h2⟩ := okRun_app stp ok _ _ s h
    refine ⟨?_, fun hg => ?_⟩
    · obtain ⟨i, k, lx, els, rfl, a, b, c⟩ := hx x (List.mem_cons_self ..)
      exact ⟨i, k, lx, els, rfl, a, b, c, h1⟩
    · refine okRun63b stp ok r _ (fun y hy => hx y (List.mem_cons_of_mem _ hy)) (h2 ?_)
      unfold stp63b at hg
      simp only at hg
      cases hq : (runIt stp (expandL x) s).1 with
      | true => rfl
      | false => rw [hq] at hg; cases hg
theorem fold63b {S : Type} (stp : S → List AV → Bool × S) : ∀ (T : List (List AV)) (s : S), foldE (stp63b stp) T s = (if (runIt stp (T.flatMap expandL) s).1 then .normal else .ret, (runIt stp (T.flatMap expandL) s).2)
  | [], s => rfl
  | x :: r, s => by
    rw [List.flatMap_cons, runIt_append]
    have ih := fold63b stp r (runIt stp (expandL x) s).2
    cases hq : (runIt stp (expandL x) s).1 with
    | true =>
      rw [foldE_go (by unfold stp63b; simp only [hq, if_true]), if_pos rfl]
      exact ih
    | false =>
      rw [foldE_out (by unfold stp63b; simp only [hq]; intro h; cases h)]
      unfold stp63b
      simp only [hq, Bool.false_eq_true, if_false]
theorem live_run {S : Type} (stp : S → List AV → Bool × S) (ok : S → List AV → Prop) (live : S → Prop) (hst : ∀ s x, live s → ok s x → (stp s x).1 = true → live (stp s x).2) : ∀ (l : List (List AV)) (s : S), okRun stp ok l s → live s → (runIt stp l s).1 = true → live (runIt stp l s).2
  | [], s, _, h, _ => h
  | x :: r, s, ho, h, hq => by
    rw [runIt_cons] at hq ⊢
    cases hs : (stp s x).1 with
    | true => rw [hs, if_pos rfl] at hq; rw [if_pos rfl]; exact live_run stp ok live hst r _ (ho.2 hs) (hst s x h ho.1 hs) hq
    | false => rw [hs] at hq; simp at hq
def R63b {S : Type} (R : S → Fm → Prop) (N : Nat) (l : Nat) (s : S) (m : Fm) : Prop := ∃ m0, R s m0 ∧ ¬ keyIn N m0 ∧ ¬ keyIn (N + 1) m0 ∧ ¬ keyIn (N + 2) m0 ∧ m = (N, .cells 0 (bound (.yld l)) 111 1 false [.yld l]) :: m0
/-- the place that is handed over -/
def bx63 (i k w : Nat) : AObj := .cells 0 0 32 1 false [.v (.int .i64 i), .v (.int .i64 k), .v (.int .i64 w)]
theorem bd2K_at' {S : Type} (R : S → Fm → Prop) (d : Nat) (L' : ALoop) (m : Fm) (H : Heap) (p : AExit × S) (e : AExit) (a : AAct) (H' : Heap) : AtK (bd2K R d L' m H p) e a H' = (e = p.1 ∧ ∃ m', R p.2 m' ∧ Has m' H' ∧ loopObj H' (d + 1) = some L' ∧ Moves ((d + 1, .loop L') :: m) H ((d + 1, .loop L') :: m') H') := rfl
set_option maxHeartbeats 4000000 in
theorem yields2_63 {e : Exts} (he : Quiet e) (ch : AV) (xs : List AV) (hch : SlOf 2 xs ch) (hall : ∀ y ∈ xs, OkCh2 y) (hlen : xs.length < 2 ^ 63) : Yields2 (Cx e) 63 [.ro (.agg [ch]) 0] (allIts xs) := by
  intro l S R stp ok live n0 k hsrc s m H hok hlv hR hH hlk hsz
  have hkn := hsrc.klock
  have hit : ∀ x ∈ chapIts 0 xs, It63 x := by
    intro x hx
    obtain ⟨i, y, j, z, hy, hz, rfl⟩ := chapIts_of xs 0 x hx
    obtain ⟨id, l0, lxs, rfl, hl0, -, hlx⟩ := hall y (List.mem_of_getElem? hy)
    have hz' : lxs[j]? = some z := by rw [← hl0.elems]; exact hz
    obtain ⟨els, h1, h2, h3⟩ := hlx z (List.mem_of_getElem? hz')
    exact ⟨0 + i, j, z, els, rfl, h1, h2, h3⟩
  have key : Fn' (Cx e) 63 [.yld l, .ro (.agg [ch]) 0] H fun v H' => v = .tup [] ∧ ∃ m', R (runIt stp (allIts xs) s).2 m' ∧ Has m' H' ∧ Moves m H m' H' := by
    obtain ⟨N, hN⟩ : ∃ N, H.size = N := ⟨_, rfl⟩
    have hlkN : H.lock ≤ N := by omega
    generalize hKK : (fun v H' => v = .tup [] ∧ ∃ m', R (runIt stp (allIts xs) s).2 m' ∧ Has m' H' ∧ Moves m H m' H' : PostO) = KK
    rw [fn_step (fn_63 e) (show Tryz.f63.body = some _ from rfl), ← plus_nil H]
    simp -implicitDefEqProofs only [Tryz.f63, go_sem, ↓reduceIte, Int.reduceEq, Int.reduceLT, Int.reduceLE, List.reduceReplicate, intA, setT_nil, setT_cons, ↓boolP_bool, ↓iteB_true, ↓iteB_false, sizeP hN, putP0 hN, putP hN, settleP0 hN, settleP hN, rowP0 hN, rowP hN, storeP0 hN hlkN, storeP hN hlkN, List.length_nil, Nat.add_zero, hch.cells, call64 he ch xs hch]
    have hN1 : (H.plus [some (.cells 0 (bound (.yld l)) 111 1 false [.yld l])]).size = N + 1 := by rw [plus_size, hN]; rfl
    have hgN : (H.plus [some (.cells 0 (bound (.yld l)) 111 1 false [.yld l])]).get N = some (.cells 0 (bound (.yld l)) 111 1 false [.yld l]) := plus_mid_get hN [] [] _
    refine wp_range2 (yields2_88 ch xs hch (fun y hy => (hall y hy).ok) hlen) rfl (R63b R N l) (stp63b stp) live (Ok63b stp ok) (n0 := N + 1) (k := k) (by rw [hN1]; exact Nat.le_refl _) (by omega) (fun x hx => ?_) ?_ ?_ (fun s x hl hx h => ?_) ?_ s ((N, .cells 0 (bound (.yld l)) 111 1 false [.yld l]) :: m) (okRun63b stp ok _ s hit hok) hlv ⟨m, hR, not_key hH (by omega), not_key hH (by omega), not_key hH (by omega), rfl⟩ ?_ (by rw [plus_lock]; exact hlk) ?_
    · obtain ⟨i, k, lx, els, rfl, -⟩ := hit x hx
      rfl
    · rintro s' m' ⟨m0, hR0, k1, k2, k3, rfl⟩ n hn ⟨p, hp, hpn⟩
      rcases List.mem_cons.1 hp with rfl | hp
      · simp only at hpn; omega
      · obtain ⟨q, hq, h1, h2⟩ := hsrc.anch s' m0 hR0 n (by omega) ⟨p, hp, hpn⟩
        exact ⟨q, List.mem_cons_of_mem _ hq, h1, h2⟩
    · rintro s' m' ⟨m0, hR0, k1, k2, k3, rfl⟩
      rw [hN1]
      constructor
      · rintro ⟨p, hp, he⟩
        rcases List.mem_cons.1 hp with rfl | hp
        · simp only at he; omega
        · exact k2 ⟨p, hp, he⟩
      · rintro ⟨p, hp, he⟩
        rcases List.mem_cons.1 hp with rfl | hp
        · simp only at he; omega
        · exact k3 ⟨p, hp, he⟩
    · obtain ⟨i, kk, lx, els, rfl, h1, h2, h3, h4⟩ := hx
      refine live_run stp ok live hsrc.step _ _ h4 hl ?_
      unfold stp63b at h
      simp only at h
      cases hq : (runIt stp (expandL [placeA i kk 0, lx]) s).1 with
      | true => rfl
      | false => rw [hq] at h; cases h
    · rw [hN1]
      rintro L L' s x' x H' - hl ⟨i, kk, lx, els, rfl, hels, hec, hel, hokx⟩ - ⟨m0, hR0, k1, k2, k3, rfl⟩ hHm hd0 hlo hlk' hsz'
      have hHm0 : Has m0 H' := fun p hp => hHm p (List.mem_cons_of_mem _ hp)
      obtain ⟨N2, hN2⟩ : ∃ N2, H'.size = N2 := ⟨_, rfl⟩
      have hlk2 : H'.lock ≤ N2 := by omega
      have hp1 : stp63b stp s [placeA i kk 0, lx] = (if (runIt stp (wIts (intA i) (intA kk) 0 els) s).1 then .normal else .ret, (runIt stp (wIts (intA i) (intA kk) 0 els) s).2) := by
        unfold stp63b
        rw [show expandL [placeA i kk 0, lx] = wIts (intA i) (intA kk) 0 (slElems lx) from rfl, hels.elems]
      generalize stp63b stp s [placeA i kk 0, lx] = p63 at hp1 ⊢
      have hgN' : H'.get N = some (.cells 0 (bound (.yld l)) 111 1 false [.yld l]) := hHm (N, _) (List.mem_cons_self ..)
      rw [← plus_nil H']
      simp -implicitDefEqProofs only [go_sem, ↓reduceIte, Int.reduceEq, Int.reduceLT, Int.reduceLE, List.reduceReplicate, intA, setT_nil, setT_cons, ↓boolP_bool, ↓iteB_true, ↓iteB_false, placeA, List.zip_cons_cons, List.zip_nil_right, List.zip_nil_left, sizeP hN2, putP0 hN2, putP hN2, settleP0 hN2, settleP hN2, rowP0 hN2, rowP hN2, storeP0 hN2 hlk2, storeP hN2 hlk2, List.length_nil, Nat.add_zero]
      obtain ⟨E0, hE0⟩ : ∃ E0 : List (Option AObj), [some (.cells 0 0 32 1 false [.v (.int .i64 i), .v (.int .i64 kk), .v (.int .i64 0)])] = E0 := ⟨_, rfl⟩
      have hlo1 : loopObj (H'.plus E0) (N + 1 + 1) = some L := get_loopObj ((plus_get _ (by omega)).trans (loopObj_getI hlo))
      rw [hE0, plus_nil]
      refine ⟨rfl, hlo1, ?_⟩
      obtain ⟨X, hX⟩ : ∃ X, (H'.plus E0).put (N + 1 + 1) (.loop L') = X := ⟨_, rfl⟩
      have hszE : (H'.plus E0).size = N2 + 1 := by rw [plus_size, hN2, ← hE0]; rfl
      have hN3 : X.size = N2 + 1 := by rw [← hX, put_sizeI _ (by omega)]; exact hszE
      have hXg : ∀ b, b ≠ N + 1 + 1 → b < N2 → X.get b = H'.get b := fun b hb hb2 => by rw [← hX, put_get_ne _ (by omega) hb]; exact plus_get _ (by omega)
      have hXlk : X.lock = k := by rw [← hX]; exact hlk'
      have hlk3 : X.lock ≤ N2 + 1 := by omega
      have hXL : X.get (N + 1 + 1) = some (.loop L') := by rw [← hX]; exact put_get_eq _ (by omega)
      have hXc : X.get N2 = some (bx63 i kk 0) := by rw [← hX, put_get_ne _ (by omega) (by omega), ← hE0]; exact plus_mid_get hN2 [] [] _
      have hXH : Has m0 X := fun p hp => (hXg p.1 (fun he => k3 ⟨p, hp, by omega⟩) (by have := get_ltS (hHm0 p hp); omega)).trans (hHm0 p hp)
      have hXN : X.get N = some (.cells 0 (bound (.yld l)) 111 1 false [.yld l]) := (hXg N (by omega) (by omega)).trans hgN'
      have hltX : ∀ p ∈ m0, p.1 < N2 := fun p hp => by have := get_ltS (hHm0 p hp); omega
      have hel2 := hels.len
      rw [hX, ← plus_nil X]
      simp -implicitDefEqProofs only [go_sem, ↓reduceIte, Int.reduceEq, Int.reduceLT, Int.reduceLE, List.reduceReplicate, intA, setT_nil, setT_cons, ↓boolP_bool, ↓iteB_true, ↓iteB_false, hel2, sizeP hN3, putP0 hN3, putP hN3, settleP0 hN3, settleP hN3, rowP0 hN3, rowP hN3, storeP0 hN3 hlk3, storeP hN3 hlk3, List.length_nil, Nat.add_zero]
      have hoff : ∀ b, b ≤ N + 2 → ¬ keyIn b m0 → ¬ keyIn b ((N2, bx63 i kk 0) :: m0) := by
        rintro b hb hnb ⟨p, hp, he⟩
        rcases List.mem_cons.1 hp with rfl | hp
        · simp only at he; omega
        · exact hnb ⟨p, hp, he⟩
      have hend : ∀ s2 m2 w H2, R s2 m2 → Has ((N2, bx63 i kk w) :: m2) H2 → Moves ((N2, bx63 i kk 0) :: m0) X ((N2, bx63 i kk w) :: m2) H2 →
          ∃ m', R63b R N l s2 m' ∧ Has m' H2 ∧ loopObj H2 (N + 1 + 1) = some L' ∧ Moves ((N + 1 + 1, .loop L') :: (N, .cells 0 (bound (.yld l)) 111 1 false [.yld l]) :: m0) H' ((N + 1 + 1, .loop L') :: m') H2 := by
        intro s2 m2 w H2 hR2 hH2 hmv
        have hoff2 : ∀ b, b ≤ N + 2 → ¬ keyIn b m0 → ¬ keyIn b m2 := by
          rintro b hb hnb ⟨p, hp, he⟩
          rcases hmv.keys p (List.mem_cons_of_mem _ hp) with h | h
          · rw [he] at h; exact hoff b hb hnb h
          · omega
        refine ⟨(N, .cells 0 (bound (.yld l)) 111 1 false [.yld l]) :: m2, ⟨m2, hR2, hoff2 _ (by omega) k1, hoff2 _ (by omega) k2, hoff2 _ (by omega) k3, rfl⟩, fun p hp => ?_, get_loopObj ((hmv.same _ (by omega) (hoff _ (by omega) k3)).trans hXL), ?_, ?_, fun b hb hnb => ?_, fun p hp => ?_⟩
        · rcases List.mem_cons.1 hp with rfl | hp
          · exact (hmv.same N (by omega) (hoff _ (by omega) k1)).trans hXN
          · exact hH2 p (List.mem_cons_of_mem _ hp)
        · rw [hmv.lock, hXlk, hlk']
        · have := hmv.size; omega
        · have h9 : ¬ keyIn b m0 := fun ⟨q, hq, he⟩ => hnb ⟨q, List.mem_cons_of_mem _ (List.mem_cons_of_mem _ hq), he⟩
          have h10 : b ≠ N + 1 + 1 := fun he => hnb ⟨_, List.mem_cons_self .., he.symm⟩
          rw [hmv.same b (by omega) ?_, hXg b h10 (by omega)]
          rintro ⟨q, hq, he⟩
          rcases List.mem_cons.1 hq with rfl | hq
          · simp only at he; omega
          · exact h9 ⟨q, hq, he⟩
        · rcases List.mem_cons.1 hp with rfl | hp
          · exact Or.inl ⟨_, List.mem_cons_self .., rfl⟩
          · rcases List.mem_cons.1 hp with rfl | hp
            · exact Or.inl ⟨_, List.mem_cons_of_mem _ (List.mem_cons_self ..), rfl⟩
            · rcases hmv.keys p (List.mem_cons_of_mem _ hp) with ⟨q, hq, he⟩ | h
              · rcases List.mem_cons.1 hq with rfl | hq
                · simp only at he; exact Or.inr (by omega)
                · exact Or.inl ⟨q, List.mem_cons_of_mem _ (List.mem_cons_of_mem _ hq), he⟩
              · exact Or.inr (by omega)
      have hoks : okRun stp ok (wIts (intA i) (intA kk) 0 els) s := by
        rw [show expandL [placeA i kk 0, lx] = wIts (intA i) (intA kk) 0 (slElems lx) from rfl, hels.elems] at hokx; exact hokx
      have hN2m : ¬ keyIn N2 m0 := fun ⟨p, hp, he⟩ => by have := hltX p hp; omega
      rw [plus_nil]
      refine Lp_rule (P := fun μ a H2 => ∃ (j w : Nat) (s2 : S) (m2 : Fm), j + μ = els.length ∧ a = ⟨26, [(0, .yld l), (1, .ro (.agg [ch]) 0), (2, .ptr N 0 0), (8, .fn (.func 88) [] [.ro (.agg [ch]) 0]), (9, .agg [.v (.int .i64 i), .v (.int .i64 kk), .v (.int .i64 0)]), (10, lx), (3, .ptr N2 0 0), (4, lx), (11, lx), (12, intA els.length), (13, intA j)], []⟩ ∧ live s2 ∧ R s2 m2 ∧ ¬ keyIn N2 m2 ∧ Has ((N2, bx63 i kk w) :: m2) H2 ∧ Moves ((N2, bx63 i kk 0) :: m0) X ((N2, bx63 i kk w) :: m2) H2 ∧ runIt stp (wIts (intA i) (intA kk) 0 els) s = runIt stp (wIts (intA i) (intA kk) j (els.drop j)) s2 ∧ okRun stp ok (wIts (intA i) (intA kk) j (els.drop j)) s2) ?_ els.length _ _ ⟨0, 0, s, m0, by omega, rfl, hl, hR0, hN2m, ?_, Moves.refl _ _, rfl, hoks⟩
      · rintro μ _ H2 ⟨j, w, s2, m2, hj, rfl, hl2, hR2, hnk, hH2, hmv, hrun, hok2⟩
        obtain ⟨M, hM⟩ : ∃ M, H2.size = M := ⟨_, rfl⟩
        have hMs := hmv.size
        have hbxg : H2.get N2 = some (bx63 i kk w) := hH2 (N2, _) (List.mem_cons_self ..)
        have hH2k : H2.lock = k := hmv.lock.trans hXlk
        cases μ with
        | zero =>
          obtain rfl : j = els.length := by omega
          rw [List.drop_of_length_le (Nat.le_refl _)] at hrun
          rw [hrun] at hp1
          simp only [runIt, wIts, if_true] at hp1
          subst hp1
          simp -implicitDefEqProofs only [go_sem, ↓reduceIte, Int.reduceEq, Int.reduceLT, Int.reduceLE, List.reduceReplicate, intA, setT_nil, setT_cons, ↓boolP_bool, ↓iteB_true, ↓iteB_false, Int.lt_irrefl, hM, settle_eqN hM, trim_eqN hM, bd2K_at']
          exact hend _ _ _ _ hR2 hH2 hmv
        | succ μ =>
          obtain ⟨x, hx⟩ := at_lt els j (by omega)
          have hxc := hec x (List.mem_of_getElem? hx)
          have hltj : (j : Int) < ((els.length : Nat) : Int) := by omega
          have hwj := wrap_succ j (by omega)
          have hdr := wIts_drop (intA i) (intA kk) els j x hx
          rw [hdr] at hrun hok2
          obtain ⟨Y, hY⟩ : ∃ Y, H2.put N2 (bx63 i kk j) = Y := ⟨_, rfl⟩
          have hst : storeCells H2 N2 0 2 [.v (.int .i64 j)] = some Y := by
            have hr := row_of (v := 0) hbxg
            unfold storeCells
            rw [hr]
            simp only [if_true]
            rw [if_pos ⟨by omega, by simp, rfl⟩, ← hY]
            rfl
          have hYs : Y.size = M := by rw [← hY, put_sizeI _ (by omega)]; exact hM
          have hYk : Y.lock = k := by rw [← hY]; exact hH2k
          have hYg : Y.get N2 = some (bx63 i kk j) := by rw [← hY]; exact put_get_eq _ (by omega)
          have hYo : ∀ b, b ≠ N2 → b ≤ M → Y.get b = H2.get b := fun b hb hb2 => by rw [← hY]; exact put_get_ne _ (by omega) hb
          have hYm : Has m2 Y := fun p hp => by
            have h1 := hH2 p (List.mem_cons_of_mem _ hp)
            rw [hYo p.1 (fun he => hnk ⟨p, hp, he⟩) (by have := get_ltS h1; omega)]; exact h1
          have hYN : Y.get N = some (.cells 0 (bound (.yld l)) 111 1 false [.yld l]) := by
            rw [hYo N (by omega) (by omega)]
            exact (hmv.same N (by omega) (hoff _ (by omega) k1)).trans hXN
          have hrN := row_of (v := 0) hYN
          have hrB := row_of (v := 0) hYg
          obtain ⟨H3, H4, m4, hr3, hr4, hR4, hH4, hmv4⟩ := hsrc.round' s2 m2 [placeB (intA i) (intA kk) j, x] Y hl2 hok2.1 hR2 hYm hYk (by omega)
          rw [hYs] at hr4
          have hstp := hsrc.step s2 [placeB (intA i) (intA kk) j, x] hl2 hok2.1
          have hnk4 : ¬ keyIn N2 m4 := by
            rintro ⟨p, hp, he⟩
            rcases hmv4.keys p hp with h | h
            · rw [he] at h; exact hnk h
            · omega
          have hHas4 : ∀ Z, Moves m2 Y m4 Z → Has m4 Z → Has ((N2, bx63 i kk j) :: m4) Z := fun Z hz hHz p hp => by
            rcases List.mem_cons.1 hp with rfl | hp
            · exact (hz.same N2 (by omega) hnk).trans hYg
            · exact hHz p hp
          have hT : ∀ Z, Moves m2 Y m4 Z → Moves ((N2, bx63 i kk 0) :: m0) X ((N2, bx63 i kk j) :: m4) Z := by
            intro Z hz
            have hs4 := hz.size
            refine ⟨hz.lock.trans (hYk.trans hXlk.symm), by omega, fun b hb hnb => ?_, fun p hp => ?_⟩
            · have hb2 : ¬ keyIn b m2 := fun ⟨p, hp, he⟩ => by
                rcases hmv.keys p (List.mem_cons_of_mem _ hp) with h | h
                · rw [he] at h; exact hnb h
                · omega
              rw [hz.same b (by omega) hb2, hYo b (fun he => hnb ⟨_, List.mem_cons_self .., he.symm⟩) (by omega)]
              exact hmv.same b hb hnb
            · rcases List.mem_cons.1 hp with rfl | hp
              · exact Or.inl ⟨_, List.mem_cons_self .., rfl⟩
              · rcases hz.keys p hp with ⟨q, hq, he⟩ | h
                · rw [← he]; exact hmv.keys q (List.mem_cons_of_mem _ hq)
                · exact Or.inr (by omega)
          rw [runIt_cons] at hrun
          cases hb : (stp s2 [placeB (intA i) (intA kk) j, x]).1
          · rw [hb] at hr3 hrun
            simp only [placeB, intA] at hr3
            simp only [Bool.false_eq_true, if_false] at hrun
            rw [hrun] at hp1
            simp only [Bool.false_eq_true, if_false] at hp1
            subst hp1
            simp -implicitDefEqProofs only [go_sem, ↓reduceIte, Int.reduceEq, Int.reduceLT, Int.reduceLE, List.reduceReplicate, intA, setT_nil, setT_cons, ↓boolP_bool, ↓iteB_true, ↓iteB_false, hltj, hM, settle_eqN hM, trim_eqN hM, hwj, hels.idx hx, hxc, hst, hYs, settle_eqN hYs, trim_eqN hYs, hrN, hrB, bx63, hr3, hr4, bd2K_at']
            exact hend _ _ _ _ hR4 (hHas4 _ hmv4 hH4) (hT _ hmv4)
          · rw [hb] at hr3 hrun
            simp only [placeB, intA] at hr3
            simp only [if_true] at hrun
            simp -implicitDefEqProofs only [go_sem, ↓reduceIte, Int.reduceEq, Int.reduceLT, Int.reduceLE, List.reduceReplicate, intA, setT_nil, setT_cons, ↓boolP_bool, ↓iteB_true, ↓iteB_false, hltj, hM, settle_eqN hM, trim_eqN hM, hwj, hels.idx hx, hxc, hst, hYs, settle_eqN hYs, trim_eqN hYs, hrN, hrB, bx63, hr3, hr4]
            exact ⟨μ, by omega, j + 1, j, _, m4, by omega, rfl, hstp hb, hR4, hnk4, hHas4 _ (hmv4.trim _ _ hYs.symm) (hH4.trim (hsrc.anch _ _ hR4) (by omega) _ _), hT _ (hmv4.trim _ _ hYs.symm), hrun, hok2.2 hb⟩
      · intro p hp
        rcases List.mem_cons.1 hp with rfl | hp
        · exact hXc
        · exact hXH p hp
    · intro p hp
      rcases List.mem_cons.1 hp with rfl | hp
      · exact hgN
      · exact hH.plus _ p hp
    · rw [hN1]
      rintro m' H' ⟨m1, hR1, k1, k2, k3, rfl⟩ hH1 hd hdd hmv hsz'
      rw [fold63b] at hR1 ⊢
      rw [show (chapIts 0 xs).flatMap expandL = allIts xs from rfl] at hR1 ⊢
      generalize hr : runIt stp (allIts xs) s = r at hKK hR1 ⊢
      simp only at hR1 ⊢
      have hlk' : H'.lock = k := by rw [hmv.lock, plus_lock]; exact hlk
      have hkill : killAll [N + 1] H' = some (H'.put (N + 1) .dead) := by
        unfold killAll
        rw [hd]
        simp only
        rw [if_pos (by omega)]
        unfold killAll; rfl
      have hfin : ∃ m', R r.2 m' ∧ Has m' (H'.put (N + 1) .dead) ∧ Moves m H m' (H'.put (N + 1) .dead) := by
        refine ⟨m1, hR1, fun p hp => ?_, ?_, ?_, fun b hb hnb => ?_, fun p hp => ?_⟩
        · rw [put_get_ne _ (by omega) (fun he => k2 ⟨p, hp, he⟩)]
          exact hH1 p (List.mem_cons_of_mem _ hp)
        · show H'.lock = H.lock
          omega
        · rw [put_sizeI _ (by omega)]; omega
        · rw [put_get_ne _ (by omega) (by omega), hmv.same b (by omega) ?_]
          · exact plus_get _ hb
          · rintro ⟨q, hq, he⟩
            rcases List.mem_cons.1 hq with rfl | hq
            · simp only at he; omega
            · exact hnb ⟨q, hq, he⟩
        · rcases hmv.keys p (List.mem_cons_of_mem _ (List.mem_cons_of_mem _ hp)) with ⟨q, hq, he⟩ | h
          · rcases List.mem_cons.1 hq with rfl | hq
            · exact absurd ⟨p, hp, he.symm⟩ k1
            · exact Or.inl ⟨q, hq, he⟩
          · exact Or.inr (by omega)
      subst hKK
      cases hb : r.1 with
      | true =>
        simp -implicitDefEqProofs only [go_sem, ↓reduceIte, Int.reduceEq, Int.reduceLT, Int.reduceLE, List.reduceReplicate, intA, setT_nil, setT_cons, ↓boolP_bool, ↓iteB_true, ↓iteB_false, hkill]
        exact ⟨rfl, hfin⟩
      | false =>
        simp -implicitDefEqProofs only [go_sem, ↓reduceIte, Int.reduceEq, Int.reduceLT, Int.reduceLE, List.reduceReplicate, intA, setT_nil, setT_cons, ↓boolP_bool, ↓iteB_true, ↓iteB_false, hkill]
        exact ⟨rfl, hfin⟩
  obtain ⟨v, H', h1, h2⟩ : ∃ v H', lim (Cx e) (.call 63 ([.yld l] ++ [.ro (.agg [ch]) 0]) H) = some (.ret v H') ∧ (v = .tup [] ∧ ∃ m', R (runIt stp (allIts xs) s).2 m' ∧ Has m' H' ∧ Moves m H m' H') := by
    unfold Fn' at key
    rw [bindO_iff] at key
    obtain ⟨o, h1, h2⟩ := key
    cases o with
    | ret v H' => exact ⟨v, H', h1, h2⟩
    | _ => exact h2.elim
  obtain ⟨rfl, m', h3, h4, h5⟩ := h2
  exact ⟨H', m', h1, h3, h4, h5⟩
end Go.Ev
namespace Go.Ev
open Go.Proofs Go.Sort
set_option maxRecDepth 100000
set_option linter.unusedSimpArgs false
attribute [local irreducible] Wp WpS
/-! ### the places of each word -/
def strK (w : ByteArray) : AV := .v (.string w)
abbrev TbW := List (ByteArray × List P3)
def addT (w : ByteArray) (p : P3) : TbW → TbW
  | [] => [(w, [p])]
  | x :: r => if x.1 = w then (x.1, x.2 ++ [p]) :: r else x :: addT w p r
theorem addT_in (w : ByteArray) (p : P3) : ∀ (a : TbW) (x : ByteArray × List P3) (b : TbW), w ∉ a.map (·.1) → x.1 = w → addT w p (a ++ x :: b) = a ++ (x.1, x.2 ++ [p]) :: b
  | [], x, b, _, h => by show (if x.1 = w then _ else _) = _; rw [if_pos h]; rfl
  | y :: a, x, b, hn, h => by
    simp only [List.map_cons, List.mem_cons, not_or] at hn
    show (if y.1 = w then _ else y :: addT w p (a ++ x :: b)) = _
    rw [if_neg (fun e => hn.1 e.symm), addT_in w p a x b hn.2 h]; rfl
theorem addT_out (w : ByteArray) (p : P3) : ∀ (a : TbW), w ∉ a.map (·.1) → addT w p a = a ++ [(w, [p])]
  | [], _ => rfl
  | y :: a, hn => by
    simp only [List.map_cons, List.mem_cons, not_or] at hn
    show (if y.1 = w then _ else _) = _
    rw [if_neg (fun e => hn.1 e.symm), addT_out w p a hn.2]; rfl
/-- an entry of the map, and the row that its value leads to -/
def TabR (x : ByteArray × List P3) (e : AV × AV × Nat) (r : Nat × AObj) : Prop := e.1 = strK x.1 ∧ x.2 ≠ [] ∧ ∃ ver, e.2.1 = .sl r.1 ver 0 x.2.length none ∧ r.2 = .cells ver 0 32 3 true (clP x.2)
def TabM : TbW → List (AV × AV × Nat) → Fm → Prop
  | [], [], [] => True
  | x :: tb, e :: es, r :: rows => TabR x e r ∧ TabM tb es rows
  | _, _, _ => False
theorem TabM.app : ∀ {tb1 tb2 : TbW} {es1 es2 : List (AV × AV × Nat)} {r1 r2 : Fm}, TabM tb1 es1 r1 → TabM tb2 es2 r2 → TabM (tb1 ++ tb2) (es1 ++ es2) (r1 ++ r2)
  | [], _, [], _, [], _, _, h => h
  | _ :: _, _, _ :: _, _, _ :: _, _, h1, h2 => ⟨h1.1, h1.2.app h2⟩
  | [], _, _ :: _, _, _, _, h, _ => h.elim
  | [], _, [], _, _ :: _, _, h, _ => h.elim
  | _ :: _, _, [], _, _, _, h, _ => h.elim
  | _ :: _, _, _ :: _, _, [], _, h, _ => h.elim
theorem TabM.keys : ∀ {tb : TbW} {es : List (AV × AV × Nat)} {rows : Fm}, TabM tb es rows → es.map (·.1) = tb.map fun x => strK x.1
  | [], [], [], _ => rfl
  | x :: tb, e :: es, r :: rows, h => by rw [List.map_cons, List.map_cons, h.1.1, h.2.keys]
  | [], _ :: _, _, h => h.elim
  | [], [], _ :: _, h => h.elim
  | _ :: _, [], _, h => h.elim
  | _ :: _, _ :: _, [], h => h.elim
theorem TabM.split (w : ByteArray) : ∀ {tb : TbW} {es : List (AV × AV × Nat)} {rows : Fm}, TabM tb es rows → w ∈ tb.map (·.1) →
    ∃ tb1 x tb2 es1 e es2 r1 r r2, tb = tb1 ++ x :: tb2 ∧ x.1 = w ∧ w ∉ tb1.map (·.1) ∧ es = es1 ++ e :: es2 ∧ rows = r1 ++ r :: r2 ∧ TabM tb1 es1 r1 ∧ TabR x e r ∧ TabM tb2 es2 r2
  | [], [], [], _, hm => by simp at hm
  | x :: tb, e :: es, r :: rows, h, hm => by
    by_cases hx : x.1 = w
    · exact ⟨[], x, tb, [], e, es, [], r, rows, rfl, hx, by simp, rfl, rfl, trivial, h.1, h.2⟩
    · have hm2 : w ∈ tb.map (·.1) := by
        simp only [List.map_cons, List.mem_cons] at hm
        exact hm.resolve_left fun e => hx e.symm
      obtain ⟨tb1, x', tb2, es1, e', es2, r1, r', r2, rfl, h2, h3, rfl, rfl, h4, h5, h6⟩ := h.2.split w hm2
      refine ⟨x :: tb1, x', tb2, e :: es1, e', es2, r :: r1, r', r2, rfl, h2, ?_, rfl, rfl, ⟨h.1, h4⟩, h5, h6⟩
      simp only [List.map_cons, List.mem_cons, not_or]
      exact ⟨fun e => hx e.symm, h3⟩
  | [], _ :: _, _, h, _ => h.elim
  | [], [], _ :: _, h, _ => h.elim
  | _ :: _, [], _, h, _ => h.elim
  | _ :: _, _ :: _, [], h, _ => h.elim
/-! what is found in a map -/
theorem keyEq_str (P : Program) (kt : TypeId) (a b : ByteArray) : keyEq P kt (strK a) (strK b) = some (decide (a = b)) := by
  unfold keyEq strK
  simp only [bytesEq_iff]
  congr 1
  refine decide_eq_decide.2 ⟨fun h => ?_, fun h => by rw [h]⟩
  obtain ⟨⟨a⟩⟩ := a
  obtain ⟨⟨b⟩⟩ := b
  simp only at h
  rw [h]
theorem find_skip (P : Program) (kt : TypeId) (w : ByteArray) : ∀ (es : List (AV × AV × Nat)) (ws : List ByteArray) (i : Nat) (rest : List (AV × AV × Nat)), es.map (·.1) = ws.map strK → w ∉ ws → findKeyA P kt (strK w) (es ++ rest) i = findKeyA P kt (strK w) rest (i + es.length)
  | [], _, i, rest, _, _ => rfl
  | (k, v, c) :: es, ws, i, rest, h, hn => by
    cases ws with
    | nil => cases h
    | cons y ws =>
      simp only [List.map_cons, List.cons.injEq] at h
      simp only [List.mem_cons, not_or] at hn
      obtain ⟨rfl, h2⟩ := h
      show (match keyEq P kt (strK w) (strK y) with | some true => _ | some false => findKeyA P kt (strK w) (es ++ rest) (i + 1) | none => none) = _
      rw [keyEq_str, decide_eq_false hn.1]
      simp only
      rw [find_skip P kt w es ws (i + 1) rest h2 hn.2, List.length_cons]
      congr 1; omega
theorem find_here (P : Program) (kt : TypeId) (w : ByteArray) (v : AV) (c : Nat) (rest : List (AV × AV × Nat)) (i : Nat) : findKeyA P kt (strK w) ((strK w, v, c) :: rest) i = some (some (i, v)) := by
  show (match keyEq P kt (strK w) (strK w) with | some true => some (some (i, v)) | some false => _ | none => none) = _
  rw [keyEq_str, decide_eq_true rfl]
theorem setVal_at (k v : AV) : ∀ (a : List (AV × AV × Nat)) (e : AV × AV × Nat) (b : List (AV × AV × Nat)), setVal k v a.length (a ++ e :: b) = a ++ (k, v, e.2.2) :: b
  | [], (_, _, c), b => rfl
  | x :: a, e, b => by
    show x :: setVal k v a.length (a ++ e :: b) = _
    rw [setVal_at k v a e b]; rfl
theorem mapOk90 (w : ByteArray) : mapKeyOk Tryz.prog 90 (strK w) = some (9, 47) := by kernel_rfl
theorem zero47' : zeroT Tryz.prog 47 = some (.v (.slice none 0 0)) := by kernel_rfl
theorem look_in {G : Heap} {mb mx c : Nat} {es : List (AV × AV × Nat)} (hg : G.get mb = some (.map mx es c)) {w : ByteArray} {i : Nat} {v : AV} (hf : findKeyA Tryz.prog 9 (strK w) es 0 = some (some (i, v))) (ok : Bool) :
    lookupA Tryz.prog G 90 (.mp mb) (strK w) ok = some (if ok then .tup [v, .v (.bool true)] else v) := by
  unfold lookupA mapOfA
  simp only [mapOk90, hg, zero47', hf]
theorem look_out {G : Heap} {mb mx c : Nat} {es : List (AV × AV × Nat)} (hg : G.get mb = some (.map mx es c)) {w : ByteArray} (hf : findKeyA Tryz.prog 9 (strK w) es 0 = some none) (ok : Bool) :
    lookupA Tryz.prog G 90 (.mp mb) (strK w) ok = some (if ok then .tup [.v (.slice none 0 0), .v (.bool false)] else .v (.slice none 0 0)) := by
  unfold lookupA mapOfA
  simp only [mapOk90, hg, zero47', hf]
theorem upd_in {G : Heap} {mb mx c : Nat} {es : List (AV × AV × Nat)} (hg : G.get mb = some (.map mx es c)) (hl : G.lock ≤ mb) {w : ByteArray} {i : Nat} {v : AV} (hf : findKeyA Tryz.prog 9 (strK w) es 0 = some (some (i, v))) {e : AV × AV × Nat} (he : es[i]? = some e) (v' : AV) :
    updateA Tryz.prog G 90 (.mp mb) (strK w) v' = some (G.put mb (.map (Nat.max mx (bound v')) (setVal (strK w) v' i es) c)) := by
  obtain ⟨k', x1, x2⟩ := e
  unfold updateA
  simp only [mapOk90, hg, hl, if_true, hf, he]
  have : sameKey k' (strK w) = true := by unfold sameKey strK; cases k' <;> rfl
  rw [this]; rfl
theorem upd_out {G : Heap} {mb mx c : Nat} {es : List (AV × AV × Nat)} (hg : G.get mb = some (.map mx es c)) (hl : G.lock ≤ mb) {w : ByteArray} (hf : findKeyA Tryz.prog 9 (strK w) es 0 = some none) (v' : AV) :
    updateA Tryz.prog G 90 (.mp mb) (strK w) v' = some (G.put mb (.map (Nat.max mx (bound v')) (es ++ [(strK w, v', c)]) (c + 1))) := by
  unfold updateA
  simp only [mapOk90, hg, hl, if_true, hf]
end Go.Ev
namespace Go.Ev
open Go.Proofs Go.Sort
set_option maxRecDepth 100000
set_option linter.unusedSimpArgs false
attribute [local irreducible] Wp WpS
/-! ### the map of places by words -/
def plI (p : Plc) : P3 := (p.1, p.2.1, p.2.2)
def addI (s : TbW) (x : List AV) : TbW := match x with
  | [.agg [.v (.int _ a), .v (.int _ b), .v (.int _ c)], .v (.string w)] => addT w (a, b, c) s
  | _ => s
def stp46 (s : TbW) (x : List AV) : AExit × TbW := (.normal, addI s x)
def cntT (s : TbW) : Nat := (s.map fun x => x.2.length).sum
theorem cnt_add (w : ByteArray) (p : P3) : ∀ s : TbW, cntT (addT w p s) = cntT s + 1
  | [] => rfl
  | x :: r => by
    unfold addT
    split
    · unfold cntT; simp only [List.map_cons, List.sum_cons, List.length_append, List.length_cons, List.length_nil]; omega
    · have := cnt_add w p r
      unfold cntT at *; simp only [List.map_cons, List.sum_cons]; omega
theorem cnt_mem {s : TbW} {x : ByteArray × List P3} (h : x ∈ s) : x.2.length ≤ cntT s := by
  unfold cntT
  induction s with
  | nil => cases h
  | cons y r ih =>
    simp only [List.map_cons, List.sum_cons]
    rcases List.mem_cons.1 h with rfl | h
    · omega
    · have := ih h; omega
def ok46 (s : TbW) (x : List AV) : Prop := (∃ y : Plc × ByteArray, x = itW y) ∧ cntT s < 2 ^ 31
def tabW (l : List (Plc × ByteArray)) (s : TbW) : TbW := l.foldl (fun s y => addT y.2 (plI y.1) s) s
theorem run46 : ∀ (l : List (Plc × ByteArray)) (s : TbW), cntT s + l.length < 2 ^ 31 → okRun (fun s x => (isGo (stp46 s x).1, (stp46 s x).2)) ok46 (l.map itW) s ∧ foldE stp46 (l.map itW) s = (.normal, tabW l s)
  | [], s, _ => ⟨trivial, rfl⟩
  | y :: r, s, h => by
    rw [List.length_cons] at h
    have ih := run46 r (addT y.2 (plI y.1) s) (by rw [cnt_add]; omega)
    rw [List.map_cons]
    refine ⟨⟨⟨⟨y, rfl⟩, by omega⟩, fun _ => ih.1⟩, ?_⟩
    rw [foldE_go rfl]
    exact ih.2
def base46 (N : Nat) (mx : Nat) (es : List (AV × AV × Nat)) (c : Nat) : Fm := [(N + 1, .map mx es c), (N + 2, .cells 0 (N + 2) 90 1 false [.mp (N + 1)])]
def R46 (N D : Nat) (s : TbW) (m : Fm) : Prop := ∃ es mx c rows, TabM s es rows ∧ (∀ p ∈ rows, D ≤ p.1 ∧ p.1 < mx) ∧ (rows.map (·.1)).Nodup ∧ m = base46 N mx es c ++ rows
theorem R46_anch {N D n0 : Nat} (h0 : N + 3 ≤ n0) (s : TbW) (m : Fm) (h : R46 N D s m) : Anch n0 m := by
  obtain ⟨es, mx, c, rows, -, hl, -, rfl⟩ := h
  rintro n hn ⟨p, hp, hnp⟩
  refine ⟨(N + 1, .map mx es c), List.mem_append_left _ (by unfold base46; simp), by show N + 1 < n; omega, ?_⟩
  show n < mx
  rcases List.mem_append.1 hp with hp | hp
  · unfold base46 at hp
    simp only [List.mem_cons, List.not_mem_nil, or_false] at hp
    rcases hp with rfl | rfl <;> (simp only at hnp; omega)
  · have := hl p hp; omega
theorem R46_free {N D d : Nat} (hd : N + 3 ≤ d) (hD : d < D) (s : TbW) (m : Fm) (h : R46 N D s m) : ¬ keyIn d m := by
  obtain ⟨es, mx, c, rows, -, hl, -, rfl⟩ := h
  rintro ⟨p, hp, he⟩
  rcases List.mem_append.1 hp with hp | hp
  · unfold base46 at hp
    simp only [List.mem_cons, List.not_mem_nil, or_false] at hp
    rcases hp with rfl | rfl <;> (simp only at he; omega)
  · have := hl p hp; omega
/-- what is left behind -/
def Q46 (X : Heap) (tb : TbW) : PostO := fun v H' => v = .mp (X.size + 1) ∧ H'.lock = X.lock ∧ X.size + 3 ≤ H'.size ∧ (∀ b, b < X.size → H'.get b = X.get b) ∧ ∃ es mx c rows, TabM tb es rows ∧ (∀ p ∈ rows, X.size + 3 ≤ p.1 ∧ p.1 < mx) ∧ (rows.map (·.1)).Nodup ∧ H'.get (X.size + 1) = some (.map mx es c) ∧ Has rows H'
@[go_sem] theorem objs_mp (b : Nat) : objsOf (.mp b) = [b] := rfl
@[go_sem] theorem bound_mp (b : Nat) : bound (.mp b) = b + 1 := rfl
@[go_sem] theorem eval_nilmap (s : Nat) (l : List (Tmp × AV)) (m : List Nat) : (AAct.mk s l m).eval (.const (.map none)) = some (.v (.map none)) := rfl
theorem fin46 {N M mx c mx' c' : Nat} {s' : TbW} {es es' : List (AV × AV × Nat)} {rows rows' : Fm} {H' W : Heap} {L' : ALoop} (hM : H'.size = M) (hNM : N + 5 ≤ M) (hl : W.lock = H'.lock) (hs : M ≤ W.size) (h1 : W.get (N + 1) = some (.map mx' es' c')) (h2 : W.get (N + 2) = some (.cells 0 (N + 2) 90 1 false [.mp (N + 1)])) (h4 : W.get (N + 3 + 1) = some (.loop L'))
    (hr : Has rows' W) (hT : TabM s' es' rows') (hlo : ∀ p ∈ rows', N + 5 ≤ p.1 ∧ p.1 < mx') (hnd : (rows'.map (·.1)).Nodup) (hk : ∀ p ∈ rows', keyIn p.1 rows ∨ M ≤ p.1) (ho : ∀ b, b < M → b ≠ N + 1 → b ≠ N + 3 + 1 → ¬ keyIn b rows' → W.get b = H'.get b) :
    ∃ m', R46 N (N + 5) s' m' ∧ Has m' W ∧ loopObj W (N + 3 + 1) = some L' ∧ Moves ((N + 3 + 1, .loop L') :: (base46 N mx es c ++ rows)) H' ((N + 3 + 1, .loop L') :: m') W := by
  refine ⟨base46 N mx' es' c' ++ rows', ⟨es', mx', c', rows', hT, hlo, hnd, rfl⟩, fun p hp => ?_, get_loopObj h4, hl, by omega, fun b hb hnb => ?_, fun p hp => ?_⟩
  · rcases List.mem_append.1 hp with hp | hp
    · unfold base46 at hp
      simp only [List.mem_cons, List.not_mem_nil, or_false] at hp
      rcases hp with rfl | rfl
      · exact h1
      · exact h2
    · exact hr p hp
  · have hb1 : b ≠ N + 1 := fun e => hnb ⟨(N + 1, .map mx es c), List.mem_cons_of_mem _ (List.mem_append_left _ (by unfold base46; simp)), e.symm⟩
    have hb4 : b ≠ N + 3 + 1 := fun e => hnb ⟨_, List.mem_cons_self .., e.symm⟩
    refine ho b (by omega) hb1 hb4 fun ⟨p, hp, he⟩ => ?_
    rcases hk p hp with ⟨q, hq, he2⟩ | h
    · exact hnb ⟨q, List.mem_cons_of_mem _ (List.mem_append_right _ hq), by omega⟩
    · omega
  · rcases List.mem_cons.1 hp with rfl | hp
    · exact Or.inl ⟨_, List.mem_cons_self .., rfl⟩
    · rcases List.mem_append.1 hp with hp | hp
      · unfold base46 at hp
        simp only [List.mem_cons, List.not_mem_nil, or_false] at hp
        rcases hp with rfl | rfl
        · exact Or.inl ⟨(N + 1, .map mx es c), List.mem_cons_of_mem _ (List.mem_append_left _ (by unfold base46; simp)), rfl⟩
        · exact Or.inl ⟨(N + 2, .cells 0 (N + 2) 90 1 false [.mp (N + 1)]), List.mem_cons_of_mem _ (List.mem_append_left _ (by unfold base46; simp)), rfl⟩
      · rcases hk p hp with ⟨q, hq, he⟩ | h
        · exact Or.inl ⟨q, List.mem_cons_of_mem _ (List.mem_append_right _ hq), he⟩
        · exact Or.inr (by omega)
theorem clP_snoc (ps : List P3) (p : P3) : clP (ps ++ [p]) = clP ps ++ [.v (.int .i64 p.1), .v (.int .i64 p.2.1), .v (.int .i64 p.2.2)] := by
  rw [clP_append, clP_cons]; rfl
set_option maxHeartbeats 4000000 in
theorem fn46 {e : Exts} (he : Quiet e) {t : Txt} {ch : AV} {xs : List AV} (hch : SlOf 2 xs ch) (hall : All2 ChapA t xs) (hok : ∀ y ∈ xs, OkCh2 y) (hlen : xs.length < 2 ^ 63) (hw : (wordsT 0 t).length < 2 ^ 31) (X : Heap) (hlk : X.lock ≤ X.size) :
    Fn' (Cx e) 46 [.agg [ch]] X (Q46 X (tabW (wordsT 0 t) [])) := by
  obtain ⟨N, hN⟩ : ∃ N, X.size = N := ⟨_, rfl⟩
  have hlkN : X.lock ≤ N := by omega
  have hnz : ((N + 1 + 1 ≤ 0) : Prop) = False := by simp
  generalize hKK : Q46 X (tabW (wordsT 0 t) []) = KK
  rw [fn_step (fn_46 e) (show Tryz.f46.body = some _ from rfl), ← plus_nil X]
  simp -implicitDefEqProofs only [Tryz.f46, go_sem, ↓reduceIte, Int.reduceEq, Int.reduceLT, Int.reduceLE, List.reduceReplicate, intA, setT_nil, setT_cons, ↓boolP_bool, ↓iteB_true, ↓iteB_false, sizeP hN, putP0 hN, putP hN, settleP0 hN, settleP hN, rowP0 hN, rowP hN, storeP0 hN hlkN, storeP hN hlkN, List.length_nil, List.length_cons, Nat.add_zero, Nat.zero_add, hch.cells, hch.flat, hch.bound, call41 he ch xs hch, hnz, Nat.zero_le]
  obtain ⟨G, hG⟩ : ∃ G, X.plus [some (AObj.cells 0 0 79 1 false [ch]), some (AObj.map 0 [] 0), some (AObj.cells 0 (N + 1 + 1) 90 1 false [AV.mp (N + 1)])] = G := ⟨_, rfl⟩
  have hGs : G.size = N + 3 := by rw [← hG, plus_size, hN]; rfl
  have hG1 : G.get (N + 1) = some (.map 0 [] 0) := by rw [← hG]; exact plus_mid_get hN [some (AObj.cells 0 0 79 1 false [ch])] _ _
  have hG2 : G.get (N + 2) = some (.cells 0 (N + 2) 90 1 false [.mp (N + 1)]) := by rw [← hG]; exact plus_mid_get hN [some (AObj.cells 0 0 79 1 false [ch]), some (AObj.map 0 [] 0)] _ _
  have hGlo : ∀ b, b < N → G.get b = X.get b := fun b hb => by rw [← hG]; exact plus_get _ (by omega)
  have hGl : G.lock = X.lock := by rw [← hG]; rfl
  rw [hG]
  have hy : Yields2 (Cx e) 63 [.ro (.agg [ch]) 0] ((wordsT 0 t).map itW) := by rw [← allIts_eq hall]; exact yields2_63 he ch xs hch hok hlen
  have hrun := run46 (wordsT 0 t) [] (by show 0 + _ < _; omega)
  refine wp_range2 hy rfl (R46 N (N + 5)) stp46 (fun _ => True) ok46 (n0 := N + 3) (k := X.lock) (by rw [hGs]; exact Nat.le_refl _) (by omega) (fun x hx => ?_) (R46_anch (Nat.le_refl _)) (fun s m h => by rw [hGs]; exact ⟨R46_free (Nat.le_refl _) (by omega) s m h, R46_free (by omega) (by omega) s m h⟩) (fun _ _ _ _ _ => trivial) ?_ [] (base46 N 0 [] 0 ++ []) hrun.1 trivial ⟨[], 0, 0, [], trivial, (fun p hp => nomatch hp), List.nodup_nil, rfl⟩ ?_ hGl ?_
  · obtain ⟨y, -, rfl⟩ := List.mem_map.1 hx
    rfl
  · rw [hGs]
    rintro L L' s m x H' - - ⟨⟨⟨⟨p1, p2, p3⟩, w⟩, rfl⟩, hcnt⟩ - ⟨es, mx, c, rows, hT, hlo, hnd, rfl⟩ hHm hd0 hlp hlk' hsz'
    obtain ⟨M, hM⟩ : ∃ M, H'.size = M := ⟨_, rfl⟩
    have hlkM : H'.lock ≤ M := by omega
    have hp1 : stp46 s (itW ((p1, p2, p3), w)) = (.normal, addT w ((p1 : Int), (p2 : Int), (p3 : Int)) s) := rfl
    generalize stp46 s (itW ((p1, p2, p3), w)) = p46 at hp1 ⊢
    rw [← plus_nil H']
    simp -implicitDefEqProofs only [go_sem, ↓reduceIte, Int.reduceEq, Int.reduceLT, Int.reduceLE, List.reduceReplicate, intA, setT_nil, setT_cons, ↓boolP_bool, ↓iteB_true, ↓iteB_false, itW, plN, List.zip_cons_cons, List.zip_nil_right, List.zip_nil_left, sizeP hM, putP0 hM, putP hM, settleP0 hM, settleP hM, rowP0 hM, rowP hM, storeP0 hM hlkM, storeP hM hlkM, List.length_nil, Nat.add_zero]
    obtain ⟨E0, hE0⟩ : ∃ E0 : List (Option AObj), [some (.cells 0 0 32 1 false [.v (.int .i64 p1), .v (.int .i64 p2), .v (.int .i64 p3)])] = E0 := ⟨_, rfl⟩
    have hlo1 : loopObj (H'.plus E0) (N + 3 + 1) = some L := get_loopObj ((plus_get _ (by omega)).trans (loopObj_getI hlp))
    rw [hE0, plus_nil]
    refine ⟨rfl, hlo1, ?_⟩
    obtain ⟨Y, hY⟩ : ∃ Y, (H'.plus E0).put (N + 3 + 1) (.loop L') = Y := ⟨_, rfl⟩
    have hszE : (H'.plus E0).size = M + 1 := by rw [plus_size, hM, ← hE0]; rfl
    have hYs : Y.size = M + 1 := by rw [← hY, put_sizeI _ (by omega)]; exact hszE
    have hYg : ∀ b, b ≠ N + 3 + 1 → b < M → Y.get b = H'.get b := fun b hb hb2 => by rw [← hY, put_get_ne _ (by omega) hb]; exact plus_get _ (by omega)
    have hYl : Y.lock = X.lock := by rw [← hY]; exact hlk'
    have hlkY : Y.lock ≤ M + 1 := by omega
    have hYL : Y.get (N + 3 + 1) = some (.loop L') := by rw [← hY]; exact put_get_eq _ (by omega)
    have hYc : Y.get M = some (.cells 0 0 32 1 false [.v (.int .i64 p1), .v (.int .i64 p2), .v (.int .i64 p3)]) := by rw [← hY, put_get_ne _ (by omega) (by omega), ← hE0]; exact plus_mid_get hM [] [] _
    have hY1 : Y.get (N + 1) = some (.map mx es c) := (hYg _ (by omega) (by omega)).trans (hHm (N + 1, _) (List.mem_append_left _ (by unfold base46; simp)))
    have hY2 : Y.get (N + 2) = some (.cells 0 (N + 2) 90 1 false [.mp (N + 1)]) := (hYg _ (by omega) (by omega)).trans (hHm (N + 2, _) (List.mem_append_left _ (by unfold base46; simp)))
    have hrM : ∀ p ∈ rows, p.1 < M := fun p hp => by have := get_ltS (hHm p (List.mem_append_right _ hp)); omega
    have hYr : Has rows Y := fun p hp => (hYg _ (by have := hlo p hp; omega) (hrM p hp)).trans (hHm p (List.mem_append_right _ hp))
    have hr2 : ∀ F, (Y.plus F).row (N + 2) 0 = some (N + 2, 90, 1, false, [.mp (N + 1)]) := fun F => get_row ((plus_get _ (by omega)).trans hY2)
    have hrc : ∀ F, (Y.plus F).row M 0 = some (0, 32, 1, false, [.v (.int .i64 p1), .v (.int .i64 p2), .v (.int .i64 p3)]) := fun F => get_row ((plus_get _ (by omega)).trans hYc)
    have g1 : ltB (N + 1) (M + 1) = true := by unfold ltB; simp; omega
    have g2 : ltB (N + 2) (M + 1) = true := by unfold ltB; simp; omega
    have g3 : ltB M (M + 1) = true := by unfold ltB; simp
    have hf1 : fitsA 24 1 = true := by decide
    rw [hY, ← plus_nil Y]
    simp -implicitDefEqProofs only [go_sem, ↓reduceIte, Int.reduceEq, Int.reduceLT, Int.reduceLE, List.reduceReplicate, intA, setT_nil, setT_cons, ↓boolP_bool, ↓iteB_true, ↓iteB_false, sizeP hYs, putP0 hYs, putP hYs, settleP0 hYs, settleP hYs, rowP0 hYs, rowP hYs, storeP0 hYs hlkY, storeP hYs hlkY, List.length_nil, Nat.add_zero]
    refine wp_drawX [([], [], false), ([], [], false), ([0], [], false), ([], [], false), ([0], [], false), ([0, 2, 4], [], false), ([0, 2, 4], [], false), ([0], [6], false), ([], [6, 7], false)] (by kernel_rfl) (by kernel_rfl) ?_
    have hmc : AV.cells (.agg [.v (.int .i64 p1), .v (.int .i64 p2), .v (.int .i64 p3)]) = [.v (.int .i64 p1), .v (.int .i64 p2), .v (.int .i64 p3)] := rfl
    by_cases hin : w ∈ s.map (·.1)
    · obtain ⟨tb1, x, tb2, es1, en, es2, r1, r, r2, rfl, rfl, hn1, rfl, rfl, hT1, hTx, hT2⟩ := hT.split w hin
      obtain ⟨hk, hps, ver, hv, hr⟩ := hTx
      obtain ⟨w, ps⟩ := x
      obtain ⟨k', v', c'⟩ := en
      obtain ⟨b, ob⟩ := r
      simp only at hk hps hv hr
      subst hk hv hr
      have hbm := hrM (b, .cells ver 0 32 3 true (clP ps)) (by simp)
      have hbl := hlo (b, .cells ver 0 32 3 true (clP ps)) (by simp)
      simp only at hbm hbl
      have hlen1 : ps.length < 2 ^ 31 := by
        have := cnt_mem (s := tb1 ++ (w, ps) :: tb2) (x := (w, ps)) (by simp)
        simp only at this; omega
      have hfi : fitsA 24 (ps.length + 1) = true := by unfold fitsA; exact decide_eq_true (by omega)
      have hfind : findKeyA Tryz.prog 9 (strK w) (es1 ++ (strK w, .sl b ver 0 ps.length none, c') :: es2) 0 = some (some (es1.length, .sl b ver 0 ps.length none)) := by
        rw [find_skip Tryz.prog 9 w es1 (tb1.map (·.1)) 0 _ (by rw [hT1.keys, List.map_map]; rfl) hn1, find_here, Nat.zero_add]
      have hlook : ∀ F, lookupA Tryz.prog (Y.plus F) 90 (.mp (N + 1)) (.v (.string w)) false = some (.sl b ver 0 ps.length none) := fun F => look_in ((plus_get F (by omega)).trans hY1) hfind false
      have hYb : Y.get b = some (.cells ver 0 32 3 true (clP ps)) := hYr (b, _) (by simp)
      have hrb : ∀ F, (Y.plus F).row b ver = some (0, 32, 3, true, clP ps) := fun F => by
        rw [rowLo (by omega)]
        have h := row_of (v := ver) hYb
        rw [if_pos rfl] at h; exact h
      have g4 : ltB b (M + 1) = true := by unfold ltB; simp; omega
      have q1 : (b == N + 2) = false := by simp; omega
      have q2 : (b == N + 1) = false := by simp; omega
      have q3 : (N + 2 == b) = false := by simp; omega
      have q4 : (N + 1 == b) = false := by simp; omega
      simp -implicitDefEqProofs only [go_sem, ↓reduceIte, Int.reduceEq, Int.reduceLT, Int.reduceLE, List.reduceReplicate, intA, setT_nil, setT_cons, ↓boolP_bool, ↓iteB_true, ↓iteB_false, hr2, hrc, g1, g2, g3, g4, q1, q2, q3, q4, hlook, hf1, hmc, app47, appTo_vs0, List.flatMap_cons, List.flatMap_nil, sizeP hYs, putP0 hYs, putP hYs, settleP0 hYs, settleP hYs, rowP0 hYs, rowP hYs, storeP0 hYs hlkY, storeP hYs hlkY, List.length_nil, Nat.add_zero]
      obtain ⟨W, hW⟩ : ∃ W, Y.put b (.cells (ver + 1) 0 32 3 true (clP (ps ++ [((p1 : Int), (p2 : Int), (p3 : Int))]))) = W := ⟨_, rfl⟩
      have hWs : W.size = M + 1 := by rw [← hW, put_sizeI _ (by omega)]; exact hYs
      have hWg : ∀ q, q ≠ b → q ≤ M → W.get q = Y.get q := fun q hq hq2 => by rw [← hW]; exact put_get_ne _ (by omega) hq
      have hW1 : W.get (N + 1) = some (.map mx (es1 ++ (strK w, .sl b ver 0 ps.length none, c') :: es2) c) := (hWg _ (by omega) (by omega)).trans hY1
      have hWl : W.lock = X.lock := by rw [← hW]; exact hYl
      obtain ⟨Z, hZ⟩ : ∃ Z, W.put (N + 1) (.map (Nat.max mx (b + 1)) (es1 ++ (strK w, .sl b (ver + 1) 0 (ps.length + 1) none, c') :: es2) c) = Z := ⟨_, rfl⟩
      have hupd : ∀ F, updateA Tryz.prog (W.plus F) 90 (.mp (N + 1)) (.v (.string w)) (.sl b (ver + 1) 0 (ps.length + 1) none) = some (Z.plus F) := fun F => by
        refine (upd_in (G := W.plus F) ((plus_get F (by omega)).trans hW1) (by show W.lock ≤ _; omega) hfind (e := (strK w, .sl b ver 0 ps.length none, c')) (by rw [List.getElem?_append_right (Nat.le_refl _), Nat.sub_self]; rfl) _).trans ?_
        rw [setVal_at, putLo (by omega), ← hZ]; rfl
      rw [appTo_own (m := 0) (e' := 32) (cs := clP ps) (hrb _) (by rw [clP_len]) (by show Y.lock ≤ b; omega) hfi (by omega) (by omega)]
      rw [putLo (by omega), show Nat.max 0 (boundL [AV.v (.int .i64 p1), .v (.int .i64 p2), .v (.int .i64 p3)]) = 0 from rfl, ← clP_snoc ps ((p1 : Int), (p2 : Int), (p3 : Int)), hW]
      simp -implicitDefEqProofs only [go_sem, ↓reduceIte, Int.reduceEq, Int.reduceLT, Int.reduceLE, List.reduceReplicate, intA, setT_nil, setT_cons, ↓boolP_bool, ↓iteB_true, ↓iteB_false, hupd, bd2K_at']
      rw [addT_in w _ tb1 (w, ps) tb2 hn1 rfl] at hp1
      subst hp1
      have hZs : Z.size = M + 1 := by rw [← hZ, put_sizeI _ (by omega)]; exact hWs
      have hZg : ∀ q, q ≠ b → q ≠ N + 1 → q ≤ M → Z.get q = Y.get q := fun q hq hq1 hq2 => by rw [← hZ, put_get_ne _ (by omega) hq1]; exact hWg q hq hq2
      have hZb : Z.get b = some (.cells (ver + 1) 0 32 3 true (clP (ps ++ [((p1 : Int), (p2 : Int), (p3 : Int))]))) := by rw [← hZ, put_get_ne _ (by omega) (by omega), ← hW]; exact put_get_eq _ (by omega)
      have hZ1 : Z.get (N + 1) = some (.map (Nat.max mx (b + 1)) (es1 ++ (strK w, .sl b (ver + 1) 0 (ps.length + 1) none, c') :: es2) c) := by rw [← hZ]; exact put_get_eq _ (by omega)
      have hnd' : (r1.map (·.1)).Nodup ∧ (b :: r2.map (·.1)).Nodup ∧ ∀ q ∈ r1.map (·.1), ∀ q' ∈ b :: r2.map (·.1), q ≠ q' := by
        rw [List.map_append, List.map_cons] at hnd
        exact List.nodup_append.1 hnd
      have hne1 : ∀ p ∈ r1, p.1 ≠ b := fun p hp => hnd'.2.2 _ (List.mem_map_of_mem hp) b (List.mem_cons_self ..)
      have hne2 : ∀ p ∈ r2, p.1 ≠ b := fun p hp he => (List.nodup_cons.1 hnd'.2.1).1 (he ▸ List.mem_map_of_mem hp)
      have hsl : ∀ F, (settleH (M + 1) (Z.plus F)).lock = H'.lock := fun F => by
        rw [settle_lock, plus_lock, ← hZ]
        exact hWl.trans hlk'.symm
      have hss : ∀ F, M ≤ (settleH (M + 1) (Z.plus F)).size := fun F => Nat.le_trans (Nat.le_succ M) (settle_size' (n := M + 1) (by rw [plus_size]; omega))
      have hset : ∀ F q, q ≤ M → (settleH (M + 1) (Z.plus F)).get q = Z.get q := fun F q hq => (settle_lo (by omega)).trans (plus_get F (by omega))
      refine ⟨rfl, fin46 hM (by omega) (hsl _) (hss _) ((hset _ _ (by omega)).trans hZ1) ((hset _ _ (by omega)).trans ((hZg _ (by omega) (by omega) (by omega)).trans hY2)) ((hset _ _ (by omega)).trans ((hZg _ (by omega) (by omega) (by omega)).trans hYL)) (rows' := r1 ++ (b, .cells (ver + 1) 0 32 3 true (clP (ps ++ [((p1 : Int), (p2 : Int), (p3 : Int))]))) :: r2) ?_ (hT1.app (show TabM ((w, ps ++ [((p1 : Int), (p2 : Int), (p3 : Int))]) :: tb2) ((strK w, .sl b (ver + 1) 0 (ps.length + 1) none, c') :: es2) ((b, .cells (ver + 1) 0 32 3 true (clP (ps ++ [((p1 : Int), (p2 : Int), (p3 : Int))]))) :: r2) from ⟨⟨rfl, by simp, ver + 1, by simp, rfl⟩, hT2⟩)) ?_ ?_ ?_ ?_⟩
      · intro p hp
        rcases List.mem_append.1 hp with hp | hp
        · have hq := hrM p (List.mem_append_left _ hp)
          have hq2 := hlo p (List.mem_append_left _ hp)
          exact (hset _ _ (by omega)).trans ((hZg _ (hne1 p hp) (by omega) (by omega)).trans (hYr p (List.mem_append_left _ hp)))
        · rcases List.mem_cons.1 hp with rfl | hp
          · exact (hset _ _ (by simp only; omega)).trans hZb
          · have hq := hrM p (List.mem_append_right _ (List.mem_cons_of_mem _ hp))
            have hq2 := hlo p (List.mem_append_right _ (List.mem_cons_of_mem _ hp))
            exact (hset _ _ (by omega)).trans ((hZg _ (hne2 p hp) (by omega) (by omega)).trans (hYr p (List.mem_append_right _ (List.mem_cons_of_mem _ hp))))
      · intro p hp
        have hmx := Nat.le_max_left mx (b + 1)
        have hkey : ∃ q ∈ r1 ++ (b, AObj.cells ver 0 32 3 true (clP ps)) :: r2, q.1 = p.1 := by
          rcases List.mem_append.1 hp with hp | hp
          · exact ⟨p, List.mem_append_left _ hp, rfl⟩
          · rcases List.mem_cons.1 hp with rfl | hp
            · exact ⟨_, List.mem_append_right _ (List.mem_cons_self ..), rfl⟩
            · exact ⟨p, List.mem_append_right _ (List.mem_cons_of_mem _ hp), rfl⟩
        obtain ⟨q, hq, he⟩ := hkey
        have := hlo q hq
        rw [he] at this
        exact ⟨this.1, Nat.lt_of_lt_of_le this.2 hmx⟩
      · rw [List.map_append, List.map_cons] at hnd ⊢
        exact hnd
      · intro p hp
        left
        rcases List.mem_append.1 hp with hp | hp
        · exact ⟨p, List.mem_append_left _ hp, rfl⟩
        · rcases List.mem_cons.1 hp with rfl | hp
          · exact ⟨_, List.mem_append_right _ (List.mem_cons_self ..), rfl⟩
          · exact ⟨p, List.mem_append_right _ (List.mem_cons_of_mem _ hp), rfl⟩
      · intro q hq hq1 hq4 hnk
        rw [hset _ _ (by omega), hZg q (fun e => hnk ⟨_, List.mem_append_right _ (List.mem_cons_self ..), e.symm⟩) hq1 (by omega)]
        exact hYg q hq4 hq
    · have hfind : findKeyA Tryz.prog 9 (strK w) es 0 = some none := by
        have h := find_skip Tryz.prog 9 w es (s.map (·.1)) 0 [] (by rw [hT.keys, List.map_map]; rfl) hin
        rw [List.append_nil] at h
        exact h
      have hlook : ∀ F, lookupA Tryz.prog (Y.plus F) 90 (.mp (N + 1)) (.v (.string w)) false = some (.v (.slice none 0 0)) := fun F => look_out ((plus_get F (by omega)).trans hY1) hfind false
      obtain ⟨Z, hZ⟩ : ∃ Z, Y.put (N + 1) (.map (Nat.max mx (M + 1 + 7 + 1)) (es ++ [(strK w, .sl (M + 1 + 7) 0 0 1 none, c)]) (c + 1)) = Z := ⟨_, rfl⟩
      have hupd : ∀ F, updateA Tryz.prog (Y.plus F) 90 (.mp (N + 1)) (.v (.string w)) (.sl (M + 1 + 7) 0 0 1 none) = some (Z.plus F) := fun F => by
        refine (upd_out (G := Y.plus F) ((plus_get F (by omega)).trans hY1) (by show Y.lock ≤ _; omega) hfind _).trans ?_
        rw [putLo (by omega), ← hZ]; rfl
      simp -implicitDefEqProofs only [go_sem, ↓reduceIte, Int.reduceEq, Int.reduceLT, Int.reduceLE, List.reduceReplicate, intA, setT_nil, setT_cons, ↓boolP_bool, ↓iteB_true, ↓iteB_false, hr2, hrc, g1, g2, g3, hlook, hf1, hupd, hmc, app47, appTo_vs0, List.flatMap_cons, List.flatMap_nil, sizeP hYs, putP0 hYs, putP hYs, settleP0 hYs, settleP hYs, rowP0 hYs, rowP hYs, storeP0 hYs hlkY, storeP hYs hlkY, List.length_nil, Nat.add_zero]
      rw [addT_out w _ s hin] at hp1
      subst hp1
      simp -implicitDefEqProofs only [go_sem, ↓reduceIte, Int.reduceEq, Int.reduceLT, Int.reduceLE, List.reduceReplicate, intA, setT_nil, setT_cons, bd2K_at']
      have hZs : Z.size = M + 1 := by rw [← hZ, put_sizeI _ (by omega)]; exact hYs
      have hZg : ∀ q, q ≠ N + 1 → q ≤ M → Z.get q = Y.get q := fun q hq1 hq2 => by rw [← hZ]; exact put_get_ne _ (by omega) hq1
      have hZ1 : Z.get (N + 1) = some (.map (Nat.max mx (M + 1 + 7 + 1)) (es ++ [(strK w, .sl (M + 1 + 7) 0 0 1 none, c)]) (c + 1)) := by rw [← hZ]; exact put_get_eq _ (by omega)
      have hsl : ∀ F, (settleH (M + 1) (Z.plus F)).lock = H'.lock := fun F => by
        rw [settle_lock, plus_lock, ← hZ]
        exact hYl.trans hlk'.symm
      have hss : ∀ F, M ≤ (settleH (M + 1) (Z.plus F)).size := fun F => Nat.le_trans (Nat.le_succ M) (settle_size' (n := M + 1) (by rw [plus_size]; omega))
      have hset : ∀ F q, q ≤ M → (settleH (M + 1) (Z.plus F)).get q = Z.get q := fun F q hq => (settle_lo (by omega)).trans (plus_get F (by omega))
      have hcl1 : clP [((p1 : Int), (p2 : Int), (p3 : Int))] = [.v (.int .i64 p1), .v (.int .i64 p2), .v (.int .i64 p3)] := by rw [clP_cons]; rfl
      refine fin46 hM (by omega) (hsl _) (hss _) ((hset _ _ (by omega)).trans hZ1) ((hset _ _ (by omega)).trans ((hZg _ (by omega) (by omega)).trans hY2)) ((hset _ _ (by omega)).trans ((hZg _ (by omega) (by omega)).trans hYL)) (rows' := rows ++ [(M + 1 + 7, .cells 0 0 32 3 true (clP [((p1 : Int), (p2 : Int), (p3 : Int))]))]) ?_ (hT.app ⟨⟨rfl, by simp, 0, rfl, rfl⟩, trivial⟩) ?_ ?_ ?_ ?_
      · refine Has.settle (fun p hp => ?_) _
        rcases List.mem_append.1 hp with hp | hp
        · have hq := hrM p hp
          have hq2 := hlo p hp
          exact (plus_get _ (by omega)).trans ((hZg _ (by omega) (by omega)).trans (hYr p hp))
        · obtain rfl := List.mem_singleton.1 hp
          rw [hcl1]
          exact plus_mid_get hZs [none, none, none, none, none, none, none] _ _
      · intro p hp
        have hmx := Nat.le_max_left mx (M + 1 + 7 + 1)
        have hmx2 := Nat.le_max_right mx (M + 1 + 7 + 1)
        rcases List.mem_append.1 hp with hp | hp
        · have := hlo p hp
          exact ⟨this.1, Nat.lt_of_lt_of_le this.2 hmx⟩
        · obtain rfl := List.mem_singleton.1 hp
          exact ⟨by simp only; omega, Nat.lt_of_lt_of_le (Nat.lt_succ_self _) hmx2⟩
      · rw [List.map_append]
        refine List.nodup_append.2 ⟨hnd, by simp, fun q hq q' hq' => ?_⟩
        obtain ⟨p, hp, rfl⟩ := List.mem_map.1 hq
        simp only [List.map_cons, List.map_nil, List.mem_singleton] at hq'
        have := hrM p hp
        omega
      · intro p hp
        rcases List.mem_append.1 hp with hp | hp
        · exact Or.inl ⟨p, hp, rfl⟩
        · obtain rfl := List.mem_singleton.1 hp
          exact Or.inr (by simp only; omega)
      · intro q hq hq1 hq4 hnk
        rw [hset _ _ (by omega), hZg q hq1 (by omega)]
        exact hYg q hq4 hq
  · intro p hp
    rw [List.append_nil] at hp
    unfold base46 at hp
    simp only [List.mem_cons, List.not_mem_nil, or_false] at hp
    rcases hp with rfl | rfl
    · exact hG1
    · exact hG2
  · rw [hGs, hrun.2]
    rintro m' H' ⟨es, mx, c, rows, hT, hlo, hnd, rfl⟩ hH1 hd hdd hmv hsz'
    have hkl : H'.lock = X.lock := by rw [hmv.lock]; exact hGl
    have hkill : killAll [N + 3] H' = some (H'.put (N + 3) .dead) := by
      unfold killAll
      rw [hd]
      simp only
      rw [if_pos (by omega)]
      unfold killAll; rfl
    have hDg : ∀ q, q ≠ N + 3 → q < H'.size → (H'.put (N + 3) .dead).get q = H'.get q := fun q hq hq2 => put_get_ne _ (by omega) hq
    have hD2 : (H'.put (N + 3) .dead).get (N + 2) = some (.cells 0 (N + 2) 90 1 false [.mp (N + 1)]) := (hDg _ (by omega) (by omega)).trans (hH1 (N + 2, _) (List.mem_append_left _ (by unfold base46; simp)))
    have hD1 : (H'.put (N + 3) .dead).get (N + 1) = some (.map mx es c) := (hDg _ (by omega) (by omega)).trans (hH1 (N + 1, _) (List.mem_append_left _ (by unfold base46; simp)))
    have hrD := row_of (v := 0) (show H'.get (N + 2) = some (.cells 0 (N + 2) 90 1 false [.mp (N + 1)]) from hH1 (N + 2, _) (List.mem_append_left _ (by unfold base46; simp)))
    have hDs : (H'.put (N + 3) .dead).size = H'.size := put_sizeI _ (by omega)
    obtain ⟨U, hU⟩ : ∃ U, H'.size = U := ⟨_, rfl⟩
    rw [hU] at hDs
    simp -implicitDefEqProofs only [go_sem, ↓reduceIte, Int.reduceEq, Int.reduceLT, Int.reduceLE, List.reduceReplicate, intA, setT_nil, setT_cons, ↓boolP_bool, ↓iteB_true, ↓iteB_false, hkill, hrD, hDs, settle_eqN hDs, trim_eqN hDs]
    rw [← hKK]
    subst hN
    refine ⟨rfl, hkl, by rw [hDs]; omega, fun b hb => ?_, es, mx, c, rows, hT, fun p hp => ?_, hnd, hD1, fun p hp => ?_⟩
    · rw [hDg b (by omega) (by omega), hmv.same b (by omega) ?_]
      · exact hGlo b hb
      · rw [List.append_nil]
        unfold base46
        rintro ⟨p, hp, he⟩
        simp only [List.mem_cons, List.not_mem_nil, or_false] at hp
        rcases hp with rfl | rfl <;> (simp only at he; omega)
    · have := hlo p hp
      exact ⟨by omega, this.2⟩
    · have h := hH1 p (List.mem_append_right _ hp)
      have := hlo p hp
      rw [hDg _ (by omega) (get_ltS h)]; exact h
end Go.Ev
namespace Go.Ev
open Go.Proofs Go.Sort
set_option maxRecDepth 100000
set_option linter.unusedSimpArgs false
attribute [local irreducible] Wp WpS
/-! ### a call of placesByWord -/
theorem call46 {e : Exts} (he : Quiet e) {t : Txt} {ch : AV} {xs : List AV} (hch : SlOf 2 xs ch) (hall : All2 ChapA t xs) (hok : ∀ y ∈ xs, OkCh2 y) (hlen : xs.length < 2 ^ 63) (hw : (wordsT 0 t).length < 2 ^ 31) (X : Heap) (hlk : X.lock ≤ X.size) (me : FuncId) (d : Option Tmp) :
    ∃ Y, callA (Cx e) (lim (Cx e)) me 46 d [.agg [ch]] X = some (.mp (X.size + 1), Y) ∧ Q46 X (tabW (wordsT 0 t) []) (.mp (X.size + 1)) Y := by
  have h := fn46 he hch hall hok hlen hw X hlk
  unfold Fn' at h
  rw [bindO_iff] at h
  obtain ⟨o, h1, h2⟩ := h
  cases o with
  | ret v H' =>
    obtain ⟨rfl, h3⟩ := h2
    refine ⟨H', ?_, rfl, h3⟩
    have hk : callKind (Cx e) me 46 d [.agg [ch]] = 0 := by unfold callKind; rw [show (Cx e).pure me 46 d = false from by simp [Cx, pureF, impF, impC]]; rfl
    unfold callA callB
    rw [ext_46 he]
    simp only [hk, h1]
    refine congrArg some (Prod.ext rfl ?_)
    show H'.trim X.size [.mp (X.size + 1)] [] = H'
    unfold Heap.trim
    rw [if_neg]
    rw [Bool.and_eq_true, Bool.and_eq_true, Bool.and_eq_true, Nat.ble_eq]
    have : boundL [AV.mp (X.size + 1)] = X.size + 2 := rfl
    rw [this]
    exact fun g => by have := g.1.1.1; omega
  | _ => exact h2.elim
end Go.Ev
namespace Go.Ev
open Go.Proofs Go.Sort
set_option maxRecDepth 100000
set_option linter.unusedSimpArgs false
/-! ### places in doubt -/
def atR (r : Rd) : P3 := (r.ch, r.ln, r.wd)
end Go.Ev
namespace Go.Ev
open Go.Proofs
set_option maxRecDepth 100000
set_option linter.unusedSimpArgs false
attribute [local irreducible] Wp WpS
end Go.Ev
namespace Go.Ev
open Go.Proofs
set_option maxRecDepth 100000
set_option linter.unusedSimpArgs false
attribute [local irreducible] Wp WpS
end Go.Ev
namespace Go.Ev
open Go.Proofs
set_option maxRecDepth 100000
set_option linter.unusedSimpArgs false
attribute [local irreducible] Wp WpS
/-- a reading of the reference -/
def readB (t : Txt) (r : Rd) : Bool := match lineAt t r.ch r.ln with | none => false | some l => if r.kind = 1 then fits1 l r else if r.kind = 2 then fits2 l r else if r.kind = 3 then fits3 l r else false
end Go.Ev
namespace Go.Ev
open Go.Proofs
set_option maxRecDepth 100000
set_option linter.unusedSimpArgs false
attribute [local irreducible] Wp WpS
/-! ### a line of a copy, by the reference -/
def refI (k n w : Int) (s : List ByteArray × ByteArray) (r : Rd) : List ByteArray × ByteArray :=
  if r.ch = k ∧ r.ln = n ∧ r.wd = w then if r.kind = 2 then (s.1 ++ [r.word], s.2) else (s.1, r.word) else s
def refW (l : Line) (rs : List Rd) (k n : Int) (ds : List ByteArray) (w : Nat) : List ByteArray :=
  let s := rs.foldl (refI k n w) (ds, (l[w]?).getD emp)
  if s.2 = emp then s.1 else s.1 ++ [s.2]
def refLine (l : Line) (rs : List Rd) (k n : Int) : List ByteArray := (List.range (l.length + 1)).foldl (refW l rs k n) []
structure M79 (id : Int) (x : AV) (H : Heap) (ds : List ByteArray) (out : AV) : Prop where
  lock : H.lock = 0
  size : 2 ≤ H.size
  b1 : H.get 1 = some (.cells 0 0 53 1 false [.v (.int .i64 id), x])
  done : DoneR H ds out
theorem M79.plus {id : Int} {x : AV} {H : Heap} {ds : List ByteArray} {out : AV} (h : M79 id x H ds out) (E : List (Option AObj)) : M79 id x (H.plus E) ds out :=
  ⟨h.lock, by have := h.size; rw [plus_size]; omega, (plus_get E (by have := h.size; omega)).trans h.b1, h.done.plus E⟩
theorem M79.trim {id : Int} {x : AV} {H : Heap} {ds : List ByteArray} {out : AV} (h : M79 id x H ds out) {n : Nat} (hn : 2 ≤ n) (hn2 : n ≤ H.size) (vs : List AV) (ms : List Nat) (hv : bound out ≤ boundL vs) : M79 id x (H.trim n vs ms) ds out := by
  refine ⟨trim_lock.trans h.lock, Nat.le_trans hn (trim_size' hn2), (trim_lo (by omega)).trans h.b1, ?_⟩
  rcases h.done with hd | ⟨b, v, h1, h2, rfl, h4⟩
  · exact Or.inl hd
  · unfold Heap.trim
    split
    · rename_i hq
      rw [Bool.and_eq_true, Bool.and_eq_true, Bool.and_eq_true, Nat.ble_eq] at hq
      have h5 := hq.1.1.1
      have hb : b < n := by simp only [bound] at hv; omega
      have hg := (takeH_get (H := H) hb).trans (row_of_get h4)
      exact Or.inr ⟨b, v, h1, get_size hg, rfl, get_row hg⟩
    · exact Or.inr ⟨b, v, h1, h2, rfl, h4⟩
theorem M79.more {id : Int} {x : AV} {H : Heap} {ds : List ByteArray} {b v : Nat} (h : M79 id x H ds (.sl b v 0 ds.length none)) (hb : b < H.size) (hr : H.row b v = some (0, 9, 1, true, strs ds)) (s : List ByteArray) (n : Nat) (hn : n = ds.length + s.length) : M79 id x (H.put b (.cells (v + 1) 0 9 1 true (strs (ds ++ s)))) (ds ++ s) (.sl b (v + 1) 0 n none) := by
  have hne : 1 ≠ b := by
    rintro rfl
    have := (row_of_get hr).symm.trans h.b1
    simp at this
  refine ⟨h.lock, by rw [put_sizeI _ hb]; exact h.size, (put_get_ne _ (by have := h.size; omega) hne).trans h.b1, Or.inr ⟨b, v + 1, ?_, by rw [put_sizeI _ hb]; exact hb, by rw [hn, List.length_append], row_put_same hb⟩⟩
  have := h.lock
  show H.lock ≤ b
  omega
theorem M79.new {id : Int} {x : AV} {H : Heap} {ds : List ByteArray} {out : AV} (h : M79 id x H ds out) {N : Nat} (hN : H.size = N) (E : List (Option AObj)) (k : Nat) (ds' : List ByteArray) (hE : E[k]? = some (some (.cells 0 0 9 1 true (strs ds')))) : M79 id x (H.plus E) ds' (.sl (N + k) 0 0 ds'.length none) := by
  have hk := (List.getElem?_eq_some_iff.1 hE).1
  refine ⟨h.lock, by have := h.size; rw [plus_size]; omega, (plus_get E (by have := h.size; omega)).trans h.b1, Or.inr ⟨N + k, 0, ?_, by rw [plus_size]; omega, rfl, ?_⟩⟩
  · have := h.lock
    show H.lock ≤ _
    omega
  · rw [rowP hN, hE]; rfl
end Go.Ev
namespace Go.Ev
open Go.Proofs
set_option maxRecDepth 100000
set_option linter.unusedSimpArgs false
attribute [local irreducible] Wp WpS
end Go.Ev
namespace Go.Ev
open Go.Proofs
set_option maxRecDepth 100000
set_option linter.unusedSimpArgs false
attribute [local irreducible] Wp WpS
end Go.Ev
namespace Go.Ev
open Go.Proofs
set_option maxRecDepth 100000
set_option linter.unusedSimpArgs false
attribute [local irreducible] Wp WpS
/-! ### a copy, by the reference -/
def pairR (p r : Rd) : Bool := !(beforeB (r.ch, r.ln, r.wd) (p.ch, p.ln, p.wd) || (eqP r.ch r.ln r.wd p.ch p.ln p.wd && !decide (p.kind = 2)))
def rdsB (t : Txt) : Option Rd → List Rd → Bool
  | _, [] => true
  | p, r :: l => readB t r && (match p with | none => true | some p => pairR p r) && rdsB t (some r) l
def linesN (rs : List Rd) (k : Nat) : Nat → List Line → Bool
  | _, [] => true
  | n, l :: r => withinB 1 10 [((refLine l rs k n).length : Int)] && linesN rs k (n + 1) r
def chapsN (rs : List Rd) : Nat → Txt → Bool
  | _, [] => true
  | k, c :: r => linesN rs k 0 c.2 && chapsN rs (k + 1) r
def copyB (t : Txt) (id : Int) (rs : List Rd) : Bool := withinB 0 9999 [id] && !decide (20 < (rs.length : Int)) && (rdsB t none rs && chapsN rs 0 t)
end Go.Ev
namespace Go.Ev
open Go.Proofs
set_option maxRecDepth 100000
set_option linter.unusedSimpArgs false
attribute [local irreducible] Wp WpS
end Go.Ev
namespace Go.Ev
open Go.Proofs
set_option maxRecDepth 100000
set_option linter.unusedSimpArgs false
attribute [local irreducible] Wp WpS
def takesB (a b c : Int) (r : Rd) : Bool := eqP r.ch r.ln r.wd a b c && !decide (r.kind = 2)
def standL (rs : List Rd) (a b c : Int) (own : ByteArray) : ByteArray := match rs.find? (takesB a b c) with | some r => r.word | none => own
end Go.Ev
namespace Go.Ev
open Go.Proofs Go.Sort
set_option maxRecDepth 100000
set_option linter.unusedSimpArgs false
attribute [local irreducible] Wp WpS
/-! ### the word of a place -/
set_option maxHeartbeats 2000000 in
theorem ans19 {e : Exts} (he : Quiet e) (t : Txt) (ht : Fits t) (htx : textB t = true) (ch : AV) (xs : List AV) (hch : SlOf 2 xs ch) (hall : All2 ChapA t xs) (a b c : Nat) (ln : Line) (hL : lineAt t a b = some ln) (own : ByteArray) (hc : ln[c]? = some own) :
    Ans (Cx e) 19 [.agg [ch], .agg [intA a, intA b, intA c]] (.tup [.v (.string own), intA 0]) := by
  have h40 := call40 he t ht ch ⟨xs, hch, hall⟩
  rw [htx, if_pos rfl] at h40
  unfold intA at h40
  have hcl := (List.getElem?_eq_some_iff.1 hc).1
  have h44 := call44 he t ht ch xs hch hall a b c
  have hp : placeB' t a b c = true := by unfold placeB'; rw [hL]; simp; omega
  rw [hp] at h44
  obtain ⟨y, hy, h45, hi45⟩ := call45 he t ht ch xs hch hall a b c
  rw [hL] at hy
  have hy : SlOf 1 (strs ln) y := hy
  have hyi := hy.idx (strs_get hc)
  unfold Ans
  rw [fn_step (fn_19 e) (show Tryz.f19.body = some _ from rfl)]
  simp -implicitDefEqProofs only [Tryz.f19, go_sem, ↓reduceIte, Int.reduceEq, Int.reduceLT, Int.reduceLE, List.reduceReplicate, intA, setT_nil, setT_cons, ↓boolP_bool, ↓iteB_true, ↓iteB_false, hch.cells, hch.flat, hch.bound, h40, h44]
  refine wp_drawX [([], [], false), ([0], [], false), ([], [], false), ([], [], false), ([0, 1, 2], [], false), ([], [], false), ([], [], false), ([], [], false), ([], [], false)] (by kernel_rfl) (by kernel_rfl) ?_
  simp -implicitDefEqProofs only [go_sem, ↓reduceIte, Int.reduceEq, Int.reduceLT, Int.reduceLE, List.reduceReplicate, intA, setT_nil, setT_cons, ↓boolP_bool, ↓iteB_true, ↓iteB_false, hch.cells, hch.flat, hch.bound, h45, hi45, hyi]
  rfl
/-! ### the places of a copy that are in doubt -/
def plsV : List P3 → AV
  | [] => .v (.slice none 0 0)
  | p :: l => .vs 3 ((p :: l).map p3V) none
theorem chunk_pls : ∀ f : List P3, chunk 3 f.length (clP f) = f.map p3V
  | [] => rfl
  | r :: f => by
    rw [clP_cons, List.length_cons, List.map_cons, ← chunk_pls f]; rfl
theorem plsV_bound (l : List P3) : bound (plsV l) = 0 := by cases l <;> rfl
end Go.Ev
namespace Go.Ev
open Go.Proofs Go.Sort
set_option maxRecDepth 100000
set_option linter.unusedSimpArgs false
attribute [local irreducible] Wp WpS
/-! ### Places -/
def getT (w : ByteArray) : TbW → List P3
  | [] => []
  | x :: r => if x.1 = w then x.2 else getT w r
def placesL (w : ByteArray) (l : List (Plc × ByteArray)) : List P3 := (l.filter fun y => decide (y.2 = w)).map fun y => plI y.1
theorem get_add (w w' : ByteArray) (p : P3) : ∀ s : TbW, getT w (addT w' p s) = if w' = w then getT w s ++ [p] else getT w s
  | [] => by
    unfold addT getT
    by_cases h : w' = w
    · rw [if_pos h, if_pos h]; rfl
    · rw [if_neg h, if_neg h]; rfl
  | x :: r => by
    have ih := get_add w w' p r
    unfold addT
    by_cases h : x.1 = w'
    · rw [if_pos h]
      by_cases h2 : w' = w
      · rw [if_pos h2]
        show (if x.1 = w then x.2 ++ [p] else _) = (if x.1 = w then x.2 else _) ++ [p]
        rw [if_pos (h.trans h2), if_pos (h.trans h2)]
      · rw [if_neg h2]
        show (if x.1 = w then _ else getT w r) = (if x.1 = w then _ else getT w r)
        rw [if_neg (fun e => h2 (h.symm.trans e)), if_neg (fun e => h2 (h.symm.trans e))]
    · rw [if_neg h]
      show (if x.1 = w then x.2 else getT w (addT w' p r)) = _
      rw [ih]
      by_cases h2 : w' = w
      · rw [if_pos h2, if_pos h2]
        show _ = (if x.1 = w then x.2 else getT w r) ++ [p]
        rw [if_neg (fun e => h (e.trans h2.symm)), if_neg (fun e => h (e.trans h2.symm))]
      · rw [if_neg h2, if_neg h2]; rfl
theorem get_tab (w : ByteArray) : ∀ (l : List (Plc × ByteArray)) (s : TbW), getT w (tabW l s) = getT w s ++ placesL w l
  | [], s => by show getT w s = _ ++ []; rw [List.append_nil]
  | y :: r, s => by
    show getT w (tabW r (addT y.2 (plI y.1) s)) = _
    rw [get_tab w r, get_add]
    unfold placesL
    by_cases h : y.2 = w
    · rw [if_pos h, List.filter_cons, if_pos (decide_eq_true h), List.append_assoc]; rfl
    · rw [if_neg h, List.filter_cons, if_neg (by simp [h])]
theorem getT_in (w : ByteArray) (ps : List P3) (b : TbW) : ∀ a : TbW, w ∉ a.map (·.1) → getT w (a ++ (w, ps) :: b) = ps
  | [], _ => by show (if w = w then _ else _) = _; rw [if_pos rfl]
  | x :: a, h => by
    simp only [List.map_cons, List.mem_cons, not_or] at h
    show (if x.1 = w then _ else getT w (a ++ (w, ps) :: b)) = _
    rw [if_neg (fun e => h.1 e.symm), getT_in w ps b a h.2]
theorem getT_out (w : ByteArray) : ∀ a : TbW, w ∉ a.map (·.1) → getT w a = []
  | [], _ => rfl
  | x :: a, h => by
    simp only [List.map_cons, List.mem_cons, not_or] at h
    show (if x.1 = w then _ else getT w a) = _
    rw [if_neg (fun e => h.1 e.symm), getT_out w a h.2]
/-- what is looked up in the map that is left behind -/
theorem look_tab {G : Heap} {tb : TbW} {es : List (AV × AV × Nat)} {rows : Fm} {mb mx c : Nat} (hT : TabM tb es rows) (hg : G.get mb = some (.map mx es c)) (hr : Has rows G) (w : ByteArray) :
    (getT w tb = [] ∧ w ∉ tb.map (·.1) ∧ lookupA Tryz.prog G 90 (.mp mb) (strK w) false = some (.v (.slice none 0 0))) ∨
    (getT w tb ≠ [] ∧ w ∈ tb.map (·.1) ∧ ∃ b v, keyIn b rows ∧ G.row b v = some (0, 32, 3, true, clP (getT w tb)) ∧ lookupA Tryz.prog G 90 (.mp mb) (strK w) false = some (.sl b v 0 (getT w tb).length none)) := by
  by_cases hin : w ∈ tb.map (·.1)
  · right
    obtain ⟨tb1, x, tb2, es1, en, es2, r1, r, r2, rfl, rfl, hn1, rfl, rfl, hT1, hTx, hT2⟩ := hT.split w hin
    obtain ⟨hk, hps, ver, hv, hrr⟩ := hTx
    obtain ⟨w, ps⟩ := x
    obtain ⟨k', v', c'⟩ := en
    obtain ⟨b, ob⟩ := r
    simp only at hk hps hv hrr
    subst hk hv hrr
    rw [getT_in w ps tb2 tb1 hn1]
    have hfind : findKeyA Tryz.prog 9 (strK w) (es1 ++ (strK w, .sl b ver 0 ps.length none, c') :: es2) 0 = some (some (es1.length, .sl b ver 0 ps.length none)) := by
      rw [find_skip Tryz.prog 9 w es1 (tb1.map (·.1)) 0 _ (by rw [hT1.keys, List.map_map]; rfl) hn1, find_here, Nat.zero_add]
    refine ⟨hps, hin, b, ver, ⟨(b, .cells ver 0 32 3 true (clP ps)), by simp, rfl⟩, ?_, look_in hg hfind false⟩
    exact get_row (hr (b, .cells ver 0 32 3 true (clP ps)) (by simp))
  · left
    have hfind : findKeyA Tryz.prog 9 (strK w) es 0 = some none := by
      have h := find_skip Tryz.prog 9 w es (tb.map (·.1)) 0 [] (by rw [hT.keys, List.map_map]; rfl) hin
      rw [List.append_nil] at h
      exact h
    exact ⟨getT_out w tb hin, hin, look_out hg hfind false⟩
theorem freeze_plsK (H : Heap) (b v : Nat) (f : List P3) (hf : f ≠ []) (hk : H.lock = 0) (hr : H.row b v = some (0, 32, 3, true, clP f)) (k : Nat) : freezeV H (k + 1) (.sl b v 0 f.length none) = some (plsV f) := by
  have : plsV f = .vs 3 (f.map p3V) none := by cases f with | nil => exact absurd rfl hf | cons r f => rfl
  rw [this, ← chunk_pls f]
  unfold freezeV
  simp only [hr, hk]
  rw [if_neg (by omega), if_pos ⟨by rw [clP_len]; omega, by omega⟩, if_pos trivial, List.drop_zero, List.take_of_length_le (by rw [clP_len]; omega)]
theorem freeze_two {H : Heap} {x y : AV} (h : ∀ k, freezeV H (k + 1) x = some y) : freezeV H 1000000 (.tup [x, .v (.int .i64 0)]) = some (.tup [y, .v (.int .i64 0)]) := by
  have e1 : freezeL H 999999 [x, .v (.int .i64 0)] = some [y, .v (.int .i64 0)] := by
    show (match freezeV H (999997 + 1) x, freezeL H 999998 [.v (.int .i64 0)] with | some y, some ys => some (y :: ys) | _, _ => none) = _
    rw [h]; rfl
  show (freezeL H 999999 [x, .v (.int .i64 0)]).map AV.tup = _
  rw [e1]; rfl
set_option maxHeartbeats 2000000 in
theorem ans21 {e : Exts} (he : Quiet e) {t : Txt} (ht : Fits t) (htx : textB t = true) {ch : AV} {xs : List AV} (hch : SlOf 2 xs ch) (hall : All2 ChapA t xs) (w : ByteArray) (hws : w.size < 2 ^ 63) (hwb : wordB w = true) :
    Ans (Cx e) 21 [.agg [ch], .v (.string w)] (.tup [plsV (placesL w (wordsT 0 t)), .v (.int .i64 0)]) := by
  have hs := small_of htx
  have h40 := call40 he t ht ch ⟨xs, hch, hall⟩
  rw [htx, if_pos rfl] at h40
  have h49 := fun me d H => (ans49 he w hws).call (me := me) (d := d) (ext_49 he) (pure_49 _ _ _) rfl H
  rw [hwb] at h49
  have hlx : xs.length < 2 ^ 63 := by rw [← hall.1]; exact ht.chs
  have hwn : (wordsT 0 t).length < 2 ^ 31 := by have := wordsT_small hs; omega
  unfold Ans
  rw [fn_step (fn_21 e) (show Tryz.f21.body = some _ from rfl)]
  simp -implicitDefEqProofs only [Tryz.f21, go_sem, ↓reduceIte, Int.reduceEq, Int.reduceLT, Int.reduceLE, List.reduceReplicate, intA, setT_nil, setT_cons, ↓boolP_bool, ↓iteB_true, ↓iteB_false, hch.cells, hch.flat, hch.bound, h40, h49]
  obtain ⟨Y, hc, -, hYl, hYs, hYlo, es, mx, c, rows, hT, hlo, hnd, hg, hr⟩ := call46 he hch hall (okCh2_of ht hall) hlx hwn { objs := [some (AObj.cells 0 0 24 1 false [ch]), some (AObj.cells 0 0 79 1 false [ch])], lock := 0 } (Nat.zero_le _) 21 (some 20)
  have hgt := get_tab w (wordsT 0 t) []
  rw [show getT w [] = [] from rfl, List.nil_append] at hgt
  have hlt := look_tab hT hg hr w
  rw [hgt] at hlt
  unfold strK at hlt
  generalize placesL w (wordsT 0 t) = ps at hlt ⊢
  rcases hlt with ⟨rfl, -, h1⟩ | ⟨h0, -, b, v, hk, hrow, h1⟩
  · simp only [hc, h1, bindO_some]
    rfl
  · simp only [hc, h1, bindO_some]
    have hb : b < Y.size := get_ltS (row_of_get hrow)
    have hrow2 : (Heap.mk (settleH 2 Y).objs 0).row b v = some (0, 32, 3, true, clP ps) := by
      have hH : Has [(b, .cells v 0 32 3 true (clP ps))] Y := fun p hp => by obtain rfl := List.mem_singleton.1 hp; exact row_of_get hrow
      exact get_row ((hH.settle 2) (b, .cells v 0 32 3 true (clP ps)) (List.mem_cons_self ..))
    show freezeV (Heap.mk (settleH 2 Y).objs 0) 1000000 (.tup [.sl b v 0 ps.length none, .v (.int .i64 0)]) = _
    exact freeze_two fun k => freeze_plsK _ b v ps h0 rfl hrow2 k
end Go.Ev
namespace Go.Ev
open Go.Proofs Go.Sort
set_option maxRecDepth 100000
set_option linter.unusedSimpArgs false
attribute [local irreducible] Wp WpS
instance lawBA : LawfulBEq ByteArray where
  eq_of_beq {a b} h := by
    obtain ⟨a⟩ := a
    obtain ⟨b⟩ := b
    have h' : (a == b) = true := h
    rw [eq_of_beq h']
  rfl {a} := by
    obtain ⟨a⟩ := a
    show (a == a) = true
    exact beq_self_eq_true a
/-! ### rows of words -/
def clW (ws : List ByteArray) : List AV := ws.map strK
theorem clW_len (ws : List ByteArray) : (clW ws).length = ws.length := by unfold clW; rw [List.length_map]
theorem clW_flat (ws : List ByteArray) : (clW ws).all AV.flat = true := List.all_eq_true.2 fun x hx => by
  obtain ⟨y, -, rfl⟩ := List.mem_map.1 hx
  rfl
theorem clW_bound (ws : List ByteArray) : boundL (clW ws) = 0 := Nat.le_zero.1 (boundL_le.2 fun x hx => by
  obtain ⟨y, -, rfl⟩ := List.mem_map.1 hx
  exact Nat.le_refl _)
def wdsV (ws : List ByteArray) : AV := match ws with | [] => .v (.slice none 0 0) | _ => .vs 1 (clW ws) none
theorem wdsV_sl (ws : List ByteArray) : SlOf 1 (strs ws) (wdsV ws) := by
  cases ws with
  | nil => exact Or.inl ⟨rfl, rfl⟩
  | cons p r => exact Or.inr ⟨none, rfl⟩
theorem app41 (H : Heap) (slot : Nat) (s x : AV) : appendA Tryz.prog H slot [41, 41] [s, x] = appG 9 1 16 H slot s (cellsFrom H 1 x) := app_eq2 (by kernel_rfl) (by kernel_rfl) (by kernel_rfl) (by kernel_rfl) (by decide) (by decide) H slot s x
theorem eqNil41 (t : Tmp) (b v o l : Nat) (c : Option Nat) : binA Tryz.prog .eql 41 (.tmp t) (.const (.slice none 0 0)) (.sl b v o l c) (.v (.slice none 0 0)) = some (.v (.bool false)) := by
  unfold binA nilEq
  rw [und_41]; rfl
theorem eqNil41n (t : Tmp) : binA Tryz.prog .eql 41 (.tmp t) (.const (.slice none 0 0)) (.v (.slice none 0 0)) (.v (.slice none 0 0)) = some (.v (.bool true)) := by
  unfold binA nilEq
  rw [und_41]; rfl
/-! ### each word once -/
abbrev St20 := List ByteArray × List ByteArray
def onceW (s : St20) (w : ByteArray) : St20 := if w ∈ s.1 then (s.1.erase w, s.2 ++ [w]) else s
def wI (x : List AV) : ByteArray := match x with | [_, .v (.string w)] => w | _ => ByteArray.empty
def stp20 (s : St20) (x : List AV) : AExit × St20 := (.normal, onceW s (wI x))
def ok20 (s : St20) (x : List AV) : Prop := (∃ y : Plc × ByteArray, x = itW y) ∧ s.2.length < 2 ^ 31
def onceAll (l : List (Plc × ByteArray)) (s : St20) : St20 := l.foldl (fun s y => onceW s y.2) s
theorem onceW_len (s : St20) (w : ByteArray) : (onceW s w).2.length ≤ s.2.length + 1 := by
  unfold onceW
  split
  · simp
  · simp
theorem run20 : ∀ (l : List (Plc × ByteArray)) (s : St20), s.2.length + l.length < 2 ^ 31 → okRun (fun s x => (isGo (stp20 s x).1, (stp20 s x).2)) ok20 (l.map itW) s ∧ foldE stp20 (l.map itW) s = (.normal, onceAll l s)
  | [], s, _ => ⟨trivial, rfl⟩
  | y :: r, s, h => by
    rw [List.length_cons] at h
    have h1 := onceW_len s y.2
    have ih := run20 r (onceW s y.2) (by omega)
    rw [List.map_cons]
    refine ⟨⟨⟨⟨y, rfl⟩, by omega⟩, fun _ => ih.1⟩, ?_⟩
    rw [foldE_go rfl]
    exact ih.2
/-- of all words each that is asked for comes once -/
theorem once_all : ∀ (l : List (Plc × ByteArray)) (s : St20), (s.2 ++ s.1).Nodup → (onceAll l s).2.Nodup ∧ ∀ w, w ∈ (onceAll l s).2 ↔ w ∈ s.2 ∨ (w ∈ s.1 ∧ w ∈ l.map (·.2))
  | [], s, h => ⟨(List.nodup_append.1 h).1, fun w => by simp [onceAll]⟩
  | y :: r, s, h => by
    have hn : ((onceW s y.2).2 ++ (onceW s y.2).1).Nodup := by
      unfold onceW
      split
      · rename_i hin
        obtain ⟨h1, h2, h3⟩ := List.nodup_append.1 h
        refine List.nodup_append.2 ⟨?_, h2.erase _, ?_⟩
        · refine List.nodup_append.2 ⟨h1, by simp, fun a ha b hb => ?_⟩
          obtain rfl := List.mem_singleton.1 hb
          exact h3 a ha _ hin
        · intro a ha b hb
          rcases List.mem_append.1 ha with ha | ha
          · exact h3 a ha b (List.mem_of_mem_erase hb)
          · obtain rfl := List.mem_singleton.1 ha
            intro e
            exact (h2.mem_erase_iff.1 hb).1 e.symm
      · exact h
    obtain ⟨i1, i2⟩ := once_all r (onceW s y.2) hn
    refine ⟨i1, fun w => ?_⟩
    show w ∈ (onceAll r (onceW s y.2)).2 ↔ _
    rw [i2]
    have h2 := (List.nodup_append.1 h).2.1
    unfold onceW
    by_cases hin : y.2 ∈ s.1
    · rw [if_pos hin]
      simp only [List.mem_append, List.map_cons, List.mem_cons, List.not_mem_nil, or_false, h2.mem_erase_iff]
      constructor
      · rintro ((h | rfl) | ⟨⟨h3, h4⟩, h5⟩)
        · exact Or.inl h
        · exact Or.inr ⟨hin, Or.inl rfl⟩
        · exact Or.inr ⟨h4, Or.inr h5⟩
      · rintro (h | ⟨h3, h4 | h4⟩)
        · exact Or.inl (Or.inl h)
        · exact Or.inl (Or.inr h4)
        · by_cases e : w = y.2
          · exact Or.inl (Or.inr e)
          · exact Or.inr ⟨⟨e, h3⟩, h4⟩
    · rw [if_neg hin]
      simp only [List.map_cons, List.mem_cons]
      constructor
      · rintro (h | ⟨h3, h4⟩)
        · exact Or.inl h
        · exact Or.inr ⟨h3, Or.inr h4⟩
      · rintro (h | ⟨h3, h4 | h4⟩)
        · exact Or.inl h
        · exact absurd (h4 ▸ h3) hin
        · exact Or.inr ⟨h3, h4⟩
/-! the keys of the map -/
theorem keys_add (w : ByteArray) (p : P3) : ∀ s : TbW, (addT w p s).map (·.1) = if w ∈ s.map (·.1) then s.map (·.1) else s.map (·.1) ++ [w]
  | [] => rfl
  | x :: r => by
    have ih := keys_add w p r
    unfold addT
    by_cases h : x.1 = w
    · rw [if_pos h, if_pos (by simp [h])]; rfl
    · rw [if_neg h, List.map_cons, ih]
      by_cases h2 : w ∈ r.map (·.1)
      · rw [if_pos h2, if_pos (by rw [List.map_cons]; exact List.mem_cons_of_mem _ h2)]; rfl
      · rw [if_neg h2, if_neg (by rw [List.map_cons, List.mem_cons]; rintro (e | e); exact h e.symm; exact h2 e)]; rfl
theorem keys_tab : ∀ (l : List (Plc × ByteArray)) (s : TbW), (s.map (·.1)).Nodup → ((tabW l s).map (·.1)).Nodup ∧ ∀ w, w ∈ (tabW l s).map (·.1) ↔ w ∈ s.map (·.1) ∨ w ∈ l.map (·.2)
  | [], s, h => ⟨h, fun w => by simp [tabW]⟩
  | y :: r, s, h => by
    have hk := keys_add y.2 (plI y.1) s
    have hn : ((addT y.2 (plI y.1) s).map (·.1)).Nodup := by
      rw [hk]
      split
      · exact h
      · rename_i hn
        refine List.nodup_append.2 ⟨h, by simp, fun a ha b hb => ?_⟩
        obtain rfl := List.mem_singleton.1 hb
        exact fun e => hn (e ▸ ha)
    obtain ⟨i1, i2⟩ := keys_tab r (addT y.2 (plI y.1) s) hn
    refine ⟨i1, fun w => ?_⟩
    show w ∈ (tabW r (addT y.2 (plI y.1) s)).map (·.1) ↔ _
    rw [i2, hk]
    simp only [List.map_cons, List.mem_cons]
    split
    · rename_i hin
      constructor
      · rintro (h | h)
        · exact Or.inl h
        · exact Or.inr (Or.inr h)
      · rintro (h | h | h)
        · exact Or.inl h
        · exact Or.inl (h ▸ hin)
        · exact Or.inr h
    · rw [List.mem_append, List.mem_singleton]
      constructor
      · rintro ((h | h) | h)
        · exact Or.inl h
        · exact Or.inr (Or.inl h)
        · exact Or.inr (Or.inr h)
      · rintro (h | h | h)
        · exact Or.inl (Or.inl h)
        · exact Or.inl (Or.inr h)
        · exact Or.inr h
/-! what is taken out of a map -/
theorem del_in {G : Heap} {mb mx c : Nat} {es : List (AV × AV × Nat)} (hg : G.get mb = some (.map mx es c)) (hl : G.lock ≤ mb) {w : ByteArray} {i : Nat} {v : AV} (hf : findKeyA Tryz.prog 9 (strK w) es 0 = some (some (i, v))) :
    deleteA Tryz.prog G [90, 9] [.mp mb, strK w] = some (G.put mb (.map mx (es.eraseIdx i) c)) := by
  unfold deleteA
  simp only [mapOk90, hg, hl, if_true, hf]
theorem split_keys (w : ByteArray) : ∀ (ks : List ByteArray) (es : List (AV × AV × Nat)), es.map (·.1) = ks.map strK → w ∈ ks → ∃ k1 k2 es1 v c es2, ks = k1 ++ w :: k2 ∧ w ∉ k1 ∧ es = es1 ++ (strK w, v, c) :: es2 ∧ es1.map (·.1) = k1.map strK ∧ es2.map (·.1) = k2.map strK
  | [], _, _, h => by cases h
  | k :: ks, [], h, _ => by cases h
  | k :: ks, (a, v, c) :: es, h, hin => by
    simp only [List.map_cons, List.cons.injEq] at h
    by_cases hk : k = w
    · subst hk
      exact ⟨[], ks, [], v, c, es, rfl, by simp, by rw [h.1]; rfl, rfl, h.2⟩
    · obtain ⟨k1, k2, es1, v', c', es2, rfl, h2, rfl, h3, h4⟩ := split_keys w ks es h.2 ((List.mem_cons.1 hin).resolve_left fun e => hk e.symm)
      exact ⟨k :: k1, k2, (a, v, c) :: es1, v', c', es2, rfl, by simp only [List.mem_cons, not_or]; exact ⟨fun e => hk e.symm, h2⟩, rfl, by rw [List.map_cons, List.map_cons, h3, h.1], h4⟩
end Go.Ev
namespace Go.Ev
open Go.Proofs Go.Sort
set_option maxRecDepth 100000
set_option linter.unusedSimpArgs false
attribute [local irreducible] Wp WpS
/-! ### sorting words -/
def srtW (ws : List ByteArray) : List ByteArray := sortL ltW ws
theorem srtW_len (ws : List ByteArray) : (srtW ws).length = ws.length := (sortL_perm _ ws).length_eq
theorem srtW_mem {l : List ByteArray} {w : ByteArray} : w ∈ srtW l ↔ w ∈ l := (sortL_perm _ l).mem_iff
theorem clW_flatE (ws : List ByteArray) : (flatE encW ws).map AV.v = clW ws := by
  unfold flatE clW encW strK
  induction ws with
  | nil => rfl
  | cons a r ih => rw [List.flatMap_cons, List.map_append, ih]; rfl
theorem takeW (ws : List ByteArray) : takeE 1 decW ws.length (clW ws) = some ws := by
  have := takeE_flat codedW [] ws
  rw [List.append_nil, clW_flatE] at this
  exact this
theorem callW66_nil (X : Heap) (me : FuncId) (d : Option Tmp) : callA (Cx eA) (lim (Cx eA)) me 66 d [.v (.slice none 0 0)] X = some (.v (.slice none 0 0), X) := by
  refine callA_rawX (ext_66 quietA) (by simp [Cx, pureF, impF, impC]) ?_
  rw [fn_step (fn_66 eA) (show Tryz.f66.body = some _ from rfl)]
  generalize hKK : rawX X _ _ = KK
  simp -implicitDefEqProofs only [Tryz.f66, go_sem, ↓reduceIte, Int.reduceEq, Int.reduceLT, Int.reduceLE, List.reduceReplicate, intA, setT_nil, setT_cons, ↓boolP_bool, ↓iteB_true, ↓iteB_false, eqNil41n]
  rw [← hKK]
  exact rawX_same _ _ rfl
set_option maxHeartbeats 1000000 in
theorem callW66 {X : Heap} {N : Nat} (hN : X.size = N) (ws : List ByteArray) (h0 : ws ≠ []) (hn : ws.length < 2 ^ 33) (b v : Nat) (hb : b < N) (hr : X.row b v = some (0, 9, 1, true, clW ws)) (me : FuncId) (d : Option Tmp) :
    callA (Cx eA) (lim (Cx eA)) me 66 d [.sl b v 0 ws.length none] X = some (.sl N 0 0 ws.length none, X.plus [some (.cells 0 0 9 1 true (clW ws))]) := by
  refine callA_rawX (ext_66 quietA) (by simp [Cx, pureF, impF, impC]) ?_
  rw [fn_step (fn_66 eA) (show Tryz.f66.body = some _ from rfl)]
  have hv0 : ws.length ≠ 0 := fun h => h0 (List.length_eq_zero_iff.1 h)
  have hf : fitsA 16 ws.length = true := by unfold fitsA; exact decide_eq_true (by omega)
  have hrow : ∀ E, (X.plus E).row b v = some (0, 9, 1, true, clW ws) := fun E => by rw [rowLo (by omega), hr]
  have hl3 := clW_len ws
  generalize hKK : rawX X _ _ = KK
  rw [← plus_nil X]
  simp -implicitDefEqProofs only [Tryz.f66, go_sem, ↓reduceIte, Int.reduceEq, Int.reduceLT, Int.reduceLE, List.reduceReplicate, intA, setT_nil, setT_cons, ↓boolP_bool, ↓iteB_true, ↓iteB_false, eqNil41, sizeP hN, putP0 hN, putP hN, settleP0 hN, settleP hN, List.length_nil, Nat.add_zero, app41, hrow, hl3, List.take_of_length_le (Nat.le_of_eq hl3), clW_flat, clW_bound, hv0, hf, appTo_vs0]
  rw [← hKK]
  exact rawX_far hN _ _ rfl (Nat.lt_succ_self _)
theorem pureA_67 (me : FuncId) (d : Option Tmp) : (Cx eA).pure me 67 d = false := by simp [Cx, pureF, impF, impC]
theorem callW67 {X : Heap} {N : Nat} (hN : X.size = N) (hlk : X.lock ≤ N) (ws : List ByteArray) (h0 : ws ≠ []) (hn : ws.length < 2 ^ 33) (me : FuncId) (d : Option Tmp) :
    callA (Cx eA) (lim (Cx eA)) me 67 d [.sl N 0 0 ws.length none, .fn (.func 48) [] []] (X.plus [some (.cells 0 0 9 1 true (clW ws))]) = some (.tup [], X.plus [some (.cells 0 0 9 1 true (clW (srtW ws)))]) := by
  have hv0 : ws.length ≠ 0 := fun h => h0 (List.length_eq_zero_iff.1 h)
  have hrow := rowP0 hN [some (.cells 0 0 9 1 true (clW ws))] 0
  have hst := storeP0 hN hlk [some (.cells 0 0 9 1 true (clW ws))] 0 0 (clW (srtW ws))
  have h3 : (clW (srtW ws)).length = (clW ws).length := by rw [clW_len, clW_len, srtW_len]
  have hanti : antiB (ltF cmpW) eqvW ws = true := by rw [ltF_W]; exact antiW ws
  have hg : sortSt67 [.sl N 0 0 ws.length none, .fn (.func 48) [] []] (X.plus [some (.cells 0 0 9 1 true (clW ws))]) = some (.tup [], X.plus [some (.cells 0 0 9 1 true (clW (srtW ws)))]) := by
    unfold sortSt67 sortH
    simp only [if_true, hv0, if_false, hrow, List.getElem?_cons_zero, Option.join_some, objRow_cells]
    rw [if_pos (by omega), List.drop_zero, takeW]
    simp only [hanti, if_true]
    rw [ltF_W, show (flatE encW (sortL ltW ws)).map AV.v = clW (srtW ws) from clW_flatE _, hst]
    simp only [List.getElem?_cons_zero, Option.join_some, stP_cells]
    rw [if_pos (show True ∧ 0 + (clW (srtW ws)).length ≤ (clW ws).length ∧ (clW (srtW ws)).all AV.flat = true from ⟨trivial, by omega, clW_flat _⟩)]
    simp only [Option.map_some, sop_zero, clW_bound]
    rw [show splice 0 (clW (srtW ws)) (clW ws) = clW (srtW ws) from by unfold splice; rw [List.take_zero, List.nil_append, Nat.zero_add, h3, List.drop_length, List.append_nil]]
    rfl
  have hk : callKind (Cx eA) me 67 d [.sl N 0 0 ws.length none, .fn (.func 48) [] []] = 0 := by unfold callKind; rw [pureA_67]; rfl
  have hl : lim (Cx eA) (.call 67 [.sl N 0 0 ws.length none, .fn (.func 48) [] []] (X.plus [some (.cells 0 0 9 1 true (clW ws))])) = some (.ret (.tup []) (X.plus [some (.cells 0 0 9 1 true (clW (srtW ws)))])) := by
    rw [lim_eq]
    have hla : (Cx eA).lay 67 = some sortSt67 := rfl
    simp only [taskA, hla, hg, Option.map_some]
  unfold callA
  rw [ext_67 quietA]
  unfold callB
  simp only [hk, hl]
  rw [show (X.plus [some (.cells 0 0 9 1 true (clW ws))]).size = (X.plus [some (.cells 0 0 9 1 true (clW (srtW ws)))]).size by rw [sizeP hN, sizeP hN]; rfl, trim_size]
theorem callW67_nil (X : Heap) (g : FuncId) (hg : g = 48) (me : FuncId) (d : Option Tmp) : callA (Cx eA) (lim (Cx eA)) me 67 d [.v (.slice none 0 0), .fn (.func g) [] []] X = some (.tup [], X) := by
  subst hg
  have hk : callKind (Cx eA) me 67 d [.v (.slice none 0 0), .fn (.func 48) [] []] = 0 := by unfold callKind; rw [pureA_67]; rfl
  have hl : lim (Cx eA) (.call 67 [.v (.slice none 0 0), .fn (.func 48) [] []] X) = some (.ret (.tup []) X) := by
    rw [lim_eq]
    have hla : (Cx eA).lay 67 = some sortSt67 := rfl
    simp only [taskA, hla]
    rfl
  unfold callA
  rw [ext_67 quietA]
  unfold callB
  simp only [hk, hl]
  rw [trim_size]
/-- in order -/
theorem callW47_nil (X : Heap) (me : FuncId) (d : Option Tmp) : callA (Cx eA) (lim (Cx eA)) me 47 d [.v (.slice none 0 0), .fn (.func 48) [] []] X = some (.v (.slice none 0 0), X) := by
  refine callA_rawX (ext_47 quietA) (by simp [Cx, pureF, impF, impC]) ?_
  rw [fn_step (fn_47 eA) (show Tryz.f47.body = some _ from rfl)]
  generalize hKK : rawX X _ _ = KK
  simp -implicitDefEqProofs only [Tryz.f47, go_sem, ↓reduceIte, Int.reduceEq, Int.reduceLT, Int.reduceLE, List.reduceReplicate, intA, setT_nil, setT_cons, ↓boolP_bool, ↓iteB_true, ↓iteB_false, callW66_nil, callW67_nil]
  rw [← hKK]
  exact rawX_same _ _ rfl
theorem callW47 {X : Heap} {N : Nat} (hN : X.size = N) (hlk : X.lock ≤ N) (ws : List ByteArray) (h0 : ws ≠ []) (hn : ws.length < 2 ^ 33) (b v : Nat) (hb : b < N) (hr : X.row b v = some (0, 9, 1, true, clW ws)) (me : FuncId) (d : Option Tmp) :
    callA (Cx eA) (lim (Cx eA)) me 47 d [.sl b v 0 ws.length none, .fn (.func 48) [] []] X = some (.sl N 0 0 ws.length none, X.plus [some (.cells 0 0 9 1 true (clW (srtW ws)))]) := by
  refine callA_rawX (ext_47 quietA) (by simp [Cx, pureF, impF, impC]) ?_
  rw [fn_step (fn_47 eA) (show Tryz.f47.body = some _ from rfl)]
  have h66 := callW66 hN ws h0 hn b v hb hr
  have h67 := callW67 hN hlk ws h0 hn
  have hb1 : ltB b N = true := by unfold ltB; simp; omega
  rw [← plus_nil X] at h66 ⊢
  generalize hKK : rawX (X.plus []) _ _ = KK
  simp -implicitDefEqProofs only [Tryz.f47, go_sem, ↓reduceIte, Int.reduceEq, Int.reduceLT, Int.reduceLE, List.reduceReplicate, intA, setT_nil, setT_cons, ↓boolP_bool, ↓iteB_true, ↓iteB_false, h66, h67, sizeP hN, putP0 hN, putP hN, settleP0 hN, settleP hN, List.length_nil, Nat.add_zero]
  rw [← hKK, plus_nil]
  exact rawX_far hN _ _ rfl (Nat.lt_succ_self _)
end Go.Ev
namespace Go.Ev
open Go.Proofs Go.Sort
set_option maxRecDepth 100000
set_option linter.unusedSimpArgs false
attribute [local irreducible] Wp WpS
/-! ### Vocabulary -/
def vocL (t : Txt) : List ByteArray := srtW (onceAll (wordsT 0 t) ((tabW (wordsT 0 t) []).map (·.1), [])).2
theorem voc_mem {t : Txt} {w : ByteArray} : w ∈ vocL t ↔ w ∈ (wordsT 0 t).map (·.2) := by
  unfold vocL
  obtain ⟨k1, k2⟩ := keys_tab (wordsT 0 t) [] (by simp)
  obtain ⟨h1, h2⟩ := once_all (wordsT 0 t) ((tabW (wordsT 0 t) []).map (·.1), []) (by simpa using k1)
  rw [srtW_mem, h2]
  simp only [List.not_mem_nil, false_or, k2, List.map_nil]
  exact ⟨fun h => h.2, fun h => ⟨h, h⟩⟩
theorem voc_nodup (t : Txt) : (vocL t).Nodup := by
  unfold vocL
  obtain ⟨k1, k2⟩ := keys_tab (wordsT 0 t) [] (by simp)
  obtain ⟨h1, h2⟩ := once_all (wordsT 0 t) ((tabW (wordsT 0 t) []).map (·.1), []) (by simpa using k1)
  exact (sortL_perm _ _).nodup_iff.2 h1
theorem voc_str (t : Txt) : (vocL t).Pairwise fun a b => ltW a b = true := by
  have h1 : (vocL t).Pairwise fun a b => ltW b a = false := sortL_asc swoW _
  refine (h1.and (voc_nodup t)).imp fun {a b} ⟨h2, h3⟩ => ?_
  cases h : ltW a b with
  | true => rfl
  | false => exact absurd (strictW.total _ _ h h2) h3
/-! what memory holds while the words are gone through -/
def L20 (D : Nat) (l : List ByteArray) (lv : AV) (m3 : Nat) (rows : Fm) : Prop := (l = [] ∧ lv = .v (.slice none 0 0) ∧ rows = []) ∨ ∃ b v, l ≠ [] ∧ lv = .sl b v 0 l.length none ∧ D ≤ b ∧ b < m3 ∧ rows = [(b, .cells v 0 9 1 true (clW l))]
def base20 (B : Nat) (mx : Nat) (es : List (AV × AV × Nat)) (c m2 : Nat) (m3 : Nat) (lv : AV) : Fm := [(3, .map mx es c), (B, .cells 0 m2 90 1 false [.mp 3]), (B + 1, .cells 0 m3 41 1 false [lv])]
def R20 (B m2 : Nat) (s : St20) (m : Fm) : Prop := ∃ es mx c lv m3 rows, es.map (·.1) = s.1.map strK ∧ L20 (B + 4) s.2 lv m3 rows ∧ m = base20 B mx es c m2 m3 lv ++ rows
theorem L20.lo {D : Nat} {l : List ByteArray} {lv : AV} {m3 : Nat} {rows : Fm} (h : L20 D l lv m3 rows) {p : Nat × AObj} (hp : p ∈ rows) : D ≤ p.1 ∧ p.1 < m3 := by
  rcases h with ⟨-, -, rfl⟩ | ⟨b, v, -, -, h5, hb, rfl⟩
  · exact nomatch hp
  · rw [List.mem_singleton.1 hp]; exact ⟨h5, hb⟩
theorem base20_lt {B mx c m2 m3 : Nat} {es : List (AV × AV × Nat)} {lv : AV} (hB : 3 < B) {p : Nat × AObj} (h : p ∈ base20 B mx es c m2 m3 lv) : p.1 < B + 2 := by
  unfold base20 at h
  simp only [List.mem_cons, List.not_mem_nil, or_false] at h
  rcases h with rfl | rfl | rfl <;> (simp only; omega)
theorem R20_anch {B m2 : Nat} (hB : 3 < B) (s : St20) (m : Fm) (h : R20 B m2 s m) : Anch (B + 2) m := by
  obtain ⟨es, mx, c, lv, m3, rows, -, hl, rfl⟩ := h
  rintro n hn ⟨p, hp, hnp⟩
  refine ⟨(B + 1, .cells 0 m3 41 1 false [lv]), List.mem_append_left _ (by unfold base20; simp), by show B + 1 < n; omega, ?_⟩
  show n < m3
  rcases List.mem_append.1 hp with hp | hp
  · have := base20_lt hB hp; omega
  · have := hl.lo hp; omega
theorem R20_free {B m2 : Nat} (hB : 3 < B) (s : St20) (m : Fm) (h : R20 B m2 s m) : ¬ keyIn (B + 2) m ∧ ¬ keyIn (B + 3) m := by
  obtain ⟨es, mx, c, lv, m3, rows, -, hl, rfl⟩ := h
  have key : ∀ p ∈ base20 B mx es c m2 m3 lv ++ rows, p.1 ≠ B + 2 ∧ p.1 ≠ B + 3 := by
    intro p hp
    rcases List.mem_append.1 hp with hp | hp
    · have := base20_lt hB hp; omega
    · have := hl.lo hp; omega
  exact ⟨fun ⟨p, hp, he⟩ => (key p hp).1 he, fun ⟨p, hp, he⟩ => (key p hp).2 he⟩
theorem fin20 {B M m2 mx c m3 mx' c' m3' : Nat} {s' : St20} {es es' : List (AV × AV × Nat)} {lv lv' : AV} {rows rows' : Fm} {H' W : Heap} {L' : ALoop} (hB : 3 < B) (hM : H'.size = M) (hBM : B + 4 ≤ M) (hl : W.lock = H'.lock) (hs : M ≤ W.size) (h3 : W.get 3 = some (.map mx' es' c')) (h90 : W.get B = some (.cells 0 m2 90 1 false [.mp 3])) (h41 : W.get (B + 1) = some (.cells 0 m3' 41 1 false [lv'])) (h4 : W.get (B + 2 + 1) = some (.loop L'))
    (hr : Has rows' W) (hk : es'.map (·.1) = s'.1.map strK) (hL : L20 (B + 4) s'.2 lv' m3' rows') (hb : ∀ p ∈ rows', M ≤ p.1 ∨ keyIn p.1 rows) (ho : ∀ b, b < M → b ≠ 3 → b ≠ B + 1 → b ≠ B + 2 + 1 → ¬ keyIn b rows' → W.get b = H'.get b) :
    ∃ m', R20 B m2 s' m' ∧ Has m' W ∧ loopObj W (B + 2 + 1) = some L' ∧ Moves ((B + 2 + 1, .loop L') :: (base20 B mx es c m2 m3 lv ++ rows)) H' ((B + 2 + 1, .loop L') :: m') W := by
  have hm : ∀ q ∈ base20 B mx es c m2 m3 lv, keyIn q.1 ((B + 2 + 1, AObj.loop L') :: (base20 B mx es c m2 m3 lv ++ rows)) := fun q hq => ⟨q, List.mem_cons_of_mem _ (List.mem_append_left _ hq), rfl⟩
  have hm3 := hm (3, .map mx es c) (by unfold base20; simp)
  have hmB := hm (B, .cells 0 m2 90 1 false [.mp 3]) (by unfold base20; simp)
  have hmB1 := hm (B + 1, .cells 0 m3 41 1 false [lv]) (by unfold base20; simp)
  refine ⟨base20 B mx' es' c' m2 m3' lv' ++ rows', ⟨es', mx', c', lv', m3', rows', hk, hL, rfl⟩, fun p hp => ?_, get_loopObj h4, hl, by omega, fun b hbb hnb => ?_, fun p hp => ?_⟩
  · rcases List.mem_append.1 hp with hp | hp
    · unfold base20 at hp
      simp only [List.mem_cons, List.not_mem_nil, or_false] at hp
      rcases hp with rfl | rfl | rfl
      · exact h3
      · exact h90
      · exact h41
    · exact hr p hp
  · refine ho b (by omega) (fun e => hnb (by rw [e]; exact hm3)) (fun e => hnb (by rw [e]; exact hmB1)) (fun e => hnb ⟨_, List.mem_cons_self .., e.symm⟩) fun ⟨p, hp, he⟩ => ?_
    rcases hb p hp with h | ⟨q, hq, he2⟩
    · omega
    · exact hnb ⟨q, List.mem_cons_of_mem _ (List.mem_append_right _ hq), by omega⟩
  · rcases List.mem_cons.1 hp with rfl | hp
    · exact Or.inl ⟨_, List.mem_cons_self .., rfl⟩
    · rcases List.mem_append.1 hp with hp | hp
      · unfold base20 at hp
        simp only [List.mem_cons, List.not_mem_nil, or_false] at hp
        rcases hp with rfl | rfl | rfl
        · exact Or.inl hm3
        · exact Or.inl hmB
        · exact Or.inl hmB1
      · rcases hb p hp with h | ⟨q, hq, he⟩
        · exact Or.inr (by omega)
        · exact Or.inl ⟨q, List.mem_cons_of_mem _ (List.mem_append_right _ hq), he⟩
theorem store_low {X : Heap} {b m e : Nat} {g : Bool} {y : AV} (h : X.get b = some (.cells 0 m e 1 g [y])) (hl : X.lock ≤ b) (x : AV) (hx : x.flat = true) (F : List (Option AObj)) : storeCells (X.plus F) b 0 0 [x] = some ((X.put b (.cells 0 (Nat.max m (boundL [x])) e 1 g [x])).plus F) := by
  have hb := get_ltS h
  have hr := row_of (v := 0) ((plus_get F hb).trans h)
  unfold storeCells
  rw [hr]
  simp only [if_true]
  rw [if_pos ⟨by show X.lock ≤ b; exact hl, by simp, by simp [hx]⟩, putLo hb]
  rfl
theorem freeze_wdsK {H : Heap} {b v : Nat} (ws : List ByteArray) (h0 : ws ≠ []) (hk : H.lock = 0) (hr : H.row b v = some (0, 9, 1, true, clW ws)) (k : Nat) : freezeV H (k + 1) (.sl b v 0 ws.length none) = some (wdsV ws) := by
  have : wdsV ws = .vs 1 (clW ws) none := by cases ws with | nil => exact absurd rfl h0 | cons r f => rfl
  have hl := clW_len ws
  rw [this]
  unfold freezeV
  simp only [hr, hk]
  rw [if_neg (by omega), if_pos ⟨by omega, by omega⟩, if_pos trivial, List.drop_zero, List.take_of_length_le (by omega), ← hl, chunk_one]
theorem settle_keep {n b : Nat} {H : Heap} {o : AObj} (h : H.get b = some o) (hn : n ≤ b) : settleH n H = H := by
  unfold settleH
  rw [if_neg]
  intro ha
  have h1 := get_objs h
  have h2 : (H.objs.drop n)[b - n]? = some (some o) := by rw [List.getElem?_drop, show n + (b - n) = b by omega]; exact h1
  have h3 := List.all_eq_true.1 ha _ (List.mem_of_getElem? h2)
  cases h3
set_option maxHeartbeats 8000000 in
theorem ans20 {t : Txt} (ht : Fits t) (htx : textB t = true) {ch : AV} {xs : List AV} (hch : SlOf 2 xs ch) (hall : All2 ChapA t xs) :
    Ans (Cx eA) 20 [.agg [ch]] (.tup [wdsV (vocL t), .v (.int .i64 0)]) := by
  have hs := small_of htx
  have h40 := call40 quietA t ht ch ⟨xs, hch, hall⟩
  rw [htx, if_pos rfl] at h40
  have hlx : xs.length < 2 ^ 63 := by rw [← hall.1]; exact ht.chs
  have hwn : (wordsT 0 t).length < 2 ^ 31 := by have := wordsT_small hs; omega
  have hok := okCh2_of ht hall
  unfold Ans
  rw [fn_step (fn_20 eA) (show Tryz.f20.body = some _ from rfl)]
  simp -implicitDefEqProofs only [Tryz.f20, go_sem, ↓reduceIte, Int.reduceEq, Int.reduceLT, Int.reduceLE, List.reduceReplicate, intA, setT_nil, setT_cons, ↓boolP_bool, ↓iteB_true, ↓iteB_false, hch.cells, hch.flat, hch.bound, h40]
  obtain ⟨Y, hc, -, hYl, hYs, hYlo, es, mx, c, rows, hT, hlo, hnd, hg, hr⟩ := call46 quietA hch hall hok hlx hwn { objs := [some (AObj.cells 0 0 24 1 false [ch]), some (AObj.cells 0 0 79 1 false [ch])], lock := 0 } (Nat.zero_le _) 20 (some 21)
  change callA _ _ 20 46 _ _ _ = some (.mp 3, Y) at hc
  change Y.get 3 = _ at hg
  change Y.lock = 0 at hYl
  change 5 ≤ Y.size at hYs
  have hkeys : es.map (·.1) = ((tabW (wordsT 0 t) []).map (·.1)).map strK := by rw [hT.keys, List.map_map]; rfl
  obtain ⟨B, hB⟩ : ∃ B, Y.size = B := ⟨_, rfl⟩
  have hlkB : Y.lock ≤ B := by omega
  have hcY : callA (Cx eA) (lim (Cx eA)) 20 46 (some 21) [.agg [ch]] { objs := [some (AObj.cells 0 0 24 1 false [ch]), some (AObj.cells 0 0 79 1 false [ch])], lock := 0 } = some (.mp 3, Y.plus []) := by rw [plus_nil]; exact hc
  have hs2 : ∀ E, settleH 2 (Y.plus E) = Y.plus E := fun E => settle_keep ((plus_get E (by omega)).trans hg) (by omega)
  have hr1 : ∀ E, (Y.plus E).row 1 0 = some (0, 79, 1, false, [ch]) := fun E => by
    rw [rowLo (by omega)]
    exact get_row (hYlo 1 (Nat.lt_succ_self 1))
  have hnz : ((3 + 1 ≤ 0) : Prop) = False := by simp
  simp -implicitDefEqProofs only [go_sem, ↓reduceIte, Int.reduceEq, Int.reduceLT, Int.reduceLE, List.reduceReplicate, intA, setT_nil, setT_cons, ↓boolP_bool, ↓iteB_true, ↓iteB_false, hcY, hs2, hr1, hch.cells, hch.flat, hch.bound, call41 quietA ch xs hch, hnz, Nat.zero_le, sizeP hB, putP0 hB, putP hB, settleP0 hB, settleP hB, rowP0 hB, rowP hB, storeP0 hB hlkB, storeP hB hlkB, List.length_nil, List.length_cons, Nat.add_zero, Nat.zero_add]
  obtain ⟨G, hG⟩ : ∃ G, Y.plus [some (AObj.cells 0 4 90 1 false [AV.mp 3]), some (AObj.cells 0 0 41 1 false [AV.v (Value.slice none 0 0)])] = G := ⟨_, rfl⟩
  have hGs : G.size = B + 2 := by rw [← hG, plus_size, hB]; rfl
  have hGB : G.get B = some (.cells 0 4 90 1 false [.mp 3]) := by rw [← hG]; exact plus_mid_get hB [] _ _
  have hGB1 : G.get (B + 1) = some (.cells 0 0 41 1 false [.v (.slice none 0 0)]) := by rw [← hG]; exact plus_mid_get hB [some (AObj.cells 0 4 90 1 false [AV.mp 3])] _ _
  have hG3 : G.get 3 = some (.map mx es c) := by rw [← hG]; exact (plus_get _ (by omega)).trans hg
  have hGl : G.lock = 0 := by rw [← hG]; exact hYl
  rw [hG]
  have hB3 : 3 < B := by omega
  have hy : Yields2 (Cx eA) 63 [.ro (.agg [ch]) 0] ((wordsT 0 t).map itW) := by rw [← allIts_eq hall]; exact yields2_63 quietA ch xs hch hok hlx
  have hrun := run20 (wordsT 0 t) ((tabW (wordsT 0 t) []).map (·.1), []) (by show 0 + _ < _; omega)
  refine wp_range2 hy rfl (R20 B 4) stp20 (fun _ => True) ok20 (n0 := B + 2) (k := 0) (by rw [hGs]; exact Nat.le_refl _) (by omega) (fun x hx => ?_) (R20_anch hB3) (fun s m h => by rw [hGs]; exact R20_free hB3 s m h) (fun _ _ _ _ _ => trivial) ?_ ((tabW (wordsT 0 t) []).map (·.1), []) (base20 B mx es c 4 0 (.v (.slice none 0 0)) ++ []) hrun.1 trivial ⟨es, mx, c, _, 0, [], hkeys, Or.inl ⟨rfl, rfl, rfl⟩, rfl⟩ ?_ hGl ?_
  · obtain ⟨y, -, rfl⟩ := List.mem_map.1 hx
    rfl
  · rw [hGs]
    clear hkeys hG3 hg hr hlo hnd hT hrun
    rintro L L' s m x H' - - ⟨⟨⟨⟨p1, p2, p3⟩, w⟩, rfl⟩, hcnt⟩ - ⟨es, mx, c, lv, m3, rows, hke, hl, rfl⟩ hHm hd0 hlp hlk' hsz'
    obtain ⟨M, hM⟩ : ∃ M, H'.size = M := ⟨_, rfl⟩
    have hp1 : stp20 s (itW ((p1, p2, p3), w)) = (.normal, onceW s w) := rfl
    generalize stp20 s (itW ((p1, p2, p3), w)) = p20 at hp1 ⊢
    simp -implicitDefEqProofs only [go_sem, ↓reduceIte, Int.reduceEq, Int.reduceLT, Int.reduceLE, List.reduceReplicate, intA, setT_nil, setT_cons, ↓boolP_bool, ↓iteB_true, ↓iteB_false, itW, plN, List.zip_cons_cons, List.zip_nil_right, List.zip_nil_left, hM, settle_eqN hM, trim_eqN hM]
    refine ⟨rfl, hlp, ?_⟩
    obtain ⟨Y', hY'⟩ : ∃ Y', H'.put (B + 2 + 1) (.loop L') = Y' := ⟨_, rfl⟩
    have hYs' : Y'.size = M := by rw [← hY', put_sizeI _ (by omega)]; exact hM
    have hYg : ∀ b, b ≠ B + 2 + 1 → b ≤ M → Y'.get b = H'.get b := fun b hb hb2 => by rw [← hY']; exact put_get_ne _ (by omega) hb
    have hYl' : Y'.lock = 0 := by rw [← hY']; exact hlk'
    have hlkY : Y'.lock ≤ M := by omega
    have hYL : Y'.get (B + 2 + 1) = some (.loop L') := by rw [← hY']; exact put_get_eq _ (by omega)
    have hYb : ∀ q ∈ base20 B mx es c 4 m3 lv, Y'.get q.1 = some q.2 := fun q hq => by
      have := base20_lt hB3 hq
      rw [hYg _ (by omega) (by omega)]
      exact hHm q (List.mem_append_left _ hq)
    have hY3 : Y'.get 3 = some (.map mx es c) := hYb (3, _) (by unfold base20; simp)
    have hYB : Y'.get B = some (.cells 0 4 90 1 false [.mp 3]) := hYb (B, _) (by unfold base20; simp)
    have hYB1 : Y'.get (B + 1) = some (.cells 0 m3 41 1 false [lv]) := hYb (B + 1, _) (by unfold base20; simp)
    have hrM : ∀ p ∈ rows, p.1 < M := fun p hp => by have := get_ltS (hHm p (List.mem_append_right _ hp)); omega
    have hYr : Has rows Y' := fun p hp => by
      have := hl.lo hp
      have h2 := hrM p hp
      rw [hYg _ (by omega) (by omega)]
      exact hHm p (List.mem_append_right _ hp)
    have hr90 : ∀ F, (Y'.plus F).row B 0 = some (4, 90, 1, false, [.mp 3]) := fun F => get_row ((plus_get _ (by omega)).trans hYB)
    have hr41 : ∀ F, (Y'.plus F).row (B + 1) 0 = some (m3, 41, 1, false, [lv]) := fun F => get_row ((plus_get _ (by omega)).trans hYB1)
    have hf1 : fitsA 16 1 = true := by decide
    rw [hY', ← plus_nil Y']
    by_cases hin : w ∈ s.1
    · obtain ⟨k1, k2, es1, v0, c0, es2, hks, hn1, rfl, hk1, hk2⟩ := split_keys w s.1 es hke hin
      have hfind : findKeyA Tryz.prog 9 (strK w) (es1 ++ (strK w, v0, c0) :: es2) 0 = some (some (es1.length, v0)) := by
        rw [find_skip Tryz.prog 9 w es1 k1 0 _ hk1 hn1, find_here, Nat.zero_add]
      have hlook : ∀ F, lookupA Tryz.prog (Y'.plus F) 90 (.mp 3) (.v (.string w)) true = some (.tup [v0, .v (.bool true)]) := fun F => look_in ((plus_get F (by omega)).trans hY3) hfind true
      have herase : s.1.erase w = k1 ++ k2 := by rw [hks, List.erase_append_right _ hn1, List.erase_cons_head]
      have hei : (es1 ++ (strK w, v0, c0) :: es2).eraseIdx es1.length = es1 ++ es2 := by
        rw [List.eraseIdx_append_of_length_le (Nat.le_refl _), Nat.sub_self]; rfl
      have hkn : (es1 ++ es2).map (·.1) = (s.1.erase w).map strK := by rw [herase, List.map_append, List.map_append, hk1, hk2]
      unfold onceW at hp1
      rw [if_pos hin] at hp1
      subst hp1
      -- what is left of memory P in which the word lies behind the others
      have tail : ∀ (P : Heap) (bb vv : Nat) (rows' : Fm) (F : List (Option AObj)), P.size = M → P.lock = 0 → P.get 3 = some (.map mx (es1 ++ (strK w, v0, c0) :: es2) c) → P.get (B + 1) = some (.cells 0 m3 41 1 false [lv]) → P.get B = some (.cells 0 4 90 1 false [.mp 3]) → P.get (B + 2 + 1) = some (.loop L') → rows' = [(bb, .cells vv 0 9 1 true (clW (s.2 ++ [w])))] → B + 4 ≤ bb →
          (P.plus F).get bb = some (.cells vv 0 9 1 true (clW (s.2 ++ [w]))) → (M ≤ bb ∨ keyIn bb rows) → (∀ b, b < M → b ≠ bb → b ≠ B + 2 + 1 → P.get b = H'.get b) →
          ∃ (Z1 Z2 : Heap), (∀ E, storeCells (P.plus E) (B + 1) 0 0 [.sl bb vv 0 (s.2.length + 1) none] = some (Z1.plus E)) ∧ (∀ E, deleteA Tryz.prog (Z1.plus E) [90, 9] [.mp 3, .v (.string w)] = some (Z2.plus E)) ∧ Z1.size = M ∧ Z2.size = M ∧ (∀ E, (Z1.plus E).row B 0 = some (4, 90, 1, false, [.mp 3])) ∧
            ∃ m', R20 B 4 (s.1.erase w, s.2 ++ [w]) m' ∧ Has m' (Z2.plus F) ∧ loopObj (Z2.plus F) (B + 2 + 1) = some L' ∧ Moves ((B + 2 + 1, .loop L') :: (base20 B mx (es1 ++ (strK w, v0, c0) :: es2) c 4 m3 lv ++ rows)) H' ((B + 2 + 1, .loop L') :: m') (Z2.plus F) := by
        intro P bb vv rows' F hPs hPl hP3 hP41 hP90 hPL hrw hbb hPbb hkb hPo
        obtain ⟨Z1, hZ1⟩ : ∃ Z1, P.put (B + 1) (.cells 0 (Nat.max m3 (boundL [.sl bb vv 0 (s.2.length + 1) none])) 41 1 false [.sl bb vv 0 (s.2.length + 1) none]) = Z1 := ⟨_, rfl⟩
        have hZ1s : Z1.size = M := by rw [← hZ1, put_sizeI _ (by omega)]; exact hPs
        have hZ1g : ∀ b, b ≠ B + 1 → b ≤ M → Z1.get b = P.get b := fun b hb hb2 => by rw [← hZ1]; exact put_get_ne _ (by omega) hb
        have hZ13 : Z1.get 3 = some (.map mx (es1 ++ (strK w, v0, c0) :: es2) c) := (hZ1g _ (by omega) (by omega)).trans hP3
        have hZ1l : Z1.lock = 0 := by rw [← hZ1]; exact hPl
        obtain ⟨Z2, hZ2⟩ : ∃ Z2, Z1.put 3 (.map mx (es1 ++ es2) c) = Z2 := ⟨_, rfl⟩
        have hZ2s : Z2.size = M := by rw [← hZ2, put_sizeI _ (by omega)]; exact hZ1s
        have hZ2g : ∀ b, b ≠ 3 → b ≤ M → Z2.get b = Z1.get b := fun b hb hb2 => by rw [← hZ2]; exact put_get_ne _ (by omega) hb
        have hZg : ∀ b, b ≠ 3 → b ≠ B + 1 → b ≤ M → Z2.get b = P.get b := fun b hb hb1 hb2 => (hZ2g b hb hb2).trans (hZ1g b hb1 hb2)
        have hpl : ∀ b, b < M → (Z2.plus F).get b = Z2.get b := fun b hb => plus_get _ (by omega)
        refine ⟨Z1, Z2, fun E => (store_low hP41 (by omega) _ rfl E).trans (by rw [hZ1]), fun E => ?_, hZ1s, hZ2s, fun E => get_row ((plus_get _ (by omega)).trans ((hZ1g _ (by omega) (by omega)).trans hP90)), ?_⟩
        · refine (del_in (G := Z1.plus E) ((plus_get E (by omega)).trans hZ13) (by show Z1.lock ≤ _; omega) hfind).trans ?_
          rw [hei, putLo (by omega), hZ2]
        · refine fin20 hB3 hM (by omega) ?_ (by rw [plus_size]; omega) ((hpl _ (by omega)).trans (by rw [← hZ2]; exact put_get_eq _ (by omega))) ((hpl _ (by omega)).trans ((hZg _ (by omega) (by omega) (by omega)).trans hP90)) ((hpl _ (by omega)).trans ((hZ2g _ (by omega) (by omega)).trans (by rw [← hZ1]; exact put_get_eq _ (by omega)))) ((hpl _ (by omega)).trans ((hZg _ (by omega) (by omega) (by omega)).trans hPL)) (rows' := rows') ?_ hkn (Or.inr ⟨bb, vv, by simp, by simp, hbb, ?_, hrw⟩) ?_ ?_
          · show Z2.lock = _
            rw [← hZ2]
            exact hZ1l.trans hlk'.symm
          · intro p hp
            rw [hrw] at hp
            obtain rfl := List.mem_singleton.1 hp
            rcases Nat.lt_or_ge bb M with h | h
            · rw [hpl _ h, hZg _ (by omega) (by omega) (by omega)]
              rw [plus_get _ (by omega)] at hPbb
              exact hPbb
            · simp only
              rw [plus_get_hi _ (by omega)] at hPbb ⊢
              rw [hPs] at hPbb
              rw [hZ2s]; exact hPbb
          · have : boundL [AV.sl bb vv 0 (s.2.length + 1) none] = bb + 1 := by show Nat.max (bb + 1) 0 = _; exact Nat.max_eq_left (Nat.zero_le _)
            rw [this]
            exact Nat.lt_of_lt_of_le (Nat.lt_succ_self _) (Nat.le_max_right _ _)
          · intro p hp
            rw [hrw] at hp
            obtain rfl := List.mem_singleton.1 hp
            exact hkb
          · intro b hb h3 hb1 hb4 hnk
            rw [hpl _ hb, hZg b h3 hb1 (by omega)]
            exact hPo b hb (fun e => hnk (by rw [hrw, e]; exact ⟨_, List.mem_singleton.2 rfl, rfl⟩)) hb4
      have hcv : AV.cells (.v (.string w)) = [.v (.string w)] := rfl
      rcases hl with ⟨he0, rfl, rfl⟩ | ⟨b, v, h0, rfl, hb1, hb2, rfl⟩
      · obtain ⟨Z1, Z2, hst, hdel, hZ1s, hZ2s, hrZ, hfin⟩ := tail Y' M 0 _ [some (.cells 0 0 9 1 true [.v (.string w)])] hYs' hYl' hY3 hYB1 hYB hYL rfl (by omega) (by rw [he0]; exact plus_mid_get hYs' [] [] _) (Or.inl (Nat.le_refl _)) (fun b hb hbb hb4 => hYg b hb4 (by omega))
        rw [he0] at hst
        simp only [List.length_nil, Nat.zero_add] at hst
        simp -implicitDefEqProofs only [go_sem, ↓reduceIte, Int.reduceEq, Int.reduceLT, Int.reduceLE, List.reduceReplicate, intA, setT_nil, setT_cons, ↓boolP_bool, ↓iteB_true, ↓iteB_false, hr90, hr41, hlook, hf1, app41, appTo_vs0, hst, hdel, hrZ, hcv, List.flatMap_cons, List.flatMap_nil, sizeP hZ1s, settleP0 hZ1s, settleP hZ1s, sizeP hZ2s, settleP0 hZ2s, settleP hZ2s, sizeP hYs', putP0 hYs', putP hYs', settleP0 hYs', settleP hYs', rowP0 hYs', rowP hYs', storeP0 hYs' hlkY, storeP hYs' hlkY, List.length_nil, Nat.add_zero, bd2K_at']
        rw [List.append_nil] at hfin
        exact hfin
      · have hbM := hrM (b, .cells v 0 9 1 true (clW s.2)) (by simp)
        simp only at hbM
        have hlen1 : s.2.length < 2 ^ 31 := hcnt
        have hfi : fitsA 16 (s.2.length + 1) = true := by unfold fitsA; exact decide_eq_true (by omega)
        have hYbb : Y'.get b = some (.cells v 0 9 1 true (clW s.2)) := hYr (b, _) (by simp)
        have hrb : ∀ F, (Y'.plus F).row b v = some (0, 9, 1, true, clW s.2) := fun F => by
          rw [rowLo (by omega)]
          have h := row_of (v := v) hYbb
          rw [if_pos rfl] at h; exact h
        simp -implicitDefEqProofs only [go_sem, ↓reduceIte, Int.reduceEq, Int.reduceLT, Int.reduceLE, List.reduceReplicate, intA, setT_nil, setT_cons, ↓boolP_bool, ↓iteB_true, ↓iteB_false, hr90, hr41, hlook, hf1, app41, appTo_vs0, hcv, List.flatMap_cons, List.flatMap_nil, sizeP hYs', putP0 hYs', putP hYs', settleP0 hYs', settleP hYs', rowP0 hYs', rowP hYs', storeP0 hYs' hlkY, storeP hYs' hlkY, List.length_nil, Nat.add_zero, bd2K_at']
        rw [appTo_own (m := 0) (e' := 9) (cs := clW s.2) (hrb _) (by rw [clW_len, Nat.mul_one]) (by show Y'.lock ≤ b; omega) hfi (by omega) (by omega)]
        rw [putLo (by omega), show Nat.max 0 (boundL [AV.v (.string w)]) = 0 from rfl, show clW s.2 ++ [AV.v (.string w)] = clW (s.2 ++ [w]) by unfold clW; rw [List.map_append]; rfl]
        obtain ⟨W, hW⟩ : ∃ W, Y'.put b (.cells (v + 1) 0 9 1 true (clW (s.2 ++ [w]))) = W := ⟨_, rfl⟩
        have hWs : W.size = M := by rw [← hW, put_sizeI _ (by omega)]; exact hYs'
        have hWg : ∀ q, q ≠ b → q ≤ M → W.get q = Y'.get q := fun q hq hq2 => by rw [← hW]; exact put_get_ne _ (by omega) hq
        have hWl : W.lock = 0 := by rw [← hW]; exact hYl'
        have hWb : W.get b = some (.cells (v + 1) 0 9 1 true (clW (s.2 ++ [w]))) := by rw [← hW]; exact put_get_eq _ (by omega)
        obtain ⟨Z1, Z2, hst, hdel, hZ1s, hZ2s, hrZ, hfin⟩ := tail W b (v + 1) _ [] hWs hWl ((hWg _ (by omega) (by omega)).trans hY3) ((hWg _ (by omega) (by omega)).trans hYB1) ((hWg _ (by omega) (by omega)).trans hYB) ((hWg _ (by omega) (by omega)).trans hYL) rfl hb1 ((plus_get _ (by omega)).trans hWb) (Or.inr ⟨(b, .cells v 0 9 1 true (clW s.2)), by simp, rfl⟩) (fun q hq hqb hq4 => (hWg q hqb (by omega)).trans (hYg q hq4 (by omega)))
        rw [hW]
        simp -implicitDefEqProofs only [go_sem, ↓reduceIte, Int.reduceEq, Int.reduceLT, Int.reduceLE, List.reduceReplicate, intA, setT_nil, setT_cons, ↓boolP_bool, ↓iteB_true, ↓iteB_false, hst, hdel, hrZ, sizeP hWs, settleP0 hWs, settleP hWs, sizeP hZ1s, settleP0 hZ1s, settleP hZ1s, sizeP hZ2s, settleP0 hZ2s, settleP hZ2s, List.length_nil, Nat.add_zero, bd2K_at']
        exact hfin
    · have hfind : findKeyA Tryz.prog 9 (strK w) es 0 = some none := by
        have h := find_skip Tryz.prog 9 w es s.1 0 [] hke hin
        rw [List.append_nil] at h
        exact h
      have hlook : ∀ F, lookupA Tryz.prog (Y'.plus F) 90 (.mp 3) (.v (.string w)) true = some (.tup [.v (.slice none 0 0), .v (.bool false)]) := fun F => look_out ((plus_get F (by omega)).trans hY3) hfind true
      unfold onceW at hp1
      rw [if_neg hin] at hp1
      subst hp1
      simp -implicitDefEqProofs only [go_sem, ↓reduceIte, Int.reduceEq, Int.reduceLT, Int.reduceLE, List.reduceReplicate, intA, setT_nil, setT_cons, ↓boolP_bool, ↓iteB_true, ↓iteB_false, hr90, hlook, sizeP hYs', putP0 hYs', putP hYs', settleP0 hYs', settleP hYs', rowP0 hYs', rowP hYs', storeP0 hYs' hlkY, storeP hYs' hlkY, List.length_nil, Nat.add_zero, bd2K_at']
      rw [plus_nil]
      exact fin20 hB3 hM (by omega) (hYl'.trans hlk'.symm) (Nat.le_of_eq hYs'.symm) hY3 hYB hYB1 hYL hYr hke hl (fun p hp => Or.inr ⟨p, hp, rfl⟩) (fun b hb h3 hb1 hb4 _ => hYg b hb4 (by omega))
  · intro p hp
    rw [List.append_nil] at hp
    unfold base20 at hp
    simp only [List.mem_cons, List.not_mem_nil, or_false] at hp
    rcases hp with rfl | rfl | rfl
    · exact hG3
    · exact hGB
    · exact hGB1
  · rw [hGs, hrun.2]
    rintro m' H' ⟨es', mx', c', lv, m3, rows', hke, hl, rfl⟩ hH1 hd hdd hmv hsz'
    have hv : vocL t = srtW (onceAll (wordsT 0 t) ((tabW (wordsT 0 t) []).map (·.1), [])).2 := rfl
    rw [hv]
    have hln : (onceAll (wordsT 0 t) ((tabW (wordsT 0 t) []).map (·.1), [])).2.length < 2 ^ 33 := by
      have : ∀ (l : List (Plc × ByteArray)) (s : St20), (onceAll l s).2.length ≤ s.2.length + l.length := fun l => by
        induction l with
        | nil => intro s; exact Nat.le_refl _
        | cons y r ih =>
          intro s
          have h1 := ih (onceW s y.2)
          have h2 := onceW_len s y.2
          show (onceAll r (onceW s y.2)).2.length ≤ _
          rw [List.length_cons]; omega
      have := this (wordsT 0 t) ((tabW (wordsT 0 t) []).map (·.1), [])
      simp only [List.length_nil] at this
      omega
    simp only at hl
    generalize (onceAll (wordsT 0 t) ((tabW (wordsT 0 t) []).map (·.1), [])).2 = l at hl hln ⊢
    have hkl : H'.lock = 0 := by rw [hmv.lock]; exact hGl
    obtain ⟨U, hU⟩ : ∃ U, H'.size = U := ⟨_, rfl⟩
    have hlkU : H'.lock ≤ U := by omega
    have hr41 : ∀ F, (H'.plus F).row (B + 1) 0 = some (m3, 41, 1, false, [lv]) := fun F => get_row ((plus_get _ (by omega)).trans (hH1 (B + 1, .cells 0 m3 41 1 false [lv]) (List.mem_append_left _ (by unfold base20; simp))))
    have hkill : ∀ F, killAll [B + 2] (H'.plus F) = some ((H'.put (B + 2) .dead).plus F) := fun F => by
      unfold killAll
      rw [plus_get _ (by omega), hd]
      simp only
      rw [if_pos (by show H'.lock ≤ _; omega), putLo (by omega)]
      unfold killAll; rfl
    rw [← plus_nil H']
    rcases hl with ⟨rfl, rfl, rfl⟩ | ⟨b, v, h0, rfl, hb1, hb2, rfl⟩
    · have h47 := callW47_nil
      simp -implicitDefEqProofs only [go_sem, ↓reduceIte, Int.reduceEq, Int.reduceLT, Int.reduceLE, List.reduceReplicate, intA, setT_nil, setT_cons, ↓boolP_bool, ↓iteB_true, ↓iteB_false, hr41, h47, hkill, sizeP hU, settleP0 hU, settleP hU, List.length_nil, Nat.add_zero]
      rfl
    · have hbU : b < U := by have := get_ltS (hH1 (b, .cells v 0 9 1 true (clW l)) (by simp)); omega
      have hrb : H'.row b v = some (0, 9, 1, true, clW l) := get_row (hH1 (b, .cells v 0 9 1 true (clW l)) (by simp))
      have h47 := callW47 hU hlkU l h0 hln b v hbU hrb
      rw [← plus_nil H', plus_plus, List.nil_append] at h47
      simp -implicitDefEqProofs only [go_sem, ↓reduceIte, Int.reduceEq, Int.reduceLT, Int.reduceLE, List.reduceReplicate, intA, setT_nil, setT_cons, ↓boolP_bool, ↓iteB_true, ↓iteB_false, hr41, h47, hkill, sizeP hU, settleP0 hU, settleP hU, List.length_nil, Nat.add_zero]
      have hsl := srtW_len l
      have h0' : srtW l ≠ [] := fun e => h0 (List.length_eq_zero_iff.1 (by rw [← hsl, e]; rfl))
      have hPs : (H'.put (B + 2) .dead).size = U := by rw [put_sizeI _ (by omega)]; exact hU
      refine freeze_two fun k => ?_
      rw [← hsl]
      refine freeze_wdsK (srtW l) h0' rfl ?_ k
      show Heap.row (Heap.mk ((H'.put (B + 2) .dead).plus [some (AObj.cells 0 0 9 1 true (clW (srtW l)))]).objs 0) U 0 = _
      refine get_row ?_
      exact plus_mid_get hPs [] [] (some (AObj.cells 0 0 9 1 true (clW (srtW l))))
end Go.Ev
namespace Go.Ev
open Go.Proofs Go.Sort
set_option maxRecDepth 100000
set_option linter.unusedSimpArgs false
attribute [local irreducible] Wp WpS
variable {C : Cfg} {me : FuncId} {a : AAct} {H : Heap} {s : Nat} {K : PostO} {d : Option Tmp}
theorem eqP_iff (p q : P3) : eqP p.1 p.2.1 p.2.2 q.1 q.2.1 q.2.2 = decide (p = q) := by
  unfold eqP
  obtain ⟨a, b, c⟩ := p
  obtain ⟨x, y, z⟩ := q
  simp only [Prod.mk.injEq]
  by_cases h1 : a = x <;> by_cases h2 : b = y <;> by_cases h3 : c = z <;> simp [h1, h2, h3]
end Go.Ev
namespace Go.Ev
open Go.Proofs Go.Sort
set_option maxRecDepth 100000
set_option linter.unusedSimpArgs false
attribute [local irreducible] Wp WpS
end Go.Ev
