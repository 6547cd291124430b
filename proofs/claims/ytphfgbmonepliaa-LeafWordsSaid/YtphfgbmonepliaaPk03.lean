/- What the proof of this claim stands on, part 4: an evaluator of the model, proved right, and what it answers for functions of the program. -/
import Derived.Test.YtphfgbmonepliaaPk02
import Derived.Shelf.GgSortFunc.RowK
import Derived.Sort.Statements
import Derived.Shelf.SlSortCmp.NoneTotal
import Derived.Shelf.SlLaysF0
import Derived.Test.YtphfgbmonepliaaProg
import Derived.Shelf.SlLaysF
set_option linter.unusedSimpArgs false
/- Regions in any order that turn memory. -/
namespace Go.Ev
section
variable {C : Cfg} {me : FuncId} {rd : Option Nat}
def putO (G : Heap) : Option (Nat × AObj) → Heap
  | none => G
  | some (b, o) => G.put b o
theorem merge_putO {G : Heap} {vis : Nat → Bool} {eff : Option (Nat × AObj)} (h : ∀ b o, eff = some (b, o) → b < G.size ∧ vis b = true) : G.merge vis (putO (G.hide vis) eff) = putO G eff ∧ (putO (G.hide vis) eff).size = G.size ∧ (putO G eff).size = G.size := by
  have hsz : (putO (G.hide vis) eff).size = G.size := by
    cases eff with
    | none => exact hide_size G vis
    | some p => obtain ⟨b, o⟩ := p; exact (put_sizeI o (by rw [hide_size]; exact (h b o rfl).1)).trans (hide_size G vis)
  have hsz2 : (putO G eff).size = G.size := by
    cases eff with
    | none => rfl
    | some p => obtain ⟨b, o⟩ := p; exact put_sizeI o (h b o rfl).1
  refine ⟨?_, hsz, hsz2⟩
  refine heap_ext ?_ ?_ ?_
  · cases eff with
    | none => rfl
    | some p => rfl
  · rw [merge_size _ (by omega), hsz, hsz2]
  · intro b
    rw [merge_get _ (by omega)]
    rcases Nat.lt_or_ge b G.size with hb | hb
    · rw [if_pos hb]
      cases eff with
      | none =>
        simp only [putO, hide_get, if_pos hb]
        split <;> rfl
      | some p =>
        obtain ⟨c, o⟩ := p
        obtain ⟨h1, h2⟩ := h c o rfl
        simp only [putO]
        by_cases hbc : b = c
        · subst hbc
          rw [if_pos h2, put_get_eq _ (by rw [hide_size]; omega), put_get_eq _ (by omega)]
        · rw [put_get_ne _ (by rw [hide_size]; omega) hbc, put_get_ne _ (by omega) hbc, hide_get, if_pos hb]
          split <;> rfl
    · rw [if_neg (by omega), get_none (by omega), get_none (by omega)]
/-- what it does comes of the objects that it reads, and is one object that is laid -/
def Loc {α : Type} (reads : List Nat) (slot : Nat) (f : Heap → Option (α × Heap)) (G : Heap) (r : α) (G' : Heap) : Prop :=
  ∃ eff, (∀ b o, eff = some (b, o) → (b ∈ reads ∧ (G.get b).isSome = true) ∨ b = slot) ∧ G' = putO G eff ∧ ∀ Gx : Heap, Gx.lock = G.lock → (∀ b ∈ reads, Gx.get b = G.get b) → f Gx = some (r, putO Gx eff)
theorem row_eqI {G Gx : Heap} {b v : Nat} (h : Gx.get b = G.get b) : Gx.row b v = G.row b v := by unfold Heap.row; rw [h]
theorem Loc.pure {α : Type} {reads : List Nat} {slot : Nat} {f : Heap → Option α} {G : Heap} {r : α} (h : ∀ Gx : Heap, Gx.lock = G.lock → (∀ b ∈ reads, Gx.get b = G.get b) → f Gx = some r) : Loc reads slot (fun G => (f G).map fun r => (r, G)) G r G :=
  ⟨none, (fun _ _ h => nomatch h), rfl, fun Gx h1 h2 => by simp only; rw [h Gx h1 h2]; rfl⟩
theorem load_loc {G : Heap} {t : TypeId} {p v : AV} (h : loadA C.P G t p = some v) {Gx : Heap} (h2 : ∀ b ∈ objsOf p, Gx.get b = G.get b) : loadA C.P Gx t p = some v := by
  cases p
  case ptr b v k =>
    unfold loadA at h ⊢
    simp only at h ⊢
    rw [row_eqI (h2 _ (by simp [objsOf]))]; exact h
  all_goals exact h
theorem cells_loc {G : Heap} {s : Nat} {x : AV} {r : Nat × List AV} (h : cellsFrom G s x = some r) {Gx : Heap} (h2 : ∀ b ∈ objsOf x, Gx.get b = G.get b) : cellsFrom Gx s x = some r := by
  cases x
  case sl b v off len cap =>
    unfold cellsFrom at h ⊢
    simp only at h ⊢
    rw [row_eqI (h2 _ (by simp [objsOf]))]; exact h
  case v x =>
    have key : cellsFrom Gx s (.v x) = cellsFrom G s (.v x) := by
      unfold cellsFrom
      cases x <;> try rfl
      rename_i p n c
      cases p <;> try rfl
      cases n <;> try rfl
      cases c <;> rfl
    rw [key]; exact h
  all_goals exact h
theorem store_loc {G G' : Heap} {b v k : Nat} {xs : List AV} (h : storeCells G b v k xs = some G') : ∃ o, G' = G.put b o ∧ (G.get b).isSome = true ∧ ∀ Gx : Heap, Gx.lock = G.lock → Gx.get b = G.get b → storeCells Gx b v k xs = some (Gx.put b o) := by
  unfold storeCells at h
  split at h
  · rename_i m e sz g cs hr
    split at h
    · rename_i hc
      cases h
      refine ⟨_, rfl, by rw [Heap.row_get hr]; rfl, fun Gx h1 h2 => ?_⟩
      unfold storeCells
      rw [row_eqI h2, hr]
      simp only
      rw [h1, if_pos hc]
    · cases h
  · cases h
theorem storeA_loc {G G' : Heap} {t : TypeId} {p v : AV} (h : storeA C.P G t p v = some G') : ∃ b o, (b ∈ objsOf p ∧ (G.get b).isSome = true) ∧ G' = G.put b o ∧ ∀ Gx : Heap, Gx.lock = G.lock → Gx.get b = G.get b → storeA C.P Gx t p v = some (Gx.put b o) := by
  unfold storeA at h
  split at h
  · rename_i b w k n hn
    split at h
    · rename_i hc
      obtain ⟨o, h1, hg, h2⟩ := store_loc h
      refine ⟨b, o, ⟨by simp [objsOf], hg⟩, h1, fun Gx h3 h4 => ?_⟩
      unfold storeA
      rw [hn]; simp only
      rw [if_pos hc]; exact h2 Gx h3 h4
    · cases h
  · cases h
theorem made_loc {G G' : Heap} {slot : Nat} {e : TypeId} {i : TypeInfo} {need : Nat} {old new : List AV} {v : AV} (h : madeA G slot e i need old new = some (v, G')) : ∃ o, G' = G.put slot o ∧ ∀ Gx : Heap, madeA Gx slot e i need old new = some (v, Gx.put slot o) := by
  unfold madeA at h
  split at h
  · rename_i hc
    cases h
    refine ⟨_, rfl, fun Gx => ?_⟩
    unfold madeA; rw [if_pos hc]
  · cases h
theorem appendTo_loc {G G' : Heap} {slot : Nat} {e : TypeId} {i : TypeInfo} {n : Nat} {new : List AV} {s v : AV} (h : appendTo G slot e i n new s = some (v, G')) : Loc (objsOf s) slot (fun G => appendTo G slot e i n new s) G v G' := by
  have made : ∀ {need old}, madeA G slot e i need old new = some (v, G') → ∀ f : Heap → Option (AV × Heap), (∀ Gx : Heap, Gx.lock = G.lock → (∀ b ∈ objsOf s, Gx.get b = G.get b) → f Gx = madeA Gx slot e i need old new) → Loc (objsOf s) slot f G v G' := by
    intro need old hm f hf
    obtain ⟨o, h1, h2⟩ := made_loc hm
    exact ⟨some (slot, o), fun b o' he => by cases he; exact Or.inr rfl, h1, fun Gx a b => by rw [hf Gx a b]; exact h2 Gx⟩
  have same : (v, G') = (s, G) → ∀ f : Heap → Option (AV × Heap), (∀ Gx : Heap, Gx.lock = G.lock → (∀ b ∈ objsOf s, Gx.get b = G.get b) → f Gx = some (s, Gx)) → Loc (objsOf s) slot f G v G' := by
    intro he f hf
    cases he
    exact ⟨none, (fun _ _ h => nomatch h), rfl, hf⟩
  unfold appendTo at h
  split at h
  · split at h
    · rename_i hn
      exact same (by cases h; rfl) _ fun Gx _ _ => by simp only [appendTo]; rw [if_pos hn]
    · rename_i hn
      exact made h _ fun Gx _ _ => by simp only [appendTo]; rw [if_neg hn]
  · rename_i sz xs cap
    split at h
    · cases h
    · rename_i hsz
      split at h
      · rename_i hn
        exact same (by cases h; rfl) _ fun Gx _ _ => by simp only [appendTo]; rw [if_neg hsz, if_pos hn]
      · rename_i hn
        split at h
        · split at h
          · rename_i hc
            exact made h _ fun Gx _ _ => by simp only [appendTo]; rw [if_neg hsz, if_neg hn, if_pos hc]
          · cases h
        · cases h
  · rename_i b w off len cap
    split at h
    · rename_i hn
      exact same (by cases h; rfl) _ fun Gx _ _ => by simp only [appendTo]; rw [if_pos hn]
    · rename_i hn
      have hrw : ∀ Gx : Heap, (∀ b' ∈ objsOf (AV.sl b w off len cap), Gx.get b' = G.get b') → Gx.row b w = G.row b w ∧ Gx.get b = G.get b := fun Gx h => ⟨row_eqI (h b (by simp [objsOf])), h b (by simp [objsOf])⟩
      split at h
      · rename_i m e' sz g cs hr
        split at h
        · rename_i c
          split at h
          · rename_i hc
            split at h
            · rename_i H' hst
              cases h
              obtain ⟨o, h1, hg, h2⟩ := store_loc hst
              refine ⟨some (b, o), fun b' o' he => by cases he; exact Or.inl ⟨by simp [objsOf], hg⟩, h1, fun Gx a b' => ?_⟩
              obtain ⟨r1, r2⟩ := hrw Gx b'
              simp only [appendTo, r1, hr]
              rw [if_neg hn, if_pos hc, h2 Gx a r2]; rfl
            · cases h
          · rename_i hc
            split at h
            · rename_i hc2
              refine made h _ fun Gx a b' => ?_
              obtain ⟨r1, r2⟩ := hrw Gx b'
              simp only [appendTo, r1, hr]
              rw [if_neg hn, if_neg hc, if_pos hc2]
            · cases h
        · split at h
          · cases h
          · rename_i hsz
            split at h
            · rename_i hc
              split at h
              · rename_i H' hst
                cases h
                obtain ⟨o, h1, hg, h2⟩ := store_loc hst
                refine ⟨some (b, o), fun b' o' he => by cases he; exact Or.inl ⟨by simp [objsOf], hg⟩, h1, fun Gx a b' => ?_⟩
                obtain ⟨r1, r2⟩ := hrw Gx b'
                simp only [appendTo, r1, hr]
                rw [if_neg hn, if_neg hsz, if_pos hc, h2 Gx a r2]; rfl
              · cases h
            · rename_i hc
              split at h
              · rename_i hc2
                cases h
                refine ⟨some (b, _), fun b' o' he => by cases he; exact Or.inl ⟨by simp [objsOf], by rw [Heap.row_get hr]; rfl⟩, rfl, fun Gx a b' => ?_⟩
                obtain ⟨r1, r2⟩ := hrw Gx b'
                simp only [appendTo, r1, hr]
                rw [if_neg hn, if_neg hsz, if_neg hc, a, if_pos hc2]; rfl
              · cases h
      · cases h
  · cases h
theorem appendA_loc {G G' : Heap} {slot : Nat} {ts : List TypeId} {args : List AV} {v : AV} (h : appendA C.P G slot ts args = some (v, G')) : Loc (args.flatMap objsOf) slot (fun G => appendA C.P G slot ts args) G v G' := by
  unfold appendA at h
  split at h
  · rename_i t u s x
    split at h
    · rename_i hi
      unfold growA at h
      split at h
      · rename_i e k l hu hud
        split at h
        · rename_i i z hinf hz
          split at h
          · rename_i hc
            obtain ⟨o, h1, h2⟩ := made_loc h
            refine ⟨some (slot, o), fun b o' he => by cases he; exact Or.inr rfl, h1, fun Gx a b => ?_⟩
            simp only [appendA, if_pos hi, growA, hu, hud, hinf, hz]
            rw [if_pos hc]; exact h2 Gx
          · cases h
        · cases h
      · cases h
    · rename_i hi
      split at h
      · rename_i e hu
        split at h
        · rename_i i z hinf hz
          split at h
          · cases h
          · rename_i n new hcl
            split at h
            · cases h
            · rename_i hc
              obtain ⟨eff, h1, h2, h3⟩ := appendTo_loc h
              refine ⟨eff, fun b o he => ?_, h2, fun Gx a b => ?_⟩
              · rcases h1 b o he with h4 | h4
                · exact Or.inl ⟨by simp [h4.1], h4.2⟩
                · exact Or.inr h4
              · have hcl' := cells_loc hcl (Gx := Gx) fun b' hb' => b b' (by simp [hb'])
                have h3' := h3 Gx a fun b' hb' => b b' (by simp [hb'])
                simp only [appendA, if_neg hi, hu, hinf, hz, hcl']
                rw [if_neg hc]; exact h3'
        · cases h
      · cases h
  · cases h
/-! ### operations that may stand in such a region -/
def locOp (op : Op) : Bool :=
  match op with
  | .load _ _ | .store _ _ _ | .alloc _ | .box _ _ | .buildSlice _ _ _ | .lookup _ _ _ _ | .mapUpdate _ _ _ _ => true
  | .call c => match c.callee with | .builtin .append => true | _ => false
  | _ => false
theorem build_loc {mt : Bool} {G G' : Heap} {slot t len : Nat} {parts : List (Nat × AV)} {v : AV} (h : buildSliceA C.P mt G slot t len parts = some (v, G')) : Loc [] slot (fun G => buildSliceA C.P mt G slot t len parts) G v G' := by
  unfold buildSliceA at h
  split at h
  · rename_i e hu
    split at h
    · rename_i n z hn hz
      split at h
      · rename_i hc
        split at h
        · rename_i cs hcs
          split at h
          · cases h
          · rename_i hf
            split at h
            · rename_i hm
              cases h
              refine ⟨some (slot, _), fun b o he => by cases he; exact Or.inr rfl, rfl, fun Gx _ _ => ?_⟩
              simp only [buildSliceA, hu, hn, hz, hcs]
              rw [if_pos hc, if_neg hf, if_pos hm]; rfl
            · rename_i hm
              cases h
              refine ⟨none, (fun _ _ h => nomatch h), rfl, fun Gx _ _ => ?_⟩
              simp only [buildSliceA, hu, hn, hz, hcs]
              rw [if_pos hc, if_neg hf, if_neg hm]; rfl
        · cases h
      · cases h
    · cases h
  · cases h
theorem lookup_loc {G : Heap} {t : TypeId} {m k v : AV} {ok : Bool} (h : lookupA C.P G t m k ok = some v) {Gx : Heap} (h2 : ∀ b ∈ objsOf m, Gx.get b = G.get b) : lookupA C.P Gx t m k ok = some v := by
  have e : mapOfA Gx m = mapOfA G m := by
    cases m
    case mp b => unfold mapOfA; simp only; rw [h2 b (by simp [objsOf])]
    case v x =>
      unfold mapOfA
      cases x <;> try rfl
      rename_i o
      cases o <;> rfl
    all_goals rfl
  unfold lookupA at h ⊢
  rw [e]; exact h
theorem update_loc {G G' : Heap} {t : TypeId} {m k v : AV} (h : updateA C.P G t m k v = some G') : ∃ b o, (b ∈ objsOf m ∧ (G.get b).isSome = true) ∧ G' = G.put b o ∧ ∀ Gx : Heap, Gx.lock = G.lock → Gx.get b = G.get b → updateA C.P Gx t m k v = some (Gx.put b o) := by
  unfold updateA at h
  split at h
  · rename_i kt x b hk
    split at h
    · rename_i mx es c hg
      split at h
      · rename_i hl
        split at h
        · rename_i i y hf
          split at h
          · rename_i k' x1 x2 he
            split at h
            · rename_i hs
              cases h
              refine ⟨b, _, ⟨by simp [objsOf], by rw [hg]; rfl⟩, rfl, fun Gx h1 h2 => ?_⟩
              simp only [updateA, hk, h2, hg, h1, hl, if_true, hf, he, hs]
            · cases h
          · cases h
        · rename_i hf
          cases h
          refine ⟨b, _, ⟨by simp [objsOf], by rw [hg]; rfl⟩, rfl, fun Gx h1 h2 => ?_⟩
          simp only [updateA, hk, h2, hg, h1, hl, if_true, hf]
        · cases h
      · cases h
    · cases h
  · cases h
theorem opA_loc {o : Oper} {a : AAct} {G G' : Heap} {slot : Nat} {r : Option AV} (hl : locOp o.op = true) (h : opA C (lim C) me o a G slot = some (r, G')) :
    ∃ reads, (footA C me o a slot).reads = some reads ∧ Loc reads slot (fun G => opA C (lim C) me o a G slot) G r G' := by
  obtain ⟨dst, op, ty, pos, after, guard⟩ := o
  simp only at hl
  cases op <;> simp only [locOp] at hl <;> try (cases hl; done)
  case load t x =>
    simp only [opA] at h
    split at h
    · rename_i p hp
      obtain ⟨v, hv, he⟩ := Option.map_eq_some_iff.1 h
      cases he
      refine ⟨objsOf p, by simp only [footA, objsO, hp], none, (fun _ _ h => nomatch h), rfl, fun Gx _ h2 => ?_⟩
      simp only [opA, hp]
      rw [load_loc hv h2]; rfl
    · cases h
  case store t x y =>
    simp only [opA] at h
    split at h
    · rename_i p v hp hv
      obtain ⟨G1, hs, he⟩ := Option.map_eq_some_iff.1 h
      cases he
      obtain ⟨b, o, h1, h2, h3⟩ := storeA_loc hs
      refine ⟨objsOf p, by simp only [footA, objsO, hp], some (b, o), fun b' o' he => by cases he; exact Or.inl h1, h2, fun Gx a1 a2 => ?_⟩
      simp only [opA, hp, hv]
      rw [h3 Gx a1 (a2 b h1.1)]; rfl
    · cases h
  case lookup t m k ok =>
    simp only [opA] at h
    split at h
    · rename_i p q hp hq
      obtain ⟨v, hv, he⟩ := Option.map_eq_some_iff.1 h
      cases he
      refine ⟨objsOf p, by simp only [footA, objsO, hp], none, (fun _ _ h => nomatch h), rfl, fun Gx _ h2 => ?_⟩
      simp only [opA, hp, hq]
      rw [lookup_loc hv h2]; rfl
    · cases h
  case mapUpdate t m k v =>
    simp only [opA] at h
    split at h
    · rename_i p q u hp hq hu
      obtain ⟨G1, hs, he⟩ := Option.map_eq_some_iff.1 h
      cases he
      obtain ⟨b, o, h1, h2, h3⟩ := update_loc hs
      refine ⟨objsOf p, by simp only [footA, objsO, hp], some (b, o), fun b' o' he => by cases he; exact Or.inl h1, h2, fun Gx a1 a2 => ?_⟩
      simp only [opA, hp, hq, hu]
      rw [h3 Gx a1 (a2 b h1.1)]; rfl
    · cases h
  case alloc e =>
    simp only [opA] at h
    split at h
    · rename_i z hz
      split at h
      · cases h
      · rename_i hf
        cases h
        refine ⟨[], rfl, some (slot, _), fun b' o' he => by cases he; exact Or.inr rfl, rfl, fun Gx _ _ => ?_⟩
        simp only [opA, hz]
        rw [if_neg hf]; rfl
    · cases h
  case box e x =>
    simp only [opA] at h
    split at h
    · rename_i z hz
      split at h
      · cases h
      · rename_i hf
        cases h
        refine ⟨[], rfl, some (slot, _), fun b' o' he => by cases he; exact Or.inr rfl, rfl, fun Gx _ _ => ?_⟩
        simp only [opA, hz]
        rw [if_neg hf]; rfl
    · cases h
  case buildSlice t n ps =>
    simp only [opA] at h
    split at h
    · rename_i l hp
      obtain ⟨⟨v, G1⟩, hs, he⟩ := Option.map_eq_some_iff.1 h
      cases he
      obtain ⟨eff, h1, h2, h3⟩ := build_loc hs
      refine ⟨[], rfl, eff, h1, h2, fun Gx a1 a2 => ?_⟩
      simp only [opA, hp]
      have h3' := h3 Gx a1 a2
      simp only at h3'
      rw [h3']; rfl
    · cases h
  case call c =>
    obtain ⟨cal, args, ts⟩ := c
    have hcal : cal = .builtin .append := by
      cases cal with
      | builtin bi => cases bi <;> first | rfl | (simp at hl; done)
      | _ => simp at hl
    subst hcal
    cases hp : evals a args.toList with
    | none => simp only [opA, hp] at h; cases h
    | some l =>
      simp only [opA, hp] at h
      obtain ⟨⟨v, G1⟩, hs, he⟩ := Option.map_eq_some_iff.1 h
      cases he
      obtain ⟨eff, h1, h2, h3⟩ := appendA_loc hs
      have hob : args.toList.flatMap (objsO a) = l.flatMap objsOf := by
        have : ∀ (ars : List Operand) (l : List AV), evals a ars = some l → ars.flatMap (objsO a) = l.flatMap objsOf := by
          intro ars
          induction ars with
          | nil => intro l h; simp only [evals, Option.some.injEq] at h; subst h; rfl
          | cons x r ih =>
            intro l h
            simp only [evals] at h
            split at h
            · rename_i u us hu hus
              cases h
              simp only [List.flatMap_cons, ih us hus]
              rw [show objsO a x = objsOf u by unfold objsO; rw [hu]]
            · cases h
        exact this _ _ hp
      refine ⟨l.flatMap objsOf, by simp only [footA]; rw [hob], eff, h1, h2, fun Gx a1 a2 => ?_⟩
      simp only [opA, hp]
      have h3' := h3 Gx a1 a2
      simp only at h3'
      rw [h3']; rfl
/-- what it looks at is there for it -/
def okFoot (base top w : Nat) (ft : Foot) : Bool := match ft.reads with | some l => l.all fun b => Nat.blt b base || Nat.ble top b || w.testBit (b - base) | none => false
def callFoot : Foot := ⟨some [], some [], [], false, false⟩
/-- what it looks at, of an operation that leaves memory as it was -/
def idleFoot (C : Cfg) (me : FuncId) (o : Oper) (a : AAct) (slot : Nat) : Foot :=
  match o.op with
  | .call c => match c.callee with | .value _ => callFoot | _ => footA C me o a slot
  | _ => footA C me o a slot
def frOne (o : Option Foot) (f : Foot) : Bool := match o with | some g => !clash g f | none => false
/-- those that are not bound to an order with it may be exchanged with it -/
def freeT (feet : List Foot) (u : List Nat) (ft : Foot) : Bool := u.all fun k => frOne (feet[k]?) ft
def ltB (a b : Nat) : Bool := decide (a < b)
def okFootT (base : Nat) (w : List Nat) (ft : Foot) : Bool := match ft.reads with | some l => l.all fun b => ltB b base || w.any fun k => b == base + k | none => false
abbrev Tab := List (List Nat × List Nat × Bool)
noncomputable def callX (C : Cfg) (me : FuncId) (d : Option Tmp) (v : AV) (l : List AV) (H : Heap) : Option (AV × Heap) :=
  match v with
  | .fn (.func f) x y => callA C (lim C) me f d (x ++ l ++ y) H
  | .yld b => (match lim C (.round b l H) with | some (.ret v H') => some (v, H') | _ => none)
  | _ => none
/-- a call that sees, and may turn, all memory -/
def kind0 (C : Cfg) (me : FuncId) (d : Option Tmp) (v : AV) (l : List AV) : Bool :=
  match v with
  | .fn (.func f) x y => (C.ext f).isNone && Nat.beq (callKind C me f d (x ++ l ++ y)) 0
  | .yld _ => true
  | _ => false
def SameOut (base top : Nat) (G G' : Heap) : Prop := ∀ b, (b < base ∨ top ≤ b) → G'.get b = G.get b
def effV (C : Cfg) (me : FuncId) (base top : Nat) (d : Option Tmp) (v : AV) (l : List AV) (G : Heap) (cont : AV → Heap → Prop) : Prop :=
  kind0 C me d v l = true ∧ ∀ Gh : Heap, Gh.lock = G.lock → Gh.size = G.size → SameOut base top G Gh → ∃ r Y, callX C me d v l Gh = some (r, Y) ∧ G.size ≤ Y.size ∧
    ∀ G' : Heap, G'.lock = G.lock → G'.size = Y.size → SameOut base top Y G' → (∀ b, base ≤ b → b < top → G'.get b = G.get b ∨ G'.get b = Y.get b) → cont r G'
def effO (C : Cfg) (me : FuncId) (base top : Nat) (o : Oper) (a : AAct) (G : Heap) (cont : AV → Heap → Prop) : Prop :=
  match o.op with
  | .call c => (match c.callee with | .value g => bindO (evals a c.args.toList) fun l => bindO (a.eval g) fun v => effV C me base top o.dst v l G cont | _ => False)
  | _ => False
/-- a call that looks at memory, and leaves it as it was -/
def kind2 (C : Cfg) (me : FuncId) (d : Option Tmp) (v : AV) (l : List AV) : Bool :=
  match v with
  | .fn (.func f) x y => (C.ext f).isNone && Nat.beq (callKind C me f d (x ++ l ++ y)) 2
  | _ => false
/-- the same but for slots of a region: those that are named are the same, too -/
def SameVis (base top : Nat) (vl : List Nat) (G G' : Heap) : Prop := ∀ b, (b < base ∨ top ≤ b ∨ (base ≤ b ∧ vl.contains (b - base) = true)) → G'.get b = G.get b
def stillV (C : Cfg) (me : FuncId) (base top : Nat) (vl : List Nat) (d : Option Tmp) (v : AV) (l : List AV) (G : Heap) (cont : AV → Heap → Prop) : Prop :=
  kind2 C me d v l = true ∧ ∃ r, (∀ Gh : Heap, Gh.lock = G.lock → Gh.size = G.size → SameVis base top vl G Gh → ∃ Y, callX C me d v l Gh = some (r, Y)) ∧ cont r G
def stillO (C : Cfg) (me : FuncId) (base top : Nat) (vl : List Nat) (o : Oper) (a : AAct) (G : Heap) (cont : AV → Heap → Prop) : Prop :=
  match o.op with
  | .call c => (match c.callee with | .value g => bindO (evals a c.args.toList) fun l => bindO (a.eval g) fun v => stillV C me base top vl o.dst v l G cont | _ => False)
  | _ => False
def stillFoot : Foot := ⟨none, some [], [], false, false⟩
def effFoot : Foot := ⟨none, none, [], false, true⟩
/-- a region in any order, operation by operation -/
def drawP (C : Cfg) (me : FuncId) (arr : Array Oper) (base : Nat) : Tab → List Oper → Nat → List Foot → AAct → Heap → PostS → Prop
  | _, [], _, _, a, G, K => AtS K a G
  | tb, o :: r, i, feet, a, G, K => bindO (wantedA arr a o) fun w => iteB w
      (iteB (plainO o) (WpO C me o.dst o.op a G (base + i) fun v _ => drawP C me arr base tb.tail r (i + 1) (feet ++ [noFoot]) (a.put o.dst v) G K)
        (iteB (locOp o.op) (iteB (okFootT base (tb.headD ([], [], false)).2.1 (footA C me o a (base + i)) && freeT feet (tb.headD ([], [], false)).1 (footA C me o a (base + i)))
            (WpO C me o.dst o.op a G (base + i) fun v G' => drawP C me arr base tb.tail r (i + 1) (feet ++ [footA C me o a (base + i)]) (a.put o.dst v) G' K) False)
          (iteB (tb.headD ([], [], false)).2.2
            (iteB (tb.headD ([], [], false)).1.isEmpty (effO C me base (base + arr.toList.length) o a G fun v G' => drawP C me arr base tb.tail r (i + 1) (feet ++ [effFoot]) (a.put o.dst v) G' K)
              (iteB (freeT feet (tb.headD ([], [], false)).1 stillFoot) (stillO C me base (base + arr.toList.length) (tb.headD ([], [], false)).2.1 o a G fun v G' => drawP C me arr base tb.tail r (i + 1) (feet ++ [stillFoot]) (a.put o.dst v) G' K) False))
            (iteB (freeT feet (tb.headD ([], [], false)).1 (idleFoot C me o a (base + i)))
              (bindO (opI C me { objs := [], lock := 0 } o.dst o.op a) fun v => drawP C me arr base tb.tail r (i + 1) (feet ++ [idleFoot C me o a (base + i)]) (a.put o.dst v) G K) False))))
      (drawP C me arr base tb.tail r (i + 1) (feet ++ [noFoot]) (a.put o.dst undefA) G K)
def plainAt (l : List Oper) (i : Nat) : Bool := match l[i]? with | some o => plainO o | none => false
def rowOk (l : List Oper) (wi : Nat) (i : Nat) (u w : List Nat) : Bool := plainAt l i || ((List.range i).all fun k => wi.testBit k || plainAt l k || u.contains k) && w.all fun k => wi.testBit k
def tabOk (l : List Oper) (ws : List Nat) (tb : Tab) : Bool := (List.range l.length).all fun i => rowOk l (ws.getD i 0) i (tb.getD i ([], [], false)).1 (tb.getD i ([], [], false)).2.1
theorem clash_no (ft : Foot) : clash noFoot ft = false := by
  obtain ⟨rx, wx, fx, px, gx⟩ := ft
  have e1 : ∀ z, meet (some []) z = false := fun _ => rfl
  simp [clash, noFoot, e1]
theorem free_of {l : List Oper} {wi i : Nat} {u w : List Nat} {feet : List Foot} {ft : Foot} (hr : rowOk l wi i u w = true) (hnp : plainAt l i = false) (hp : ∀ k o, k < i → l[k]? = some o → plainO o = true → feet[k]? = some noFoot) (hf : freeT feet u ft = true) : freeOf feet wi ft i = true := by
  unfold rowOk at hr
  rw [hnp, Bool.false_or] at hr
  simp only [Bool.and_eq_true, List.all_eq_true] at hr
  have key : ∀ n, n ≤ i → freeOf feet wi ft n = true := by
    intro n
    induction n with
    | zero => intro _; rfl
    | succ k ih =>
      intro hk
      unfold freeOf
      rw [ih (by omega), Bool.and_true]
      have := hr.1 k (List.mem_range.2 (by omega))
      simp only [Bool.or_eq_true] at this
      rcases this with (h | h) | h
      · rw [h, Bool.true_or]
      · unfold plainAt at h
        split at h
        · rename_i o ho
          rw [hp k o (by omega) ho h]
          simp only [clash_no, Bool.not_false, Bool.or_true]
        · cases h
      · have h2 := List.all_eq_true.1 hf k (by simpa using h)
        unfold frOne at h2
        rw [Bool.or_eq_true]
        exact Or.inr h2
  exact key i (Nat.le_refl _)
theorem ok_of {l : List Oper} {wi i base top : Nat} {u w : List Nat} {ft : Foot} (hr : rowOk l wi i u w = true) (hnp : plainAt l i = false) (h : okFootT base w ft = true) : okFoot base top wi ft = true := by
  unfold rowOk at hr
  rw [hnp, Bool.false_or] at hr
  simp only [Bool.and_eq_true, List.all_eq_true] at hr
  unfold okFootT at h
  unfold okFoot
  split at h
  · rename_i rl hrl
    rw [List.all_eq_true] at h ⊢
    intro b hb
    have := h b hb
    simp only [Bool.or_eq_true] at this ⊢
    rcases this with h1 | h1
    · left; left; exact Nat.ble_eq_true_of_le (of_decide_eq_true h1)
    · obtain ⟨k, hk, he⟩ := List.any_eq_true.1 h1
      right
      have : b = base + k := by simpa using he
      rw [this, Nat.add_sub_cancel_left]; exact hr.2 k hk
  · cases h
theorem free_no {feet : List Foot} {w : Nat} : ∀ n, n ≤ feet.length → freeOf feet w noFoot n = true
  | 0, _ => rfl
  | k + 1, hn => by
    unfold freeOf
    rw [free_no k (by omega), Bool.and_true, Bool.or_eq_true]
    right
    cases h : feet[k]? with
    | none => exact absurd (List.getElem?_eq_none_iff.1 h) (by omega)
    | some f =>
      obtain ⟨rx, wx, fx, px, gx⟩ := f
      have e2 : ∀ r : Option (List Nat), meet r (some []) = false := by
        intro r; unfold meet; split <;> simp_all
      simp [clash, noFoot, e2]
theorem vis_of {ft : Foot} {base top w slot : Nat} {l : List Nat} (hr : ft.reads = some l) (h : okFoot base top w ft = true) : (∀ b ∈ l, visB base top w slot ft b = true) ∧ visB base top w slot ft slot = true := by
  unfold okFoot at h
  rw [hr] at h
  simp only [List.all_eq_true] at h
  refine ⟨fun b hb => ?_, ?_⟩
  · unfold visB
    rw [hr]
    simp only [h b hb, Bool.true_and, Bool.or_eq_true]
    exact Or.inr (List.any_eq_true.2 ⟨b, hb, Nat.beq_refl b⟩)
  · unfold visB; rw [Nat.beq_refl]; rfl
theorem foot_grows {o : Oper} {a : AAct} {slot : Nat} : (footA C me o a slot).grows = false := by
  unfold footA
  split <;> try rfl
  split <;> try rfl
  split <;> try rfl
  split <;> try rfl
  split <;> rfl
theorem opI_any {o : Oper} {a : AAct} {v : AV} (hp : plainO o = false) (hl : locOp o.op = false) (h : opI C me { objs := [], lock := 0 } o.dst o.op a = some v) (slot : Nat) :
    (∀ G : Heap, opA C (lim C) me o a G slot = some (some v, G)) ∧ (footA C me o a slot).idle = true ∧ idleFoot C me o a slot = footA C me o a slot := by
  obtain ⟨dst, op, ty, pos, after, guard⟩ := o
  simp only at hl h hp
  unfold opI at h
  split at h
  · cases hl
  · rename_i t x l hh m
    simp only [Option.bind_eq_some_iff] at h
    obtain ⟨u, hu, l', hl', h', hh', m', hm', h⟩ := h
    have hs : ∀ G : Heap, sliceA C.P G t u l' h' m' = some v := by
      intro G
      unfold sliceI at h
      split at h
      · cases h
      · rename_i hne
        rw [← h]
        unfold sliceA
        cases C.P.underlying t with
        | none => cases u <;> rfl
        | some d => cases d <;> cases u <;> first | rfl | (exact absurd rfl (hne _ _ _ _ _)) | (rename_i y; cases y <;> first | rfl | (rename_i p n c; cases p <;> first | rfl | (cases n <;> first | rfl | (cases c <;> rfl))))
    refine ⟨fun G => ?_, rfl, rfl⟩
    simp only [opA, hu]
    show (match (some u), lookO a l, lookO a hh, lookO a m with | some v, some l, some h, some m => (sliceA C.P G t v l h m).map fun v => (some v, G) | _, _, _, _ => none) = _
    rw [hl', hh', hm']
    simp only [hs G, Option.map_some]
  · rename_i c
    obtain ⟨cal, args, ts⟩ := c
    simp only at h
    split at h
    · obtain ⟨l, hev, h⟩ := Option.bind_eq_some_iff.1 h
      have hs : ∀ G : Heap, lenA C.P G ts.toList l = some v := by
        intro G
        unfold lenI at h
        split at h
        · cases h
        · rename_i hne
          rw [← h]
          unfold lenA
          cases ts.toList with
          | nil => rfl
          | cons t r =>
            cases l with
            | nil => rfl
            | cons x s =>
              simp only
              cases C.P.underlying t with
              | none => cases x <;> rfl
              | some d => cases d <;> cases x <;> first | rfl | (exact absurd rfl (hne _ _)) | (rename_i y; cases y <;> first | rfl | (rename_i p; cases p <;> rfl) | (rename_i p n c; cases p <;> first | rfl | (cases n <;> first | rfl | (cases c <;> rfl))))
      refine ⟨fun G => ?_, ?_, rfl⟩
      · simp only [opA, hev, hs G, Option.map_some]
      · simp only [footA]; rfl
    · obtain ⟨l, hev, h⟩ := Option.bind_eq_some_iff.1 h
      refine ⟨fun G => ?_, rfl, rfl⟩
      cases l with
      | nil => cases h
      | cons x r =>
        have h : minmaxA false x r = some v := h
        simp only [opA, hev, h, Option.map_some]
    · rename_i g
      simp only [Option.bind_eq_some_iff] at h
      obtain ⟨l, hev, gv, hg, h⟩ := h
      unfold callV at h
      split at h
      · rename_i f x y
        unfold callI at h
        split at h
        · rename_i hex
          cases h
          obtain ⟨h1, h2⟩ := hex.choose_spec
          have hfe : ∀ ty pos after guard, footA C me ⟨dst, .call ⟨.value g, args, ts⟩, ty, pos, after, guard⟩ a slot = callFoot := by
            intro ty pos after guard
            simp only [footA, hg, hev]
            rcases h2 with h2 | h2
            · rw [if_pos h2]; rfl
            · split
              · rfl
              · rw [h2]; rfl
          refine ⟨fun G => ?_, ?_, ?_⟩
          · simp only [opA, hev, hg]
            rw [h1 G]; rfl
          · rw [hfe]; rfl
          · rw [hfe]; rfl
        · cases h
      · cases h
    · cases h
  · rename_i h1 h2 h3
    have : plainO (bareO dst op) = false := hp
    rw [this] at h
    simp at h
/-- the region, by its operations -/
theorem drawP_runs {arr : Array Oper} {ops : List Oper} {ws : List Nat} {base n : Nat} {K : PostS} (hn : arr.toList.length = n) : ∀ (l : List Oper) (tb : Tab) (i : Nat) (feetM feet : List Foot) (a : AAct) (G : Heap), feet.length = i → feetM.length = i → i + l.length ≤ n → base + n ≤ G.size → (∀ (k : Nat) (ft : Foot), frOne (feetM[k]?) ft = true → frOne (feet[k]?) ft = true) → (∀ k, l[k]? = ops[i + k]?) →
    (∀ k, i + k < i + l.length → rowOk ops (ws.getD (i + k) 0) (i + k) (tb.getD k ([], [], false)).1 (tb.getD k ([], [], false)).2.1 = true) → (∀ k o, k < i → ops[k]? = some o → plainO o = true → feet[k]? = some noFoot) → drawP C me arr base tb l i feetM a G K →
    ∃ r, drawA C (lim C) me arr base (base + n) ws l i feet a G = some r ∧ K r.1 r.2
  | [], tb, i, feetM, feet, a, G, _, _, _, _, _, _, _, _, h => ⟨(a, G), rfl, (by unfold drawP at h; exact h)⟩
  | o :: r, tb, i, feetM, feet, a, G, hf, hfM, hi, hs, hle, hops, htb, hpl, h => by
    have hle' : ∀ f f' : Foot, (∀ ft, frOne (some f) ft = true → frOne (some f') ft = true) → ∀ (k : Nat) (ft : Foot), frOne ((feetM ++ [f])[k]?) ft = true → frOne ((feet ++ [f'])[k]?) ft = true := by
      intro f f' hff k ft hk
      rcases Nat.lt_or_ge k i with h1 | h1
      · rw [List.getElem?_append_left (by omega)] at hk ⊢; exact hle k ft hk
      · rw [List.getElem?_append_right (by omega)] at hk ⊢
        rw [hfM] at hk; rw [hf]
        cases hki : k - i with
        | zero => rw [hki] at hk; exact hff ft hk
        | succ z => rw [hki] at hk; simp [frOne] at hk
    have hsame : ∀ f : Foot, ∀ ft, frOne (some f) ft = true → frOne (some f) ft = true := fun _ _ h => h
    have hfree : ∀ (u : List Nat) (ft : Foot), freeT feetM u ft = true → freeT feet u ft = true := fun u ft h => List.all_eq_true.2 fun k hk => hle k ft (List.all_eq_true.1 h k hk)
    have hrow := htb 0 (by simp)
    have ho0 : ops[i]? = some o := by have := hops 0; simpa using this.symm
    have hops' : ∀ k, r[k]? = ops[i + 1 + k]? := fun k => by have := hops (k + 1); rw [List.getElem?_cons_succ] at this; rw [this, show i + (k + 1) = i + 1 + k by omega]
    have htd : ∀ k, tb.tail.getD k ([], [], false) = tb.getD (k + 1) ([], [], false) := fun k => by cases tb <;> simp
    have htb' : ∀ k, i + 1 + k < i + 1 + r.length → rowOk ops (ws.getD (i + 1 + k) 0) (i + 1 + k) (tb.tail.getD k ([], [], false)).1 (tb.tail.getD k ([], [], false)).2.1 = true := fun k hk => by
      rw [htd, show i + 1 + k = i + (k + 1) by omega]; exact htb (k + 1) (by simp; omega)
    have hhd : tb.getD 0 ([], [], false) = tb.headD ([], [], false) := by cases tb <;> rfl
    have hpl' : ∀ (ft : Foot), (plainO o = true → ft = noFoot) → ∀ k o', k < i + 1 → ops[k]? = some o' → plainO o' = true → (feet ++ [ft])[k]? = some noFoot := by
      intro ft hft k o' hk ho' hp
      rcases Nat.lt_or_ge k i with h1 | h1
      · rw [List.getElem?_append_left (by omega)]; exact hpl k o' h1 ho' hp
      · have : k = i := by omega
        subst this
        rw [ho0] at ho'; cases ho'
        rw [List.getElem?_append_right (by omega), hf, Nat.sub_self, hft hp]; rfl
    rw [hhd, Nat.add_zero] at hrow
    have hi' : i + (r.length + 1) ≤ n := by simpa using hi
    unfold drawP at h
    rw [bindO_iff] at h
    obtain ⟨w, hw, h⟩ := h
    unfold drawA stepD
    rw [hw]
    cases w
    · simp only [iteB_false] at h
      simp only
      rw [free_no i (by omega), if_pos rfl]
      exact drawP_runs hn r _ (i + 1) _ _ _ G (by simp [hf]) (by simp [hfM]) (by omega) hs (hle' _ _ (hsame _)) hops' htb' (hpl' noFoot fun _ => rfl) h
    · simp only [iteB_true] at h
      simp only
      by_cases hp : plainO o = true
      · rw [hp] at h
        simp only [iteB_true] at h
        rw [if_pos hp]
        unfold WpO at h
        rw [bindO_iff, ← opA_same] at h
        obtain ⟨⟨v, G1⟩, hop, h⟩ := h
        rw [hop]
        simp only
        rw [free_no i (by omega), if_pos rfl]
        exact drawP_runs hn r _ (i + 1) _ _ _ G (by simp [hf]) (by simp [hfM]) (by omega) hs (hle' _ _ (hsame _)) hops' htb' (hpl' noFoot fun _ => rfl) h
      · have hp' : plainO o = false := by simpa using hp
        rw [hp'] at h
        simp only [iteB_false] at h
        rw [if_neg hp]
        have hnp : plainAt ops i = false := by unfold plainAt; rw [ho0]; exact hp'
        by_cases hl : locOp o.op = true
        · rw [hl] at h
          simp only [iteB_true] at h
          generalize hft : footA C me o a (base + i) = ft at h ⊢
          cases hokT : okFootT base (tb.headD ([], [], false)).2.1 ft && freeT feetM (tb.headD ([], [], false)).1 ft
          · rw [hokT] at h; exact h.elim
          · rw [hokT] at h
            simp only [iteB_true] at h
            simp only [Bool.and_eq_true] at hokT
            have hok : okFoot base (base + n) (ws.getD i 0) ft = true ∧ freeOf feet (ws.getD i 0) ft i = true := ⟨ok_of hrow hnp hokT.1, free_of hrow hnp hpl (hfree _ _ hokT.2)⟩
            unfold WpO at h
            rw [bindO_iff, ← opA_same] at h
            obtain ⟨⟨v, G1⟩, hop, h⟩ := h
            obtain ⟨reads, hr, eff, he1, he2, he3⟩ := opA_loc hl hop
            rw [hft] at hr
            obtain ⟨hv1, hv2⟩ := vis_of (slot := base + i) hr hok.1
            generalize hvis : visB base (base + n) (ws.getD i 0) (base + i) ft = vis at hv1 hv2 ⊢
            have hrl : ∀ b ∈ reads, b < G.size → (G.hide vis).get b = G.get b := fun b hb hbs => by rw [hide_get, if_pos hbs, if_pos (hv1 b hb)]
            have hrl2 : ∀ b ∈ reads, (G.hide vis).get b = G.get b := fun b hb => by
              rcases Nat.lt_or_ge b G.size with h1 | h1
              · exact hrl b hb h1
              · rw [hide_get, if_neg (by omega), get_none (by omega)]
            have hrun := he3 (G.hide vis) rfl hrl2
            simp only at hrun
            rw [hrun]
            simp only
            have heff : ∀ b o', eff = some (b, o') → b < G.size ∧ vis b = true := by
              intro b o' he
              rcases he1 b o' he with ⟨h1, h2⟩ | h1
              · obtain ⟨o2, ho2⟩ := Option.isSome_iff_exists.1 h2
                exact ⟨get_ltS ho2, hv1 b h1⟩
              · subst h1; exact ⟨by omega, hv2⟩
            obtain ⟨hm1, hm2, hm3⟩ := merge_putO heff
            have hg : ({ ft with grows := false } : Foot) = ft := by rw [← hft]; have := foot_grows (C := C) (me := me) (o := o) (a := a) (slot := base + i); cases hq : footA C me o a (base + i); rw [hq] at this; simp only at this; subst this; rfl
            have hcont := drawP_runs (n := n) (ws := ws) (ops := ops) hn r _ (i + 1) _ (feet ++ [ft]) _ G1 (by simp [hf]) (by simp [hfM]) (by omega) (by rw [he2, hm3]; exact hs) (hle' _ _ (hsame _)) hops' htb' (hpl' ft fun h => absurd h hp) h
            by_cases hid : ft.idle = true
            · rw [if_pos hid]
              have hG1 : G1 = G := by
                have hW : ∃ W, (footA C me o a (base + i)).writes = some W ∧ W ++ (footA C me o a (base + i)).fresh = [] := by
                  rw [hft]
                  unfold Foot.idle at hid
                  split at hid
                  · rename_i hw; exact ⟨[], hw, by simpa using hid⟩
                  · cases hid
                obtain ⟨W, hW1, hW2⟩ := hW
                have := opA_keeps hop (by omega) hW1
                rw [hW2] at this
                exact heap_ext this.1 this.2.1 fun b => this.2.2 b (by simp)
              simp only [hok.2, if_true]
              rw [hG1] at hcont
              exact hcont
            · rw [if_neg hid, hm2, Nat.ble_eq_true_of_le (Nat.le_refl _)]
              simp only [if_true, hm1, Nat.beq_refl, Bool.not_true, hg, hok.2]
              rw [he2] at hcont
              exact hcont
        · have hl' : locOp o.op = false := by simpa using hl
          rw [hl'] at h
          simp only [iteB_false] at h
          cases hflag : (tb.headD ([], [], false)).2.2
          case false =>
            rw [hflag] at h
            simp only [iteB_false] at h
            generalize hft : idleFoot C me o a (base + i) = ft at h
            cases hokT : freeT feetM (tb.headD ([], [], false)).1 ft
            · rw [hokT] at h; exact h.elim
            · rw [hokT] at h
              simp only [iteB_true] at h
              have hok : freeOf feet (ws.getD i 0) ft i = true := free_of hrow hnp hpl (hfree _ _ hokT)
              rw [bindO_iff] at h
              obtain ⟨v, hv, h⟩ := h
              obtain ⟨h1, h2, h3⟩ := opI_any hp' hl' hv (base + i)
              rw [hft] at h3
              rw [← h3] at h2 ⊢
              rw [h1]
              simp only
              rw [if_pos h2]
              simp only [hok, if_true]
              exact drawP_runs hn r _ (i + 1) _ _ _ G (by simp [hf]) (by simp [hfM]) (by omega) hs (hle' _ _ (hsame _)) hops' htb' (hpl' _ fun h => absurd h hp) h
          case true =>
            rw [hflag] at h
            simp only [iteB_true] at h
            cases hem : (tb.headD ([], [], false)).1.isEmpty
            · rw [hem] at h
              simp only [iteB_false] at h
              cases hokT : freeT feetM (tb.headD ([], [], false)).1 stillFoot
              · rw [hokT] at h; exact h.elim
              · rw [hokT] at h
                simp only [iteB_true] at h
                have hok : freeOf feet (ws.getD i 0) stillFoot i = true := free_of hrow hnp hpl (hfree _ _ hokT)
                obtain ⟨dst, op, ty, pos, after, guard⟩ := o
                unfold stillO at h
                simp only at h
                split at h
                · rename_i c
                  split at h
                  · rename_i g hcal
                    rw [bindO_iff] at h
                    obtain ⟨l, hev, h⟩ := h
                    rw [bindO_iff] at h
                    obtain ⟨v, hg, h⟩ := h
                    obtain ⟨hk, rv, hrun, h⟩ := h
                    obtain ⟨cal, args, ts⟩ := c
                    simp only at hcal hev
                    subst hcal
                    cases v <;> simp only [kind2] at hk <;> try (cases hk; done)
                    rename_i f x y
                    cases f <;> simp only [Bool.and_eq_true] at hk <;> try (cases hk; done)
                    rename_i f
                    have hft : footA C me ⟨dst, .call ⟨.value g, args, ts⟩, ty, pos, after, guard⟩ a (base + i) = stillFoot := by
                      have h1 : (C.ext f).isSome = false := by
                        have := hk.1
                        cases hx : C.ext f <;> rw [hx] at this <;> simp_all
                      have h2 := Nat.eq_of_beq_eq_true hk.2
                      simp only [footA, hg, hev, h1, h2, Bool.false_eq_true, if_false, stillFoot]
                    rw [hft]
                    generalize hvis : visB base (base + n) (ws.getD i 0) (base + i) stillFoot = vis
                    have hwl : ∀ k, (tb.headD ([], [], false)).2.1.contains k = true → (ws.getD i 0).testBit k = true := by
                      have hr2 := hrow
                      unfold rowOk at hr2
                      rw [hnp, Bool.false_or, Bool.and_eq_true] at hr2
                      exact fun k hk => List.all_eq_true.1 hr2.2 k (List.contains_iff_mem.1 hk)
                    have hvo : ∀ b, (b < base ∨ base + n ≤ b ∨ (base ≤ b ∧ (tb.headD ([], [], false)).2.1.contains (b - base) = true)) → vis b = true := by
                      intro b hb
                      rw [← hvis]
                      unfold visB stillFoot
                      simp only [Bool.and_true, Bool.or_eq_true]
                      right
                      rcases hb with hb | hb | hb
                      · left; left; exact Nat.ble_eq_true_of_le hb
                      · left; right; exact Nat.ble_eq_true_of_le hb
                      · right; exact hwl _ hb.2
                    obtain ⟨Y, hY⟩ := hrun (G.hide vis) rfl (hide_size G vis) (fun b hb => by
                      rcases Nat.lt_or_ge b G.size with h1 | h1
                      · rw [hide_get, if_pos h1, if_pos (hvo b (by rw [hn] at hb; exact hb))]
                      · rw [hide_get, if_neg (by omega), get_none (by omega)])
                    have hop : opA C (lim C) me ⟨dst, .call ⟨.value g, args, ts⟩, ty, pos, after, guard⟩ a (G.hide vis) (base + i) = some (some rv, Y) := by
                      simp only [opA, hev, hg]
                      unfold callX at hY
                      simp only at hY ⊢
                      rw [hY]; rfl
                    rw [hop]
                    simp only
                    rw [if_pos (by rfl)]
                    simp only [hok, if_true]
                    exact drawP_runs hn r _ (i + 1) _ _ _ G (by simp [hf]) (by simp [hfM]) (by omega) hs (hle' _ _ (hsame _)) hops' htb' (hpl' _ fun h => absurd h hp) h
                  · exact h.elim
                · exact h.elim
            · rw [hem] at h
              simp only [iteB_true] at h
              have hu : (tb.headD ([], [], false)).1 = [] := List.isEmpty_iff.1 hem
              rw [hu] at hrow
              obtain ⟨dst, op, ty, pos, after, guard⟩ := o
              unfold effO at h
              simp only at h
              split at h
              · rename_i c
                split at h
                · rename_i g hcal
                  rw [bindO_iff] at h
                  obtain ⟨l, hev, h⟩ := h
                  rw [bindO_iff] at h
                  obtain ⟨v, hg, h⟩ := h
                  obtain ⟨hk, h⟩ := h
                  obtain ⟨cal, args, ts⟩ := c
                  simp only at hcal hev
                  subst hcal
                  have hft : footA C me ⟨dst, .call ⟨.value g, args, ts⟩, ty, pos, after, guard⟩ a (base + i) = ⟨none, none, [], false, false⟩ := by
                    simp only [footA, hg, hev]
                    cases v <;> simp only [kind0] at hk <;> try (cases hk; done)
                    · rename_i f x y
                      cases f <;> simp only [Bool.and_eq_true] at hk <;> try (cases hk; done)
                      rename_i f
                      have h1 : (C.ext f).isSome = false := by
                        have := hk.1
                        cases hx : C.ext f <;> rw [hx] at this <;> simp_all
                      have h2 := Nat.eq_of_beq_eq_true hk.2
                      simp only [h1, h2, Bool.false_eq_true, if_false]
                    · rfl
                  rw [hft]
                  generalize hvis : visB base (base + n) (ws.getD i 0) (base + i) ⟨none, none, [], false, false⟩ = vis
                  have hvo : ∀ b, (b < base ∨ base + n ≤ b) → vis b = true := by
                    intro b hb
                    rw [← hvis]
                    unfold visB
                    simp only [Bool.and_true, Bool.or_eq_true]
                    right
                    rcases hb with hb | hb
                    · left; left; exact Nat.ble_eq_true_of_le hb
                    · left; right; exact Nat.ble_eq_true_of_le hb
                  obtain ⟨rv, Y, hY, hYs, hcont⟩ := h (G.hide vis) rfl (hide_size G vis) (fun b hb => by
                    rcases Nat.lt_or_ge b G.size with h1 | h1
                    · rw [hide_get, if_pos h1, if_pos (hvo b (by rw [hn] at hb; exact hb))]
                    · rw [hide_get, if_neg (by omega), get_none (by omega)])
                  have hop : opA C (lim C) me ⟨dst, .call ⟨.value g, args, ts⟩, ty, pos, after, guard⟩ a (G.hide vis) (base + i) = some (some rv, Y) := by
                    simp only [opA, hev, hg]
                    unfold callX at hY
                    cases v with
                    | fn f x y =>
                      cases f with
                      | func f =>
                        simp only at hY ⊢
                        rw [hY]; rfl
                      | _ => simp at hY
                    | yld b =>
                      simp only at hY ⊢
                      split at hY
                      · rename_i hr
                        simp only [Option.some.injEq, Prod.mk.injEq] at hY
                        obtain ⟨rfl, rfl⟩ := hY
                        rw [hr]
                      · cases hY
                    | _ => simp at hY
                  rw [hop]
                  simp only
                  rw [if_neg (by simp [Foot.idle]), Nat.ble_eq_true_of_le hYs, if_pos rfl]
                  simp only
                  have hok : ∀ gr : Bool, freeOf feet (ws.getD i 0) ⟨none, none, [], false, gr⟩ i = true := fun gr => free_of hrow hnp hpl rfl
                  rw [hok, if_pos rfl]
                  have hG' := hcont (G.merge vis Y) rfl (merge_size vis hYs) (fun b hb => by
                    rw [merge_get _ hYs]
                    rcases Nat.lt_or_ge b G.size with h1 | h1
                    · rw [if_pos h1, if_pos (hvo b (by rw [hn] at hb; exact hb))]
                    · rw [if_neg (by omega)]) (fun b h1 h2 => by
                    rw [merge_get _ hYs]
                    split
                    · split
                      · exact Or.inr rfl
                      · exact Or.inl rfl
                    · exact Or.inr rfl)
                  refine drawP_runs hn r _ (i + 1) _ _ _ _ (by simp [hf]) (by simp [hfM]) (by omega) (by rw [merge_size vis hYs]; omega) (hle' effFoot _ ?_) hops' htb' (hpl' _ fun h => absurd h hp) hG'
                  intro ft hft'
                  obtain ⟨r', w', f', p', g'⟩ := ft
                  unfold frOne effFoot clash at hft'
                  unfold frOne clash
                  simp only [Bool.not_eq_true', Bool.or_eq_false_iff, Bool.true_and] at hft' ⊢
                  obtain ⟨⟨⟨⟨⟨⟨q1, q2⟩, q3⟩, q4⟩, q5⟩, q6⟩, q7⟩ := hft'
                  exact ⟨⟨⟨⟨⟨⟨q1, q2⟩, q3⟩, q4⟩, q5⟩, by rw [q6, Bool.and_false]⟩, q7⟩
                · exact h.elim
              · exact h.elim
theorem wp_drawD {id : Nat} {ops : Array Oper} {a : AAct} {H : Heap} {K : Post} (tb : Tab) (hok : drawOk ops = true) (htb : tabOk ops.toList (waitsAll ops.toList) tb = true)
    (h : drawP C me ops H.size tb ops.toList 0 [] a ⟨H.objs ++ List.replicate ops.toList.length none, H.lock⟩ (setK C me H.size K)) : Wp C me rd (.region id ops true) a H K := by
  obtain ⟨r, h1, h2⟩ := drawP_runs (ops := ops.toList) (ws := waitsAll ops.toList) (n := ops.toList.length) rfl ops.toList tb 0 [] [] a _ rfl rfl (by omega) (by unfold Heap.size; simp) (fun _ _ h => h) (fun k => by rw [Nat.zero_add]) (fun k hk => by rw [Nat.zero_add] at hk ⊢; exact List.all_eq_true.1 htb k (List.mem_range.2 (by omega))) (fun k o hk => by omega) h
  have hreg : regionA C (lim C) me ops true a H = some r := by
    unfold regionA
    unfold drawOk at hok
    simp only [if_true]
    rw [if_pos hok]; exact h1
  unfold Wp
  simp only [codeA, hreg, Option.map_some, bindO_some]
  exact h2
/-! ### as equations -/
@[congr] theorem drawP_congr {arr : Array Oper} {base : Nat} {tb : Tab} {l : List Oper} {i i' : Nat} {feet feet' : List Foot} {a a' : AAct} {G G' : Heap} {K : PostS} (hi : i = i') (hf : feet = feet') (ha : a = a') (hG : G = G') : drawP C me arr base tb l i feet a G K = drawP C me arr base tb l i' feet' a' G' K := by rw [hi, hf, ha, hG]
section eqs
variable {arr : Array Oper} {base : Nat} {tb : Tab}
@[go_sem ↓] theorem drawP_nil (i : Nat) (feet : List Foot) (a : AAct) (G : Heap) (K : PostS) : drawP C me arr base tb [] i feet a G K = AtS K a G := by unfold drawP; rfl
def plainOp (op : Op) : Bool :=
  match op with
  | .move _ | .assign _ | .pick .. | .build .. | .nilCheck _ | .binOp .. | .unOp .. | .convert .. | .makeInterface .. | .makeFunc .. | .fieldAddr .. | .field .. | .indexAddr .. | .index .. | .extract .. => true
  | _ => false
theorem plainOp_eq (o : Oper) : plainO o = plainOp o.op := rfl
def footD (C : Cfg) (me : FuncId) (d : Option Tmp) (op : Op) (a : AAct) (slot : Nat) : Foot := footA C me (bareO d op) a slot
def contP (C : Cfg) (me : FuncId) (arr : Array Oper) (base : Nat) (tb : Tab) (r : List Oper) (i : Nat) (feet : List Foot) (d : Option Tmp) (a : AAct) (K : PostS) : PostO := fun v G => drawP C me arr base tb r i feet (a.put d v) G K
def contQ (C : Cfg) (me : FuncId) (arr : Array Oper) (base : Nat) (tb : Tab) (r : List Oper) (i : Nat) (feet : List Foot) (d : Option Tmp) (a : AAct) (G : Heap) (K : PostS) : PostO := fun v _ => drawP C me arr base tb r i feet (a.put d v) G K
@[go_sem ↓] theorem contP_some (r : List Oper) (i : Nat) (feet : List Foot) (d : Tmp) (s : Nat) (l : List (Tmp × AV)) (m : List Nat) (K : PostS) (v : AV) (G : Heap) : AtO (contP C me arr base tb r i feet (some d) ⟨s, l, m⟩ K) v G = drawP C me arr base tb r i feet ⟨s, putT s d v l, m⟩ G K := by
  unfold AtO contP; simp only [AAct.put, putT]; split <;> rfl
@[go_sem ↓] theorem contP_none (r : List Oper) (i : Nat) (feet : List Foot) (a : AAct) (K : PostS) (v : AV) (G : Heap) : AtO (contP C me arr base tb r i feet none a K) v G = drawP C me arr base tb r i feet a G K := rfl
@[go_sem ↓] theorem contQ_some (r : List Oper) (i : Nat) (feet : List Foot) (d : Tmp) (s : Nat) (l : List (Tmp × AV)) (m : List Nat) (G : Heap) (K : PostS) (v : AV) (G' : Heap) : AtO (contQ C me arr base tb r i feet (some d) ⟨s, l, m⟩ G K) v G' = drawP C me arr base tb r i feet ⟨s, putT s d v l, m⟩ G K := by
  unfold AtO contQ; simp only [AAct.put, putT]; split <;> rfl
def stepDP (C : Cfg) (me : FuncId) (arr : Array Oper) (base : Nat) (tb : Tab) (d : Option Tmp) (op : Op) (r : List Oper) (i : Nat) (feet : List Foot) (a : AAct) (G : Heap) (K : PostS) : Prop :=
  iteB (plainOp op) (WpO C me d op a G 0 (contQ C me arr base tb.tail r (i + 1) (feet ++ [noFoot]) d a G K))
    (iteB (locOp op) (iteB (okFootT base (tb.headD ([], [], false)).2.1 (footD C me d op a (base + i)) && freeT feet (tb.headD ([], [], false)).1 (footD C me d op a (base + i)))
        (WpO C me d op a G (base + i) (contP C me arr base tb.tail r (i + 1) (feet ++ [footD C me d op a (base + i)]) d a K)) False)
      (iteB (tb.headD ([], [], false)).2.2
        (iteB (tb.headD ([], [], false)).1.isEmpty (effO C me base (base + arr.toList.length) (bareO d op) a G (contP C me arr base tb.tail r (i + 1) (feet ++ [effFoot]) d a K)) (iteB (freeT feet (tb.headD ([], [], false)).1 stillFoot) (stillO C me base (base + arr.toList.length) (tb.headD ([], [], false)).2.1 (bareO d op) a G (contP C me arr base tb.tail r (i + 1) (feet ++ [stillFoot]) d a K)) False))
        (iteB (freeT feet (tb.headD ([], [], false)).1 (idleFoot C me (bareO d op) a (base + i)))
          (WpJ C me d op a { objs := [], lock := 0 } (contQ C me arr base tb.tail r (i + 1) (feet ++ [idleFoot C me (bareO d op) a (base + i)]) d a G K)) False)))
@[congr] theorem stepDP_congr {d : Option Tmp} {op : Op} {r : List Oper} {i i' : Nat} {feet feet' : List Foot} {a a' : AAct} {G G' : Heap} {K : PostS} (hi : i = i') (hf : feet = feet') (ha : a = a') (hG : G = G') : stepDP C me arr base tb d op r i feet a G K = stepDP C me arr base tb d op r i' feet' a' G' K := by rw [hi, hf, ha, hG]
theorem drawP_step (o : Oper) (r : List Oper) (i : Nat) (feet : List Foot) (a : AAct) (G : Heap) (K : PostS) :
    drawP C me arr base tb (o :: r) i feet a G K = bindO (wantedA arr a o) fun w => iteB w (stepDP C me arr base tb o.dst o.op r i feet a G K) (drawP C me arr base tb.tail r (i + 1) (feet ++ [noFoot]) (a.put o.dst undefA) G K) := by
  have e1 : ∀ s, footA C me o a s = footD C me o.dst o.op a s := fun s => rfl
  have e2 : ∀ s, idleFoot C me o a s = idleFoot C me (bareO o.dst o.op) a s := fun s => rfl
  conv => lhs; unfold drawP
  unfold stepDP
  rw [plainOp_eq, e1, e2]
  congr 1
  funext w
  cases w
  · rfl
  · simp only [iteB_true]
    cases hp : plainOp o.op
    · simp only [iteB_false]
      rfl
    · simp only [iteB_true]
      unfold WpO
      have := plain_slot (C := C) (me := me) (o := bareO o.dst o.op) hp a G (base + i) 0
      show bindO (opA C (lim C) me (bareO o.dst o.op) a G (base + i)) _ = bindO (opA C (lim C) me (bareO o.dst o.op) a G 0) _
      rw [this]; rfl
@[go_sem ↓] theorem drawP_op (d : Option Tmp) (op : Op) (ty : TypeId) (p : String) (af : Array Edge) (r : List Oper) (i : Nat) (feet : List Foot) (a : AAct) (G : Heap) (K : PostS) :
    drawP C me arr base tb (⟨d, op, ty, p, af, none⟩ :: r) i feet a G K = stepDP C me arr base tb d op r i feet a G K := by
  rw [drawP_step]; rfl
@[go_sem ↓] theorem stepDP_move (d : Option Tmp) (x) (r : List Oper) (i : Nat) (feet : List Foot) (a : AAct) (G : Heap) (K : PostS) : stepDP C me arr base tb d (.move x) r i feet a G K = WpO C me d (.move x) a G 0 (contQ C me arr base tb.tail r (i + 1) (feet ++ [noFoot]) d a G K) := rfl
@[go_sem ↓] theorem stepDP_assign (d : Option Tmp) (x) (r : List Oper) (i : Nat) (feet : List Foot) (a : AAct) (G : Heap) (K : PostS) : stepDP C me arr base tb d (.assign x) r i feet a G K = WpO C me d (.assign x) a G 0 (contQ C me arr base tb.tail r (i + 1) (feet ++ [noFoot]) d a G K) := rfl
@[go_sem ↓] theorem stepDP_binOp (d : Option Tmp) (o t x y z) (r : List Oper) (i : Nat) (feet : List Foot) (a : AAct) (G : Heap) (K : PostS) : stepDP C me arr base tb d (.binOp o t x y z) r i feet a G K = WpO C me d (.binOp o t x y z) a G 0 (contQ C me arr base tb.tail r (i + 1) (feet ++ [noFoot]) d a G K) := rfl
@[go_sem ↓] theorem stepDP_unOp (d : Option Tmp) (o t x) (r : List Oper) (i : Nat) (feet : List Foot) (a : AAct) (G : Heap) (K : PostS) : stepDP C me arr base tb d (.unOp o t x) r i feet a G K = WpO C me d (.unOp o t x) a G 0 (contQ C me arr base tb.tail r (i + 1) (feet ++ [noFoot]) d a G K) := rfl
@[go_sem ↓] theorem stepDP_fieldAddr (d : Option Tmp) (t x j) (r : List Oper) (i : Nat) (feet : List Foot) (a : AAct) (G : Heap) (K : PostS) : stepDP C me arr base tb d (.fieldAddr t x j) r i feet a G K = WpO C me d (.fieldAddr t x j) a G 0 (contQ C me arr base tb.tail r (i + 1) (feet ++ [noFoot]) d a G K) := rfl
@[go_sem ↓] theorem stepDP_indexAddr (d : Option Tmp) (t x y) (r : List Oper) (i : Nat) (feet : List Foot) (a : AAct) (G : Heap) (K : PostS) : stepDP C me arr base tb d (.indexAddr t x y) r i feet a G K = WpO C me d (.indexAddr t x y) a G 0 (contQ C me arr base tb.tail r (i + 1) (feet ++ [noFoot]) d a G K) := rfl
@[go_sem ↓] theorem stepDP_load (d : Option Tmp) (t x) (r : List Oper) (i : Nat) (feet : List Foot) (a : AAct) (G : Heap) (K : PostS) : stepDP C me arr base tb d (.load t x) r i feet a G K = bindO (nf (footD C me d (.load t x) a (base + i))) fun ft => iteB (okFootT base (tb.headD ([], [], false)).2.1 ft && freeT feet (tb.headD ([], [], false)).1 ft) (WpO C me d (.load t x) a G (base + i) (contP C me arr base tb.tail r (i + 1) (feet ++ [ft]) d a K)) False := rfl
@[go_sem ↓] theorem stepDP_store (d : Option Tmp) (t x y) (r : List Oper) (i : Nat) (feet : List Foot) (a : AAct) (G : Heap) (K : PostS) : stepDP C me arr base tb d (.store t x y) r i feet a G K = bindO (nf (footD C me d (.store t x y) a (base + i))) fun ft => iteB (okFootT base (tb.headD ([], [], false)).2.1 ft && freeT feet (tb.headD ([], [], false)).1 ft) (WpO C me d (.store t x y) a G (base + i) (contP C me arr base tb.tail r (i + 1) (feet ++ [ft]) d a K)) False := rfl
@[go_sem ↓] theorem stepDP_mapUpdate (d : Option Tmp) (t x y z) (r : List Oper) (i : Nat) (feet : List Foot) (a : AAct) (G : Heap) (K : PostS) : stepDP C me arr base tb d (.mapUpdate t x y z) r i feet a G K = bindO (nf (footD C me d (.mapUpdate t x y z) a (base + i))) fun ft => iteB (okFootT base (tb.headD ([], [], false)).2.1 ft && freeT feet (tb.headD ([], [], false)).1 ft) (WpO C me d (.mapUpdate t x y z) a G (base + i) (contP C me arr base tb.tail r (i + 1) (feet ++ [ft]) d a K)) False := rfl
@[go_sem ↓] theorem stepDP_lookup (d : Option Tmp) (t x y z) (r : List Oper) (i : Nat) (feet : List Foot) (a : AAct) (G : Heap) (K : PostS) : stepDP C me arr base tb d (.lookup t x y z) r i feet a G K = bindO (nf (footD C me d (.lookup t x y z) a (base + i))) fun ft => iteB (okFootT base (tb.headD ([], [], false)).2.1 ft && freeT feet (tb.headD ([], [], false)).1 ft) (WpO C me d (.lookup t x y z) a G (base + i) (contP C me arr base tb.tail r (i + 1) (feet ++ [ft]) d a K)) False := rfl
@[go_sem ↓] theorem stepDP_alloc (d : Option Tmp) (t) (r : List Oper) (i : Nat) (feet : List Foot) (a : AAct) (G : Heap) (K : PostS) : stepDP C me arr base tb d (.alloc t) r i feet a G K = bindO (nf (footD C me d (.alloc t) a (base + i))) fun ft => iteB (okFootT base (tb.headD ([], [], false)).2.1 ft && freeT feet (tb.headD ([], [], false)).1 ft) (WpO C me d (.alloc t) a G (base + i) (contP C me arr base tb.tail r (i + 1) (feet ++ [ft]) d a K)) False := rfl
@[go_sem ↓] theorem stepDP_buildSlice (d : Option Tmp) (t n x) (r : List Oper) (i : Nat) (feet : List Foot) (a : AAct) (G : Heap) (K : PostS) : stepDP C me arr base tb d (.buildSlice t n x) r i feet a G K = bindO (nf (footD C me d (.buildSlice t n x) a (base + i))) fun ft => iteB (okFootT base (tb.headD ([], [], false)).2.1 ft && freeT feet (tb.headD ([], [], false)).1 ft) (WpO C me d (.buildSlice t n x) a G (base + i) (contP C me arr base tb.tail r (i + 1) (feet ++ [ft]) d a K)) False := rfl
@[go_sem ↓] theorem stepDP_append (d : Option Tmp) (args ts) (r : List Oper) (i : Nat) (feet : List Foot) (a : AAct) (G : Heap) (K : PostS) : stepDP C me arr base tb d (.call ⟨.builtin .append, args, ts⟩) r i feet a G K = bindO (nf (footD C me d (.call ⟨.builtin .append, args, ts⟩) a (base + i))) fun ft => iteB (okFootT base (tb.headD ([], [], false)).2.1 ft && freeT feet (tb.headD ([], [], false)).1 ft) (WpO C me d (.call ⟨.builtin .append, args, ts⟩) a G (base + i) (contP C me arr base tb.tail r (i + 1) (feet ++ [ft]) d a K)) False := rfl
@[go_sem ↓] theorem stepDP_callv (d : Option Tmp) (g args ts) (r : List Oper) (i : Nat) (feet : List Foot) (a : AAct) (G : Heap) (K : PostS) : stepDP C me arr base tb d (.call ⟨.value g, args, ts⟩) r i feet a G K = iteB (tb.headD ([], [], false)).2.2 (iteB (tb.headD ([], [], false)).1.isEmpty (effO C me base (base + arr.toList.length) (bareO d (.call ⟨.value g, args, ts⟩)) a G (contP C me arr base tb.tail r (i + 1) (feet ++ [effFoot]) d a K)) (iteB (freeT feet (tb.headD ([], [], false)).1 stillFoot) (stillO C me base (base + arr.toList.length) (tb.headD ([], [], false)).2.1 (bareO d (.call ⟨.value g, args, ts⟩)) a G (contP C me arr base tb.tail r (i + 1) (feet ++ [stillFoot]) d a K)) False)) (bindO (nf (idleFoot C me (bareO d (.call ⟨.value g, args, ts⟩)) a (base + i))) fun ft => iteB (freeT feet (tb.headD ([], [], false)).1 ft) (WpJ C me d (.call ⟨.value g, args, ts⟩) a { objs := [], lock := 0 } (contQ C me arr base tb.tail r (i + 1) (feet ++ [ft]) d a G K)) False) := rfl
def objsE (o : Option AV) : List Nat := match o with | some v => objsOf v | none => []
@[go_sem] theorem objsE_some (v : AV) : objsE (some v) = objsOf v := rfl
@[go_sem] theorem objs_ptr (b v k : Nat) : objsOf (.ptr b v k) = [b] := rfl
@[go_sem] theorem objs_sl (b v o n : Nat) (c : Option Nat) : objsOf (.sl b v o n c) = [b] := rfl
@[go_sem] theorem objs_v (x : Value) : objsOf (.v x) = [] := rfl
@[go_sem] theorem objs_vs (s : Nat) (l : List AV) (c : Option Nat) : objsOf (.vs s l c) = [] := rfl
@[go_sem] theorem objs_ro (x : AV) (k : Nat) : objsOf (.ro x k) = [] := rfl
def objsL (a : AAct) : List Operand → List Nat
  | [] => []
  | x :: r => objsE (a.eval x) ++ objsL a r
theorem objsL_eq (a : AAct) : ∀ l : List Operand, l.flatMap (objsO a) = objsL a l
  | [] => rfl
  | x :: r => by rw [List.flatMap_cons, objsL_eq a r]; rfl
@[go_sem] theorem objsL_nil (a : AAct) : objsL a [] = [] := rfl
@[go_sem] theorem objsL_cons (a : AAct) (x : Operand) (r : List Operand) : objsL a (x :: r) = objsE (a.eval x) ++ objsL a r := rfl
def objs1 (a : AAct) (l : List Operand) : List Nat := match l with | [] => [] | x :: _ => objsE (a.eval x)
@[go_sem] theorem objs1_cons (a : AAct) (x : Operand) (r : List Operand) : objs1 a (x :: r) = objsE (a.eval x) := rfl
@[go_sem] theorem footD_load (d : Option Tmp) (t x) (a : AAct) (s : Nat) : footD C me d (.load t x) a s = ⟨some (objsE (a.eval x)), some [], [], false, false⟩ := rfl
@[go_sem] theorem footD_store (d : Option Tmp) (t x y) (a : AAct) (s : Nat) : footD C me d (.store t x y) a s = ⟨some (objsE (a.eval x)), some (objsE (a.eval x)), [], false, false⟩ := rfl
@[go_sem] theorem footD_mapUpdate (d : Option Tmp) (t x y z) (a : AAct) (s : Nat) : footD C me d (.mapUpdate t x y z) a s = ⟨some (objsE (a.eval x)), some (objsE (a.eval x)), [], false, false⟩ := rfl
@[go_sem] theorem footD_lookup (d : Option Tmp) (t x y z) (a : AAct) (s : Nat) : footD C me d (.lookup t x y z) a s = ⟨some (objsE (a.eval x)), some [], [], false, false⟩ := rfl
@[go_sem] theorem footD_alloc (d : Option Tmp) (t) (a : AAct) (s : Nat) : footD C me d (.alloc t) a s = ⟨some [], some [], [s], false, false⟩ := rfl
@[go_sem] theorem footD_build (d : Option Tmp) (t n x) (a : AAct) (s : Nat) : footD C me d (.buildSlice t n x) a s = ⟨some [], some [], [s], false, false⟩ := rfl
@[go_sem] theorem footD_append (d : Option Tmp) (args ts) (a : AAct) (s : Nat) : footD C me d (.call ⟨.builtin .append, args, ts⟩) a s = ⟨some (objsL a args.toList), some (objs1 a args.toList), [s], false, false⟩ := by
  unfold footD footA bareO; simp only
  rw [objsL_eq]
  cases args.toList <;> rfl
@[go_sem] theorem idleFoot_call (d : Option Tmp) (g args ts) (a : AAct) (s : Nat) : idleFoot C me (bareO d (.call ⟨.value g, args, ts⟩)) a s = ⟨some [], some [], [], false, false⟩ := rfl
@[go_sem] theorem okFootT_mk (b : Nat) (w l : List Nat) (x : Option (List Nat)) (f : List Nat) (p g : Bool) : okFootT b w ⟨some l, x, f, p, g⟩ = l.all fun c => ltB c b || w.any fun k => c == b + k := rfl
@[go_sem] theorem freeT_nil (feet : List Foot) (ft : Foot) : freeT feet [] ft = true := rfl
@[go_sem] theorem freeT_cons (feet : List Foot) (k : Nat) (u : List Nat) (ft : Foot) : freeT feet (k :: u) ft = (frOne (feet[k]?) ft && freeT feet u ft) := rfl
def meetL (l : List Nat) (m : List Nat) : Bool := l.any fun x => m.any fun y => x == y
@[go_sem] theorem meetL_nil (m : List Nat) : meetL [] m = false := rfl
@[go_sem] theorem meetL_nilr (l : List Nat) : meetL l [] = false := by unfold meetL; induction l <;> simp_all
theorem meet_L : ∀ l m : List Nat, meet (some l) (some m) = meetL l m
  | [], _ => rfl
  | x :: l, [] => by rw [meetL_nilr]; rfl
  | x :: l, y :: m => by
    show ((x :: l).any (y :: m).contains) = _
    unfold meetL
    congr 1
    funext z
    exact List.contains_eq_any_beq
@[go_sem] theorem frOne_mk (r w f : List Nat) (p : Bool) (r' w' f' : List Nat) (p' : Bool) : frOne (some ⟨some r, some w, f, p, false⟩) ⟨some r', some w', f', p', false⟩ = !(meetL w r' || meetL w w' || meetL r w' || meetL f r' || meetL f w') := by
  unfold frOne clash
  simp only [meet_L, Bool.false_and, Bool.or_false]
@[go_sem] theorem meetL_one (x y : Nat) : meetL [x] [y] = (x == y) := by simp [meetL]
@[go_sem] theorem ltB_zero (n : Nat) : ltB 0 (n + 1) = true := by simp [ltB]
@[go_sem] theorem ltB_succ (a n : Nat) : ltB (a + 1) (n + 1) = ltB a n := by simp [ltB]
@[go_sem] theorem tail_tab (x : List Nat × List Nat × Bool) (tb : Tab) : (x :: tb).tail = tb := rfl
@[congr] theorem stillV_congr {top : Nat} {vl : List Nat} {d : Option Tmp} {v v' : AV} {l l' : List AV} {G G' : Heap} {cont : AV → Heap → Prop} (hv : v = v') (hl : l = l') (hG : G = G') : stillV C me base top vl d v l G cont = stillV C me base top vl d v' l' G' cont := by rw [hv, hl, hG]
@[congr] theorem effV_congr {top : Nat} {d : Option Tmp} {v v' : AV} {l l' : List AV} {G G' : Heap} {cont : AV → Heap → Prop} (hv : v = v') (hl : l = l') (hG : G = G') : effV C me base top d v l G cont = effV C me base top d v' l' G' cont := by rw [hv, hl, hG]
end eqs
end
end Go.Ev
/- Appending; memory that is not known, with a list behind it that is. -/
namespace Go.Ev
section
variable {P : Program}
/-- n elements more -/
def appTo (e sz by' : Nat) (H : Heap) (slot n : Nat) (new : List AV) (s : AV) : Option (AV × Heap) :=
  match s with
  | .v (.slice none 0 0) => if n = 0 then some (s, H) else (if fitsA by' n && ([] : List AV).all AV.flat then some (.sl slot 0 0 n none, H.put slot (.cells 0 (Nat.max (boundL []) (boundL new)) e sz true ([] ++ new))) else none)
  | .vs z xs cap =>
    if z ≠ sz then none else
    if n = 0 then some (s, H) else
    match cap with
    | some c => if c = xs.length then (if fitsA by' (xs.length + n) && (xs.flatMap AV.cells).all AV.flat then some (.sl slot 0 0 (xs.length + n) none, H.put slot (.cells 0 (Nat.max (boundL (xs.flatMap AV.cells)) (boundL new)) e sz true (xs.flatMap AV.cells ++ new))) else none) else none
    | none => none
  | .sl b v off len cap =>
    if n = 0 then some (s, H) else
    match H.row b v with
    | some (m, _, z, g, cs) =>
      match cap with
      | some c =>
        if len + n ≤ c then
          (match storeCells H b v (off + len * sz) new with | some H' => some (.sl b v off (len + n) cap, H') | none => none)
        else if off + len * sz ≤ cs.length then (if fitsA by' (len + n) && ((cs.drop off).take (len * sz)).all AV.flat then some (.sl slot 0 0 (len + n) none, H.put slot (.cells 0 (Nat.max (boundL ((cs.drop off).take (len * sz))) (boundL new)) e sz true ((cs.drop off).take (len * sz) ++ new))) else none) else none
      | none =>
        if z ≠ sz then none else
        if off + (len + n) * sz ≤ cs.length then
          (match storeCells H b v (off + len * sz) new with | some H' => some (.sl b v off (len + n) cap, H') | none => none)
        else if g = true ∧ off + len * sz = cs.length ∧ H.lock ≤ b ∧ fitsA by' (len + n) = true then
          some (.sl b (v + 1) 0 (len + n) none, H.put b (.cells (v + 1) (Nat.max m (boundL new)) e sz true (cs.drop off ++ new)))
        else none
    | _ => none
  | _ => none
theorem appTo_eq (e : TypeId) (i : TypeInfo) (H : Heap) (slot n : Nat) (new : List AV) (s : AV) : appendTo H slot e i n new s = appTo e i.size i.bytes H slot n new s := by
  unfold appendTo appTo madeA
  rfl
def appG (e sz by' : Nat) (H : Heap) (slot : Nat) (s : AV) (c : Option (Nat × List AV)) : Option (AV × Heap) :=
  match c with
  | none => none
  | some (n, new) => if new.all AV.flat = false then none else appTo e sz by' H slot n new s
theorem app_eq {t u e : TypeId} {i : TypeInfo} {z : AV} (hi : isIntT P u = false) (hu : P.underlying t = some (.slice e)) (hinf : P.info? e = some i) (hz : zeroT P e = some z) (h1 : i.size ≠ 0) (h2 : i.bytes ≠ 0) (h3 : z.cells.length = i.size) (H : Heap) (slot : Nat) (s x : AV) :
    appendA P H slot [t, u] [s, x] = appG e i.size i.bytes H slot s (cellsFrom H i.size x) := by
  unfold appendA appG
  simp only [hi, hu, hinf, hz, Bool.false_eq_true, if_false]
  cases cellsFrom H i.size x with
  | none => rfl
  | some p =>
    simp only
    by_cases hf : p.2.all AV.flat = false
    · rw [if_pos (Or.inr (Or.inr (Or.inl hf))), if_pos hf]
    · rw [if_neg (by rintro (h | h | h | h); exact h1 h; exact h2 h; exact hf h; exact h h3), if_neg hf, appTo_eq]
theorem app_eq2 {t u e sz by' : Nat} (hi : isIntT P u = false) (hu : P.underlying t = some (.slice e)) (hinf : (P.info? e).map (fun i => (i.size, i.bytes)) = some (sz, by')) (hz : (zeroT P e).map (fun z => z.cells.length) = some sz) (h1 : sz ≠ 0) (h2 : by' ≠ 0) (H : Heap) (slot : Nat) (s x : AV) :
    appendA P H slot [t, u] [s, x] = appG e sz by' H slot s (cellsFrom H sz x) := by
  obtain ⟨i, hi1, hi2⟩ := Option.map_eq_some_iff.1 hinf
  obtain ⟨z, hz1, hz2⟩ := Option.map_eq_some_iff.1 hz
  simp only [Prod.mk.injEq] at hi2
  obtain ⟨rfl, rfl⟩ := hi2
  exact app_eq hi hu hi1 hz1 h1 h2 hz2 H slot s x
end
@[go_sem] theorem appG_some (e sz b : Nat) (H : Heap) (slot : Nat) (s : AV) (n : Nat) (new : List AV) : appG e sz b H slot s (some (n, new)) = if new.all AV.flat = false then none else appTo e sz b H slot n new s := rfl
@[go_sem] theorem cells_vs' (H : Heap) (sz z : Nat) (xs : List AV) (c : Option Nat) : cellsFrom H sz (.vs z xs c) = if z = sz then some (xs.length, xs.flatMap AV.cells) else none := rfl
def rowCells (off len sz : Nat) (r : Option (Nat × TypeId × Nat × Bool × List AV)) : Option (Nat × List AV) := match r with | some (_, _, _, _, cs) => if off + len * sz ≤ cs.length then some (len, (cs.drop off).take (len * sz)) else none | _ => none
@[go_sem] theorem cells_sl' (H : Heap) (sz b v off len : Nat) (c : Option Nat) : cellsFrom H sz (.sl b v off len c) = rowCells off len sz (H.row b v) := rfl
@[go_sem] theorem rowCells_some (off len sz m e z : Nat) (g : Bool) (cs : List AV) : rowCells off len sz (some (m, e, z, g, cs)) = if off + len * sz ≤ cs.length then some (len, (cs.drop off).take (len * sz)) else none := rfl
/-- to nothing: a row of its own -/
@[go_sem] theorem appTo_nil (e sz b : Nat) (H : Heap) (slot n : Nat) (new : List AV) : appTo e sz b H slot n new (.v (.slice none 0 0)) = if n = 0 then some (.v (.slice none 0 0), H) else if fitsA b n = true then some (.sl slot 0 0 n none, H.put slot (.cells 0 (boundL new) e sz true new)) else none := by
  unfold appTo
  simp only [List.all_nil, Bool.and_true, List.nil_append]
  rw [show Nat.max (boundL []) (boundL new) = boundL new from Nat.zero_max (boundL new)]
theorem appTo_own {e sz b' : Nat} {H : Heap} {slot b v len n : Nat} {new : List AV} {m e' : Nat} {cs : List AV} (hr : H.row b v = some (m, e', sz, true, cs)) (hl : len * sz = cs.length) (hk : H.lock ≤ b) (hf : fitsA b' (len + n) = true) (hn : 0 < n) (hs : 0 < sz) :
    appTo e sz b' H slot n new (.sl b v 0 len none) = some (.sl b (v + 1) 0 (len + n) none, H.put b (.cells (v + 1) (Nat.max m (boundL new)) e sz true (cs ++ new))) := by
  unfold appTo
  simp only [hr]
  rw [if_neg (by omega), if_neg (by simp), if_neg, if_pos ⟨trivial, by simpa using hl, hk, hf⟩]
  · rfl
  · have : (len + n) * sz = len * sz + n * sz := Nat.add_mul ..
    have h2 : 0 < n * sz := Nat.mul_pos hn hs
    omega
/-! ### memory that is not known, with a list behind it -/
@[go_sem] theorem plus_mk (l : List (Option AObj)) (k : Nat) (E : List (Option AObj)) : (Heap.mk l k).plus E = ⟨l ++ E, k⟩ := rfl
@[go_sem] theorem plus_plus' (X : Heap) (E F : List (Option AObj)) : (X.plus E).plus F = X.plus (E ++ F) := plus_plus X E F
section
variable {X : Heap} {N : Nat}
theorem rowP (hN : X.size = N) (E : List (Option AObj)) (k v : Nat) : (X.plus E).row (N + k) v = objRow v ((E[k]?).join) := by
  subst hN
  unfold Heap.row objRow
  rw [plus_get_hi _ (by omega), Nat.add_sub_cancel_left]
  cases (E[k]?).join with
  | none => rfl
  | some o => cases o <;> rfl
theorem rowP0 (hN : X.size = N) (E : List (Option AObj)) (v : Nat) : (X.plus E).row N v = objRow v ((E[0]?).join) := rowP hN E 0 v
theorem putP (hN : X.size = N) (E : List (Option AObj)) (k : Nat) (o : AObj) : (X.plus E).put (N + k) o = X.plus (setOrPush (some o) k E) := by
  subst hN
  rw [plus_put_hi _ _ (by omega), Nat.add_sub_cancel_left]
theorem putP0 (hN : X.size = N) (E : List (Option AObj)) (o : AObj) : (X.plus E).put N o = X.plus (setOrPush (some o) 0 E) := putP hN E 0 o
def stP (X : Heap) (E : List (Option AObj)) (k v off : Nat) (xs : List AV) (o : Option AObj) : Option Heap :=
  match o with
  | some (.cells w m e sz g cs) => if w = v ∧ off + xs.length ≤ cs.length ∧ xs.all AV.flat = true then some (X.plus (setOrPush (some (.cells w (Nat.max m (boundL xs)) e sz g (splice off xs cs))) k E)) else none
  | _ => none
@[go_sem] theorem stP_cells (X : Heap) (E : List (Option AObj)) (k v off : Nat) (xs : List AV) (w m e sz g) (cs : List AV) : stP X E k v off xs (some (.cells w m e sz g cs)) = if w = v ∧ off + xs.length ≤ cs.length ∧ xs.all AV.flat = true then some (X.plus (setOrPush (some (.cells w (Nat.max m (boundL xs)) e sz g (splice off xs cs))) k E)) else none := rfl
theorem storeP (hN : X.size = N) (hl : X.lock ≤ N) (E : List (Option AObj)) (k v off : Nat) (xs : List AV) : storeCells (X.plus E) (N + k) v off xs = stP X E k v off xs ((E[k]?).join) := by
  unfold storeCells
  rw [rowP hN]
  unfold objRow stP
  have hk : (X.plus E).lock ≤ N + k := by rw [plus_lock]; omega
  cases (E[k]?).join with
  | none => rfl
  | some o =>
    cases o with
    | cells w m e sz g cs =>
      simp only
      by_cases hw : w = v
      · subst hw
        simp only [if_true, true_and, hk, putP hN]
      · simp only [hw, if_false, false_and]
    | _ => rfl
theorem storeP0 (hN : X.size = N) (hl : X.lock ≤ N) (E : List (Option AObj)) (v off : Nat) (xs : List AV) : storeCells (X.plus E) N v off xs = stP X E 0 v off xs ((E[0]?).join) := storeP hN hl E 0 v off xs
theorem sizeP (hN : X.size = N) (E : List (Option AObj)) : (X.plus E).size = N + E.length := by rw [plus_size, hN]
theorem settleP (hN : X.size = N) (E : List (Option AObj)) (k : Nat) : settleH (N + k) (X.plus E) = if (E.drop k).all Option.isNone = true then X.plus (E.take k) else X.plus E := by
  subst hN
  unfold settleH Heap.plus Heap.size
  simp only
  rw [List.drop_append, List.drop_of_length_le (by omega), List.nil_append, Nat.add_sub_cancel_left]
  by_cases h : (E.drop k).all Option.isNone = true
  · rw [if_pos h, if_pos h, List.take_append, List.take_of_length_le (by omega), Nat.add_sub_cancel_left]
  · rw [if_neg h, if_neg h]
theorem settleP0 (hN : X.size = N) (E : List (Option AObj)) : settleH N (X.plus E) = if (E.drop 0).all Option.isNone = true then X.plus (E.take 0) else X.plus E := settleP hN E 0
theorem rowLo {b : Nat} (hb : b < X.size) (E : List (Option AObj)) (v : Nat) : (X.plus E).row b v = X.row b v := plus_row E hb
theorem putLo {b : Nat} (hb : b < X.size) (E : List (Option AObj)) (o : AObj) : (X.plus E).put b o = (X.put b o).plus E := plus_put E o hb
end
section
variable {C : Cfg} {me : FuncId} {rd : Option Nat}
theorem wp_drawX {id : Nat} {ops : Array Oper} {a : AAct} {H : Heap} {K : Post} (tb : Tab) (hok : drawOk ops = true) (htb : tabOk ops.toList (waitsAll ops.toList) tb = true)
    (h : drawP C me ops H.size tb ops.toList 0 [] a (H.plus (List.replicate ops.toList.length none)) (setK C me H.size K)) : Wp C me rd (.region id ops true) a H K := wp_drawD tb hok htb h
end
end Go.Ev
/- The same, of memory that begins with a list that is known, with places that stay behind it. -/
namespace Go.Ev
def HasE (rows : Fm) (E : List (Option AObj)) : Prop := ∀ p ∈ rows, E[p.1]? = some (some p.2)
structure MovesE (rows : Fm) (E : List (Option AObj)) (rows' : Fm) (E' : List (Option AObj)) : Prop where
  size : E.length ≤ E'.length
  same : ∀ j, j < E.length → ¬ keyIn j rows → E'[j]? = E[j]?
  keys : ∀ p ∈ rows', keyIn p.1 rows ∨ E.length ≤ p.1
theorem MovesE.refl (rows : Fm) (E : List (Option AObj)) : MovesE rows E rows E := ⟨Nat.le_refl _, fun _ _ _ => rfl, fun p hp => Or.inl ⟨p, hp, rfl⟩⟩
theorem MovesE.append (rows : Fm) (E G : List (Option AObj)) : MovesE rows E rows (E ++ G) := ⟨by simp, fun j hj _ => List.getElem?_append_left hj, fun p hp => Or.inl ⟨p, hp, rfl⟩⟩
theorem HasE.append {rows : Fm} {E : List (Option AObj)} (h : HasE rows E) (G : List (Option AObj)) : HasE rows (E ++ G) := fun p hp => by
  rw [List.getElem?_append_left (List.getElem?_eq_some_iff.1 (h p hp)).1]; exact h p hp
section
variable {C : Cfg} {me : FuncId} {S : Type}
end
end Go.Ev
/- What the rules for weakest preconditions take besides: plain lists, tests, numbers. -/
namespace Go.Ev
theorem ltB_n0 (a : Nat) : ltB a 0 = false := by simp [ltB]
attribute [go_sem] ltB_n0 List.any_cons List.any_nil repeatCells splice chunk bsFin ne_eq not_true_eq_false not_false_eq_true List.headD_cons Bool.false_eq_true Nat.le_refl Nat.zero_mul Nat.one_mul Nat.mul_one assoc_setI decide_true decide_false Bool.not_true Bool.not_false List.mem_cons List.not_mem_nil true_or or_true false_or or_false and_true true_and and_self List.getElem?_cons_succ List.getElem?_cons_zero Option.bind_some Option.map_some Option.map_none List.map_cons List.map_nil List.length_cons List.length_nil List.filterMap_cons List.filterMap_nil List.cons_append List.nil_append List.append_nil Nat.zero_add Nat.add_zero List.take_succ_cons List.take_zero List.take_nil List.drop_succ_cons List.drop_zero List.drop_nil List.all_cons List.all_nil Bool.and_true Bool.true_and Bool.false_and Bool.and_false Bool.or_true Bool.true_or Bool.or_false Bool.false_or beq_iff_eq beq_self_eq_true List.zip_cons_cons List.zip_nil_right List.zip_nil_left
end Go.Ev
namespace Go.Ev
open Go.Proofs
set_option maxRecDepth 100000
set_option linter.unusedSimpArgs false
/-! ### isIndex, lineOf -/
theorem ans65 {e : Exts} (he : Quiet e) (a : Int) (n : Nat) (hn : n < 2 ^ 63) : Ans (Cx e) 71 [intA a, intA n] (.v (.bool (decide (0 ≤ a ∧ a < n)))) := by
  have hw : IntKind.i64.wrap ((n : Int) - 1) = (n : Int) - 1 := wrap_in _ (by omega) (by omega)
  have hc := call69 he 0 ((n : Int) - 1) [a] (by simp) (.vs 1 [.v (.int .i64 a)] (some 1)) (Or.inr ⟨_, rfl⟩)
  rw [within_len] at hc
  unfold intA at hc
  unfold Ans
  rw [fn_step (fn_71 e) (show Try.f71.body = some _ from rfl)]
  simp -implicitDefEqProofs only [Try.f71, go_sem, ↓reduceIte, Int.reduceEq, Int.reduceLT, Int.reduceLE, List.reduceReplicate, intA, setT_nil, setT_cons, hw, hc]
theorem call65 {e : Exts} (he : Quiet e) (a : Int) (n : Nat) (hn : n < 2 ^ 63) (me : FuncId) (d : Option Tmp) (H : Heap) : callA (Cx e) (lim (Cx e)) me 71 d [.v (.int .i64 a), .v (.int .i64 n)] H = some (.v (.bool (decide (0 ≤ a ∧ a < n))), H) :=
  (ans65 he a n hn).call (ext_71 he) (pure_71 _ _ _) rfl H
theorem callI65 {e : Exts} (he : Quiet e) (a : Int) (n : Nat) (hn : n < 2 ^ 63) (me : FuncId) (d : Option Tmp) : callI (Cx e) me 71 d [.v (.int .i64 a), .v (.int .i64 n)] = some (.v (.bool (decide (0 ≤ a ∧ a < n)))) :=
  (ans65 he a n hn).callI (ext_71 he) (pure_71 _ _ _) rfl
set_option maxHeartbeats 2000000 in
theorem ans45 {e : Exts} (he : Quiet e) (t : Txt) (ht : Fits t) (ch : AV) (xs : List AV) (hch : SlOf 2 xs ch) (hall : All2 ChapA t xs) (a b c : Int) : ∃ x, LineO (lineAt t a b) x ∧ Ans (Cx e) 45 [.agg [ch], .agg [intA a, intA b, intA c]] x := by
  have hc1 := call65 he a t.length ht.chs
  by_cases h1 : 0 ≤ a ∧ a < t.length
  · obtain ⟨i, rfl⟩ : ∃ i : Nat, a = i := ⟨a.toNat, by omega⟩
    obtain ⟨cp, hs⟩ := at_lt t i (by omega)
    obtain ⟨y, hy, l, rfl, lxs, hl, hls⟩ := hall.get hs
    have hm := List.mem_of_getElem? hs
    have hc2 := call65 he b cp.2.length (ht.lines cp hm)
    rw [decide_eq_true h1] at hc1
    by_cases h2 : 0 ≤ b ∧ b < cp.2.length
    · obtain ⟨j, rfl⟩ : ∃ j : Nat, b = j := ⟨b.toNat, by omega⟩
      obtain ⟨ln, hn⟩ := at_lt cp.2 j (by omega)
      obtain ⟨lx, hx, hlx⟩ := hls.get hn
      have hlx : SlOf 1 (strs ln) lx := hlx
      rw [decide_eq_true h2] at hc2
      have hL : lineAt t i j = some ln := by unfold lineAt; rw [if_pos (by omega)]; simp [hs, hn]
      rw [hL]
      refine ⟨lx, hlx, ?_⟩
      unfold Ans
      rw [fn_step (fn_45 e) (show Try.f45.body = some _ from rfl)]
      simp -implicitDefEqProofs only [Try.f45, go_sem, ↓reduceIte, Int.reduceEq, Int.reduceLT, Int.reduceLE, List.reduceReplicate, intA, setT_nil, setT_cons, hch.cells, hch.flat, hch.bound, hch.len, ← hall.1, hc1, hch.idx hy, hl.len, hl.cells, ← hls.1, hc2, hl.idx hx, hlx.cells]
      rcases hlx with ⟨rfl, -⟩ | ⟨cap, rfl⟩ <;> rfl
    · rw [decide_eq_false h2] at hc2
      have hL : lineAt t i b = none := by
        unfold lineAt
        split
        · simp only [Int.toNat_natCast, hs, Option.bind_some]
          rw [List.getElem?_eq_none_iff]; omega
        · rfl
      rw [hL]
      refine ⟨_, rfl, ?_⟩
      unfold Ans
      rw [fn_step (fn_45 e) (show Try.f45.body = some _ from rfl)]
      simp -implicitDefEqProofs only [Try.f45, go_sem, ↓reduceIte, Int.reduceEq, Int.reduceLT, Int.reduceLE, List.reduceReplicate, intA, setT_nil, setT_cons, hch.cells, hch.flat, hch.bound, hch.len, ← hall.1, hc1, hch.idx hy, hl.len, hl.cells, ← hls.1, hc2]
  · rw [decide_eq_false h1] at hc1
    have hL : lineAt t a b = none := by
      unfold lineAt
      split
      · have : t[a.toNat]? = none := by rw [List.getElem?_eq_none_iff]; omega
        rw [this]; rfl
      · rfl
    rw [hL]
    refine ⟨_, rfl, ?_⟩
    unfold Ans
    rw [fn_step (fn_45 e) (show Try.f45.body = some _ from rfl)]
    simp -implicitDefEqProofs only [Try.f45, go_sem, ↓reduceIte, Int.reduceEq, Int.reduceLT, Int.reduceLE, List.reduceReplicate, intA, setT_nil, setT_cons, hch.cells, hch.flat, hch.bound, hch.len, ← hall.1, hc1]
theorem LineO.bound {o : Option Line} {x : AV} (h : LineO o x) : bound x = 0 := by
  cases o with
  | none => simp only [LineO] at h; subst h; rfl
  | some l => exact SlOf.bound h
theorem call45 {e : Exts} (he : Quiet e) (t : Txt) (ht : Fits t) (ch : AV) (xs : List AV) (hch : SlOf 2 xs ch) (hall : All2 ChapA t xs) (a b c : Int) : ∃ x, LineO (lineAt t a b) x ∧ (∀ (me : FuncId) (d : Option Tmp) (H : Heap), callA (Cx e) (lim (Cx e)) me 45 d [.agg [ch], .agg [.v (.int .i64 a), .v (.int .i64 b), .v (.int .i64 c)]] H = some (x, H)) ∧ ∀ (me : FuncId) (d : Option Tmp), callI (Cx e) me 45 d [.agg [ch], .agg [.v (.int .i64 a), .v (.int .i64 b), .v (.int .i64 c)]] = some x := by
  obtain ⟨x, hx, h⟩ := ans45 he t ht ch xs hch hall a b c
  exact ⟨x, hx, fun me d H => h.call (ext_45 he) (pure_45 _ _ _) (by simp only [boundL_cons, bound_agg, hch.bound, boundL_nil, intA, bound_v]; rfl) H, fun me d => h.callI (ext_45 he) (pure_45 _ _ _) (by simp only [boundL_cons, bound_agg, hch.bound, boundL_nil, intA, bound_v]; rfl)⟩
end Go.Ev
namespace Go.Ev
open Go.Proofs
set_option maxRecDepth 100000
set_option linter.unusedSimpArgs false
/-! ### hasPlace, comparePlaces -/
set_option maxHeartbeats 2000000 in
theorem ans44 {e : Exts} (he : Quiet e) (t : Txt) (ht : Fits t) (ch : AV) (xs : List AV) (hch : SlOf 2 xs ch) (hall : All2 ChapA t xs) (a b c : Int) : Ans (Cx e) 44 [.agg [ch], .agg [intA a, intA b, intA c]] (.v (.bool (placeB' t a b c))) := by
  obtain ⟨x, hx, -, hc⟩ := call45 he t ht ch xs hch hall a b c
  unfold placeB' Ans
  rw [fn_step (fn_44 e) (show Try.f44.body = some _ from rfl)]
  cases hL : lineAt t a b with
  | none =>
    rw [hL] at hx
    simp only [LineO] at hx
    subst hx
    have h65 := callI65 he c 0 (by omega)
    rw [decide_eq_false (by omega)] at h65
    simp -implicitDefEqProofs only [Try.f44, go_sem, ↓reduceIte, Int.reduceEq, Int.reduceLT, Int.reduceLE, List.reduceReplicate, intA, setT_nil, setT_cons, hch.cells, hch.flat, hch.bound]
    refine wp_draw (by kernel_rfl) ?_
    simp -implicitDefEqProofs only [go_sem, ↓reduceIte, Int.reduceEq, Int.reduceLT, Int.reduceLE, List.reduceReplicate, intA, setT_nil, setT_cons, hch.cells, hch.flat, hch.bound, hc]
    show bindO (callI (Cx e) 44 71 (some 11) [.v (.int .i64 c), .v (.int .i64 0)]) _
    rw [show ((0 : Nat) : Int) = 0 from rfl] at h65
    rw [h65]; rfl
  | some l =>
    rw [hL] at hx
    have hx : SlOf 1 (strs l) x := hx
    obtain ⟨cp, hcm, hlm⟩ := lineAt_mem hL
    have h65 := callI65 he c l.length (ht.words cp hcm l hlm)
    simp -implicitDefEqProofs only [Try.f44, go_sem, ↓reduceIte, Int.reduceEq, Int.reduceLT, Int.reduceLE, List.reduceReplicate, intA, setT_nil, setT_cons, hch.cells, hch.flat, hch.bound]
    refine wp_draw (by kernel_rfl) ?_
    simp -implicitDefEqProofs only [go_sem, ↓reduceIte, Int.reduceEq, Int.reduceLT, Int.reduceLE, List.reduceReplicate, intA, setT_nil, setT_cons, hch.cells, hch.flat, hch.bound, hc, hx.len, hx.lenI, strs_len, h65]
theorem call44 {e : Exts} (he : Quiet e) (t : Txt) (ht : Fits t) (ch : AV) (xs : List AV) (hch : SlOf 2 xs ch) (hall : All2 ChapA t xs) (a b c : Int) (me : FuncId) (d : Option Tmp) (H : Heap) : callA (Cx e) (lim (Cx e)) me 44 d [.agg [ch], .agg [.v (.int .i64 a), .v (.int .i64 b), .v (.int .i64 c)]] H = some (.v (.bool (placeB' t a b c)), H) :=
  (ans44 he t ht ch xs hch hall a b c).call (ext_44 he) (pure_44 _ _ _) (by simp only [boundL_cons, bound_agg, hch.bound, boundL_nil, intA, bound_v]; rfl) H
/-- which one is first -/
def cmpI (a b : Int) : Int := if a < b then -1 else if b < a then 1 else 0
theorem ans119 {e : Exts} (a : Int) : Ans (Cx e) 129 [intA a] (.v (.bool false)) := by
  unfold Ans
  rw [fn_step (fn_129 e) (show Try.f129.body = some _ from rfl)]
  simp -implicitDefEqProofs only [Try.f129, go_sem, ↓reduceIte, Int.reduceEq, Int.reduceLT, Int.reduceLE, List.reduceReplicate, intA, setT_nil, setT_cons]
theorem call119 {e : Exts} (he : Quiet e) (a : Int) (me : FuncId) (d : Option Tmp) (H : Heap) : callA (Cx e) (lim (Cx e)) me 129 d [.v (.int .i64 a)] H = some (.v (.bool false), H) :=
  (ans119 a).call (ext_129 he) (pure_129 _ _ _) rfl H
theorem ans99 {e : Exts} (he : Quiet e) (a b : Int) : Ans (Cx e) 107 [intA a, intA b] (intA (cmpI a b)) := by
  unfold Ans cmpI
  rw [fn_step (fn_107 e) (show Try.f107.body = some _ from rfl)]
  by_cases h1 : a < b
  · simp -implicitDefEqProofs only [Try.f107, go_sem, ↓reduceIte, Int.reduceEq, Int.reduceLT, Int.reduceLE, List.reduceReplicate, intA, setT_nil, setT_cons, call119 he, h1]
  · by_cases h2 : b < a
    · simp -implicitDefEqProofs only [Try.f107, go_sem, ↓reduceIte, Int.reduceEq, Int.reduceLT, Int.reduceLE, List.reduceReplicate, intA, setT_nil, setT_cons, call119 he, h1, h2]
    · simp -implicitDefEqProofs only [Try.f107, go_sem, ↓reduceIte, Int.reduceEq, Int.reduceLT, Int.reduceLE, List.reduceReplicate, intA, setT_nil, setT_cons, call119 he, h1, h2]
theorem callI99 {e : Exts} (he : Quiet e) (a b : Int) (me : FuncId) (d : Option Tmp) : callI (Cx e) me 107 d [.v (.int .i64 a), .v (.int .i64 b)] = some (.v (.int .i64 (cmpI a b))) :=
  (ans99 he a b).callI (ext_107 he) (pure_107 _ _ _) rfl
/-- the first that is not 0 -/
def orI : List Int → Int
  | [] => 0
  | a :: r => if a = 0 then orI r else a
set_option maxHeartbeats 2000000 in
theorem ans98 {e : Exts} (ns : List Int) (hn : ns.length < 2 ^ 63) (x : AV) (hx : SlOf 1 (ns.map intA) x) : Ans (Cx e) 106 [x] (intA (orI ns)) := by
  unfold Ans
  rw [fn_step (fn_106 e) (show Try.f106.body = some _ from rfl)]
  simp -implicitDefEqProofs only [Try.f106, go_sem, ↓reduceIte, Int.reduceEq, Int.reduceLT, Int.reduceLE, List.reduceReplicate, intA, setT_nil, setT_cons, hx.len, List.length_map]
  refine Lp_rule (P := fun μ a H => ∃ j, j + μ = ns.length ∧ a = ⟨18, [(0, x), (2, intA 0), (3, intA 0), (6, x), (7, intA ns.length), (8, intA j)], []⟩ ∧ H = ⟨[], 0⟩ ∧ orI ns = orI (ns.drop j)) ?_ ns.length _ _ ⟨0, by omega, rfl, rfl, rfl⟩
  rintro μ _ _ ⟨j, hj, rfl, rfl, ho⟩
  cases μ with
  | zero =>
    obtain rfl : j = ns.length := by omega
    rw [List.drop_of_length_le (Nat.le_refl _)] at ho
    simp -implicitDefEqProofs only [go_sem, ↓reduceIte, Int.reduceEq, Int.reduceLT, Int.reduceLE, List.reduceReplicate, intA, setT_nil, setT_cons, Int.lt_irrefl]
    rw [ho]; rfl
  | succ μ =>
    have hlt : (j : Int) < (ns.length : Int) := by omega
    have hw := wrap_succ j (by omega)
    have hy : (ns.map intA)[j]? = some (.v (.int .i64 ns[j])) := by rw [List.getElem?_map, List.getElem?_eq_getElem (by omega)]; rfl
    rw [List.drop_eq_getElem_cons (by omega : j < ns.length)] at ho
    cases h1 : decide (ns[j] = 0)
    · simp -implicitDefEqProofs only [go_sem, ↓reduceIte, Int.reduceEq, Int.reduceLT, Int.reduceLE, List.reduceReplicate, intA, setT_nil, setT_cons, hlt, hw, hx.idx hy, h1]
      rw [ho]; simp only [orI]
      rw [if_neg (of_decide_eq_false h1)]
    · simp -implicitDefEqProofs only [go_sem, ↓reduceIte, Int.reduceEq, Int.reduceLT, Int.reduceLE, List.reduceReplicate, intA, setT_nil, setT_cons, hlt, hw, hx.idx hy, h1]
      refine ⟨μ, by omega, j + 1, by omega, rfl, rfl, ?_⟩
      rw [ho]; simp only [orI]
      rw [if_pos (of_decide_eq_true h1)]
theorem callI98 {e : Exts} (he : Quiet e) (a b c : Int) (me : FuncId) (d : Option Tmp) : callI (Cx e) me 106 d [.vs 1 [.v (.int .i64 a), .v (.int .i64 b), .v (.int .i64 c)] (some 3)] = some (.v (.int .i64 (orI [a, b, c]))) :=
  (ans98 [a, b, c] (by simp) _ (Or.inr ⟨_, rfl⟩)).callI (ext_106 he) (pure_106 _ _ _) rfl
def cmpP (a b c a' b' c' : Int) : Int := orI [cmpI a a', cmpI b b', cmpI c c']
set_option maxHeartbeats 2000000 in
theorem ans85 {e : Exts} (he : Quiet e) (a b c a' b' c' : Int) : Ans (Cx e) 84 [.agg [intA a, intA b, intA c], .agg [intA a', intA b', intA c']] (intA (cmpP a b c a' b' c')) := by
  unfold Ans cmpP
  rw [fn_step (fn_84 e) (show Try.f84.body = some _ from rfl)]
  simp -implicitDefEqProofs only [Try.f84, go_sem, ↓reduceIte, Int.reduceEq, Int.reduceLT, Int.reduceLE, List.reduceReplicate, intA, setT_nil, setT_cons]
  refine wp_drawX [([], [], false), ([], [], false), ([], [], false), ([1], [], false), ([], [], false), ([], [], false), ([1, 3, 4], [], false), ([], [], false), ([1, 3, 4, 6], [], false), ([], [], false), ([], [], false), ([1, 3, 4, 6, 8, 9], [], false), ([], [], false), ([1, 3, 4, 6, 8, 9, 11], [], false), ([], [], false), ([], [], false), ([], [15], false), ([], [], false)] (by kernel_rfl) (by kernel_rfl) ?_
  simp -implicitDefEqProofs only [go_sem, ↓reduceIte, Int.reduceEq, Int.reduceLT, Int.reduceLE, List.reduceReplicate, intA, setT_nil, setT_cons, callI99 he, callI98 he]
end Go.Ev
namespace Go.Ev
open Go.Proofs
set_option maxRecDepth 100000
set_option linter.unusedSimpArgs false
/-! ### copies -/
structure Rd where
  ch : Int
  ln : Int
  wd : Int
  kind : Int
  word : ByteArray
end Go.Ev
namespace Go.Ev
open Go.Proofs
set_option maxRecDepth 100000
set_option linter.unusedSimpArgs false
def emp : ByteArray := ⟨#[]⟩
def at0 (l : Line) (i : Int) : ByteArray := (l[i.toNat]?).getD emp
/-- what readings of a kind have to be like -/
def fits1 (l : Line) (r : Rd) : Bool := decide (0 ≤ r.wd ∧ r.wd < l.length) && decide (r.word = emp)
def fits2 (l : Line) (r : Rd) : Bool := withinB 0 l.length [r.wd] && wordB r.word
def fits3 (l : Line) (r : Rd) : Bool := decide (0 ≤ r.wd ∧ r.wd < l.length) && wordB r.word && !decide (r.word = at0 l r.wd)
end Go.Ev
/- Appending to slices of this seat's types. Made by program. -/
namespace Go.Ev
open Go.Proofs
set_option maxRecDepth 1000000
@[go_sem] theorem app_22 (H : Heap) (slot : Nat) (s x : AV) : appendA Try.prog H slot [22, 22] [s, x] = appG 78 2 32 H slot s (cellsFrom H 2 x) := app_eq2 (by kernel_rfl) und_22 (by kernel_rfl) (by kernel_rfl) (by decide) (by decide) H slot s x
@[go_sem] theorem app_46 (H : Heap) (slot : Nat) (s x : AV) : appendA Try.prog H slot [46, 46] [s, x] = appG 26 3 24 H slot s (cellsFrom H 3 x) := app_eq2 (by kernel_rfl) und_46 (by kernel_rfl) (by kernel_rfl) (by decide) (by decide) H slot s x
@[go_sem] theorem app_51 (H : Heap) (slot : Nat) (s x : AV) : appendA Try.prog H slot [51, 51] [s, x] = appG 9 1 16 H slot s (cellsFrom H 1 x) := app_eq2 (by kernel_rfl) und_51 (by kernel_rfl) (by kernel_rfl) (by decide) (by decide) H slot s x
@[go_sem] theorem app_76 (H : Heap) (slot : Nat) (s x : AV) : appendA Try.prog H slot [76, 76] [s, x] = appG 51 1 24 H slot s (cellsFrom H 1 x) := app_eq2 (by kernel_rfl) und_76 (by kernel_rfl) (by kernel_rfl) (by decide) (by decide) H slot s x
end Go.Ev
namespace Go.Ev
open Go.Proofs
set_option maxRecDepth 100000
set_option linter.unusedSimpArgs false
attribute [local irreducible] Wp WpS
/-! ### fit -/
end Go.Ev
namespace Go.Ev
open Go.Proofs
set_option maxRecDepth 100000
set_option linter.unusedSimpArgs false
attribute [local irreducible] Wp WpS
/-! ### the readings of a line -/
def atLine (ch ln wd : Int) (r : Rd) : Bool := eqP r.ch r.ln 0 ch ln wd
theorem bound_sl (b v o n : Nat) (c : Option Nat) : bound (.sl b v o n c) = b + 1 := rfl
theorem trim_not (l : List (Option AObj)) (k n : Nat) (vs : List AV) (ms : List Nat) (h : decide (boundL vs ≤ n) = false) : (Heap.mk l k).trim n vs ms = ⟨l, k⟩ := by
  have h := of_decide_eq_false h
  unfold Heap.trim
  rw [if_neg]
  rw [Bool.and_eq_true, Bool.and_eq_true, Bool.and_eq_true, Nat.ble_eq]
  exact fun g => h g.1.1.1
end Go.Ev
namespace Go.Ev
open Go.Proofs
set_option maxRecDepth 100000
set_option linter.unusedSimpArgs false
attribute [local irreducible] Wp WpS
/-! ### readers of lines -/
end Go.Ev
namespace Go.Ev
open Go.Proofs
set_option maxRecDepth 100000
set_option linter.unusedSimpArgs false
attribute [local irreducible] Wp WpS
theorem SlOf.objs {sz : Nat} {xs : List AV} {x : AV} (h : SlOf sz xs x) : objsOf x = [] := by rcases h with ⟨rfl, rfl⟩ | ⟨cap, rfl⟩ <;> rfl
end Go.Ev
namespace Go.Ev
open Go.Proofs
set_option maxRecDepth 100000
set_option linter.unusedSimpArgs false
attribute [local irreducible] Wp WpS
def rowOf : AV → Option Nat
  | .sl b _ _ _ _ => some b
  | _ => none
/-- what was read, and where it lies -/
def DoneR (X : Heap) (ds : List ByteArray) (dv : AV) : Prop :=
  (ds = [] ∧ dv = .v (.slice none 0 0)) ∨ ∃ b v, X.lock ≤ b ∧ b < X.size ∧ dv = .sl b v 0 ds.length none ∧ X.row b v = some (0, 9, 1, true, strs ds)
structure Turned (X Y : Heap) (dv dv' : AV) (ds' : List ByteArray) : Prop where
  lock : Y.lock = X.lock
  size : X.size ≤ Y.size
  same : ∀ i, i < X.size → rowOf dv ≠ some i → Y.get i = X.get i
  done : DoneR Y ds' dv'
  row : rowOf dv' = rowOf dv ∨ ∃ i, rowOf dv' = some i ∧ X.size ≤ i
theorem row_put_same {H : Heap} {b v m e sz : Nat} {g : Bool} {cs : List AV} (hb : b < H.size) : (H.put b (.cells v m e sz g cs)).row b v = some (m, e, sz, g, cs) := by
  unfold Heap.row
  rw [put_get_eq _ (by omega)]
  simp
end Go.Ev
namespace Go.Ev
open Go.Proofs
set_option maxRecDepth 100000
set_option linter.unusedSimpArgs false
attribute [local irreducible] Wp WpS
theorem takeH_get {n i : Nat} {H : Heap} (hi : i < n) : ({ H with objs := H.objs.take n } : Heap).get i = H.get i := by
  unfold Heap.get
  simp only
  rw [List.getElem?_take, if_pos hi]
theorem settle_lo {n i : Nat} {H : Heap} (hi : i < n) : (settleH n H).get i = H.get i := by
  unfold settleH
  split
  · exact takeH_get hi
  · rfl
theorem settle_some {n i : Nat} {H : Heap} {o : AObj} (h : H.get i = some o) : (settleH n H).get i = some o := by
  unfold settleH
  split
  · rename_i ha
    by_cases hi : i < n
    · rw [takeH_get hi]; exact h
    · exfalso
      unfold Heap.get at h
      have h2 : (H.objs.drop n)[i - n]? = some (some o) := by
        rw [List.getElem?_drop, show n + (i - n) = i by omega]
        cases hq : H.objs[i]? with
        | none => rw [hq] at h; exact nomatch h
        | some z => rw [hq] at h; simp only [Option.join] at h; rw [show z = some o from h]
      have := List.all_eq_true.1 ha _ (List.mem_of_getElem? h2)
      exact nomatch this
  · exact h
theorem settle_size' {n : Nat} {H : Heap} (h : n ≤ H.size) : n ≤ (settleH n H).size := by
  unfold settleH
  split
  · unfold Heap.size at *; simp only [List.length_take]; omega
  · exact h
theorem settle_lock {n : Nat} {H : Heap} : (settleH n H).lock = H.lock := by unfold settleH; split <;> rfl
theorem row_of_get {H : Heap} {b v m e sz : Nat} {g : Bool} {cs : List AV} (h : H.row b v = some (m, e, sz, g, cs)) : H.get b = some (.cells v m e sz g cs) := by
  unfold Heap.row at h
  split at h
  · rename_i hq; split at h
    · rename_i hv; subst hv; simp only [Option.some.injEq, Prod.mk.injEq] at h; obtain ⟨rfl, rfl, rfl, rfl, rfl⟩ := h; exact hq
    · exact nomatch h
  · exact nomatch h
theorem get_row {H : Heap} {b v m e sz : Nat} {g : Bool} {cs : List AV} (h : H.get b = some (.cells v m e sz g cs)) : H.row b v = some (m, e, sz, g, cs) := by
  unfold Heap.row; rw [h]; simp
theorem get_size {H : Heap} {b : Nat} {o : AObj} (h : H.get b = some o) : b < H.size := by
  unfold Heap.get at h
  unfold Heap.size
  cases hq : H.objs[b]? with
  | none => rw [hq] at h; exact nomatch h
  | some z => exact (List.getElem?_eq_some_iff.1 hq).1
/-- what was read stays where it lies when another object is laid -/
theorem DoneR.put {X : Heap} {ds : List ByteArray} {dv : AV} (h : DoneR X ds dv) {i : Nat} (o : AObj) (hi : i < X.size) (hne : rowOf dv ≠ some i) : DoneR (X.put i o) ds dv := by
  rcases h with h | ⟨b, v, h1, h2, rfl, h4⟩
  · exact Or.inl h
  · refine Or.inr ⟨b, v, h1, by rw [put_sizeI _ hi]; exact h2, rfl, get_row ?_⟩
    rw [put_get_ne _ (by omega) (fun h => hne (by rw [← h]; rfl))]
    exact row_of_get h4
theorem DoneR.settle {X : Heap} {ds : List ByteArray} {dv : AV} (h : DoneR X ds dv) (n : Nat) : DoneR (settleH n X) ds dv := by
  rcases h with h | ⟨b, v, h1, h2, rfl, h4⟩
  · exact Or.inl h
  · have := settle_some (n := n) (row_of_get h4)
    exact Or.inr ⟨b, v, by rw [settle_lock]; exact h1, get_size this, rfl, get_row this⟩
theorem DoneR.trim {X : Heap} {ds : List ByteArray} {dv : AV} (h : DoneR X ds dv) (n : Nat) (lx : AV) : DoneR (X.trim n [.agg [lx, dv]] []) ds dv := by
  rcases h with h | ⟨b, v, h1, h2, rfl, h4⟩
  · exact Or.inl h
  · unfold Heap.trim
    split
    · rename_i hq
      rw [Bool.and_eq_true, Bool.and_eq_true, Bool.and_eq_true, Nat.ble_eq] at hq
      have hb : b < n := by
        have h5 := hq.1.1.1
        have : b + 1 ≤ boundL [.agg [lx, .sl b v 0 ds.length none]] := by
          simp only [boundL, bound]
          exact Nat.le_trans (Nat.le_trans (Nat.le_max_left _ _) (Nat.le_max_right _ _)) (Nat.le_max_left _ _)
        omega
      have hg := (takeH_get (H := X) hb).trans (row_of_get h4)
      exact Or.inr ⟨b, v, h1, get_size hg, rfl, get_row hg⟩
    · exact Or.inr ⟨b, v, h1, h2, rfl, h4⟩
theorem trim_lo {n i : Nat} {H : Heap} {vs : List AV} {ms : List Nat} (hi : i < n) : (H.trim n vs ms).get i = H.get i := by
  unfold Heap.trim
  split
  · exact takeH_get hi
  · rfl
theorem trim_size' {n : Nat} {H : Heap} {vs : List AV} {ms : List Nat} (h : n ≤ H.size) : n ≤ (H.trim n vs ms).size := by
  unfold Heap.trim
  split
  · unfold Heap.size at *; simp only [List.length_take]; omega
  · exact h
theorem trim_lock {n : Nat} {H : Heap} {vs : List AV} {ms : List Nat} : (H.trim n vs ms).lock = H.lock := by unfold Heap.trim; split <;> rfl
end Go.Ev
namespace Go.Ev
open Go.Proofs
set_option maxRecDepth 100000
set_option linter.unusedSimpArgs false
attribute [local irreducible] Wp WpS
theorem DoneR.plus {X : Heap} {ds : List ByteArray} {dv : AV} (h : DoneR X ds dv) (E : List (Option AObj)) : DoneR (X.plus E) ds dv := by
  rcases h with h | ⟨b, v, h1, h2, rfl, h4⟩
  · exact Or.inl h
  · exact Or.inr ⟨b, v, h1, by rw [plus_size]; omega, rfl, by rw [rowLo h2]; exact h4⟩
theorem DoneR.below {X : Heap} {ds : List ByteArray} {dv : AV} (h : DoneR X ds dv) {i : Nat} (hi : X.size ≤ i) : rowOf dv ≠ some i := by
  rcases h with ⟨_, rfl⟩ | ⟨b, v, h1, h2, rfl, h4⟩
  · exact fun h => nomatch h
  · intro h; simp only [rowOf, Option.some.injEq] at h; omega
theorem Turned.off {X Y : Heap} {dv dv' : AV} {_ds ds' : List ByteArray} (ht : Turned X Y dv dv' ds') {i : Nat} (hi : i < X.size) (hne : rowOf dv ≠ some i) : rowOf dv' ≠ some i := by
  rcases ht.row with h | ⟨j, h, hj⟩
  · rw [h]; exact hne
  · rw [h]; intro h; simp only [Option.some.injEq] at h; omega
theorem DoneR.flat {X : Heap} {ds : List ByteArray} {dv : AV} (h : DoneR X ds dv) : dv.flat = true ∧ dv.cells = [dv] := by
  rcases h with ⟨_, rfl⟩ | ⟨b, v, h1, h2, rfl, h4⟩ <;> exact ⟨rfl, rfl⟩
end Go.Ev
namespace Go.Ev
open Go.Proofs
set_option maxRecDepth 100000
set_option linter.unusedSimpArgs false
attribute [local irreducible] Wp WpS
/-- how far a line is read, and to what -/
def rdOne (ls : List ByteArray) (st : Nat × List ByteArray) (r : Rd) : Nat × List ByteArray :=
  (if r.kind = 2 then r.wd.toNat else r.wd.toNat + 1, st.2 ++ (ls.drop st.1).take (r.wd.toNat - st.1) ++ if r.kind = 1 then [] else [r.word])
theorem chunk_one : ∀ (l : List AV), chunk 1 l.length l = l
  | [] => rfl
  | x :: r => by
    show (if 1 = 1 then (x :: r).headD undefA else _) :: chunk 1 r.length ((x :: r).drop 1) = x :: r
    rw [if_pos rfl, List.drop_one, List.tail_cons, chunk_one r]; rfl
/-- an answer that is like this -/
def ansP (Q : AV → Prop) : PostO := fun x H => ∃ v, Q v ∧ freezeV { H with lock := 0 } 1000000 x = some v
theorem ans_of_P {C : Cfg} {f : FuncId} {args : List AV} {Q : AV → Prop} (h : Fn' C f args { objs := [], lock := 0 } (ansP Q)) : ∃ v, Q v ∧ Ans C f args v := by
  unfold Fn' at h
  rw [bindO_iff] at h
  obtain ⟨o, h1, h2⟩ := h
  cases o with
  | ret x H =>
    obtain ⟨v, hq, hf⟩ := h2
    exact ⟨v, hq, Ans.iff.2 ⟨x, H, h1, hf⟩⟩
  | _ => exact h2.elim
theorem trim_whole {H : Heap} {n : Nat} (h : H.size ≤ n) (vs : List AV) (ms : List Nat) : H.trim n vs ms = H := by
  unfold Heap.trim
  split
  · unfold Heap.size at h
    rw [List.take_of_length_le h]
  · rfl
def readLineL (ls : List ByteArray) (l : List Rd) : List ByteArray := (l.foldl (rdOne ls) (0, [])).2 ++ ls.drop (l.foldl (rdOne ls) (0, [])).1
end Go.Ev
namespace Go.Ev
open Go.Proofs
set_option maxRecDepth 100000
set_option linter.unusedSimpArgs false
attribute [local irreducible] Wp WpS
/-- a row that is none of a region's own places -/
def Clear (base top : Nat) (dv : AV) : Prop := ∀ i, rowOf dv = some i → i < base ∨ top ≤ i
/-- what a region goes on with behind a call -/
structure Behind (base top : Nat) (G G' : Heap) (dv dv' : AV) (ds' : List ByteArray) : Prop where
  lock : G'.lock = G.lock
  size : G.size ≤ G'.size
  same : ∀ i, i < base → rowOf dv ≠ some i → G'.get i = G.get i
  done : DoneR G' ds' dv'
  clear : Clear base top dv'
  row : rowOf dv' = rowOf dv ∨ ∃ i, rowOf dv' = some i ∧ G.size ≤ i
theorem Behind.off {base top : Nat} {G G' : Heap} {dv dv' : AV} {ds' : List ByteArray} (h : Behind base top G G' dv dv' ds') {i : Nat} (hi : i < G.size) (hne : rowOf dv ≠ some i) : rowOf dv' ≠ some i := by
  rcases h.row with h | ⟨j, h, hj⟩
  · rw [h]; exact hne
  · rw [h]; intro h; simp only [Option.some.injEq] at h; omega
end Go.Ev
namespace Go.Ev
open Go.Proofs
set_option maxRecDepth 100000
set_option linter.unusedSimpArgs false
attribute [local irreducible] Wp WpS
end Go.Ev
namespace Go.Ev
open Go.Proofs
set_option maxRecDepth 100000
set_option linter.unusedSimpArgs false
attribute [local irreducible] Wp WpS
end Go.Ev
namespace Go.Ev
open Go.Proofs
set_option maxRecDepth 100000
set_option linter.unusedSimpArgs false
attribute [local irreducible] Wp WpS
/-- a chapter that is being read: its number, its lines so far, and the place of their row -/
structure Cst where
  id : AV
  ls : List AV
  b : Nat
  v : Nat
def Cst.sl (c : Cst) : AV := if c.ls = [] then .v (.slice none 0 0) else .sl c.b c.v 0 c.ls.length none
def Cst.cells (c : Cst) : List AV := [c.id, c.sl]
/-! ### what is handed back -/
def Cst.fz (c : Cst) : AV := if c.ls = [] then .v (.slice none 0 0) else .vs 1 c.ls none
end Go.Ev
namespace Go.Ev
open Go.Proofs
set_option maxRecDepth 100000
set_option linter.unusedSimpArgs false
attribute [local irreducible] Wp WpS
theorem storeLoK {X : Heap} {b v k m e sz : Nat} {g : Bool} {cs : List AV} {x : AV} (hb : b < X.size) (hlk : X.lock ≤ b) (hr : X.row b v = some (m, e, sz, g, cs)) (hx : k + 1 ≤ cs.length) (hf : x.flat = true) (E : List (Option AObj)) :
    storeCells (X.plus E) b v k [x] = some ((X.put b (.cells v (Nat.max m (bound x)) e sz g (splice k [x] cs))).plus E) := by
  unfold storeCells
  rw [rowLo hb, hr]
  have hl : (X.plus E).lock ≤ b := hlk
  have hbl : boundL [x] = bound x := by simp only [boundL]; exact Nat.max_zero _
  simp only [hl, hbl, List.length_singleton, hx, List.all_cons, List.all_nil, hf, Bool.and_true, and_self, if_true, putLo hb]
end Go.Ev
namespace Go.Ev
open Go.Proofs
set_option maxRecDepth 100000
set_option linter.unusedSimpArgs false
attribute [local irreducible] Wp WpS
/-! ### slices that are closed, or lie in memory -/
def SlH (X : Heap) (xs : List AV) (x : AV) : Prop := SlOf 1 xs x ∨ ∃ b v cap m e g cs, x = .sl b v 0 xs.length cap ∧ b < X.size ∧ X.row b v = some (m, e, 1, g, cs) ∧ cs.take xs.length = xs ∧ xs.length ≤ cs.length
theorem SlH.len {X : Heap} {xs : List AV} {x : AV} (h : SlH X xs x) : slLen x = some (.v (.int .i64 xs.length)) := by
  rcases h with h | ⟨b, v, cap, m, e, g, cs, rfl, -⟩
  · exact h.len
  · rfl
theorem SlH.get {X : Heap} {N : Nat} (hN : X.size = N) {xs : List AV} {x : AV} (h : SlH X xs x) {i : Nat} {z : AV} (hz : xs[i]? = some z) (hzc : z.cells = [z]) (k : IntKind) :
    ∃ p, slIdx 1 x (.v (.int k (i : Int))) = some p ∧ (∀ (t : TypeId) E, isAggT Try.prog t = some false → sizeT Try.prog t = some 1 → loadA Try.prog (X.plus E) t p = some z) ∧ ∀ top, N ≤ top → (objsOf p).all (fun c => ltB c top) = true := by
  have hi := (List.getElem?_eq_some_iff.1 hz).1
  rcases h with h | ⟨b, v, cap, m, e, g, cs, rfl, hb, hr, ht, hl⟩
  · refine ⟨.ro z 0, h.idx hz k, fun t E ha hs => ?_, fun _ _ => rfl⟩
    unfold loadA partOf
    rw [ha, hs]
    show z.cells[0]? = some z
    rw [hzc]; rfl
  · refine ⟨.ptr b v (0 + i * 1), ?_, fun t E ha hs => ?_, fun top h => ?_⟩
    · unfold slIdx
      simp; omega
    · have hrow : (X.plus E).row b v = some (m, e, 1, g, cs) := by rw [rowLo hb, hr]
      unfold loadA
      simp only [hrow]
      unfold partOf
      rw [ha, hs]
      simp only
      rw [Nat.zero_add, Nat.mul_one, ← List.getElem?_take_of_lt (j := xs.length) hi, ht, hz]
    · simp only [objsOf, List.all_cons, List.all_nil, Bool.and_true]
      unfold ltB
      simp; omega
theorem SlH.lock {X : Heap} {xs : List AV} {x : AV} (h : SlH X xs x) (k : Nat) : SlH { X with lock := k } xs x := by
  rcases h with h | ⟨b, v, cap, m, e, g, cs, rfl, hb, hr, ht⟩
  · exact Or.inl h
  · exact Or.inr ⟨b, v, cap, m, e, g, cs, rfl, hb, hr, ht⟩
theorem SlH.closed {X : Heap} {xs : List AV} {x : AV} (h : SlH X xs x) (hb : bound x = 0) (Y : Heap) : SlH Y xs x := by
  rcases h with h | ⟨b, v, cap, m, e, g, cs, rfl, -⟩
  · exact Or.inl h
  · simp [bound] at hb
theorem SlH.yld {X : Heap} {xs : List AV} {x : AV} (h : SlH X xs x) : isYld x = false := by
  rcases h with h | ⟨b, v, cap, m, e, g, cs, rfl, -⟩
  · rcases h with ⟨rfl, _⟩ | ⟨c, rfl⟩ <;> rfl
  · rfl
/-- a call that hands back what is no address, on memory that it leaves -/
theorem callA_still {C : Cfg} {me f : FuncId} {d : Option Tmp} {args : List AV} {X : Heap} {w : Value} (hx : C.ext f = none) (hp : C.pure me f d = true) (hy : args.any isYld = false)
    (h1 : boundL args = 0 → Fn' C f args { objs := [], lock := 0 } (fun v _ => v = .v w)) (h2 : Fn' C f args { X with lock := X.size } (fun v _ => v = .v w)) : callA C (lim C) me f d args X = some (.v w, X) := by
  unfold callA callB callKind
  rw [hx]
  simp only [hp, if_true]
  by_cases hb : boundL args = 0
  · have h1 := h1 hb
    unfold Fn' at h1
    rw [bindO_iff] at h1
    obtain ⟨o, h3, h4⟩ := h1
    rw [if_pos (by rw [hb]; rfl)]
    cases o with
    | ret v H => obtain rfl : v = .v w := h4; simp only [h3]; rfl
    | _ => exact h4.elim
  · unfold Fn' at h2
    rw [bindO_iff] at h2
    obtain ⟨o, h3, h4⟩ := h2
    rw [if_neg (fun h => hb (Nat.eq_of_beq_eq_true h)), hy]
    simp only [Bool.false_eq_true, if_false]
    cases o with
    | ret v H => obtain rfl : v = .v w := h4; simp only [h3]; rfl
    | _ => exact h4.elim
end Go.Ev
namespace Go.Ev
open Go.Proofs
set_option maxRecDepth 100000
set_option linter.unusedSimpArgs false
attribute [local irreducible] Wp WpS
theorem drop_eq_cons {α : Type} {xs : List α} {j : Nat} {x : α} (h : xs[j]? = some x) : xs.drop j = x :: xs.drop (j + 1) := by
  obtain ⟨hj, rfl⟩ := List.getElem?_eq_some_iff.1 h
  exact List.drop_eq_getElem_cons hj
theorem trimP0 {X : Heap} {N : Nat} (hN : X.size = N) (vs : List AV) (ms : List Nat) : (X.plus []).trim N vs ms = X.plus [] := by rw [plus_nil, ← hN, trim_size]
theorem isAgg9 : isAggT Try.prog 9 = some false := by kernel_rfl
theorem size9 : sizeT Try.prog 9 = some 1 := by kernel_rfl
set_option maxHeartbeats 2000000 in
theorem fn31 {e : Exts} {X : Heap} {N : Nat} (hN : X.size = N) (a b : AV) (xs ys : List ByteArray) (ha : SlH X (strs xs) a) (hb : SlOf 1 (strs ys) b) (hn : xs.length < 2 ^ 63) : Fn' (Cx e) 23 [a, b] X (fun v _ => v = .v (.bool (decide (xs = ys)))) := by
  rw [fn_step (fn_23 e) (show Try.f23.body = some _ from rfl)]
  simp -implicitDefEqProofs only [Try.f23, go_sem, ↓reduceIte, Int.reduceEq, Int.reduceLT, Int.reduceLE, List.reduceReplicate, intA, setT_nil, setT_cons, ha.len, hb.len, strs_len]
  by_cases hl : xs.length = ys.length
  · have hli : ((xs.length : Int) = (ys.length : Int)) := by omega
    simp -implicitDefEqProofs only [go_sem, ↓reduceIte, Int.reduceEq, Int.reduceLT, Int.reduceLE, List.reduceReplicate, intA, setT_nil, setT_cons, ha.len, hb.len, strs_len, hli]
    refine Lp_rule (P := fun μ a' H => ∃ j, j ≤ xs.length ∧ xs.length = j + μ ∧ a' = ⟨26, [(0, a), (1, b), (4, .v (.bool false)), (10, .v (.bool false)), (5, intA j)], []⟩ ∧ X = H ∧ decide (xs = ys) = decide (xs.drop j = ys.drop j)) ?_ xs.length _ _ ⟨0, by omega, by omega, rfl, rfl, rfl⟩
    rintro μ _ _ ⟨j, hj1, hj2, rfl, rfl, ho⟩
    by_cases hlt : (j : Int) < (xs.length : Int)
    · obtain ⟨x, hx⟩ := at_lt xs j (by omega)
      obtain ⟨y, hy⟩ := at_lt ys j (by omega)
      have hw := wrap_succ j (by omega)
      obtain ⟨p, hp1, hp2, hp3⟩ := ha.get hN (strs_get hx) rfl .i64
      have hib := hb.idx (strs_get hy)
      rw [drop_eq_cons hx, drop_eq_cons hy] at ho
      rw [← plus_nil X]
      simp -implicitDefEqProofs only [go_sem, ↓reduceIte, Int.reduceEq, Int.reduceLT, Int.reduceLE, List.reduceReplicate, intA, setT_nil, setT_cons, ha.len, hb.len, strs_len, hlt, hw]
      refine wp_drawX [([], [], false), ([], [], false), ([], [], false), ([], [], false), ([], [], false), ([], [], false), ([], [], false), ([3], [], false), ([], [], false)] (by kernel_rfl) (by kernel_rfl) ?_
      simp -implicitDefEqProofs only [go_sem, ↓reduceIte, Int.reduceEq, Int.reduceLT, Int.reduceLE, List.reduceReplicate, intA, setT_nil, setT_cons, hp1, hib, sizeP hN, hp3 _ (Nat.le_refl N), hp2 _ _ isAgg9 size9, hw, settleP0 hN, settleP hN, trimP0 hN]
      by_cases hd : x = y
      · subst hd
        simp -implicitDefEqProofs only [go_sem, ↓reduceIte, Int.reduceEq, Int.reduceLT, Int.reduceLE, List.reduceReplicate, intA, setT_nil, setT_cons, decide_true, Bool.not_true]
        rw [plus_nil]
        exact ⟨μ - 1, by omega, j + 1, by omega, by omega, rfl, rfl, by rw [ho]; simp⟩
      · have h0 : decide (xs = ys) = false := by rw [ho]; simp [hd]
        simp -implicitDefEqProofs only [go_sem, ↓reduceIte, Int.reduceEq, Int.reduceLT, Int.reduceLE, List.reduceReplicate, intA, setT_nil, setT_cons, decide_eq_false hd, Bool.not_false]
        rw [h0]; rfl
    · have hj : j = xs.length := by omega
      have hd : decide (xs = ys) = true := by rw [ho, hj, List.drop_length, hl, List.drop_length]; rfl
      simp -implicitDefEqProofs only [go_sem, ↓reduceIte, Int.reduceEq, Int.reduceLT, Int.reduceLE, List.reduceReplicate, intA, setT_nil, setT_cons, ha.len, hb.len, strs_len, hlt]
      rw [hd]; rfl
  · have hli : ¬ ((xs.length : Int) = (ys.length : Int)) := by omega
    have hne : ¬ xs = ys := fun h => hl (congrArg _ h)
    simp -implicitDefEqProofs only [go_sem, ↓reduceIte, Int.reduceEq, Int.reduceLT, Int.reduceLE, List.reduceReplicate, intA, setT_nil, setT_cons, ha.len, hb.len, strs_len, hli]
    rw [decide_eq_false hne]; rfl
/-- any memory that holds the one list -/
theorem callP31 {e : Exts} (he : Quiet e) {X : Heap} (a b : AV) (xs ys : List ByteArray) (ha : SlH X (strs xs) a) (hb : SlOf 1 (strs ys) b) (hn : xs.length < 2 ^ 63) (me : FuncId) (d : Option Tmp) : callA (Cx e) (lim (Cx e)) me 23 d [a, b] X = some (.v (.bool (decide (xs = ys))), X) := by
  refine callA_still (ext_23 he) (pure_23 _ _ _) ?_ (fun h0 => fn31 rfl a b xs ys (ha.closed ?_ _) hb hn) (fn31 rfl a b xs ys (ha.lock _) hb hn)
  · simp [ha.yld, SlH.yld (X := X) (Or.inl hb)]
  · rw [boundL_cons] at h0
    exact Nat.le_zero.1 (h0 ▸ Nat.le_max_left _ _)
end Go.Ev
namespace Go.Ev
open Go.Proofs
set_option maxRecDepth 100000
set_option linter.unusedSimpArgs false
attribute [local irreducible] Wp WpS
end Go.Ev
namespace Go.Ev
open Go.Proofs
set_option maxRecDepth 100000
set_option linter.unusedSimpArgs false
attribute [local irreducible] Wp WpS
end Go.Ev
namespace Go.Ev
open Go.Proofs
set_option maxRecDepth 100000
set_option linter.unusedSimpArgs false
attribute [local irreducible] Wp WpS
/-- a reading of the reference -/
def readB (t : Txt) (r : Rd) : Bool := match lineAt t r.ch r.ln with | none => false | some l => if r.kind = 1 then fits1 l r else if r.kind = 2 then fits2 l r else if r.kind = 3 then fits3 l r else false
end Go.Ev
namespace Go.Ev
open Go.Proofs
set_option maxRecDepth 100000
set_option linter.unusedSimpArgs false
attribute [local irreducible] Wp WpS
/-! ### a line of a copy, by the reference -/
def refI (k n w : Int) (s : List ByteArray × ByteArray) (r : Rd) : List ByteArray × ByteArray :=
  if r.ch = k ∧ r.ln = n ∧ r.wd = w then if r.kind = 2 then (s.1 ++ [r.word], s.2) else (s.1, r.word) else s
def refW (l : Line) (rs : List Rd) (k n : Int) (ds : List ByteArray) (w : Nat) : List ByteArray :=
  let s := rs.foldl (refI k n w) (ds, (l[w]?).getD emp)
  if s.2 = emp then s.1 else s.1 ++ [s.2]
def refLine (l : Line) (rs : List Rd) (k n : Int) : List ByteArray := (List.range (l.length + 1)).foldl (refW l rs k n) []
structure M79 (id : Int) (x : AV) (H : Heap) (ds : List ByteArray) (out : AV) : Prop where
  lock : H.lock = 0
  size : 2 ≤ H.size
  b1 : H.get 1 = some (.cells 0 0 62 1 false [.v (.int .i64 id), x])
  done : DoneR H ds out
theorem M79.plus {id : Int} {x : AV} {H : Heap} {ds : List ByteArray} {out : AV} (h : M79 id x H ds out) (E : List (Option AObj)) : M79 id x (H.plus E) ds out :=
  ⟨h.lock, by have := h.size; rw [plus_size]; omega, (plus_get E (by have := h.size; omega)).trans h.b1, h.done.plus E⟩
theorem M79.trim {id : Int} {x : AV} {H : Heap} {ds : List ByteArray} {out : AV} (h : M79 id x H ds out) {n : Nat} (hn : 2 ≤ n) (hn2 : n ≤ H.size) (vs : List AV) (ms : List Nat) (hv : bound out ≤ boundL vs) : M79 id x (H.trim n vs ms) ds out := by
  refine ⟨trim_lock.trans h.lock, Nat.le_trans hn (trim_size' hn2), (trim_lo (by omega)).trans h.b1, ?_⟩
  rcases h.done with hd | ⟨b, v, h1, h2, rfl, h4⟩
  · exact Or.inl hd
  · unfold Heap.trim
    split
    · rename_i hq
      rw [Bool.and_eq_true, Bool.and_eq_true, Bool.and_eq_true, Nat.ble_eq] at hq
      have h5 := hq.1.1.1
      have hb : b < n := by simp only [bound] at hv; omega
      have hg := (takeH_get (H := H) hb).trans (row_of_get h4)
      exact Or.inr ⟨b, v, h1, get_size hg, rfl, get_row hg⟩
    · exact Or.inr ⟨b, v, h1, h2, rfl, h4⟩
theorem M79.more {id : Int} {x : AV} {H : Heap} {ds : List ByteArray} {b v : Nat} (h : M79 id x H ds (.sl b v 0 ds.length none)) (hb : b < H.size) (hr : H.row b v = some (0, 9, 1, true, strs ds)) (s : List ByteArray) (n : Nat) (hn : n = ds.length + s.length) : M79 id x (H.put b (.cells (v + 1) 0 9 1 true (strs (ds ++ s)))) (ds ++ s) (.sl b (v + 1) 0 n none) := by
  have hne : 1 ≠ b := by
    rintro rfl
    have := (row_of_get hr).symm.trans h.b1
    simp at this
  refine ⟨h.lock, by rw [put_sizeI _ hb]; exact h.size, (put_get_ne _ (by have := h.size; omega) hne).trans h.b1, Or.inr ⟨b, v + 1, ?_, by rw [put_sizeI _ hb]; exact hb, by rw [hn, List.length_append], row_put_same hb⟩⟩
  have := h.lock
  show H.lock ≤ b
  omega
theorem M79.new {id : Int} {x : AV} {H : Heap} {ds : List ByteArray} {out : AV} (h : M79 id x H ds out) {N : Nat} (hN : H.size = N) (E : List (Option AObj)) (k : Nat) (ds' : List ByteArray) (hE : E[k]? = some (some (.cells 0 0 9 1 true (strs ds')))) : M79 id x (H.plus E) ds' (.sl (N + k) 0 0 ds'.length none) := by
  have hk := (List.getElem?_eq_some_iff.1 hE).1
  refine ⟨h.lock, by have := h.size; rw [plus_size]; omega, (plus_get E (by have := h.size; omega)).trans h.b1, Or.inr ⟨N + k, 0, ?_, by rw [plus_size]; omega, rfl, ?_⟩⟩
  · have := h.lock
    show H.lock ≤ _
    omega
  · rw [rowP hN, hE]; rfl
end Go.Ev
namespace Go.Ev
open Go.Proofs
set_option maxRecDepth 100000
set_option linter.unusedSimpArgs false
attribute [local irreducible] Wp WpS
end Go.Ev
namespace Go.Ev
open Go.Proofs
set_option maxRecDepth 100000
set_option linter.unusedSimpArgs false
attribute [local irreducible] Wp WpS
end Go.Ev
namespace Go.Ev
open Go.Proofs
set_option maxRecDepth 100000
set_option linter.unusedSimpArgs false
attribute [local irreducible] Wp WpS
/-! ### the reference's All: the places of a text, in order -/
theorem wordsL_app (i j : Nat) : ∀ (l m : Line) (k : Nat), wordsL i j k (l ++ m) = wordsL i j k l ++ wordsL i j (k + l.length) m
  | [], m, k => by simp [wordsL]
  | s :: r, m, k => by simp only [List.cons_append, wordsL, wordsL_app i j r m (k + 1), List.length_cons]; rw [show k + 1 + r.length = k + (r.length + 1) by omega]
theorem wordsC_app (i : Nat) : ∀ (l m : List Line) (j : Nat), wordsC i j (l ++ m) = wordsC i j l ++ wordsC i (j + l.length) m
  | [], m, j => by simp [wordsC]
  | s :: r, m, j => by simp only [List.cons_append, wordsC, wordsC_app i r m (j + 1), List.length_cons, List.append_assoc]; rw [show j + 1 + r.length = j + (r.length + 1) by omega]
theorem wordsT_app : ∀ (l m : Txt) (i : Nat), wordsT i (l ++ m) = wordsT i l ++ wordsT (i + l.length) m
  | [], m, i => by simp [wordsT]
  | s :: r, m, i => by simp only [List.cons_append, wordsT, wordsT_app r m (i + 1), List.length_cons, List.append_assoc]; rw [show i + 1 + r.length = i + (r.length + 1) by omega]
def plsL (i j : Nat) (l : Line) : List Plc := (wordsL i j 0 l).map (·.1)
def plsC (i : Nat) (ls : List Line) : List Plc := (wordsC i 0 ls).map (·.1)
def allN (t : Txt) : List Plc := (wordsT 0 t).map (·.1)
theorem plsL_step (i j : Nat) {l : Line} {k : Nat} {s : ByteArray} (h : l[k]? = some s) : plsL i j (l.take (k + 1)) = plsL i j (l.take k) ++ [(i, j, k)] := by
  have hk := (List.getElem?_eq_some_iff.1 h).1
  unfold plsL
  rw [List.take_add_one, h, wordsL_app, List.length_take, Nat.zero_add, show min k l.length = k by omega, List.map_append]; rfl
theorem plsC_step (i : Nat) {ls : List Line} {j : Nat} {l : Line} (h : ls[j]? = some l) : plsC i (ls.take (j + 1)) = plsC i (ls.take j) ++ plsL i j l := by
  have hk := (List.getElem?_eq_some_iff.1 h).1
  unfold plsC plsL
  rw [List.take_add_one, h, wordsC_app, List.length_take, Nat.zero_add, show min j ls.length = j by omega, List.map_append]
  simp [wordsC]
theorem allN_step {t : Txt} {i : Nat} {c : Chap} (h : t[i]? = some c) : allN (t.take (i + 1)) = allN (t.take i) ++ plsC i c.2 := by
  have hk := (List.getElem?_eq_some_iff.1 h).1
  unfold allN plsC
  rw [List.take_add_one, h, wordsT_app, List.length_take, Nat.zero_add, show min i t.length = i by omega, List.map_append]
  simp [wordsT]
def clN (l : List Plc) : List AV := l.flatMap fun p => [intA p.1, intA p.2.1, intA p.2.2]
def plsN (l : List Plc) : AV := match l with | [] => .v (.slice none 0 0) | _ => .vs 3 (l.map plN) none
theorem clN_append (l m : List Plc) : clN (l ++ m) = clN l ++ clN m := by simp [clN]
theorem clN_len (l : List Plc) : (clN l).length = l.length * 3 := by
  induction l with
  | nil => rfl
  | cons p r ih => simp only [clN, List.flatMap_cons, List.length_append, List.length_cons, List.length_nil] at ih ⊢; omega
theorem chunk_plN : ∀ f : List Plc, chunk 3 f.length (clN f) = f.map plN
  | [] => rfl
  | p :: f => by
    show [AV.agg [intA p.1, intA p.2.1, intA p.2.2]] ++ _ = _
    rw [List.map_cons, ← chunk_plN f]; rfl
theorem freeze_plN (H : Heap) (b v : Nat) (f : List Plc) (hf : f ≠ []) (hk : H.lock = 0) (hr : H.row b v = some (0, 26, 3, true, clN f)) : freezeV H 1000000 (.sl b v 0 f.length none) = some (plsN f) := by
  have : plsN f = .vs 3 (f.map plN) none := by cases f with | nil => exact absurd rfl hf | cons r f => rfl
  rw [this, ← chunk_plN f]
  unfold freezeV
  simp only [hr, hk]
  rw [if_neg (by omega), if_pos ⟨by rw [clN_len]; omega, by omega⟩, if_pos trivial, List.drop_zero, List.take_of_length_le (by rw [clN_len]; omega)]
def In43 (ch : AV) (xt : List (Tmp × AV)) (f : List Plc) (a : AAct) (H : Heap) : Prop :=
  (f = [] ∧ a = ⟨47, (0, .agg [ch]) :: (1, .ptr 0 0 0) :: (2, .v (.slice none 0 0)) :: (3, .v (.slice none 0 0)) :: xt, []⟩ ∧ H = ⟨[some (.cells 0 0 24 1 false [ch])], 0⟩) ∨
  ∃ v, f ≠ [] ∧ a = ⟨47, (0, .agg [ch]) :: (1, .ptr 0 0 0) :: (2, .v (.slice none 0 0)) :: (3, .sl 1 v 0 f.length none) :: xt, []⟩ ∧ H = ⟨[some (.cells 0 0 24 1 false [ch]), some (.cells v 0 26 3 true (clN f))], 0⟩
noncomputable def body43 (n : Nat) : Code := ((Try.f43.body.map loops).getD [])[n]?.getD .skip
set_option maxHeartbeats 4000000 in
theorem inner43 {e : Exts} {ch : AV} {xs : List AV} (hch : SlOf 2 xs ch) {i : Nat} {cid : Int} {l : AV} (hy : xs[i]? = some (.agg [intA cid, l])) {lxs : List AV} (hl : SlOf 1 lxs l) {j : Nat} {lx : AV} (hj : lxs[j]? = some lx) {ln : Line} (hlx : SlOf 1 (strs ln) lx) (hb : ln.length < 2 ^ 63) (f0 : List Plc) (hf0 : f0.length + ln.length < 2 ^ 33) (K : Post)
    (hK : ∀ a H, In43 ch [(4, intA i), (11, .v (.bool true)), (5, intA j), (22, .v (.bool true)), (6, intA ln.length)] (f0 ++ plsL i j ln) a H → AtK K (.exit 4) a H) :
    ∀ a H, In43 ch [(4, intA i), (11, .v (.bool true)), (5, intA j), (22, .v (.bool true)), (6, intA 0)] f0 a H → Lp (Cx e) 43 none [0, 1, 2, 3, 4, 11, 5, 22, 6] (body43 2) a H K := by
  intro a H h0
  refine Lp_rule (P := fun μ a H => ∃ k, k + μ = ln.length ∧ In43 ch [(4, intA i), (11, .v (.bool true)), (5, intA j), (22, .v (.bool true)), (6, intA k)] (f0 ++ plsL i j (ln.take k)) a H) ?_ ln.length _ _ ⟨0, by omega, by simpa [plsL, wordsL] using h0⟩
  rintro μ a H ⟨k, hk, hin⟩
  by_cases hkl : k < ln.length
  · obtain ⟨s, hs⟩ := at_lt ln k hkl
    have hw := wrap_succ k (by omega)
    have hlt : (k : Int) < (ln.length : Int) := by omega
    have hst : f0 ++ plsL i j (ln.take (k + 1)) = (f0 ++ plsL i j (ln.take k)) ++ [(i, j, k)] := by rw [plsL_step i j hs, List.append_assoc]
    have hfl : (f0 ++ plsL i j (ln.take k)).length ≤ f0.length + ln.length := by
      rw [List.length_append]; unfold plsL; rw [List.length_map, wordsL_len, List.length_take]; omega
    generalize f0 ++ plsL i j (ln.take k) = f at *
    unfold body43
    simp only [Try.f43, loops, Option.map_some, Option.getD_some, List.nil_append, List.append_nil, List.cons_append, List.getElem?_cons_zero, List.getElem?_cons_succ]
    rcases hin with ⟨rfl, rfl, rfl⟩ | ⟨v, hf, rfl, rfl⟩
    · have hf24 : fitsA 24 1 = true := by decide
      simp -implicitDefEqProofs only [go_sem, ↓reduceIte, Int.reduceEq, Int.reduceLT, Int.reduceLE, List.reduceReplicate, intA, setT_nil, setT_cons, hch.len, hch.cells, hch.bound, hch.idx hy, hl.len, hl.idx hj, hlx.len, hlx.cells, hlx.bound, hl.cells, strs_len, hlt, hw, hf24, trim_at, trim_not, bound_sl, List.flatMap_cons, List.flatMap_nil]
      refine ⟨μ - 1, by omega, k + 1, by omega, Or.inr ⟨0, by rw [hst]; simp, ?_, ?_⟩⟩
      · rw [hst]; rfl
      · rw [hst]; rfl
    · simp -implicitDefEqProofs only [go_sem, ↓reduceIte, Int.reduceEq, Int.reduceLT, Int.reduceLE, List.reduceReplicate, intA, setT_nil, setT_cons, hch.len, hch.cells, hch.bound, hch.idx hy, hl.len, hl.idx hj, hlx.len, hlx.cells, hlx.bound, hl.cells, strs_len, hlt, hw, trim_at, trim_not, bound_sl, List.flatMap_cons, List.flatMap_nil]
      rw [appTo_own (m := 0) (e' := 26) (cs := clN f) (by simp [Heap.row, Heap.get]) (by rw [clN_len]) (Nat.zero_le _) (by unfold fitsA; exact decide_eq_true (by omega)) (by omega) (by omega)]
      simp -implicitDefEqProofs only [go_sem, ↓reduceIte, Int.reduceEq, Int.reduceLT, Int.reduceLE, List.reduceReplicate, intA, setT_nil, setT_cons, hch.bound, trim_at, bound_sl, List.flatMap_cons, List.flatMap_nil]
      refine ⟨μ - 1, by omega, k + 1, by omega, Or.inr ⟨v + 1, by rw [hst]; simp, ?_, ?_⟩⟩
      · rw [hst]; simp [intA]
      · rw [hst, clN_append]; simp [intA, clN]
  · obtain rfl : k = ln.length := by omega
    rw [List.take_length] at hin
    have hK' := hK _ _ hin
    unfold body43
    simp only [Try.f43, loops, Option.map_some, Option.getD_some, List.nil_append, List.append_nil, List.cons_append, List.getElem?_cons_zero, List.getElem?_cons_succ]
    rcases hin with ⟨hf, rfl, rfl⟩ | ⟨v, hf, rfl, rfl⟩
    · simp -implicitDefEqProofs only [go_sem, ↓reduceIte, Int.reduceEq, Int.reduceLT, Int.reduceLE, List.reduceReplicate, intA, setT_nil, setT_cons, hch.len, hch.cells, hch.bound, hch.idx hy, hl.len, hl.idx hj, hlx.len, hlx.cells, hlx.bound, hl.cells, strs_len, Int.lt_irrefl]
      unfold intA at hK'
      exact hK'
    · simp -implicitDefEqProofs only [go_sem, ↓reduceIte, Int.reduceEq, Int.reduceLT, Int.reduceLE, List.reduceReplicate, intA, setT_nil, setT_cons, hch.len, hch.cells, hch.bound, hch.idx hy, hl.len, hl.idx hj, hlx.len, hlx.cells, hlx.bound, hl.cells, strs_len, Int.lt_irrefl]
      unfold intA at hK'
      exact hK'
theorem plsL_len (i j : Nat) (l : Line) : (plsL i j l).length = l.length := by unfold plsL; rw [List.length_map, wordsL_len]
set_option maxHeartbeats 4000000 in
theorem mid43 {e : Exts} {ch : AV} {xs : List AV} (hch : SlOf 2 xs ch) {i : Nat} {cid : Int} {l : AV} (hy : xs[i]? = some (.agg [intA cid, l])) {ls : List Line} {lxs : List AV} (hl : SlOf 1 lxs l) (hls : All2 LineA ls lxs) (hb : ls.length < 2 ^ 63) (hbl : ∀ ln ∈ ls, ln.length < 2 ^ 63) (f0 : List Plc) (hf0 : f0.length + (plsC i ls).length < 2 ^ 33) (K : Post)
    (hK : ∀ a H, In43 ch [(4, intA i), (11, .v (.bool true)), (5, intA ls.length)] (f0 ++ plsC i ls) a H → AtK K (.exit 2) a H) :
    ∀ a H, In43 ch [(4, intA i), (11, .v (.bool true)), (5, intA 0)] f0 a H → Lp (Cx e) 43 none [0, 1, 2, 3, 4, 11, 5] (body43 1) a H K := by
  intro a H h0
  refine Lp_rule (P := fun μ a H => ∃ j, j + μ = ls.length ∧ In43 ch [(4, intA i), (11, .v (.bool true)), (5, intA j)] (f0 ++ plsC i (ls.take j)) a H) ?_ ls.length _ _ ⟨0, by omega, by simpa [plsC, wordsC] using h0⟩
  rintro μ a H ⟨j, hj, hin⟩
  have hle : ∀ j, (plsC i (ls.take j)).length ≤ (plsC i ls).length := by
    intro j
    have := congrArg List.length (show plsC i (ls.take j ++ ls.drop j) = plsC i (ls.take j) ++ _ from by unfold plsC; rw [wordsC_app, List.map_append])
    rw [List.take_append_drop, List.length_append] at this
    omega
  by_cases hjl : j < ls.length
  · obtain ⟨ln, hn⟩ := at_lt ls j hjl
    obtain ⟨lx, hx, hlx⟩ := hls.get hn
    have hlx : SlOf 1 (strs ln) lx := hlx
    have hw := wrap_succ j (by omega)
    have hlt : (j : Int) < (lxs.length : Int) := by rw [← hls.1]; omega
    have hst : f0 ++ plsC i (ls.take (j + 1)) = (f0 ++ plsC i (ls.take j)) ++ plsL i j ln := by rw [plsC_step i hn, List.append_assoc]
    have hq := hle (j + 1)
    rw [plsC_step i hn, List.length_append, plsL_len] at hq
    have hfl : (f0 ++ plsC i (ls.take j)).length + ln.length < 2 ^ 33 := by rw [List.length_append]; omega
    have hbn := hbl ln (List.mem_of_getElem? hn)
    generalize f0 ++ plsC i (ls.take j) = f at *
    unfold body43
    simp only [Try.f43, loops, Option.map_some, Option.getD_some, List.nil_append, List.append_nil, List.cons_append, List.getElem?_cons_zero, List.getElem?_cons_succ]
    rcases hin with ⟨rfl, rfl, rfl⟩ | ⟨v, hf, rfl, rfl⟩
    all_goals
      simp -implicitDefEqProofs only [go_sem, ↓reduceIte, Int.reduceEq, Int.reduceLT, Int.reduceLE, List.reduceReplicate, intA, setT_nil, setT_cons, hch.len, hch.cells, hch.bound, hch.idx hy, hl.len, hl.idx hx, hl.cells, hlt]
    · refine inner43 hch hy hl hx hlx hbn [] hfl _ (fun a H hin => ?_) _ _ (Or.inl ⟨rfl, rfl, rfl⟩)
      rw [← hst] at hin
      rcases hin with ⟨h0, rfl, rfl⟩ | ⟨v, h0, rfl, rfl⟩
      · simp -implicitDefEqProofs only [go_sem, ↓reduceIte, Int.reduceEq, Int.reduceLT, Int.reduceLE, List.reduceReplicate, intA, setT_nil, setT_cons, hw, hch.bound, trim_at, trim_not, bound_sl]
        exact ⟨μ - 1, by omega, j + 1, by omega, Or.inl ⟨h0, rfl, rfl⟩⟩
      · simp -implicitDefEqProofs only [go_sem, ↓reduceIte, Int.reduceEq, Int.reduceLT, Int.reduceLE, List.reduceReplicate, intA, setT_nil, setT_cons, hw, hch.bound, trim_at, trim_not, bound_sl]
        exact ⟨μ - 1, by omega, j + 1, by omega, Or.inr ⟨v, h0, rfl, rfl⟩⟩
    · refine inner43 hch hy hl hx hlx hbn f hfl _ (fun a H hin => ?_) _ _ (Or.inr ⟨v, hf, rfl, rfl⟩)
      rw [← hst] at hin
      rcases hin with ⟨h0, rfl, rfl⟩ | ⟨v, h0, rfl, rfl⟩
      · exact absurd (List.append_eq_nil_iff.1 (hst ▸ h0)).1 hf
      · simp -implicitDefEqProofs only [go_sem, ↓reduceIte, Int.reduceEq, Int.reduceLT, Int.reduceLE, List.reduceReplicate, intA, setT_nil, setT_cons, hw, hch.bound, trim_at, trim_not, bound_sl]
        exact ⟨μ - 1, by omega, j + 1, by omega, Or.inr ⟨v, h0, rfl, rfl⟩⟩
  · obtain rfl : j = ls.length := by omega
    rw [List.take_length] at hin
    have hK' := hK _ _ hin
    have hnl : ¬ (ls.length : Int) < (lxs.length : Int) := by rw [← hls.1]; omega
    unfold intA at hK'
    unfold body43
    simp only [Try.f43, loops, Option.map_some, Option.getD_some, List.nil_append, List.append_nil, List.cons_append, List.getElem?_cons_zero, List.getElem?_cons_succ]
    rcases hin with ⟨hf, rfl, rfl⟩ | ⟨v, hf, rfl, rfl⟩
    all_goals
      simp -implicitDefEqProofs only [go_sem, ↓reduceIte, Int.reduceEq, Int.reduceLT, Int.reduceLE, List.reduceReplicate, intA, setT_nil, setT_cons, hch.len, hch.cells, hch.bound, hch.idx hy, hl.len, hl.cells, hnl]
      exact hK'
set_option maxHeartbeats 4000000 in
theorem ansR43 {e : Exts} (t : Txt) (ht : Fits t) (hs : (wordsT 0 t).length < 2 ^ 33) (ch : AV) (xs : List AV) (hch : SlOf 2 xs ch) (hall : All2 ChapA t xs) : Ans (Cx e) 43 [.agg [ch]] (plsN (allN t)) := by
  have htl := ht.chs
  have hlen : (allN t).length < 2 ^ 33 := by unfold allN; rw [List.length_map]; exact hs
  have hle : ∀ i, (allN (t.take i)).length ≤ (allN t).length := by
    intro i
    have := congrArg List.length (show allN (t.take i ++ t.drop i) = allN (t.take i) ++ _ from by unfold allN; rw [wordsT_app, List.map_append])
    rw [List.take_append_drop, List.length_append] at this
    omega
  unfold Ans
  rw [fn_step (fn_43 e) (show Try.f43.body = some _ from rfl)]
  simp -implicitDefEqProofs only [Try.f43, go_sem, ↓reduceIte, Int.reduceEq, Int.reduceLT, Int.reduceLE, List.reduceReplicate, intA, setT_nil, setT_cons, hch.len, hch.cells, hch.flat, hch.bound]
  refine Lp_rule (P := fun μ a H => ∃ i, i + μ = t.length ∧ In43 ch [(4, intA i)] (allN (t.take i)) a H) ?_ t.length _ _ ⟨0, by omega, Or.inl ⟨rfl, rfl, rfl⟩⟩
  rintro μ a H ⟨i, hi, hin⟩
  by_cases hil : i < t.length
  · obtain ⟨c, hc⟩ := at_lt t i hil
    obtain ⟨y, hy, l, rfl, lxs, hl, hls⟩ := hall.get hc
    have hm := List.mem_of_getElem? hc
    have hl1 : (i : Int) < (xs.length : Int) := by rw [← hall.1]; omega
    have hw := wrap_succ i (by omega)
    have hst := allN_step hc
    have hq := hle (i + 1)
    rw [hst, List.length_append] at hq
    generalize allN (t.take i) = f at *
    rcases hin with ⟨rfl, rfl, rfl⟩ | ⟨v, hf, rfl, rfl⟩
    all_goals
      simp -implicitDefEqProofs only [go_sem, ↓reduceIte, Int.reduceEq, Int.reduceLT, Int.reduceLE, List.reduceReplicate, intA, setT_nil, setT_cons, hch.len, hch.cells, hch.bound, hl1, hch.idx hy, hl.len]
    · refine mid43 hch hy hl hls (ht.lines c hm) (ht.words c hm) [] (Nat.lt_of_le_of_lt hq hlen) _ (fun a H hin => ?_) _ _ (Or.inl ⟨rfl, rfl, rfl⟩)
      rw [← hst] at hin
      rcases hin with ⟨h0, rfl, rfl⟩ | ⟨v, h0, rfl, rfl⟩
      · simp -implicitDefEqProofs only [go_sem, ↓reduceIte, Int.reduceEq, Int.reduceLT, Int.reduceLE, List.reduceReplicate, intA, setT_nil, setT_cons, hw, hch.bound, trim_at, trim_not, bound_sl]
        exact ⟨μ - 1, by omega, i + 1, by omega, Or.inl ⟨h0, rfl, rfl⟩⟩
      · simp -implicitDefEqProofs only [go_sem, ↓reduceIte, Int.reduceEq, Int.reduceLT, Int.reduceLE, List.reduceReplicate, intA, setT_nil, setT_cons, hw, hch.bound, trim_at, trim_not, bound_sl]
        exact ⟨μ - 1, by omega, i + 1, by omega, Or.inr ⟨v, h0, rfl, rfl⟩⟩
    · refine mid43 hch hy hl hls (ht.lines c hm) (ht.words c hm) f (Nat.lt_of_le_of_lt hq hlen) _ (fun a H hin => ?_) _ _ (Or.inr ⟨v, hf, rfl, rfl⟩)
      rw [← hst] at hin
      rcases hin with ⟨h0, rfl, rfl⟩ | ⟨v, h0, rfl, rfl⟩
      · exact absurd (List.append_eq_nil_iff.1 (hst ▸ h0)).1 hf
      · simp -implicitDefEqProofs only [go_sem, ↓reduceIte, Int.reduceEq, Int.reduceLT, Int.reduceLE, List.reduceReplicate, intA, setT_nil, setT_cons, hw, hch.bound, trim_at, trim_not, bound_sl]
        exact ⟨μ - 1, by omega, i + 1, by omega, Or.inr ⟨v, h0, rfl, rfl⟩⟩
  · obtain rfl : i = t.length := by omega
    rw [List.take_length] at hin
    have hnl : ¬ (t.length : Int) < (xs.length : Int) := by rw [← hall.1]; omega
    rcases hin with ⟨hf, rfl, rfl⟩ | ⟨v, hf, rfl, rfl⟩
    · simp -implicitDefEqProofs only [go_sem, ↓reduceIte, Int.reduceEq, Int.reduceLT, Int.reduceLE, List.reduceReplicate, intA, setT_nil, setT_cons, hch.len, hch.cells, hch.bound, hnl]
      rw [hf]; rfl
    · simp -implicitDefEqProofs only [go_sem, ↓reduceIte, Int.reduceEq, Int.reduceLT, Int.reduceLE, List.reduceReplicate, intA, setT_nil, setT_cons, hch.len, hch.cells, hch.bound, hnl]
      exact freeze_plN _ 1 v _ hf rfl (by simp [Heap.row, Heap.get])
end Go.Ev
namespace Go.Ev
open Go.Proofs
set_option maxRecDepth 100000
set_option linter.unusedSimpArgs false
attribute [local irreducible] Wp WpS
/-! ### a copy, by the reference -/
def pairR (p r : Rd) : Bool := !(beforeB (r.ch, r.ln, r.wd) (p.ch, p.ln, p.wd) || (eqP r.ch r.ln r.wd p.ch p.ln p.wd && !decide (p.kind = 2)))
def rdsB (t : Txt) : Option Rd → List Rd → Bool
  | _, [] => true
  | p, r :: l => readB t r && (match p with | none => true | some p => pairR p r) && rdsB t (some r) l
def linesN (rs : List Rd) (k : Nat) : Nat → List Line → Bool
  | _, [] => true
  | n, l :: r => withinB 1 10 [((refLine l rs k n).length : Int)] && linesN rs k (n + 1) r
def chapsN (rs : List Rd) : Nat → Txt → Bool
  | _, [] => true
  | k, c :: r => linesN rs k 0 c.2 && chapsN rs (k + 1) r
def copyB (t : Txt) (id : Int) (rs : List Rd) : Bool := withinB 0 9999 [id] && !decide (20 < (rs.length : Int)) && (rdsB t none rs && chapsN rs 0 t)
end Go.Ev
namespace Go.Ev
open Go.Proofs
set_option maxRecDepth 100000
set_option linter.unusedSimpArgs false
attribute [local irreducible] Wp WpS
end Go.Ev
namespace Go.Ev
open Go.Proofs
set_option maxRecDepth 100000
set_option linter.unusedSimpArgs false
attribute [local irreducible] Wp WpS
def takesB (a b c : Int) (r : Rd) : Bool := eqP r.ch r.ln r.wd a b c && !decide (r.kind = 2)
def standL (rs : List Rd) (a b c : Int) (own : ByteArray) : ByteArray := match rs.find? (takesB a b c) with | some r => r.word | none => own
end Go.Ev
namespace Go.Ev
open Go.Proofs
set_option maxRecDepth 100000
set_option linter.unusedSimpArgs false
attribute [local irreducible] Wp WpS
end Go.Ev
namespace Go.Ev
open Go.Proofs
set_option maxRecDepth 100000
set_option linter.unusedSimpArgs false
attribute [local irreducible] Wp WpS
theorem isAgg3 : isAggT Try.prog 3 = some false := by kernel_rfl
end Go.Ev
namespace Go.Ev
open Go.Proofs
set_option maxRecDepth 100000
set_option linter.unusedSimpArgs false
attribute [local irreducible] Wp WpS
/-! ### the lengths of the lines of a copy -/
end Go.Ev
namespace Go.Ev
open Go.Proofs
set_option maxRecDepth 100000
set_option linter.unusedSimpArgs false
attribute [local irreducible] Wp WpS
end Go.Ev
namespace Go.Ev
open Go.Proofs
set_option maxRecDepth 100000
set_option linter.unusedSimpArgs false
/-! ### a line of a copy, read in either way -/
/-- how readings of one line stand one behind the other -/
def Bhd (a b : Rd) : Prop := a.wd ≤ b.wd ∧ (a.kind ≠ 2 → a.wd < b.wd)
/-- a way to write a copy's line word by word -/
structure Way (ls : Line) (on : Rd → Prop) (W : List Rd → List ByteArray → Nat → List ByteArray) : Prop where
  none : ∀ ds w s, ls[w]? = some s → W [] ds w = ds ++ [s]
  last : ∀ ds, W [] ds ls.length = ds
  skip : ∀ (r : Rd) (l : List Rd) (ds : List ByteArray) (w : Nat), r.wd ≠ (w : Nat) → W (r :: l) ds w = W l ds w
  put : ∀ (r : Rd) (l : List Rd) (ds : List ByteArray) (w : Nat), on r → r.wd = (w : Nat) → r.kind = 2 → W (r :: l) ds w = W l (ds ++ [r.word]) w
  other : ∀ (r : Rd) (l : List Rd) (ds : List ByteArray) (w : Nat), on r → r.wd = (w : Nat) → r.kind ≠ 2 → w < ls.length → (∀ q ∈ l, q.wd ≠ (w : Nat)) → W (r :: l) ds w = ds ++ if r.word = emp then [] else [r.word]
theorem Way.far {ls : Line} {on : Rd → Prop} {W : List Rd → List ByteArray → Nat → List ByteArray} (hW : Way ls on W) (ds : List ByteArray) (w : Nat) : ∀ l : List Rd, (∀ r ∈ l, r.wd ≠ (w : Nat)) → W l ds w = W [] ds w
  | [], _ => rfl
  | r :: l, h => by rw [hW.skip r l ds w (h r (List.mem_cons_self ..)), hW.far ds w l fun q hq => h q (List.mem_cons_of_mem _ hq)]
theorem drop_take_succ (ls : Line) (p n : Nat) (s : ByteArray) (h : ls[p]? = some s) : (ls.drop p).take (n + 1) = s :: (ls.drop (p + 1)).take n := by
  obtain ⟨hp, rfl⟩ := List.getElem?_eq_some_iff.1 h
  rw [List.drop_eq_getElem_cons hp, List.take_succ_cons]
theorem Way.free {ls : Line} {on : Rd → Prop} {W : List Rd → List ByteArray → Nat → List ByteArray} (hW : Way ls on W) (l : List Rd) : ∀ (n p : Nat) (ds : List ByteArray), p + n ≤ ls.length → (∀ r ∈ l, ((p + n : Nat) : Int) ≤ r.wd) → (List.range' p n).foldl (W l) ds = ds ++ (ls.drop p).take n
  | 0, p, ds, _, _ => by simp
  | n + 1, p, ds, h1, h2 => by
    obtain ⟨s, hs⟩ := at_lt ls p (by omega)
    rw [List.range'_succ, List.foldl_cons, hW.far ds p l (fun r hr => by have := h2 r hr; omega), hW.none ds p s hs, hW.free l n (p + 1) (ds ++ [s]) (by omega) (fun r hr => by have := h2 r hr; omega), drop_take_succ ls p n s hs, List.append_assoc]
    rfl
theorem foldl_eq {α β : Type} {f g : α → β → α} : ∀ (l : List β) (a : α), (∀ b ∈ l, ∀ a, f a b = g a b) → l.foldl f a = l.foldl g a
  | [], _, _ => rfl
  | b :: l, a, h => by rw [List.foldl_cons, List.foldl_cons, h b (List.mem_cons_self ..) a, foldl_eq l _ fun c hc => h c (List.mem_cons_of_mem _ hc)]
theorem range'_split (p q n : Nat) (h1 : p ≤ q) (h2 : q ≤ n) : List.range' p (n - p) = List.range' p (q - p) ++ List.range' q (n - q) := by
  have h := List.range'_append (s := p) (m := q - p) (n := n - q) (step := 1)
  rw [Nat.one_mul, show p + (q - p) = q by omega, show q - p + (n - q) = n - p by omega] at h
  exact h.symm
/-- the word is what the kind says -/
structure RdW (ls : Line) (r : Rd) : Prop where
  kind : r.kind = 1 ∨ r.kind = 2 ∨ r.kind = 3
  word : r.kind = 1 ↔ r.word = emp
  hi : r.wd + (if r.kind = 2 then 0 else 1) ≤ ls.length
theorem way_read {ls : Line} {on : Rd → Prop} {W : List Rd → List ByteArray → Nat → List ByteArray} (hW : Way ls on W) : ∀ (l : List Rd) (p : Nat) (ds : List ByteArray), p ≤ ls.length → (∀ r ∈ l, on r ∧ RdW ls r ∧ (p : Int) ≤ r.wd) → l.Pairwise Bhd →
    (List.range' p (ls.length + 1 - p)).foldl (W l) ds = (l.foldl (rdOne ls) (p, ds)).2 ++ ls.drop (l.foldl (rdOne ls) (p, ds)).1
  | [], p, ds, hp, _, _ => by
    rw [range'_split p ls.length (ls.length + 1) hp (Nat.le_succ _), List.foldl_append, hW.free [] (ls.length - p) p ds (by omega) (fun r hr => nomatch hr), Nat.add_sub_cancel_left]
    show W [] _ ls.length = _
    rw [hW.last]
    show _ = ds ++ ls.drop p
    rw [List.take_of_length_le (by rw [List.length_drop]; exact Nat.le_refl _)]
  | r :: l, p, ds, hp, hr, hs => by
    obtain ⟨hon, hrw, hpw⟩ := hr r (List.mem_cons_self ..)
    obtain ⟨hb, hs'⟩ := List.pairwise_cons.1 hs
    obtain ⟨q, hq⟩ : ∃ q : Nat, r.wd = q := ⟨r.wd.toNat, by omega⟩
    have hhi := hrw.hi
    have hql : q ≤ ls.length := by split at hhi <;> omega
    have hqt : r.wd.toNat = q := by omega
    have hall : ∀ x ∈ r :: l, (q : Int) ≤ x.wd := fun x hx => by
      rcases List.mem_cons.1 hx with rfl | hx
      · omega
      · have := (hb x hx).1; omega
    have hf := hW.free (r :: l) (q - p) p ds (by omega) (fun x hx => by have := hall x hx; omega)
    rw [range'_split p q (ls.length + 1) (by omega) (by omega), List.foldl_append, hf]
    have hrest : ∀ (a : List ByteArray) (n : Nat), (List.range' (q + 1) n).foldl (W (r :: l)) a = (List.range' (q + 1) n).foldl (W l) a := fun a n =>
      foldl_eq _ a fun w hw a => hW.skip r l a w (by have := (List.mem_range'_1.1 hw).1; omega)
    by_cases hk : r.kind = 2
    · have hd : (r :: l).foldl (rdOne ls) (p, ds) = l.foldl (rdOne ls) (q, ds ++ (ls.drop p).take (q - p) ++ [r.word]) := by
        rw [List.foldl_cons]; unfold rdOne
        simp only [hk, hqt, if_true]
        rw [if_neg (by omega)]
      rw [hd, ← way_read hW l q _ hql (fun x hx => ⟨(hr x (List.mem_cons_of_mem _ hx)).1, (hr x (List.mem_cons_of_mem _ hx)).2.1, hall x (List.mem_cons_of_mem _ hx)⟩) hs']
      rw [show ls.length + 1 - q = (ls.length - q) + 1 by omega, List.range'_succ, List.foldl_cons, List.foldl_cons, hW.put r l _ q hon hq hk, hrest]
    · have hlt : q < ls.length := by rw [if_neg hk] at hhi; omega
      have hne : ∀ x ∈ l, x.wd ≠ (q : Nat) := fun x hx => by have := (hb x hx).2 hk; omega
      have hw : (if r.kind = 1 then ([] : List ByteArray) else [r.word]) = if r.word = emp then [] else [r.word] := by
        by_cases h1 : r.kind = 1
        · rw [if_pos h1, if_pos (hrw.word.1 h1)]
        · rw [if_neg h1, if_neg (fun h => h1 (hrw.word.2 h))]
      have hd : (r :: l).foldl (rdOne ls) (p, ds) = l.foldl (rdOne ls) (q + 1, ds ++ (ls.drop p).take (q - p) ++ if r.word = emp then [] else [r.word]) := by
        rw [List.foldl_cons]; unfold rdOne
        simp only [hk, hqt, if_false, hw]
      rw [hd, ← way_read hW l (q + 1) _ hlt (fun x hx => ⟨(hr x (List.mem_cons_of_mem _ hx)).1, (hr x (List.mem_cons_of_mem _ hx)).2.1, by have := (hb x hx).2 hk; omega⟩) hs']
      rw [show ls.length + 1 - q = (ls.length + 1 - (q + 1)) + 1 by omega, List.range'_succ, List.foldl_cons, hW.other r l _ q hon hq hk hlt hne, hrest]
theorem way_line {ls : Line} {on : Rd → Prop} {W : List Rd → List ByteArray → Nat → List ByteArray} (hW : Way ls on W) (l : List Rd) (hr : ∀ r ∈ l, on r ∧ RdW ls r ∧ 0 ≤ r.wd) (hs : l.Pairwise Bhd) : (List.range (ls.length + 1)).foldl (W l) [] = readLineL ls l := by
  rw [List.range_eq_range']
  exact way_read hW l 0 [] (Nat.zero_le _) hr hs
/-! ### the reference's way -/
theorem refI_far (k n : Int) (w : Nat) (l : List Rd) (h : ∀ q ∈ l, q.wd ≠ (w : Nat)) (s : List ByteArray × ByteArray) : l.foldl (refI k n w) s = s := by
  induction l generalizing s with
  | nil => rfl
  | cons r l ih =>
    have : refI k n w s r = s := by unfold refI; rw [if_neg (fun hh => h r (List.mem_cons_self ..) hh.2.2)]
    rw [List.foldl_cons, this, ih fun q hq => h q (List.mem_cons_of_mem _ hq)]
theorem way_ref (ls : Line) (hne : ∀ s ∈ ls, s ≠ emp) (k n : Int) : Way ls (fun r => r.ch = k ∧ r.ln = n) (fun l => refW ls l k n) := by
  refine ⟨fun ds w s hs => ?_, fun ds => ?_, fun r l ds w h => ?_, fun r l ds w ho h hk => ?_, fun r l ds w ho h hk hw hf => ?_⟩
  · unfold refW
    simp only [List.foldl_nil, hs, Option.getD_some]
    rw [if_neg (hne s (List.mem_of_getElem? hs))]
  · unfold refW
    simp only [List.foldl_nil, List.getElem?_eq_none_iff.2 (Nat.le_refl _), Option.getD_none, if_true]
  · unfold refW
    rw [List.foldl_cons, show refI k n w (ds, (ls[w]?).getD emp) r = (ds, (ls[w]?).getD emp) by unfold refI; rw [if_neg (fun hh => h hh.2.2)]]
  · unfold refW
    rw [List.foldl_cons, show refI k n w (ds, (ls[w]?).getD emp) r = (ds ++ [r.word], (ls[w]?).getD emp) by unfold refI; rw [if_pos ⟨ho.1, ho.2, h⟩, if_pos hk]]
  · unfold refW
    rw [List.foldl_cons, show refI k n w (ds, (ls[w]?).getD emp) r = (ds, r.word) by unfold refI; rw [if_pos ⟨ho.1, ho.2, h⟩, if_neg hk], refI_far k n w l hf]
    simp only
    split
    · rw [List.append_nil]
    · rfl
theorem atLine_iff {k n : Int} {r : Rd} : atLine k n 0 r = true ↔ r.ch = k ∧ r.ln = n := by
  unfold atLine eqP; simp
theorem refW_filter (ls : Line) (rs : List Rd) (k n : Int) (ds : List ByteArray) (w : Nat) : refW ls rs k n ds w = refW ls (rs.filter (atLine k n 0)) k n ds w := by
  have h : ∀ (l : List Rd) (s : List ByteArray × ByteArray), l.foldl (refI k n w) s = (l.filter (atLine k n 0)).foldl (refI k n w) s := by
    intro l
    induction l with
    | nil => intro s; rfl
    | cons r l ih =>
      intro s
      cases ha : atLine k n 0 r
      · have : refI k n w s r = s := by unfold refI; rw [if_neg (fun hh => by rw [atLine_iff.2 ⟨hh.1, hh.2.1⟩] at ha; cases ha)]
        rw [List.foldl_cons, this, ih, List.filter_cons_of_neg (by rw [ha]; simp)]
      · rw [List.filter_cons_of_pos ha, List.foldl_cons, List.foldl_cons, ih]
  unfold refW; rw [h rs]
/-! ### the law's way -/
def putAt (k n w : Int) (r : Rd) : Bool := decide (r.kind = 2) && eqP r.ch r.ln r.wd k n w
def lawW (ls : Line) (rs : List Rd) (k n : Int) (ds : List ByteArray) (w : Nat) : List ByteArray :=
  let d := ds ++ (rs.filter (putAt k n w)).map Rd.word
  match ls[w]? with
  | none => d
  | some s => if standL rs k n w s = emp then d else d ++ [standL rs k n w s]
theorem eqP_wd {r : Rd} {k n : Int} {w : Nat} (h : r.wd ≠ (w : Nat)) : eqP r.ch r.ln r.wd k n w = false := by
  unfold eqP; simp; intro _ _ h2; exact h h2
theorem eqP_on {r : Rd} {k n : Int} {w : Nat} (h : r.ch = k ∧ r.ln = n) (hw : r.wd = (w : Nat)) : eqP r.ch r.ln r.wd k n w = true := by
  unfold eqP; simp [h.1, h.2, hw]
theorem stand_cons_no {r : Rd} {l : List Rd} {k n w : Int} {s : ByteArray} (h : takesB k n w r = false) : standL (r :: l) k n w s = standL l k n w s := by unfold standL; rw [List.find?_cons, h]
theorem stand_cons_yes {r : Rd} {l : List Rd} {k n w : Int} {s : ByteArray} (h : takesB k n w r = true) : standL (r :: l) k n w s = r.word := by unfold standL; rw [List.find?_cons, h]
theorem way_law (ls : Line) (hne : ∀ s ∈ ls, s ≠ emp) (k n : Int) : Way ls (fun r => r.ch = k ∧ r.ln = n) (fun l => lawW ls l k n) := by
  refine ⟨fun ds w s hs => ?_, fun ds => ?_, fun r l ds w h => ?_, fun r l ds w ho h hk => ?_, fun r l ds w ho h hk hw hf => ?_⟩
  · unfold lawW
    have h0 : standL [] k n w s = s := rfl
    simp only [hs, List.filter_nil, List.map_nil, List.append_nil, h0]
    rw [if_neg (hne s (List.mem_of_getElem? hs))]
  · unfold lawW
    simp only [List.getElem?_eq_none_iff.2 (Nat.le_refl _), List.filter_nil, List.map_nil, List.append_nil]
  · have h1 : putAt k n w r = false := by unfold putAt; rw [eqP_wd h, Bool.and_false]
    have h2 : takesB k n w r = false := by unfold takesB; rw [eqP_wd h]; rfl
    unfold lawW
    rw [List.filter_cons_of_neg (by rw [h1]; simp)]
    simp only [stand_cons_no h2]
  · have h1 : putAt k n w r = true := by unfold putAt; rw [eqP_on ho h, Bool.and_true]; exact decide_eq_true hk
    have h2 : takesB k n w r = false := by unfold takesB; rw [decide_eq_true hk, Bool.not_true, Bool.and_false]
    unfold lawW
    rw [List.filter_cons_of_pos h1]
    simp only [stand_cons_no h2, List.map_cons, List.append_assoc, List.singleton_append]
  · have h1 : putAt k n w r = false := by unfold putAt; rw [decide_eq_false hk]; rfl
    have h2 : takesB k n w r = true := by unfold takesB; rw [eqP_on ho h, decide_eq_false hk]; rfl
    have h3 : l.filter (putAt k n w) = [] := List.filter_eq_nil_iff.2 fun q hq => by unfold putAt; rw [eqP_wd (hf q hq), Bool.and_false]; simp
    obtain ⟨s, hs⟩ := at_lt ls w hw
    unfold lawW
    rw [List.filter_cons_of_neg (by rw [h1]; simp), h3]
    simp only [hs, stand_cons_yes h2, List.map_nil, List.append_nil]
    split
    · rw [List.append_nil]
    · rfl
theorem lawW_filter (ls : Line) (rs : List Rd) (k n : Int) (ds : List ByteArray) (w : Nat) : lawW ls rs k n ds w = lawW ls (rs.filter (atLine k n 0)) k n ds w := by
  have ha : ∀ r : Rd, eqP r.ch r.ln r.wd k n w = true → atLine k n 0 r = true := fun r h => by
    unfold eqP at h; simp at h; exact atLine_iff.2 ⟨h.1, h.2.1⟩
  have h1 : rs.filter (putAt k n w) = (rs.filter (atLine k n 0)).filter (putAt k n w) := by
    rw [List.filter_filter]
    refine List.filter_congr fun r _ => ?_
    cases hp : putAt k n w r
    · rfl
    · have : eqP r.ch r.ln r.wd k n w = true := by unfold putAt at hp; simp only [Bool.and_eq_true] at hp; exact hp.2
      rw [ha r this]; rfl
  have h2 : ∀ s, standL rs k n w s = standL (rs.filter (atLine k n 0)) k n w s := fun s => by
    induction rs with
    | nil => rfl
    | cons r l ih =>
      cases hl : atLine k n 0 r
      · have ht : takesB k n w r = false := by
          cases ht : takesB k n w r
          · rfl
          · unfold takesB at ht; simp only [Bool.and_eq_true] at ht; rw [ha r ht.1] at hl; cases hl
        rw [stand_cons_no ht, List.filter_cons_of_neg (by rw [hl]; simp)]
        exact ih (by rw [List.filter_filter]; refine List.filter_congr fun r _ => ?_; cases hp : putAt k n w r
                     · rfl
                     · have : eqP r.ch r.ln r.wd k n w = true := by unfold putAt at hp; simp only [Bool.and_eq_true] at hp; exact hp.2
                       rw [ha r this]; rfl)
      · rw [List.filter_cons_of_pos hl]
        unfold standL
        rw [List.find?_cons, List.find?_cons]
        cases ht : takesB k n w r
        · exact ih (by rw [List.filter_filter]; refine List.filter_congr fun r _ => ?_; cases hp : putAt k n w r
                       · rfl
                       · have : eqP r.ch r.ln r.wd k n w = true := by unfold putAt at hp; simp only [Bool.and_eq_true] at hp; exact hp.2
                         rw [ha r this]; rfl)
        · rfl
  unfold lawW; rw [← h1]; simp only [← h2]
end Go.Ev
namespace Go.Ev
open Go.Proofs
set_option maxRecDepth 100000
set_option linter.unusedSimpArgs false
/-! ### readings in order -/
def Ahd (a b : Rd) : Prop := a.ch < b.ch ∨ (a.ch = b.ch ∧ (a.ln < b.ln ∨ (a.ln = b.ln ∧ a.wd ≤ b.wd ∧ (a.kind ≠ 2 → a.wd < b.wd))))
theorem Ahd.trans {a b c : Rd} (h1 : Ahd a b) (h2 : Ahd b c) : Ahd a c := by
  unfold Ahd at *; omega
theorem pairR_ahd {a b : Rd} (h : pairR a b = true) : Ahd a b := by
  unfold pairR beforeB eqP at h
  unfold Ahd
  simp only [Bool.not_eq_true', Bool.or_eq_false_iff, Bool.and_eq_false_iff, Bool.not_eq_false', decide_eq_false_iff_not, decide_eq_true_eq, ne_eq] at h
  obtain ⟨h1, h2⟩ := h
  split at h1
  · simp only [decide_eq_false_iff_not] at h1; omega
  · split at h1
    · simp only [decide_eq_false_iff_not] at h1; omega
    · simp only [decide_eq_false_iff_not] at h1; omega
theorem rdsB_all (t : Txt) : ∀ (l : List Rd) (p : Option Rd), rdsB t p l = true → (∀ r ∈ l, readB t r = true) ∧ l.Pairwise Ahd ∧ (∀ q, p = some q → ∀ r ∈ l, Ahd q r)
  | [], _, _ => ⟨(fun r h => nomatch h), List.Pairwise.nil, (fun _ _ r h => nomatch h)⟩
  | r :: l, p, h => by
    unfold rdsB at h
    simp only [Bool.and_eq_true] at h
    obtain ⟨⟨h1, h2⟩, h3⟩ := h
    obtain ⟨i1, i2, i3⟩ := rdsB_all t l (some r) h3
    have i3 := i3 r rfl
    refine ⟨fun x hx => ?_, List.pairwise_cons.2 ⟨i3, i2⟩, fun q hq x hx => ?_⟩
    · rcases List.mem_cons.1 hx with rfl | hx
      · exact h1
      · exact i1 x hx
    · subst hq
      have hr := pairR_ahd h2
      rcases List.mem_cons.1 hx with rfl | hx
      · exact hr
      · exact hr.trans (i3 x hx)
theorem wordB_ne {s : ByteArray} (h : wordB s = true) : s ≠ emp := by
  rintro rfl
  unfold wordB at h
  simp only [Bool.and_eq_true] at h
  have := h.1
  revert this; decide
/-- a copy whose readings fit, in order -/
structure Cpy (t : Txt) (rs : List Rd) : Prop where
  fit : ∀ r ∈ rs, readB t r = true
  ord : rs.Pairwise Ahd
theorem Cpy.of {t : Txt} {rs : List Rd} (h : rdsB t none rs = true) : Cpy t rs := ⟨(rdsB_all t rs none h).1, (rdsB_all t rs none h).2.1⟩
/-- the readings of one line -/
def ofLn (rs : List Rd) (k n : Int) : List Rd := rs.filter (atLine k n 0)
theorem ofLn_mem {rs : List Rd} {k n : Int} {r : Rd} : r ∈ ofLn rs k n ↔ r ∈ rs ∧ r.ch = k ∧ r.ln = n := by
  unfold ofLn; rw [List.mem_filter, atLine_iff]
theorem Cpy.bhd {t : Txt} {rs : List Rd} (h : Cpy t rs) (k n : Int) : (ofLn rs k n).Pairwise Bhd := by
  have h1 : (ofLn rs k n).Pairwise Ahd := h.ord.sublist List.filter_sublist
  refine h1.imp_of_mem fun ha hb hr => ?_
  have h2 := (ofLn_mem.1 ha).2
  have h3 := (ofLn_mem.1 hb).2
  unfold Ahd at hr
  unfold Bhd
  omega
theorem Cpy.rdw {t : Txt} {rs : List Rd} (h : Cpy t rs) {k n : Int} {ls : Line} (hl : lineAt t k n = some ls) {r : Rd} (hr : r ∈ ofLn rs k n) : RdW ls r ∧ 0 ≤ r.wd := by
  obtain ⟨hm, h1, h2⟩ := ofLn_mem.1 hr
  have hf := h.fit r hm
  unfold readB at hf
  rw [h1, h2, hl] at hf
  simp only at hf
  split at hf
  · rename_i hk
    unfold fits1 at hf
    simp only [Bool.and_eq_true, decide_eq_true_eq] at hf
    exact ⟨⟨Or.inl hk, ⟨fun _ => hf.2, fun _ => hk⟩, by rw [if_neg (by omega)]; omega⟩, hf.1.1⟩
  · split at hf
    · rename_i hk1 hk
      unfold fits2 withinB at hf
      simp only [List.all_cons, List.all_nil, Bool.and_true, Bool.and_eq_true, decide_eq_true_eq] at hf
      exact ⟨⟨Or.inr (Or.inl hk), ⟨fun h => absurd h hk1, fun h => absurd h (wordB_ne hf.2)⟩, by rw [if_pos hk]; omega⟩, hf.1.1⟩
    · split at hf
      · rename_i hk1 hk2 hk
        unfold fits3 at hf
        simp only [Bool.and_eq_true, decide_eq_true_eq] at hf
        exact ⟨⟨Or.inr (Or.inr hk), ⟨fun h => absurd h hk1, fun h => absurd h (wordB_ne hf.1.2)⟩, by rw [if_neg hk2]; omega⟩, hf.1.1.1⟩
      · cases hf
theorem foldl_same {α β : Type} {f g : α → β → α} (h : ∀ a b, f a b = g a b) (l : List β) (a : α) : l.foldl f a = l.foldl g a := foldl_eq l a fun b _ a => h a b
theorem Cpy.line {t : Txt} {rs : List Rd} (h : Cpy t rs) {k n : Int} {ls : Line} (hl : lineAt t k n = some ls) (hne : ∀ s ∈ ls, s ≠ emp) : refLine ls rs k n = readLineL ls (ofLn rs k n) := by
  unfold refLine
  rw [foldl_same (g := refW ls (ofLn rs k n) k n) (fun a b => refW_filter ls rs k n a b)]
  exact way_line (way_ref ls hne k n) (ofLn rs k n) (fun r hr => ⟨(ofLn_mem.1 hr).2, h.rdw hl hr⟩) (h.bhd k n)
theorem Cpy.law {t : Txt} {rs : List Rd} (h : Cpy t rs) {k n : Int} {ls : Line} (hl : lineAt t k n = some ls) (hne : ∀ s ∈ ls, s ≠ emp) : (List.range (ls.length + 1)).foldl (lawW ls rs k n) [] = refLine ls rs k n := by
  rw [h.line hl hne, foldl_same (g := lawW ls (ofLn rs k n) k n) (fun a b => lawW_filter ls rs k n a b)]
  exact way_line (way_law ls hne k n) (ofLn rs k n) (fun r hr => ⟨(ofLn_mem.1 hr).2, h.rdw hl hr⟩) (h.bhd k n)
/-! ### the text of a copy -/
def readT (t : Txt) (rs : List Rd) : Txt := t.mapIdx fun k c => (c.1, c.2.mapIdx fun n l => refLine l rs k n)
theorem readT_get {t : Txt} {rs : List Rd} {k : Nat} {c : Chap} (h : t[k]? = some c) : (readT t rs)[k]? = some (c.1, c.2.mapIdx fun n l => refLine l rs k n) := by
  unfold readT; rw [List.getElem?_mapIdx, h]; rfl
theorem lineAt_nat {t : Txt} {k n : Nat} {c : Chap} {l : Line} (h : t[k]? = some c) (hl : c.2[n]? = some l) : lineAt t k n = some l := by
  unfold lineAt
  rw [if_pos (by omega)]
  simp only [Int.toNat_natCast, h, Option.bind_some, hl]
end Go.Ev
namespace Go.Ev
open Go.Proofs
set_option maxRecDepth 100000
set_option linter.unusedSimpArgs false
attribute [local irreducible] Wp WpS
/-! ### the text of a copy, as read answers it -/
theorem Small.ne {t : Txt} (hs : Small t) {k n : Int} {ls : Line} (h : lineAt t k n = some ls) : ∀ s ∈ ls, s ≠ emp := fun s hm => by
  obtain ⟨c, hc, hl⟩ := lineAt_mem h
  exact wordB_ne (hs.word c hc ls hl s hm)
/-! ### the lines of a copy are lines -/
theorem linesN_get (rs : List Rd) (k : Nat) : ∀ (ls : List Line) (n j : Nat) (l : Line), linesN rs k n ls = true → ls[j]? = some l → withinB 1 10 [((refLine l rs k ((n + j : Nat) : Int)).length : Int)] = true
  | [], _, _, _, _, h => by simp at h
  | x :: r, n, j, l, h1, h2 => by
    unfold linesN at h1
    simp only [Bool.and_eq_true] at h1
    cases j with
    | zero => simp at h2; subst h2; exact h1.1
    | succ j =>
      have := linesN_get rs k r (n + 1) j l h1.2 (by simpa using h2)
      rwa [show n + 1 + j = n + (j + 1) by omega] at this
theorem chapsN_get (rs : List Rd) : ∀ (t : Txt) (k i : Nat) (c : Chap), chapsN rs k t = true → t[i]? = some c → linesN rs (k + i) 0 c.2 = true
  | [], _, _, _, _, h => by simp at h
  | x :: r, k, i, c, h1, h2 => by
    unfold chapsN at h1
    simp only [Bool.and_eq_true] at h1
    cases i with
    | zero => simp at h2; subst h2; exact h1.1
    | succ i =>
      have := chapsN_get rs r (k + 1) i c h1.2 (by simpa using h2)
      rwa [show k + 1 + i = k + (i + 1) by omega] at this
theorem readT_mem {t : Txt} {rs : List Rd} {c : Chap} {l : Line} (hc : c ∈ readT t rs) (hl : l ∈ c.2) : ∃ (k n : Nat) (d : Chap) (ln : Line), t[k]? = some d ∧ d.2[n]? = some ln ∧ l = refLine ln rs k n ∧ c.2.length = d.2.length := by
  obtain ⟨k, hk⟩ := List.getElem?_of_mem hc
  have hil : k < t.length := by
    have := (List.getElem?_eq_some_iff.1 hk).1
    unfold readT at this; rwa [List.length_mapIdx] at this
  obtain ⟨d, hd⟩ := at_lt t k hil
  rw [readT_get hd] at hk
  cases hk
  obtain ⟨n, hn⟩ := List.getElem?_of_mem hl
  simp only at hn
  rw [List.getElem?_mapIdx] at hn
  cases hk : d.2[n]? with
  | none => rw [hk] at hn; cases hn
  | some ln => rw [hk] at hn; cases hn; exact ⟨k, n, d, ln, hd, hk, rfl, by simp⟩
theorem readT_chap {t : Txt} {rs : List Rd} {c : Chap} (hc : c ∈ readT t rs) : ∃ d ∈ t, c.1 = d.1 ∧ c.2.length = d.2.length := by
  obtain ⟨k, hk⟩ := List.getElem?_of_mem hc
  have hil : k < t.length := by
    have := (List.getElem?_eq_some_iff.1 hk).1
    unfold readT at this; rwa [List.length_mapIdx] at this
  obtain ⟨d, hd⟩ := at_lt t k hil
  rw [readT_get hd] at hk
  cases hk
  exact ⟨d, List.mem_of_getElem? hd, rfl, by simp⟩
theorem rdOnes_mem {ls : Line} {s : ByteArray} : ∀ (l : List Rd) (st : Nat × List ByteArray), s ∈ (l.foldl (rdOne ls) st).2 → s ∈ st.2 ∨ s ∈ ls ∨ ∃ r ∈ l, r.kind ≠ 1 ∧ s = r.word
  | [], st, h => Or.inl h
  | r :: l, st, h => by
    rw [List.foldl_cons] at h
    rcases rdOnes_mem l _ h with h | h | ⟨q, hq, h⟩
    · unfold rdOne at h
      simp only at h
      rcases List.mem_append.1 h with h | h
      · rcases List.mem_append.1 h with h | h
        · exact Or.inl h
        · exact Or.inr (Or.inl (List.mem_of_mem_drop (List.mem_of_mem_take h)))
      · split at h
        · exact nomatch h
        · rename_i hk
          exact Or.inr (Or.inr ⟨r, List.mem_cons_self .., hk, List.mem_singleton.1 h⟩)
    · exact Or.inr (Or.inl h)
    · exact Or.inr (Or.inr ⟨q, List.mem_cons_of_mem _ hq, h⟩)
theorem readLineL_mem {ls : Line} {l : List Rd} {s : ByteArray} (h : s ∈ readLineL ls l) : s ∈ ls ∨ ∃ r ∈ l, r.kind ≠ 1 ∧ s = r.word := by
  unfold readLineL at h
  rcases List.mem_append.1 h with h | h
  · rcases rdOnes_mem l _ h with h | h | h
    · exact nomatch h
    · exact Or.inl h
    · exact Or.inr h
  · exact Or.inl (List.mem_of_mem_drop h)
theorem Cpy.wordB {t : Txt} {rs : List Rd} (h : Cpy t rs) {r : Rd} (hr : r ∈ rs) (hk : r.kind ≠ 1) : wordB r.word = true := by
  have hf := h.fit r hr
  unfold readB at hf
  split at hf
  · cases hf
  · rw [if_neg hk] at hf
    split at hf
    · unfold fits2 at hf; simp only [Bool.and_eq_true] at hf; exact hf.2
    · split at hf
      · unfold fits3 at hf; simp only [Bool.and_eq_true] at hf; exact hf.1.2
      · cases hf
/-- what the reference's Copy says of a copy -/
structure Right (t : Txt) (id : Int) (rs : List Rd) : Prop where
  id : withinB 0 9999 [id] = true
  len : ¬ 20 < (rs.length : Int)
  cpy : Cpy t rs
  lines : ∀ (k n : Nat) (c : Chap) (l : Line), t[k]? = some c → c.2[n]? = some l → 1 ≤ (refLine l rs k n).length ∧ (refLine l rs k n).length ≤ 10
theorem Right.of {t : Txt} {id : Int} {rs : List Rd} (h : copyB t id rs = true) : Right t id rs := by
  unfold copyB at h
  simp only [Bool.and_eq_true, Bool.not_eq_true', decide_eq_false_iff_not] at h
  obtain ⟨⟨h1, h2⟩, h3, h4⟩ := h
  refine ⟨h1, h2, Cpy.of h3, fun k n c l hc hl => ?_⟩
  have := linesN_get rs (0 + k) c.2 0 n l (chapsN_get rs t 0 k c h4 hc) hl
  rw [Nat.zero_add, Nat.zero_add] at this
  unfold withinB at this
  simp only [List.all_cons, List.all_nil, Bool.and_true, Bool.and_eq_true, decide_eq_true_eq] at this
  omega
theorem Right.small {t : Txt} {id : Int} {rs : List Rd} (h : Right t id rs) (hs : Small t) : Small (readT t rs) := by
  refine ⟨?_, fun c hc => ?_, fun c hc l hl => ?_, fun c hc l hl s hm => ?_⟩
  · unfold readT; rw [List.length_mapIdx]; exact hs.chs
  · obtain ⟨d, hd, -, h2⟩ := readT_chap hc
    rw [h2]; exact hs.lines d hd
  · obtain ⟨k, n, d, ln, h1, h2, rfl, -⟩ := readT_mem hc hl
    exact h.lines k n d ln h1 h2
  · obtain ⟨k, n, d, ln, h1, h2, rfl, -⟩ := readT_mem hc hl
    have hLA := lineAt_nat h1 h2
    rw [h.cpy.line hLA (hs.ne hLA)] at hm
    rcases readLineL_mem hm with hm | ⟨r, hr, hk, rfl⟩
    · exact hs.word d (List.mem_of_getElem? h1) ln (List.mem_of_getElem? h2) s hm
    · exact h.cpy.wordB ((ofLn_mem.1 hr).1) hk
end Go.Ev
namespace Go.Ev
open Go.Proofs
set_option maxRecDepth 100000
set_option linter.unusedSimpArgs false
attribute [local irreducible] Wp WpS
/-! ### a copy that is right, by both -/
/-! ### memory with a list of words that grows over what stays -/
structure MB (B : Nat) (base : Fm) (H : Heap) (ds : List ByteArray) (out : AV) : Prop where
  lock : H.lock = 0
  size : B ≤ H.size
  base : Has base H
  done : DoneR H ds out
/-- what stays is no list that grows, and lies in front -/
def Stay (B : Nat) (base : Fm) : Prop := ∀ p ∈ base, p.1 < B ∧ ∀ v m e sz cs, p.2 ≠ .cells v m e sz true cs
theorem MB.row {B : Nat} {base : Fm} {H : Heap} {ds : List ByteArray} {out : AV} (h : MB B base H ds out) {b v m e sz : Nat} {g : Bool} {cs : List AV} (hb : (b, AObj.cells v m e sz g cs) ∈ base) (E : List (Option AObj)) : (H.plus E).row b v = some (m, e, sz, g, cs) := by
  have hg := h.base _ hb
  rw [rowLo (get_ltS hg)]; exact get_row hg
theorem MB.plus {B : Nat} {base : Fm} {H : Heap} {ds : List ByteArray} {out : AV} (h : MB B base H ds out) (E : List (Option AObj)) : MB B base (H.plus E) ds out :=
  ⟨h.lock, by have := h.size; rw [plus_size]; omega, h.base.plus E, h.done.plus E⟩
theorem MB.trim {B : Nat} {base : Fm} {H : Heap} {ds : List ByteArray} {out : AV} (h : MB B base H ds out) (hS : Stay B base) {n : Nat} (hn : B ≤ n) (vs : List AV) (ms : List Nat) (hv : bound out ≤ boundL vs) : MB B base (H.trim n vs ms) ds out := by
  by_cases hn2 : n ≤ H.size
  · refine ⟨trim_lock.trans h.lock, Nat.le_trans hn (trim_size' hn2), fun p hp => (trim_lo (by have := (hS p hp).1; omega)).trans (h.base p hp), ?_⟩
    rcases h.done with hd | ⟨b, v, h1, h2, rfl, h4⟩
    · exact Or.inl hd
    · unfold Heap.trim
      split
      · rename_i hq
        rw [Bool.and_eq_true, Bool.and_eq_true, Bool.and_eq_true, Nat.ble_eq] at hq
        have h5 := hq.1.1.1
        have hb : b < n := by simp only [bound] at hv; omega
        have hg := (takeH_get (H := H) hb).trans (row_of_get h4)
        exact Or.inr ⟨b, v, h1, get_size hg, rfl, get_row hg⟩
      · exact Or.inr ⟨b, v, h1, h2, rfl, h4⟩
  · rw [trim_whole (by omega)]; exact h
theorem MB.more {B : Nat} {base : Fm} {H : Heap} {ds : List ByteArray} {b v : Nat} (h : MB B base H ds (.sl b v 0 ds.length none)) (hS : Stay B base) (hb : b < H.size) (hr : H.row b v = some (0, 9, 1, true, strs ds)) (s : List ByteArray) (n : Nat) (hn : n = ds.length + s.length) : MB B base (H.put b (.cells (v + 1) 0 9 1 true (strs (ds ++ s)))) (ds ++ s) (.sl b (v + 1) 0 n none) := by
  refine ⟨h.lock, by rw [put_sizeI _ hb]; exact h.size, fun p hp => ?_, Or.inr ⟨b, v + 1, ?_, by rw [put_sizeI _ hb]; exact hb, by rw [hn, List.length_append], row_put_same hb⟩⟩
  · have hne : p.1 ≠ b := by
      rintro rfl
      have h1 := (row_of_get hr).symm.trans (h.base p hp)
      exact (hS p hp).2 v 0 9 1 (strs ds) (Option.some.inj h1).symm
    exact (put_get_ne _ (by omega) hne).trans (h.base p hp)
  · have := h.lock
    show H.lock ≤ b
    omega
theorem MB.new {B : Nat} {base : Fm} {H : Heap} {ds : List ByteArray} {out : AV} (h : MB B base H ds out) {N : Nat} (hN : H.size = N) (E : List (Option AObj)) (k : Nat) (ds' : List ByteArray) (hE : E[k]? = some (some (.cells 0 0 9 1 true (strs ds')))) : MB B base (H.plus E) ds' (.sl (N + k) 0 0 ds'.length none) := by
  have hk := (List.getElem?_eq_some_iff.1 hE).1
  refine ⟨h.lock, by have := h.size; rw [plus_size]; omega, h.base.plus E, Or.inr ⟨N + k, 0, ?_, by rw [plus_size]; omega, rfl, ?_⟩⟩
  · have := h.lock
    show H.lock ≤ _
    omega
  · rw [rowP hN, hE]; rfl
end Go.Ev
namespace Go.Ev
open Go.Proofs
set_option maxRecDepth 100000
set_option linter.unusedSimpArgs false
attribute [local irreducible] Wp WpS
end Go.Ev
namespace Go.Ev
open Go.Proofs
set_option maxRecDepth 100000
set_option linter.unusedSimpArgs false
attribute [local irreducible] Wp WpS
end Go.Ev
namespace Go.Ev
open Go.Proofs
set_option maxRecDepth 100000
set_option linter.unusedSimpArgs false
attribute [local irreducible] Wp WpS
theorem MB.drop {B : Nat} {base : Fm} {H : Heap} {ds : List ByteArray} {out : AV} (h : MB B base H ds out) : MB B base H [] (.v (.slice none 0 0)) := ⟨h.lock, h.size, h.base, Or.inl ⟨rfl, rfl⟩⟩
theorem MB.sub {B B' : Nat} {base base' : Fm} {H : Heap} {ds : List ByteArray} {out : AV} (h : MB B base H ds out) (hB : B' ≤ B) (hb : ∀ p ∈ base', p ∈ base) : MB B' base' H ds out := ⟨h.lock, Nat.le_trans hB h.size, fun p hp => h.base p (hb p hp), h.done⟩
theorem MB.lay {B : Nat} {base : Fm} {H : Heap} {ds : List ByteArray} {out : AV} (h : MB B base H ds out) {N : Nat} (hN : H.size = N) (o : AObj) (E : List (Option AObj)) : MB (N + 1) (base ++ [(N, o)]) (H.plus (some o :: E)) ds out := by
  refine ⟨h.lock, by rw [plus_size, hN, List.length_cons]; omega, fun p hp => ?_, h.done.plus _⟩
  rcases List.mem_append.1 hp with hp | hp
  · exact h.base.plus _ p hp
  · obtain rfl := List.mem_singleton.1 hp
    rw [plus_get_hi _ (by omega), hN, Nat.sub_self]; rfl
theorem Stay.lay {B N : Nat} {base : Fm} (h : Stay B base) (hB : B ≤ N) {o : AObj} (ho : ∀ v m e sz cs, o ≠ .cells v m e sz true cs) : Stay (N + 1) (base ++ [(N, o)]) := by
  intro p hp
  rcases List.mem_append.1 hp with hp | hp
  · exact ⟨by have := (h p hp).1; omega, (h p hp).2⟩
  · obtain rfl := List.mem_singleton.1 hp
    exact ⟨Nat.lt_succ_self _, ho⟩
end Go.Ev
namespace Go.Ev
open Go.Proofs
set_option maxRecDepth 1000000
def extWord : List AV → Option AV
  | [.v (.string s)] => if s.size < 1000 then some (.v (.bool (wordB s))) else none
  | _ => none
def eN : Exts := { x := fun _ => none }
def e0 : Exts := eN.more 100 cmpStr
def e1 : Exts := e0.more 49 extWord
theorem quiet0 : Quiet e0 := by
  intro f h1 h2
  unfold e0 Exts.more
  show (if Nat.beq f 100 then some cmpStr else none) = none
  rw [if_neg]
  intro h; exact h2 (Nat.eq_of_beq_eq_true h)
theorem mixed (e : Exts) : (Cx e).P.follows .mixedOrders = true := by show Try.prog.follows .mixedOrders = true; kernel_rfl
theorem nogo_all : (Try.prog.funcs.toList.all fun fn => !(fn.body.isSome && (fn.name == "runtime.NumGoroutine"))) = true := by kernel_rfl
theorem nogo (e : Exts) : NoGo (Cx e).P := by
  intro f fn hf hb
  have h := List.all_eq_true.1 nogo_all fn (by
    have : Try.prog.funcs[f]? = some fn := hf
    exact List.mem_of_getElem? (by simpa using this))
  rw [hb] at h
  simpa using h
theorem extOK_none : ExtOK (Cx eN) := by
  refine ⟨fun _ _ h => (nomatch h), fun f g h => ?_⟩
  have h' : (if Nat.beq f 105 then none else if Nat.beq f 75 then none else none) = some g := h
  split at h'
  · cases h'
  · split at h' <;> cases h'
theorem extOK0 : ExtOK (Cx e0) := by
  refine extOK_more (C := Cx eN) (f := 100) (g := cmpStr) rfl ?_ extOK_none rfl
  intro args v h Z ρ H w vals hs hl
  exact ext_cmp (fn := Try.f100) Try.func100 (by kernel_rfl) (by kernel_rfl) (by kernel_rfl) (by kernel_rfl) h Z ρ H w vals hs hl
end Go.Ev
/- A function that sorts a row of memory, and stands for itself. -/
namespace Go.Ev
open Go.Sort
/-! ### lists in order -/
section
variable {α : Type}
def insL (lt : α → α → Bool) (x : α) : List α → List α
  | [] => [x]
  | y :: r => if lt y x then y :: insL lt x r else x :: y :: r
def sortL (lt : α → α → Bool) : List α → List α
  | [] => []
  | x :: r => insL lt x (sortL lt r)
def Asc (lt : α → α → Bool) (l : List α) : Prop := l.Pairwise fun a b => lt b a = false
theorem insL_perm (lt : α → α → Bool) (x : α) : ∀ l, (insL lt x l).Perm (x :: l)
  | [] => .refl _
  | y :: r => by
    unfold insL; split
    · exact ((insL_perm lt x r).cons y).trans (.swap _ _ _)
    · exact .refl _
theorem sortL_perm (lt : α → α → Bool) : ∀ l, (sortL lt l).Perm l
  | [] => .refl _
  | x :: r => (insL_perm lt x _).trans ((sortL_perm lt r).cons x)
theorem insL_asc {lt : α → α → Bool} (hO : SWO lt) (x : α) : ∀ {l : List α}, Asc lt l → Asc lt (insL lt x l)
  | [], _ => by unfold insL Asc; simp
  | y :: r, h => by
    obtain ⟨h1, h2⟩ := List.pairwise_cons.1 h
    unfold insL; split
    · rename_i hyx
      refine List.pairwise_cons.2 ⟨fun z hz => ?_, insL_asc hO x h2⟩
      rcases List.mem_cons.1 ((insL_perm lt x r).mem_iff.1 hz) with rfl | hz
      · cases hxy : lt z y
        · rfl
        · have := hO.trans _ _ _ hxy hyx; rw [hO.irrefl] at this; cases this
      · exact h1 z hz
    · rename_i hyx
      have hyx : lt y x = false := by cases h : lt y x <;> simp_all
      refine List.pairwise_cons.2 ⟨fun z hz => ?_, h⟩
      rcases List.mem_cons.1 hz with rfl | hz
      · exact hyx
      · exact hO.ntrans _ _ _ (h1 z hz) hyx
theorem sortL_asc {lt : α → α → Bool} (hO : SWO lt) : ∀ l : List α, Asc lt (sortL lt l)
  | [] => List.Pairwise.nil
  | x :: r => insL_asc hO x (sortL_asc hO r)
theorem asc_uniq {lt : α → α → Bool} (hO : SWO lt) : ∀ {l m : List α}, l.Perm m → Asc lt l → Asc lt m → (∀ a ∈ l, ∀ b ∈ l, lt a b = false → lt b a = false → a = b) → l = m
  | [], m, h, _, _, _ => by rw [List.Perm.nil_eq h]
  | x :: l, [], h, _, _, _ => by have := h.length_eq; simp at this
  | x :: l, y :: m, h, hl, hm, ha => by
    obtain ⟨l1, l2⟩ := List.pairwise_cons.1 hl
    obtain ⟨m1, m2⟩ := List.pairwise_cons.1 hm
    have hx : lt x y = false := by
      rcases List.mem_cons.1 (h.mem_iff.1 (List.mem_cons_self (a := x))) with rfl | hz
      · exact hO.irrefl _
      · exact m1 x hz
    have hym := h.mem_iff.2 (List.mem_cons_self (a := y))
    have hy : lt y x = false := by
      rcases List.mem_cons.1 hym with rfl | hz
      · exact hO.irrefl _
      · exact l1 y hz
    obtain rfl := ha x List.mem_cons_self y hym hx hy
    rw [asc_uniq hO h.cons_inv l2 m2 fun a h1 b h2 => ha a (List.mem_cons_of_mem _ h1) b (List.mem_cons_of_mem _ h2)]
end
/-! ### cells of a row, as things -/
section
variable {α : Type} [Inhabited α]
def takeE (k : Nat) (dec : List AV → Option α) : Nat → List AV → Option (List α)
  | 0, _ => some []
  | n + 1, cs => match dec (cs.take k), takeE k dec n (cs.drop k) with | some a, some l => some (a :: l) | _, _ => none
def flatE (enc : α → List Value) (l : List α) : List Value := l.flatMap enc
/-- how things lie in cells -/
structure Coded (k : Nat) (enc : α → List Value) (dec : List AV → Option α) : Prop where
  pos : 0 < k
  len : ∀ x, (enc x).length = k
  de : ∀ cs a, dec cs = some a → cs = (enc a).map AV.v
  en : ∀ a, dec ((enc a).map AV.v) = some a
  atom : ∀ a, ∀ v ∈ enc a, atom v = true
theorem takeE_some {β : Type} {k : Nat} {enc : β → List Value} {dec : List AV → Option β} (hc : Coded k enc dec) : ∀ {n : Nat} {cs : List AV} {l : List β}, takeE k dec n cs = some l → l.length = n ∧ cs.take (n * k) = (flatE enc l).map AV.v ∧ n * k ≤ cs.length
  | 0, cs, l, h => by simp [takeE] at h; subst h; simp [flatE]
  | n + 1, cs, l, h => by
    unfold takeE at h
    split at h
    · rename_i a r h1 h2
      simp only [Option.some.injEq] at h
      subst h
      obtain ⟨e1, e2, e3⟩ := takeE_some hc h2
      have e4 := hc.de _ _ h1
      have e5 : k ≤ cs.length := by
        have := congrArg List.length e4
        rw [List.length_take, List.length_map, hc.len] at this; omega
      refine ⟨by simp [e1], ?_, ?_⟩
      · rw [Nat.add_mul, Nat.one_mul, Nat.add_comm, List.take_add, e4, e2]
        simp [flatE]
      · rw [List.length_drop] at e3
        rw [Nat.add_mul, Nat.one_mul]; omega
    · cases h
theorem takeE_flat {β : Type} {k : Nat} {enc : β → List Value} {dec : List AV → Option β} (hc : Coded k enc dec) (rest : List AV) : ∀ l : List β, takeE k dec l.length ((flatE enc l).map AV.v ++ rest) = some l
  | [] => rfl
  | a :: r => by
    have h1 : ((flatE enc (a :: r)).map AV.v ++ rest).take k = (enc a).map AV.v := by
      simp only [flatE, List.flatMap_cons, List.map_append, List.append_assoc]
      rw [List.take_append_of_le_length (by simp [hc.len])]
      rw [List.take_of_length_le (by simp [hc.len])]
    have h2 : ((flatE enc (a :: r)).map AV.v ++ rest).drop k = (flatE enc r).map AV.v ++ rest := by
      simp only [flatE, List.flatMap_cons, List.map_append, List.append_assoc]
      rw [List.drop_append_of_le_length (by simp [hc.len]), List.drop_of_length_le (by simp [hc.len]), List.nil_append]
    show (match dec (((flatE enc (a :: r)).map AV.v ++ rest).take k), takeE k dec r.length (((flatE enc (a :: r)).map AV.v ++ rest).drop k) with | some a, some l => some (a :: l) | _, _ => none) = _
    rw [h1, h2, hc.en, takeE_flat hc rest r]
theorem flatE_len {β : Type} {enc : β → List Value} {k : Nat} (hk : ∀ x, (enc x).length = k) : ∀ l : List β, (flatE enc l).length = l.length * k
  | [] => by simp [flatE]
  | a :: r => by
    have := flatE_len hk r
    simp only [flatE, List.flatMap_cons, List.length_append, hk] at this ⊢
    rw [this, List.length_cons, Nat.add_mul, Nat.one_mul, Nat.add_comm]
theorem flatE_get {enc : α → List Value} {k : Nat} (hk : ∀ x, (enc x).length = k) (h0 : 0 < k) : ∀ (l : List α) (t : Nat), t < l.length * k → (flatE enc l)[t]! = (enc l[t / k]!)[t % k]!
  | [], t, h => by simp at h
  | a :: r, t, h => by
    by_cases ht : t < k
    · rw [Nat.div_eq_of_lt ht, Nat.mod_eq_of_lt ht]
      simp only [flatE, List.flatMap_cons, List.getElem!_cons_zero]
      rw [List.getElem!_eq_getElem?_getD, List.getElem!_eq_getElem?_getD, List.getElem?_append_left (by rw [hk]; exact ht)]
    · obtain ⟨u, rfl⟩ : ∃ u, t = k + u := ⟨t - k, by omega⟩
      have hu : u < r.length * k := by rw [List.length_cons, Nat.add_mul, Nat.one_mul] at h; omega
      have := flatE_get hk h0 r u hu
      rw [Nat.add_div_left _ h0, Nat.add_mod_left, List.getElem!_cons_succ, ← this]
      simp only [flatE, List.flatMap_cons]
      rw [List.getElem!_eq_getElem?_getD, List.getElem!_eq_getElem?_getD, List.getElem?_append_right (by rw [hk]; exact Nat.le_add_right _ _), hk, Nat.add_sub_cancel_left]
theorem flatK_eq {enc : α → List Value} {k : Nat} (hk : ∀ x, (enc x).length = k) (h0 : 0 < k) (d : Array α) : flatK enc k d = (flatE enc d.toList).toArray := by
  refine ext_get! (by simp [flatE_len hk]) fun t ht => ?_
  have ht' : t < d.size * k := by simpa using ht
  rw [get_flatK _ _ _ _ ht']
  have h := flatE_get hk h0 d.toList t (by simpa using ht')
  have h1 : (flatE enc d.toList).toArray[t]! = (flatE enc d.toList)[t]! := by simp
  have h2 : d.toList[t / k]! = d[t / k]! := by
    rw [List.getElem!_eq_getElem?_getD, Array.getElem!_eq_getD, Array.getD_eq_getD_getElem?, Array.getElem?_toList]
  rw [h1, h, h2]
end
/-! ### a world with more behind -/
theorem later {Z : Fzn} {ρ : Pls} {H : Heap} {w : World} (hs : Sim Z ρ H w) (n : Nat) (os : Array Obj) : Sim Z ρ H (grow (Sort.ahead w n) os) ∧ Ext Z ρ H w Z ρ H (grow (Sort.ahead w n) os) := by
  have hb : ∀ k, k < w.heap.size → (grow (Sort.ahead w n) os).heap[k]? = w.heap[k]? := fun k hk => heap_grow_old (Sort.ahead w n) os hk
  refine ⟨⟨fun b o h hl => ?_, hs.inj, fun k o hk => ?_, hs.fresh, hs.lk⟩, ⟨.refl _, .refl _, fun k hk _ => hb k hk, fun _ _ h => h, ?_, rfl, rfl, rfl, Nat.le_add_right _ _, fun a ha => ?_, rfl, fun _ _ => rfl, Nat.le_refl _, fun _ _ _ => rfl, fun _ _ _ => rfl, fun _ _ h _ => ⟨h, fun _ => rfl⟩⟩⟩
  · obtain ⟨pl, obj, h1, h2, h3, h4⟩ := hs.objs b o h hl
    exact ⟨pl, obj, h1, (hb _ (Array.getElem?_eq_some_iff.1 h2).1).trans h2, h3, h4⟩
  · exact (hb k (Array.getElem?_eq_some_iff.1 (hs.zok k o hk)).1).trans (hs.zok k o hk)
  · rw [size_grow]; exact Nat.le_add_right _ _
  · simp only [World.frozen?, hb _ ha]
theorem freeze_toV {H : Heap} {K : Nat} {x : AV} {y : Value} (h : freezeV H K x = some (.v y)) : x = .v y := by
  cases K with
  | zero => cases h
  | succ K =>
    unfold freezeV at h
    cases x with
    | v z => simpa using h
    | ro z k => simp at h
    | vs s l c => simp at h
    | agg l => simp only [Option.map_eq_some_iff] at h; obtain ⟨_, _, h⟩ := h; cases h
    | tup l => simp only [Option.map_eq_some_iff] at h; obtain ⟨_, _, h⟩ := h; cases h
    | ifc t z => simp only [Option.map_eq_some_iff] at h; obtain ⟨_, _, h⟩ := h; cases h
    | mp b => simp only at h; split at h <;> simp at h
    | yld b => simp only at h; split at h <;> simp at h
    | fn f a b => simp only at h; split at h <;> simp at h
    | ptr b v k =>
      simp only at h
      split at h
      · simp at h
      · split at h
        · split at h
          · split at h <;> simp at h
          · cases h
        · cases h
    | sl b v o l c =>
      simp only at h
      split at h
      · simp at h
      · split at h
        · split at h
          · split at h
            · simp at h
            · split at h
              · split at h <;> simp at h
              · cases h
          · cases h
        · cases h
/-- a call on closed arguments, in whatever world -/
theorem calls_closed {C : Cfg} (hgo : NoGo C.P) (hm : C.P.follows .mixedOrders = true) (hext : ExtOK C) {f : FuncId} {args : List AV} {v : Value} (h : Ans C f args (.v v)) {vals : List Value} (w : World) (hl : RepL (allZ w) noPls args vals) :
    Calls C.P f vals.toArray w fun e w' => e = .returned v ∧ ∃ q os, w' = grow (w.drewN q) os := by
  obtain ⟨x, H', h1, h2⟩ := Ans.iff.1 h
  rw [freeze_toV h2] at h1
  refine Calls.mono' (lim_right hgo hm hext h1 (start_sim w) hl) ?_
  rintro e w' ⟨y, rfl, Z', ρ', k1, k2, k3⟩
  refine ⟨by rw [k1.v_inv.1], w'.drawn - w.drawn, w'.heap.extract w.heap.size w'.heap.size, ?_⟩
  have hd := k3.drawn
  have hheap : w'.heap = w.heap ++ w'.heap.extract w.heap.size w'.heap.size := by
    apply Array.ext_getElem?
    intro i
    by_cases hi : i < w.heap.size
    · rw [Array.getElem?_append_left hi]; exact k3.frame i hi (start_own w i)
    · rw [Array.getElem?_append_right (by omega), Array.getElem?_extract]
      have hsz := k3.size
      by_cases hi2 : i < w'.heap.size
      · rw [if_pos (by omega)]; congr 1; omega
      · rw [if_neg (by omega), Array.getElem?_eq_none (by omega)]
  have h1 := k3.os
  have h2 := k3.output
  have h3 := k3.tape
  cases w'; cases w
  simp only [grow, World.drewN] at *
  subst h1 h2 h3
  congr 1
  omega
theorem putCells_eq (o : Nat) (F : List Value) (arr : Array Value) (h : o + F.length ≤ arr.size) : putCells id o F.toArray arr = (arr.toList.take o ++ F ++ arr.toList.drop (o + F.length)).toArray := by
  refine Array.ext_getElem? fun i => ?_
  unfold putCells
  rw [Array.getElem?_mapIdx]
  simp only [List.getElem?_toArray, id_eq]
  by_cases hi : i < arr.size
  · rw [Array.getElem?_eq_getElem hi]
    simp only [Option.map_some]
    by_cases h1 : i < o
    · rw [if_neg (by omega), List.append_assoc, List.getElem?_append_left (by simp; omega), List.getElem?_take, if_pos h1]
      simp [hi]
    · by_cases h2 : i < o + F.length
      · rw [if_pos (by simp; omega), List.append_assoc, List.getElem?_append_right (by simp; omega), List.getElem?_append_left (by simp; omega)]
        have e : i - (arr.toList.take o).length = i - o := by simp; omega
        rw [e, List.getElem?_eq_getElem (by omega)]
        simp [show i - o < F.length by omega]
      · rw [if_neg (by simp; omega), List.getElem?_append_right (by simp; omega), List.getElem?_drop]
        have e : o + F.length + (i - (arr.toList.take o ++ F).length) = i := by simp; omega
        rw [e]; simp [hi]
  · rw [Array.getElem?_eq_none (by omega), List.getElem?_eq_none (by simp; omega)]
    rfl
/-! ### the function -/
section
variable {α : Type} [Inhabited α]
/-- 'cf a b < 0' -/
def ltF (cf : α → α → Int) (x y : α) : Bool := decide (cf x y < 0)
/-- of what lies in memory: it sorts whatever there is, by a function that is known -/
structure Sorts (P : Program) (f g : FuncId) (k : Nat) (enc : α → List Value) (cf : α → α → Int) : Prop where
  body : HasBody P f
  nil : ∀ p cap fv w, Calls P f #[.slice p 0 cap, fv] w fun e w' => e = .returned (.tuple #[]) ∧ w' = w
  row : ∀ (blk off cap : Nat) (d : Array α) (w : World), Holds id w blk off (flatE enc d.toList).toArray → blk < w.heap.size → d.size < 4611686018427387904 →
    Calls P f #[.slice (some ⟨blk, off, none⟩) d.size cap, .func (.func g) #[] #[]] w fun e w' =>
      e = .returned (.tuple #[]) ∧ ∃ d' n os, PermIn 0 d.size d d' ∧ SortedIn (ltF cf) 0 d.size d' ∧ w' = grow (putRow id (Sort.ahead w n) blk off (flatE enc d'.toList).toArray) os
def antiB (lt : α → α → Bool) (eqv : α → α → Bool) (l : List α) : Bool := l.all fun a => l.all fun b => lt a b || lt b a || eqv a b
def sortH (k : Nat) (enc : α → List Value) (dec : List AV → Option α) (eqv : α → α → Bool) (cf : α → α → Int) (g : FuncId) : List AV → Heap → Option (AV × Heap)
  | [x, .fn (.func g') [] []], H =>
    if g' = g then
      match x with
      | .v (.slice none 0 0) => some (.tup [], H)
      | .vs _ [] _ => some (.tup [], H)
      | .sl b v off len _ =>
        if len = 0 then some (.tup [], H) else
        match H.row b v with
        | some (_, _, _, _, cs) =>
          if len < 4611686018427387904 then
            match takeE k dec len (cs.drop off) with
            | some l => if antiB (ltF cf) eqv l then (storeCells H b v off ((flatE enc (sortL (ltF cf) l)).map AV.v)).map fun H' => (.tup [], H') else none
            | none => none
          else none
        | none => none
      | _ => none
    else none
  | _, _ => none
theorem sortH_meets {P : Program} {f g : FuncId} {k : Nat} {enc : α → List Value} {dec : List AV → Option α} {eqv : α → α → Bool} {cf : α → α → Int} (hO : SWO (ltF cf)) (hc : Coded k enc dec) (hq : ∀ a b, eqv a b = true → a = b) (hS : Sorts P f g k enc cf)
    {args : List AV} {H H' : Heap} {v : AV} (h : sortH k enc dec eqv cf g args H = some (v, H')) : MeetsCall P f args H v H' := by
  refine ⟨hS.body, fun Z ρ w vals hs hl => ?_⟩
  unfold sortH at h
  split at h
  · rename_i x g'
    obtain ⟨v1, ws, rfl, hv1, hl⟩ := hl.uncons
    obtain ⟨v2, ws, rfl, hv2, hl⟩ := hl.uncons
    have : ws = [] := List.length_eq_zero_iff.1 hl.1.symm
    subst this
    split at h
    · rename_i hg
      subst hg
      have hnone : ∀ p cap, v1 = .slice p 0 cap → v = .tup [] ∧ H' = H → Calls P f [v1, v2].toArray w fun e w' => ∃ x, e = .returned x ∧ After Z ρ H w v H' x w' := by
        rintro p cap rfl ⟨rfl, rfl⟩
        refine Calls.mono' (hS.nil p cap v2 w) ?_
        rintro e w' ⟨rfl, rfl⟩
        exact ⟨_, rfl, Z, ρ, .tup (cs := []) (vs := []) rfl (fun i c v h => by simp at h), hs, Ext.refl _ _ _ _⟩
      split at h
      · simp only [Option.some.injEq, Prod.mk.injEq] at h
        obtain ⟨rfl, -⟩ := hv1.v_inv
        exact hnone none 0 rfl ⟨h.1.symm, h.2.symm⟩
      · simp only [Option.some.injEq, Prod.mk.injEq] at h
        cases hv1 with
        | vs => exact hnone _ _ rfl ⟨h.1.symm, h.2.symm⟩
        | vs0 => exact hnone _ _ rfl ⟨h.1.symm, h.2.symm⟩
      · rename_i b ver off len cap
        cases hv1 with
        | sl hp hcap hn hle =>
          rename_i c pl
          split at h
          · rename_i hlen
            subst hlen
            simp only [Option.some.injEq, Prod.mk.injEq] at h
            exact hnone _ _ rfl ⟨h.1.symm, h.2.symm⟩
          · rename_i hlen
            split at h
            · rename_i m e sz gr cs hrow
              split at h
              · rename_i hbig
                split at h
                · rename_i l htake
                  split at h
                  · rename_i hanti
                    simp only [Option.map_eq_some_iff, Prod.mk.injEq] at h
                    obtain ⟨H2, hst, rfl, rfl⟩ := h
                    obtain ⟨hll, htk, hle2⟩ := takeE_some hc htake
                    obtain ⟨pl1, arr, e', h1, h2, h3, h3b, h3c, h4, pre, vs, post, h5, h6, h7, h7b, h8⟩ := hs.row hrow
                    rw [hp] at h1; cases h1
                    have hdl : (flatE enc l).length = len * k := by rw [flatE_len hc.len, hll]
                    have hcell : ∀ j x, (flatE enc l)[j]? = some x → vs[off + j]? = some x := by
                      intro j x hj
                      have hlt := (List.getElem?_eq_some_iff.1 hj).1
                      have hcj : cs[off + j]? = some (.v x) := by
                        have : (cs.drop off)[j]? = some (.v x) := by
                          have h9 : ((cs.drop off).take (len * k))[j]? = some (.v x) := by rw [htk, List.getElem?_map, hj]; rfl
                          rw [List.getElem?_take] at h9
                          split at h9
                          · exact h9
                          · cases h9
                        rwa [List.getElem?_drop] at this
                      obtain ⟨y, hy, hr⟩ := h8.get hcj
                      rw [hy, hr.v_inv.1]
                    have hholds : Holds id w pl.blk (pl.base + off) (flatE enc l.toArray.toList).toArray := by
                      intro j hj
                      have hj' : j < (flatE enc l).length := by simpa using hj
                      refine ⟨?_, ?_⟩
                      · have := cell_at (w := w) h2 h5 (hcell j _ (List.getElem?_eq_getElem hj'))
                        rw [← h6, Nat.add_assoc, this]
                        simp [hj']
                      · simp [World.frozen?, h2]
                    have hblk := (Array.getElem?_eq_some_iff.1 h2).1
                    have hcall := hS.row pl.blk (pl.base + off) c l.toArray w hholds hblk (by simpa [hll] using hbig)
                    have hfn : v2 = .func (.func g') #[] #[] := by
                      cases hv2 with
                      | fn q1 q2 q3 q4 =>
                        have e1 := List.length_eq_zero_iff.1 q1.symm
                        have e2 := List.length_eq_zero_iff.1 q2.symm
                        rw [e1, e2]
                    rw [hfn, ← hll, show l.length = l.toArray.size by simp]
                    refine Calls.mono' hcall ?_
                    rintro e w' ⟨rfl, d', n, os, hpm, hsd, rfl⟩
                    have hd' : d'.toList = sortL (ltF cf) l := by
                      obtain ⟨p1, -, p3⟩ := hpm
                      have p3 : d'.toList.Perm l := by
                        have e1 : d'.extract 0 l.toArray.size = d' := by rw [← p1]; simp
                        have e2 : l.toArray.extract 0 l.toArray.size = l.toArray := by simp
                        rw [e1, e2] at p3; simpa using p3
                      refine asc_uniq hO (p3.trans (sortL_perm _ l).symm) ?_ (sortL_asc hO l) ?_
                      · refine List.pairwise_iff_getElem.2 fun i j hi hj hij => ?_
                        have hj2 : j < d'.size := by simpa using hj
                        have hi2 : i < d'.size := by simpa using hi
                        have := hsd i j (Nat.zero_le _) hij (by rw [← p1]; exact hj2)
                        rw [getElem!_pos d' j hj2, getElem!_pos d' i hi2] at this
                        simpa using this
                      · intro a ha b hb h1 h2
                        have ha := p3.mem_iff.1 ha
                        have hb := p3.mem_iff.1 hb
                        have := List.all_eq_true.1 (List.all_eq_true.1 hanti a ha) b hb
                        rw [h1, h2] at this
                        exact hq _ _ (by simpa using this)
                    rw [hd']
                    have hys : RepL Z ρ ((flatE enc (sortL (ltF cf) l)).map AV.v) (flatE enc (sortL (ltF cf) l)) := by
                      refine ⟨by simp, fun i c v hc' hv => ?_⟩
                      rw [List.getElem?_map, hv] at hc'
                      simp only [Option.map_some, Option.some.injEq] at hc'
                      subst hc'
                      obtain ⟨a, -, ha⟩ := List.mem_flatMap.1 (List.mem_of_getElem? hv)
                      exact .v (hc.atom a v ha)
                    obtain ⟨w1, Z1, ρ1, r1, s1, x1⟩ := cells_does (P := P) hs hp hys hst
                    have hsl : (flatE enc (sortL (ltF cf) l)).length = len * k := by rw [flatE_len hc.len, (sortL_perm _ l).length_eq, hll]
                    have hvl : off + len * k ≤ vs.length := by
                      rw [← h8.1]; rw [List.length_drop] at hle2
                      have : 0 < len * k := Nat.mul_pos (Nat.pos_of_ne_zero hlen) hc.pos
                      omega
                    have hsz : arr.size = pre.length + vs.length + post.length := by rw [← Array.length_toList, h5]; simp; omega
                    have hrun := run_storeCells_at P pl.blk (pl.base + off) e' (flatE enc (sortL (ltF cf) l)) 0 arr w h2 (by rw [hsl]; omega) (fun y hy => by
                      obtain ⟨a, -, ha⟩ := List.mem_flatMap.1 hy
                      have := hc.atom a y ha
                      exact (Rep.v (Z := Z) (ρ := ρ) this).flat rfl)
                    have hw1 : w1 = w.setRow pl.blk (arr.toList.take (pl.base + off + 0) ++ flatE enc (sortL (ltF cf) l) ++ arr.toList.drop (pl.base + off + 0 + (flatE enc (sortL (ltF cf) l)).length)).toArray := by
                      rw [hrun] at r1
                      simpa using r1.symm
                    obtain ⟨s2, x2⟩ := later s1 n os
                    have hput : putRow id (Sort.ahead w n) pl.blk (pl.base + off) (flatE enc (sortL (ltF cf) l)).toArray = Sort.ahead w1 n := by
                      rw [hw1]
                      unfold putRow mapBlock World.setRow Sort.ahead
                      simp only []
                      congr 1
                      refine Array.ext_getElem? fun i => ?_
                      rw [Array.getElem?_modify, Array.getElem?_modify]
                      by_cases hi : pl.blk = i
                      · subst hi
                        have h2' : w.heap[pl.blk]? = some (.cells arr e' (0, 0)) := h2
                        simp only [if_true, h2', Option.map_some, onCells]
                        rw [Nat.add_zero, putCells_eq _ _ _ (by rw [hsl]; omega)]
                      · simp [hi]
                    rw [hput]
                    exact ⟨_, rfl, Z1, ρ1, .tup (cs := []) (vs := []) rfl (fun i c v h => by simp at h), s2, x1.trans x2⟩
                  · cases h
                · cases h
              · cases h
            · cases h
      · cases h
    · cases h
  · cases h
end
end Go.Ev
/- slices.SortFunc of Go's library, by the shelf's contracts. -/
namespace Go.Ev
open Go.Proofs Go.Shelf Go.RowKit Go.Sort
section
variable {α : Type} [Inhabited α] {P : Program} {ρn : Ren}
/-- slices of structs -/
theorem sorts_many (L : SlLaysF0.n6 P ρn) {f : FuncId} (hf : ρn.f 6 = f) (hbody : HasBody P f) {k : Nat} (aE : ∀ w, (isAgg (ρn.t 24)).run P w = .ok true w) (zE : ∀ w, (Go.sizeOf (ρn.t 24)).run P w = .ok k w) {enc : α → List Value} {dec : List AV → Option α} (hc : Coded k enc dec) (h1 : ∀ x, ∀ v ∈ enc x, v.oneCell' = true)
    {cf : α → α → Int} (hO : SWO (ltF cf)) {g : FuncId} (hg : HasBody P g)
    (hcmp : ∀ (w : World) (x y : α), Calls P g #[.agg (enc x).toArray, .agg (enc y).toArray] w fun e w' => e = .returned (.int .i64 (cf x y)) ∧ ∃ q os, w' = grow (w.drewN q) os) : Sorts P f g k enc cf := by
  subst hf
  refine ⟨hbody, fun p cap fv w => AnyF.slices_SortFunc_none L p cap fv w, fun blk off cap d w hh hblk hsz => ?_⟩
  have hH : HoldsK enc k w blk off d := by unfold HoldsK; rw [flatK_eq hc.len hc.pos]; exact hh
  have h := AnyQ.slices_SortFunc L k aE zE enc hc.len h1 cf hO g #[] blk off cap d w (fun args w => hg.run args w) (fun m os dk _ x y => hcmp _ x y) hH hblk hsz
  refine Calls.mono' h ?_
  rintro e w' ⟨rfl, d', n, os, p1, p2, rfl⟩
  refine ⟨rfl, d', n, os, p1, p2, ?_⟩
  unfold sortWorldK putRowK
  rw [flatK_eq hc.len hc.pos]
theorem flat_one {β : Type} (enc : β → Value) (l : List β) : flatE (fun x => [enc x]) l = l.map enc := by
  unfold flatE; induction l with
  | nil => rfl
  | cons a r ih => simp [ih]
theorem putRow_one (enc : α → Value) (w : World) (blk off : Nat) (d : Array α) : putRow enc w blk off d = putRow id w blk off (d.toList.map enc).toArray := by
  unfold putRow
  congr 1
  funext c
  unfold putCells
  congr 1
  funext k x
  simp only [List.size_toArray, List.length_map, Array.length_toList, id_eq]
  split
  · rename_i h
    have hk : k - off < d.size := by omega
    simp [hk]
  · rfl
/-- slices of things of one cell -/
theorem sorts_one (L : SlLaysF.n6 P ρn) (L0 : SlLaysF0.n6 P ρn) {f : FuncId} (hf : ρn.f 6 = f) (hbody : HasBody P f) {enc : α → Value} (h1 : OneCell enc)
    {cf : α → α → Int} (hO : SWO (ltF cf)) {g : FuncId} (hg : HasBody P g)
    (hcmp : ∀ (w : World) (x y : α), Calls P g #[enc x, enc y] w fun e w' => e = .returned (.int .i64 (cf x y)) ∧ ∃ q os, w' = grow (w.drewN q) os) : Sorts P f g 1 (fun x => [enc x]) cf := by
  subst hf
  refine ⟨hbody, fun p cap fv w => AnyF.slices_SortFunc_none L0 p cap fv w, fun blk off cap d w hh hblk hsz => ?_⟩
  rw [flat_one] at hh
  have hH : Holds enc w blk off d := by
    intro j hj
    have := hh j (by simpa using hj)
    simpa [hj] using this
  have h := Any.slices_SortFunc L enc h1 cf hO g #[] blk off cap d w (fun args w => hg.run args w) (fun m os dk _ x y => hcmp _ x y) hH hblk hsz
  refine Calls.mono' h ?_
  rintro e w' ⟨rfl, d', n, os, p1, p2, rfl⟩
  refine ⟨rfl, d', n, os, p1, p2, ?_⟩
  rw [flat_one]
  unfold sortWorld
  rw [putRow_one]
end
end Go.Ev
/- slices.SortFunc of Go's library at this program: where the shelf's contract finds its parts. -/
namespace Go.Proofs
open Go.Shelf
def Try.sortPl_ren : Go.Shelf.Ren := ⟨fun | 6 => 105 | 15 => 99 | 14 => 128 | 28 => 120 | 29 => 121 | 20 => 136 | 21 => 137 | 22 => 138 | 23 => 139 | 24 => 140 | 25 => 141 | 26 => 142 | 27 => 143 | 46 => 145 | 47 => 132 | 48 => 133 | 49 => 146 | 50 => 147 | 57 => 148 | n => n, fun | 22 => 46 | 24 => 26 | 25 => 147 | 3 => 3 | 39 => 162 | 0 => 0 | 53 => 190 | 55 => 192 | 4 => 4 | 46 => 183 | 45 => 182 | 50 => 187 | 5 => 5 | 9 => 9 | 66 => 195 | 70 => 199 | 76 => 206 | 77 => 32 | n => n, fun | n => n⟩
theorem Try.sortPl : Go.Proofs.SlLaysF0.n6 Try.prog Try.sortPl_ren := {
  mixed := by kernel_rfl
  f6 := ⟨Try.f105.name, by decide, Try.func105.trans (congrArg some (by kernel_rfl))⟩
  f14 := ⟨Try.f128.name, by decide, Try.func128.trans (congrArg some (by kernel_rfl))⟩
  f15 := Try.func99.trans (congrArg some (by kernel_rfl))
  f20 := ⟨Try.f136.name, by decide, Try.func136.trans (congrArg some (by kernel_rfl))⟩
  f21 := ⟨Try.f137.name, by decide, Try.func137.trans (congrArg some (by kernel_rfl))⟩
  f22 := ⟨Try.f138.name, by decide, Try.func138.trans (congrArg some (by kernel_rfl))⟩
  f23 := ⟨Try.f139.name, by decide, Try.func139.trans (congrArg some (by kernel_rfl))⟩
  f24 := ⟨Try.f140.name, by decide, Try.func140.trans (congrArg some (by kernel_rfl))⟩
  f25 := ⟨Try.f141.name, by decide, Try.func141.trans (congrArg some (by kernel_rfl))⟩
  f26 := ⟨Try.f142.name, by decide, Try.func142.trans (congrArg some (by kernel_rfl))⟩
  f27 := ⟨Try.f143.name, by decide, Try.func143.trans (congrArg some (by kernel_rfl))⟩
  f28 := Try.func120.trans (congrArg some (by kernel_rfl))
  f29 := Try.func121.trans (congrArg some (by kernel_rfl))
  f46 := ⟨Try.f145.name, by decide, Try.func145.trans (congrArg some (by kernel_rfl))⟩
  f47 := Try.func132.trans (congrArg some (by kernel_rfl))
  f48 := Try.func133.trans (congrArg some (by kernel_rfl))
  f49 := ⟨Try.f146.name, by decide, Try.func146.trans (congrArg some (by kernel_rfl))⟩
  f50 := ⟨Try.f147.name, by decide, Try.func147.trans (congrArg some (by kernel_rfl))⟩
  f57 := ⟨Try.f148.name, by decide, Try.func148.trans (congrArg some (by kernel_rfl))⟩
  t0 := Try.underlying0
  a0 := Try.isAgg0
  z0 := Try.sizeOf0
  v0 := Try.zeroValue0
  t3 := Try.underlying3
  a3 := Try.isAgg3
  z3 := Try.sizeOf3
  v3 := Try.zeroValue3
  t4 := Try.underlying4
  a4 := Try.isAgg4
  z4 := Try.sizeOf4
  v4 := Try.zeroValue4
  t5 := Try.underlying5
  a5 := Try.isAgg5
  z5 := Try.sizeOf5
  v5 := Try.zeroValue5
  t9 := Try.underlying9
  a9 := Try.isAgg9
  z9 := Try.sizeOf9
  v9 := Try.zeroValue9
  t22 := Try.underlying46
  a22 := Try.isAgg46
  z22 := Try.sizeOf46
  v22 := Try.zeroValue46
  t25 := Try.underlying147
  a25 := Try.isAgg147
  z25 := Try.sizeOf147
  v25 := Try.zeroValue147
  t39 := Try.underlying162
  a39 := Try.isAgg162
  z39 := Try.sizeOf162
  v39 := Try.zeroValue162
  t45 := Try.underlying182
  a45 := Try.isAgg182
  z45 := Try.sizeOf182
  v45 := Try.zeroValue182
  t46 := Try.underlying183
  a46 := Try.isAgg183
  z46 := Try.sizeOf183
  v46 := Try.zeroValue183
  t50 := Try.underlying187
  a50 := Try.isAgg187
  z50 := Try.sizeOf187
  v50 := Try.zeroValue187
  t53 := Try.underlying190
  a53 := Try.isAgg190
  z53 := Try.sizeOf190
  v53 := Try.zeroValue190
  t55 := Try.underlying192
  a55 := Try.isAgg192
  z55 := Try.sizeOf192
  v55 := Try.zeroValue192
  t66 := Try.underlying195
  a66 := Try.isAgg195
  z66 := Try.sizeOf195
  v66 := Try.zeroValue195
  t70 := Try.underlying199
  a70 := Try.isAgg199
  z70 := Try.sizeOf199
  v70 := Try.zeroValue199
  t76 := Try.underlying206
  a76 := Try.isAgg206
  z76 := Try.sizeOf206
  v76 := Try.zeroValue206
  t77 := Try.underlying32
  a77 := Try.isAgg32
  z77 := Try.sizeOf32
  v77 := Try.zeroValue32 }
end Go.Proofs
/- slices.SortFunc of Go's library at this program, for words: where the shelf's contract finds its parts. -/
namespace Go.Proofs
open Go.Shelf
def Try.sortSt_ren : Go.Shelf.Ren := ⟨fun | 6 => 75 | 15 => 99 | 14 => 98 | 28 => 120 | 29 => 121 | 20 => 112 | 21 => 113 | 22 => 114 | 23 => 115 | 24 => 116 | 25 => 117 | 26 => 118 | 27 => 119 | 46 => 131 | 47 => 132 | 48 => 133 | 49 => 134 | 50 => 135 | 57 => 144 | n => n, fun | 22 => 51 | 24 => 9 | 25 => 106 | 3 => 3 | 39 => 162 | 0 => 0 | 53 => 190 | 55 => 192 | 4 => 4 | 46 => 183 | 45 => 182 | 50 => 187 | 5 => 5 | 9 => 9 | 66 => 195 | 70 => 199 | 76 => 206 | 77 => 32 | n => n, fun | n => n⟩
theorem Try.sortSt : Go.Proofs.SlLaysF.n6 Try.prog Try.sortSt_ren := {
  mixed := by kernel_rfl
  f6 := ⟨Try.f75.name, by decide, Try.func75.trans (congrArg some (by kernel_rfl))⟩
  f14 := ⟨Try.f98.name, by decide, Try.func98.trans (congrArg some (by kernel_rfl))⟩
  f15 := Try.func99.trans (congrArg some (by kernel_rfl))
  f20 := ⟨Try.f112.name, by decide, Try.func112.trans (congrArg some (by kernel_rfl))⟩
  f21 := ⟨Try.f113.name, by decide, Try.func113.trans (congrArg some (by kernel_rfl))⟩
  f22 := ⟨Try.f114.name, by decide, Try.func114.trans (congrArg some (by kernel_rfl))⟩
  f23 := ⟨Try.f115.name, by decide, Try.func115.trans (congrArg some (by kernel_rfl))⟩
  f24 := ⟨Try.f116.name, by decide, Try.func116.trans (congrArg some (by kernel_rfl))⟩
  f25 := ⟨Try.f117.name, by decide, Try.func117.trans (congrArg some (by kernel_rfl))⟩
  f26 := ⟨Try.f118.name, by decide, Try.func118.trans (congrArg some (by kernel_rfl))⟩
  f27 := ⟨Try.f119.name, by decide, Try.func119.trans (congrArg some (by kernel_rfl))⟩
  f28 := Try.func120.trans (congrArg some (by kernel_rfl))
  f29 := Try.func121.trans (congrArg some (by kernel_rfl))
  f46 := ⟨Try.f131.name, by decide, Try.func131.trans (congrArg some (by kernel_rfl))⟩
  f47 := Try.func132.trans (congrArg some (by kernel_rfl))
  f48 := Try.func133.trans (congrArg some (by kernel_rfl))
  f49 := ⟨Try.f134.name, by decide, Try.func134.trans (congrArg some (by kernel_rfl))⟩
  f50 := ⟨Try.f135.name, by decide, Try.func135.trans (congrArg some (by kernel_rfl))⟩
  f57 := ⟨Try.f144.name, by decide, Try.func144.trans (congrArg some (by kernel_rfl))⟩
  t0 := Try.underlying0
  a0 := Try.isAgg0
  z0 := Try.sizeOf0
  v0 := Try.zeroValue0
  t3 := Try.underlying3
  a3 := Try.isAgg3
  z3 := Try.sizeOf3
  v3 := Try.zeroValue3
  t4 := Try.underlying4
  a4 := Try.isAgg4
  z4 := Try.sizeOf4
  v4 := Try.zeroValue4
  t5 := Try.underlying5
  a5 := Try.isAgg5
  z5 := Try.sizeOf5
  v5 := Try.zeroValue5
  t9 := Try.underlying9
  a9 := Try.isAgg9
  z9 := Try.sizeOf9
  v9 := Try.zeroValue9
  t22 := Try.underlying51
  a22 := Try.isAgg51
  z22 := Try.sizeOf51
  v22 := Try.zeroValue51
  a24 := Try.isAgg9
  z24 := Try.sizeOf9
  t25 := Try.underlying106
  a25 := Try.isAgg106
  z25 := Try.sizeOf106
  v25 := Try.zeroValue106
  t39 := Try.underlying162
  a39 := Try.isAgg162
  z39 := Try.sizeOf162
  v39 := Try.zeroValue162
  t45 := Try.underlying182
  a45 := Try.isAgg182
  z45 := Try.sizeOf182
  v45 := Try.zeroValue182
  t46 := Try.underlying183
  a46 := Try.isAgg183
  z46 := Try.sizeOf183
  v46 := Try.zeroValue183
  t50 := Try.underlying187
  a50 := Try.isAgg187
  z50 := Try.sizeOf187
  v50 := Try.zeroValue187
  t53 := Try.underlying190
  a53 := Try.isAgg190
  z53 := Try.sizeOf190
  v53 := Try.zeroValue190
  t55 := Try.underlying192
  a55 := Try.isAgg192
  z55 := Try.sizeOf192
  v55 := Try.zeroValue192
  t66 := Try.underlying195
  a66 := Try.isAgg195
  z66 := Try.sizeOf195
  v66 := Try.zeroValue195
  t70 := Try.underlying199
  a70 := Try.isAgg199
  z70 := Try.sizeOf199
  v70 := Try.zeroValue199
  t76 := Try.underlying206
  a76 := Try.isAgg206
  z76 := Try.sizeOf206
  v76 := Try.zeroValue206
  t77 := Try.underlying32
  a77 := Try.isAgg32
  z77 := Try.sizeOf32
  v77 := Try.zeroValue32 }
theorem Try.sortSt0 : Go.Proofs.SlLaysF0.n6 Try.prog Try.sortSt_ren := {
  mixed := by kernel_rfl
  f6 := ⟨Try.f75.name, by decide, Try.func75.trans (congrArg some (by kernel_rfl))⟩
  f14 := ⟨Try.f98.name, by decide, Try.func98.trans (congrArg some (by kernel_rfl))⟩
  f15 := Try.func99.trans (congrArg some (by kernel_rfl))
  f20 := ⟨Try.f112.name, by decide, Try.func112.trans (congrArg some (by kernel_rfl))⟩
  f21 := ⟨Try.f113.name, by decide, Try.func113.trans (congrArg some (by kernel_rfl))⟩
  f22 := ⟨Try.f114.name, by decide, Try.func114.trans (congrArg some (by kernel_rfl))⟩
  f23 := ⟨Try.f115.name, by decide, Try.func115.trans (congrArg some (by kernel_rfl))⟩
  f24 := ⟨Try.f116.name, by decide, Try.func116.trans (congrArg some (by kernel_rfl))⟩
  f25 := ⟨Try.f117.name, by decide, Try.func117.trans (congrArg some (by kernel_rfl))⟩
  f26 := ⟨Try.f118.name, by decide, Try.func118.trans (congrArg some (by kernel_rfl))⟩
  f27 := ⟨Try.f119.name, by decide, Try.func119.trans (congrArg some (by kernel_rfl))⟩
  f28 := Try.func120.trans (congrArg some (by kernel_rfl))
  f29 := Try.func121.trans (congrArg some (by kernel_rfl))
  f46 := ⟨Try.f131.name, by decide, Try.func131.trans (congrArg some (by kernel_rfl))⟩
  f47 := Try.func132.trans (congrArg some (by kernel_rfl))
  f48 := Try.func133.trans (congrArg some (by kernel_rfl))
  f49 := ⟨Try.f134.name, by decide, Try.func134.trans (congrArg some (by kernel_rfl))⟩
  f50 := ⟨Try.f135.name, by decide, Try.func135.trans (congrArg some (by kernel_rfl))⟩
  f57 := ⟨Try.f144.name, by decide, Try.func144.trans (congrArg some (by kernel_rfl))⟩
  t0 := Try.underlying0
  a0 := Try.isAgg0
  z0 := Try.sizeOf0
  v0 := Try.zeroValue0
  t3 := Try.underlying3
  a3 := Try.isAgg3
  z3 := Try.sizeOf3
  v3 := Try.zeroValue3
  t4 := Try.underlying4
  a4 := Try.isAgg4
  z4 := Try.sizeOf4
  v4 := Try.zeroValue4
  t5 := Try.underlying5
  a5 := Try.isAgg5
  z5 := Try.sizeOf5
  v5 := Try.zeroValue5
  t9 := Try.underlying9
  a9 := Try.isAgg9
  z9 := Try.sizeOf9
  v9 := Try.zeroValue9
  t22 := Try.underlying51
  a22 := Try.isAgg51
  z22 := Try.sizeOf51
  v22 := Try.zeroValue51
  t25 := Try.underlying106
  a25 := Try.isAgg106
  z25 := Try.sizeOf106
  v25 := Try.zeroValue106
  t39 := Try.underlying162
  a39 := Try.isAgg162
  z39 := Try.sizeOf162
  v39 := Try.zeroValue162
  t45 := Try.underlying182
  a45 := Try.isAgg182
  z45 := Try.sizeOf182
  v45 := Try.zeroValue182
  t46 := Try.underlying183
  a46 := Try.isAgg183
  z46 := Try.sizeOf183
  v46 := Try.zeroValue183
  t50 := Try.underlying187
  a50 := Try.isAgg187
  z50 := Try.sizeOf187
  v50 := Try.zeroValue187
  t53 := Try.underlying190
  a53 := Try.isAgg190
  z53 := Try.sizeOf190
  v53 := Try.zeroValue190
  t55 := Try.underlying192
  a55 := Try.isAgg192
  z55 := Try.sizeOf192
  v55 := Try.zeroValue192
  t66 := Try.underlying195
  a66 := Try.isAgg195
  z66 := Try.sizeOf195
  v66 := Try.zeroValue195
  t70 := Try.underlying199
  a70 := Try.isAgg199
  z70 := Try.sizeOf199
  v70 := Try.zeroValue199
  t76 := Try.underlying206
  a76 := Try.isAgg206
  z76 := Try.sizeOf206
  v76 := Try.zeroValue206
  t77 := Try.underlying32
  a77 := Try.isAgg32
  z77 := Try.sizeOf32
  v77 := Try.zeroValue32 }
end Go.Proofs
/- Lists in strict order: each once. -/
namespace Go.Ev
section
variable {α : Type} [DecidableEq α]
/-- in strict order -/
structure StrictO (lt : α → α → Bool) : Prop where
  irrefl : ∀ a, lt a a = false
  trans : ∀ a b c, lt a b = true → lt b c = true → lt a c = true
  total : ∀ a b, lt a b = false → lt b a = false → a = b
theorem strict_uniq {β : Type} {lt : β → β → Bool} (h : StrictO lt) : ∀ {l m : List β}, l.Pairwise (fun a b => lt a b = true) → m.Pairwise (fun a b => lt a b = true) → (∀ a, a ∈ l ↔ a ∈ m) → l = m
  | [], [], _, _, _ => rfl
  | [], y :: m, _, _, hm => absurd ((hm y).2 List.mem_cons_self) (by simp)
  | x :: l, [], _, _, hm => absurd ((hm x).1 List.mem_cons_self) (by simp)
  | x :: l, y :: m, h1, h2, hm => by
    obtain ⟨a1, a2⟩ := List.pairwise_cons.1 h1
    obtain ⟨b1, b2⟩ := List.pairwise_cons.1 h2
    have hxy : x = y := by
      rcases List.mem_cons.1 ((hm x).1 List.mem_cons_self) with e | e
      · exact e
      · rcases List.mem_cons.1 ((hm y).2 List.mem_cons_self) with e' | e'
        · exact e'.symm
        · have := h.trans _ _ _ (b1 x e) (a1 y e')
          rw [h.irrefl] at this; cases this
    subst hxy
    rw [strict_uniq h a2 b2 fun a => ?_]
    constructor
    · intro ha
      rcases List.mem_cons.1 ((hm a).1 (List.mem_cons_of_mem _ ha)) with e | e
      · subst e; have := a1 a ha; rw [h.irrefl] at this; cases this
      · exact e
    · intro ha
      rcases List.mem_cons.1 ((hm a).2 (List.mem_cons_of_mem _ ha)) with e | e
      · subst e; have := b1 a ha; rw [h.irrefl] at this; cases this
      · exact e
/-- how many of one list are in another one, both in strict order -/
theorem nodup_sub_len : ∀ {l m : List α}, l.Nodup → (∀ a ∈ l, a ∈ m) → l.length ≤ m.length
  | [], _, _, _ => Nat.zero_le _
  | x :: l, m, hn, hs => by
    obtain ⟨h1, h2⟩ := List.nodup_cons.1 hn
    have hx := hs x List.mem_cons_self
    have : l.length ≤ (m.erase x).length := nodup_sub_len h2 fun a ha => by
      have hne : a ≠ x := fun e => h1 (e ▸ ha)
      exact (List.mem_erase_of_ne hne).2 (hs a (List.mem_cons_of_mem _ ha))
    rw [List.length_erase_of_mem hx] at this
    have hpos : 0 < m.length := List.length_pos_of_mem hx
    simp only [List.length_cons]; omega
/-! the same by steps -/
end
end Go.Ev
namespace Go.Ev
open Go.Proofs Go.Sort
set_option maxRecDepth 100000
set_option linter.unusedSimpArgs false
/-! ### words in order -/
theorem bytesLt_nil (a : List UInt8) : bytesLt a [] = false := by cases a <;> rfl
theorem bytesLt_irrefl : ∀ a : List UInt8, bytesLt a a = false
  | [] => rfl
  | x :: r => by
    show (Nat.blt x.toNat x.toNat || (x.toNat == x.toNat && bytesLt r r)) = false
    have h : Nat.blt x.toNat x.toNat = false := by
      cases h : Nat.blt x.toNat x.toNat with
      | false => rfl
      | true => exact absurd (Nat.le_of_ble_eq_true h) (by omega)
    rw [bytesLt_irrefl r, h]; simp
theorem bytesLt_cons (x y : UInt8) (a b : List UInt8) : bytesLt (x :: a) (y :: b) = true ↔ x.toNat < y.toNat ∨ x.toNat = y.toNat ∧ bytesLt a b = true := by
  show (Nat.blt x.toNat y.toNat || (x.toNat == y.toNat && bytesLt a b)) = true ↔ _
  rw [Bool.or_eq_true, Bool.and_eq_true, beq_iff_eq]
  refine or_congr ?_ Iff.rfl
  unfold Nat.blt; rw [Nat.ble_eq]; exact Iff.rfl
theorem bytesLt_trans : ∀ a b c : List UInt8, bytesLt a b = true → bytesLt b c = true → bytesLt a c = true
  | _, [], _, h, _ => by rw [bytesLt_nil] at h; cases h
  | _, _ :: _, [], _, h => by rw [bytesLt_nil] at h; cases h
  | [], _ :: _, _ :: _, _, _ => rfl
  | x :: a, y :: b, z :: c, h1, h2 => by
    rw [bytesLt_cons] at *
    rcases h1 with h1 | ⟨e1, h1⟩ <;> rcases h2 with h2 | ⟨e2, h2⟩
    · left; omega
    · left; omega
    · left; omega
    · right; exact ⟨by omega, bytesLt_trans a b c h1 h2⟩
theorem bytesLt_total : ∀ a b : List UInt8, bytesLt a b = false → bytesLt b a = false → a = b
  | [], [], _, _ => rfl
  | [], _ :: _, h, _ => by cases h
  | _ :: _, [], _, h => by cases h
  | x :: a, y :: b, h1, h2 => by
    have n1 : ¬ (x.toNat < y.toNat ∨ x.toNat = y.toNat ∧ bytesLt a b = true) := fun h => by rw [(bytesLt_cons ..).2 h] at h1; cases h1
    have n2 : ¬ (y.toNat < x.toNat ∨ y.toNat = x.toNat ∧ bytesLt b a = true) := fun h => by rw [(bytesLt_cons ..).2 h] at h2; cases h2
    have e : x.toNat = y.toNat := by omega
    have e' : x = y := UInt8.toNat_inj.1 e
    subst e'
    rw [bytesLt_total a b (by simpa using fun h => n1 (Or.inr ⟨rfl, h⟩)) (by simpa using fun h => n2 (Or.inr ⟨rfl, h⟩))]
def ltW (s t : ByteArray) : Bool := bytesLt s.data.toList t.data.toList
theorem strictW : StrictO ltW := by
  refine ⟨fun a => bytesLt_irrefl _, fun a b c h1 h2 => bytesLt_trans _ _ _ h1 h2, fun a b h1 h2 => ?_⟩
  have := bytesLt_total _ _ h1 h2
  obtain ⟨⟨a⟩⟩ := a
  obtain ⟨⟨b⟩⟩ := b
  simp only at this
  rw [this]
def cmpW (s t : ByteArray) : Int := if ltW s t then -1 else if ltW t s then 1 else 0
theorem ltF_W : ltF cmpW = ltW := by
  funext s t
  unfold ltF cmpW
  cases h : ltW s t
  · cases h2 : ltW t s <;> simp
  · simp
theorem swoW : SWO ltW := by
  refine ⟨fun x => strictW.irrefl x, fun x y z h1 h2 => strictW.trans _ _ _ h1 h2, fun x y z h1 h2 => ?_⟩
  cases h : ltW x z with
  | false => rfl
  | true =>
    cases h3 : ltW y x with
    | true => have := strictW.trans _ _ _ h3 h; rw [h2] at this; cases this
    | false => have := strictW.total _ _ h1 h3; subst this; rw [h2] at h; cases h
theorem swoW' : SWO (ltF cmpW) := by rw [ltF_W]; exact swoW
def eqvW (s t : ByteArray) : Bool := decide (s = t)
theorem antiW (l : List ByteArray) : antiB ltW eqvW l = true := by
  refine List.all_eq_true.2 fun a _ => List.all_eq_true.2 fun b _ => ?_
  simp only [eqvW, Bool.or_eq_true, decide_eq_true_eq]
  cases h : ltW a b with
  | true => exact Or.inl (Or.inl rfl)
  | false =>
    cases h2 : ltW b a with
    | true => exact Or.inl (Or.inr rfl)
    | false => exact Or.inr (strictW.total _ _ h h2)
def encW (s : ByteArray) : List Value := [.string s]
def decW : List AV → Option ByteArray
  | [.v (.string s)] => some s
  | _ => none
theorem codedW : Coded 1 encW decW := by
  refine ⟨by decide, fun _ => rfl, fun cs a h => ?_, fun _ => rfl, fun a v hv => ?_⟩
  · unfold decW at h
    split at h
    · simp only [Option.some.injEq] at h
      subst h; rfl
    · cases h
  · simp [encW] at hv
    subst hv; rfl
theorem call91 (me : FuncId) (d : Option Tmp) (s t : ByteArray) (H : Heap) : callA (Cx e0) (lim (Cx e0)) me 100 d [.v (.string s), .v (.string t)] H = some (.v (.int .i64 (cmpW s t)), H) := by
  have he : (Cx e0).ext 100 = some cmpStr := rfl
  unfold callA
  rw [he]
  rfl
theorem ans68 (s t : ByteArray) : Ans (Cx e0) 76 [.v (.string s), .v (.string t)] (intA (cmpW s t)) := by
  unfold Ans
  rw [fn_step (fn_76 e0) (show Try.f76.body = some _ from rfl)]
  simp -implicitDefEqProofs only [Try.f76, go_sem, ↓reduceIte, Int.reduceEq, Int.reduceLT, Int.reduceLE, List.reduceReplicate, intA, setT_nil, setT_cons, call91]
theorem ans48 (s t : ByteArray) : Ans (Cx e0) 53 [.v (.string s), .v (.string t)] (intA (cmpW s t)) := by
  have h68 := fun me d H => (ans68 s t).call (me := me) (d := d) (ext_76 quiet0) (pure_76 _ _ _) rfl H
  unfold intA at h68
  unfold Ans
  rw [fn_step (fn_53 e0) (show Try.f53.body = some _ from rfl)]
  simp -implicitDefEqProofs only [Try.f53, go_sem, ↓reduceIte, Int.reduceEq, Int.reduceLT, Int.reduceLE, List.reduceReplicate, intA, setT_nil, setT_cons, h68]
theorem body48 : HasBody Try.prog 53 := ⟨Try.f53, Try.func53, by kernel_rfl, by kernel_rfl⟩
theorem body67 : HasBody Try.prog 75 := ⟨Try.f75, Try.func75, by kernel_rfl, by kernel_rfl⟩
theorem sorts67 : Sorts Try.prog 75 53 1 encW cmpW := by
  refine sorts_one (enc := Value.string) Try.sortSt Try.sortSt0 rfl body67 (fun x => rfl) swoW' body48 fun w x y => ?_
  refine calls_closed (nogo e0) (mixed e0) extOK0 (ans48 x y) (vals := [.string x, .string y]) w ?_
  refine ⟨rfl, fun i c v hc hv => ?_⟩
  match i with
  | 0 => simp at hc hv; subst hc hv; exact .v rfl
  | 1 => simp at hc hv; subst hc hv; exact .v rfl
  | i + 2 => simp at hc
/-! ### places in order -/
abbrev P3 := Int × Int × Int
def encP (p : P3) : List Value := [.int .i64 p.1, .int .i64 p.2.1, .int .i64 p.2.2]
def decP : List AV → Option P3
  | [.v (.int .i64 a), .v (.int .i64 b), .v (.int .i64 c)] => some (a, b, c)
  | _ => none
def p3V (p : P3) : AV := .agg [intA p.1, intA p.2.1, intA p.2.2]
def cmpPl (p q : P3) : Int := cmpP p.1 p.2.1 p.2.2 q.1 q.2.1 q.2.2
def ltP (p q : P3) : Bool := decide (p.1 < q.1 ∨ p.1 = q.1 ∧ (p.2.1 < q.2.1 ∨ p.2.1 = q.2.1 ∧ p.2.2 < q.2.2))
theorem ltF_P : ltF cmpPl = ltP := by
  funext p q
  unfold ltF ltP cmpPl cmpP
  congr 1
  simp only [orI, cmpI, eq_iff_iff]
  by_cases a1 : p.1 < q.1
  · simp [a1]
  · by_cases a2 : q.1 < p.1
    · simp [a1, a2]; omega
    · have a3 : p.1 = q.1 := by omega
      by_cases b1 : p.2.1 < q.2.1
      · simp [a3, b1]
      · by_cases b2 : q.2.1 < p.2.1
        · simp [a3, b1, b2]; omega
        · have b3 : p.2.1 = q.2.1 := by omega
          by_cases c1 : p.2.2 < q.2.2
          · simp [a3, b3, c1]
          · by_cases c2 : q.2.2 < p.2.2
            · simp [a3, b3, c1, c2]
            · simp [a3, b3, c1, c2]
theorem swoP : SWO (ltF cmpPl) := by
  rw [ltF_P]
  refine ⟨fun x => ?_, fun x y z h1 h2 => ?_, fun x y z h1 h2 => ?_⟩
  · simp [ltP]
  · simp only [ltP, decide_eq_true_eq] at *; omega
  · simp only [ltP, decide_eq_false_iff_not] at *; omega
def eqvP (p q : P3) : Bool := decide (p = q)
theorem codedP : Coded 3 encP decP := by
  refine ⟨by decide, fun _ => rfl, fun cs a h => ?_, fun _ => rfl, fun a v hv => ?_⟩
  · unfold decP at h
    split at h
    · simp only [Option.some.injEq] at h
      subst h; rfl
    · cases h
  · simp [encP] at hv
    rcases hv with rfl | rfl | rfl <;> rfl
theorem body85 : HasBody Try.prog 84 := ⟨Try.f84, Try.func84, by kernel_rfl, by kernel_rfl⟩
theorem body97 : HasBody Try.prog 105 := ⟨Try.f105, Try.func105, by kernel_rfl, by kernel_rfl⟩
theorem repL_ints (Z : Fzn) (p : P3) : Rep Z noPls (p3V p) (.agg (encP p).toArray) := by
  refine .agg rfl fun i c v hc hv => ?_
  match i with
  | 0 => simp [encP, intA] at hc hv; subst hc hv; exact .v rfl
  | 1 => simp [encP, intA] at hc hv; subst hc hv; exact .v rfl
  | 2 => simp [encP, intA] at hc hv; subst hc hv; exact .v rfl
  | i + 3 => simp at hc
theorem sorts97 : Sorts Try.prog 105 84 3 encP cmpPl := by
  refine sorts_many Try.sortPl rfl body97 (fun w => Try.isAgg26 w) (fun w => Try.sizeOf26 w) codedP (fun x v hv => ?_) swoP body85 fun w x y => ?_
  · simp [encP] at hv
    rcases hv with rfl | rfl | rfl <;> rfl
  · have h := ans85 quiet0 x.1 x.2.1 x.2.2 y.1 y.2.1 y.2.2
    refine calls_closed (nogo e0) (mixed e0) extOK0 h (vals := [.agg (encP x).toArray, .agg (encP y).toArray]) w ?_
    refine ⟨rfl, fun i c v hc hv => ?_⟩
    match i with
    | 0 => simp at hc hv; subst hc hv; exact repL_ints _ x
    | 1 => simp at hc hv; subst hc hv; exact repL_ints _ y
    | i + 2 => simp at hc
end Go.Ev
namespace Go.Ev
open Go.Proofs Go.Sort
set_option maxRecDepth 100000
set_option linter.unusedSimpArgs false
/-! ### the configuration of a law -/
/-- the functions that sort places, and words -/
noncomputable def sortPl97 : List AV → Heap → Option (AV × Heap) := Go.Ev.sortH 3 encP decP eqvP cmpPl 84
noncomputable def sortSt67 : List AV → Heap → Option (AV × Heap) := Go.Ev.sortH 1 encW decW eqvW cmpW 53
noncomputable def eA : Exts := { x := e0.x, l1 := some sortPl97, l2 := some sortSt67 }
theorem extOKA : ExtOK (Cx eA) := by
  have hx := extOK0
  refine ⟨hx.ext, fun f g hf args H v H' h => ?_⟩
  have hf' : (if Nat.beq f 105 then some sortPl97 else if Nat.beq f 75 then some sortSt67 else none) = some g := hf
  split at hf'
  · rename_i hb
    have := Nat.eq_of_beq_eq_true hb
    subst this
    simp only [Option.some.injEq] at hf'
    subst hf'
    exact sortH_meets swoP codedP (fun a b h => of_decide_eq_true h) sorts97 h
  · split at hf'
    · rename_i hb
      have := Nat.eq_of_beq_eq_true hb
      subst this
      simp only [Option.some.injEq] at hf'
      subst hf'
      exact sortH_meets swoW' codedW (fun a b h => of_decide_eq_true h) sorts67 h
    · cases hf'
theorem quietA : Quiet eA := quiet0
end Go.Ev
namespace Go.Ev
open Go.Proofs
set_option maxRecDepth 100000
set_option linter.unusedSimpArgs false
/-! ### from arguments of plain data to copies -/
theorem cells3 {l : List AV} (h : l.length = 3) : ∃ a b c, l = [a, b, c] := by
  match l, h with
  | [a, b, c], _ => exact ⟨a, b, c, rfl⟩
theorem place_of {N : Nat} {cs : List AV} (h : Plain Try.prog (N + 2) 26 cs) : ∃ a b c, cs = [intA a, intA b, intA c] := by
  obtain ⟨hl, hf⟩ := plain_struct (l := [(0, 3), (1, 3), (2, 3)]) (by kernel_rfl) (by kernel_rfl) h
  obtain ⟨a, b, c, rfl⟩ := cells3 (hl.trans (by kernel_rfl))
  have h0 := hf (0, 3) (by simp)
  have h1 := hf (1, 3) (by simp)
  have h2 := hf (2, 3) (by simp)
  have e0 : Try.prog.cellsOf 3 = 1 := by kernel_rfl
  simp only [e0, List.drop_zero, List.drop_succ_cons, List.take_succ_cons, List.take_zero] at h0 h1 h2
  obtain ⟨m, hm, -⟩ := plain_int (by kernel_rfl : Try.prog.underlying 3 = some (.int .i64)) h0
  obtain ⟨n, hn, -⟩ := plain_int (by kernel_rfl : Try.prog.underlying 3 = some (.int .i64)) h1
  obtain ⟨k, hk, -⟩ := plain_int (by kernel_rfl : Try.prog.underlying 3 = some (.int .i64)) h2
  simp only [List.cons.injEq, and_true] at hm hn hk
  exact ⟨m, n, k, by rw [hm, hn, hk]; rfl⟩
end Go.Ev
namespace Go.Ev
open Go.Proofs
set_option maxRecDepth 100000
set_option linter.unusedSimpArgs false
attribute [local irreducible] Wp WpS
/-! ### the reference's words and places -/
theorem callR43 {e : Exts} (he : Quiet e) (t : Txt) (ht : Fits t) (hs : (wordsT 0 t).length < 2 ^ 33) {ch : AV} {xs : List AV} (hch : SlOf 2 xs ch) (hall : All2 ChapA t xs) (me : FuncId) (d : Option Tmp) (H : Heap) : callA (Cx e) (lim (Cx e)) me 43 d [.agg [ch]] H = some (plsN (allN t), H) :=
  (ansR43 t ht hs ch xs hch hall).call (ext_43 he) (pure_43 e me d) (by simp only [boundL_cons, bound_agg, hch.bound, boundL_nil]; rfl) H
theorem plsN_sl (l : List Plc) : SlOf 3 (l.map plN) (plsN l) := by
  cases l with
  | nil => exact Or.inl ⟨rfl, rfl⟩
  | cons p r => exact Or.inr ⟨none, rfl⟩
theorem allN_len (t : Txt) : (allN t).length = (wordsT 0 t).length := by unfold allN; rw [List.length_map]
theorem ansR9 {e : Exts} (he : Quiet e) (t : Txt) (ht : Fits t) (hs : (wordsT 0 t).length < 2 ^ 33) (ch : AV) (xs : List AV) (hch : SlOf 2 xs ch) (hall : All2 ChapA t xs) : Ans (Cx e) 9 [.agg [ch]] (if textB t then .tup [intA (wordsT 0 t).length, intA 0] else .tup [intA 0, intA 10]) := by
  have h39 := fun me d H => call39 he t ht _ ⟨ch, rfl, xs, hch, hall⟩ me d H
  have h43 := fun me d H => callR43 he t ht hs hch hall me d H
  have hsl := (plsN_sl (allN t)).len
  rw [List.length_map, allN_len] at hsl
  unfold Ans
  rw [fn_step (fn_9 e) (show Try.f9.body = some _ from rfl)]
  cases h1 : textB t
  · rw [h1] at h39
    simp -implicitDefEqProofs only [Try.f9, go_sem, ↓reduceIte, Int.reduceEq, Int.reduceLT, Int.reduceLE, List.reduceReplicate, intA, setT_nil, setT_cons, hch.cells, hch.flat, hch.bound, h39, ↓boolP_bool, ↓iteB_true, ↓iteB_false, Bool.not_false]
    rfl
  · rw [h1] at h39
    simp -implicitDefEqProofs only [Try.f9, go_sem, ↓reduceIte, Int.reduceEq, Int.reduceLT, Int.reduceLE, List.reduceReplicate, intA, setT_nil, setT_cons, hch.cells, hch.flat, hch.bound, h39, h43, hsl, ↓boolP_bool, ↓iteB_true, ↓iteB_false, Bool.not_true]
    rfl
theorem ansR13 {e : Exts} (he : Quiet e) (t : Txt) (ht : Fits t) (ch : AV) (xs : List AV) (hch : SlOf 2 xs ch) (hall : All2 ChapA t xs) : Ans (Cx e) 13 [.agg [ch]] (intA (if textB t then 0 else 10)) := by
  have h39 := fun me d H => call39 he t ht _ ⟨ch, rfl, xs, hch, hall⟩ me d H
  unfold Ans
  rw [fn_step (fn_13 e) (show Try.f13.body = some _ from rfl)]
  cases h1 : textB t
  all_goals
    rw [h1] at h39
    simp -implicitDefEqProofs only [Try.f13, go_sem, ↓reduceIte, Int.reduceEq, Int.reduceLT, Int.reduceLE, List.reduceReplicate, intA, setT_nil, setT_cons, hch.cells, hch.flat, hch.bound, h39, ↓boolP_bool, ↓iteB_true, ↓iteB_false, Bool.not_false, Bool.not_true]
theorem ansR12 {e : Exts} (he : Quiet e) (t : Txt) (ht : Fits t) (ch : AV) (xs : List AV) (hch : SlOf 2 xs ch) (hall : All2 ChapA t xs) : Ans (Cx e) 12 [.agg [ch]] (intA (if textB t then 0 else 10)) := by
  have hc := fun me d H => call40 he t ht ch ⟨xs, hch, hall⟩ me d H
  unfold Ans
  rw [fn_step (fn_12 e) (show Try.f12.body = some _ from rfl)]
  cases h1 : textB t
  all_goals
    rw [h1] at hc
    simp only [Bool.false_eq_true, if_false, if_true, intA] at hc
    simp -implicitDefEqProofs only [Try.f12, go_sem, ↓reduceIte, Int.reduceEq, Int.reduceLT, Int.reduceLE, List.reduceReplicate, intA, setT_nil, setT_cons, hch.cells, hch.flat, hch.bound, hc]
theorem ansR47 {e : Exts} (t : Txt) (_ht : Fits t) (ch : AV) (xs : List AV) (hch : SlOf 2 xs ch) (hall : All2 ChapA t xs) (a b c : Nat) (ln : Line) (hL : lineAt t a b = some ln) (s : ByteArray) (hc : ln[c]? = some s) : Ans (Cx e) 47 [.agg [ch], .agg [intA a, intA b, intA c]] (.v (.string s)) := by
  obtain ⟨cp, hcp, hb⟩ : ∃ cp, t[a]? = some cp ∧ cp.2[b]? = some ln := by
    unfold lineAt at hL
    rw [if_pos (by omega)] at hL
    simp only [Int.toNat_natCast] at hL
    cases h : t[a]? with
    | none => rw [h] at hL; cases hL
    | some cp => rw [h] at hL; exact ⟨cp, rfl, hL⟩
  obtain ⟨y, hy, l, rfl, lxs, hl, hls⟩ := hall.get hcp
  obtain ⟨lx, hx, hlx⟩ := hls.get hb
  have hlx : SlOf 1 (strs ln) lx := hlx
  have hi := hlx.idx (strs_get hc)
  unfold Ans
  rw [fn_step (fn_47 e) (show Try.f47.body = some _ from rfl)]
  simp -implicitDefEqProofs only [Try.f47, go_sem, ↓reduceIte, Int.reduceEq, Int.reduceLT, Int.reduceLE, List.reduceReplicate, intA, setT_nil, setT_cons, hch.cells, hch.flat, hch.bound]
  refine wp_draw (by kernel_rfl) ?_
  simp -implicitDefEqProofs only [go_sem, ↓reduceIte, Int.reduceEq, Int.reduceLT, Int.reduceLE, List.reduceReplicate, intA, setT_nil, setT_cons, hch.cells, hch.flat, hch.bound, hch.idx hy, hl.idx hx, hl.cells, hlx.cells, hi]
end Go.Ev
namespace Go.Ev
open Go.Proofs Go.Sort
set_option maxRecDepth 100000
set_option linter.unusedSimpArgs false
/-! ### the configuration in which places are sorted -/
noncomputable def Cs : Cfg := Cx eA
@[go_sem] theorem Cs_P : Cs.P = Try.prog := rfl
theorem extOKS : ExtOK Cs := extOKA
def toldF : List Nat := [8, 16, 46, 86, 10, 29, 40, 58, 59]
theorem toldF_ok {f : FuncId} (hf : toldF.contains f = true) : (Cx eA).ext f = none ∧ ∀ me d, (Cx eA).pure me f d = true := by
  have h : f ∈ toldF := by simpa using hf
  simp only [toldF, List.mem_cons, List.not_mem_nil, or_false] at h
  rcases h with rfl | rfl | rfl | rfl | rfl | rfl | rfl | rfl | rfl
  · exact ⟨ext_8 quietA, pure_8 eA⟩
  · exact ⟨ext_16 quietA, pure_16 eA⟩
  · exact ⟨ext_46 quietA, pure_46 eA⟩
  · exact ⟨ext_86 quietA, pure_86 eA⟩
  · exact ⟨ext_10 quietA, pure_10 eA⟩
  · exact ⟨ext_29 quietA, pure_29 eA⟩
  · exact ⟨ext_40 quietA, pure_40 eA⟩
  · exact ⟨ext_58 quietA, pure_58 eA⟩
  · exact ⟨ext_59 quietA, pure_59 eA⟩
theorem told {f : FuncId} (hf : toldF.contains f = true) {args : List AV} {v : AV} (h : Ans (Cx eA) f args v) (hb : boundL args = 0) (me : FuncId) (d : Option Tmp) (H : Heap) : callA Cs (lim Cs) me f d args H = some (v, H) :=
  h.call (C := Cx eA) (toldF_ok hf).1 ((toldF_ok hf).2 me d) hb H
end Go.Ev
namespace Go.Ev
open Go.Proofs Go.Sort
set_option maxRecDepth 100000
set_option linter.unusedSimpArgs false
attribute [local irreducible] Wp WpS
/-! ### rows of places -/
def clP (ps : List P3) : List AV := (flatE encP ps).map AV.v
theorem clP_cons (p : P3) (ps : List P3) : clP (p :: ps) = [intA p.1, intA p.2.1, intA p.2.2] ++ clP ps := by
  unfold clP flatE encP intA
  simp
theorem clP_append (ps qs : List P3) : clP (ps ++ qs) = clP ps ++ clP qs := by
  unfold clP flatE; simp
theorem clP_len (ps : List P3) : (clP ps).length = ps.length * 3 := by
  unfold clP; rw [List.length_map, flatE_len (k := 3) (fun _ => rfl)]
theorem app47 (H : Heap) (slot : Nat) (s x : AV) : appendA Try.prog H slot [46, 46] [s, x] = appG 26 3 24 H slot s (cellsFrom H 3 x) := app_eq2 (by kernel_rfl) (by kernel_rfl) (by kernel_rfl) (by kernel_rfl) (by decide) (by decide) H slot s x
theorem appTo_vs0 (e sz b : Nat) (H : Heap) (slot n : Nat) (new : List AV) : appTo e sz b H slot n new (.vs sz [] (some 0)) = if n = 0 then some (.vs sz [] (some 0), H) else if fitsA b n = true then some (.sl slot 0 0 n none, H.put slot (.cells 0 (boundL new) e sz true new)) else none := by
  unfold appTo
  simp only [ne_eq, not_true_eq_false, if_false, List.length_nil, List.flatMap_nil, List.all_nil, Bool.and_true, List.nil_append, Nat.zero_add, if_true]
  rw [show Nat.max (boundL []) (boundL new) = boundL new from Nat.zero_max (boundL new)]
/-- what is left behind, to the object -/
def rawX (H : Heap) (w : AV) (Y : Heap) : PostO := fun v H' => v = w ∧ H'.trim H.size [v] [] = Y
theorem callA_rawX {C : Cfg} {me f : FuncId} {d : Option Tmp} {args : List AV} {H Y : Heap} {w : AV} (hx : C.ext f = none) (hp : C.pure me f d = false) (h : Fn' C f args H (rawX H w Y)) : callA C (lim C) me f d args H = some (w, Y) := by
  unfold Fn' at h
  rw [bindO_iff] at h
  obtain ⟨o, h1, h2⟩ := h
  have hk : callKind C me f d args = 0 := by unfold callKind; rw [hp]; rfl
  cases o with
  | ret v H' =>
    obtain ⟨rfl, hF⟩ := h2
    unfold callA callB
    rw [hx]
    simp only [hk, h1, hF]
  | _ => exact h2.elim
theorem rawX_far {X Y : Heap} {N : Nat} (hN : X.size = N) (w v : AV) (h : v = w) (hv : N < bound v) : AtO (rawX X w Y) v Y := by
  refine ⟨h, ?_⟩
  unfold Heap.trim
  rw [if_neg]
  rw [Bool.and_eq_true, Bool.and_eq_true, Bool.and_eq_true, Nat.ble_eq]
  have : boundL [v] = bound v := by show Nat.max (bound v) 0 = _; exact Nat.max_eq_left (Nat.zero_le _)
  rw [this]
  exact fun g => by have := g.1.1.1; omega
theorem rawX_same {X : Heap} (w v : AV) (h : v = w) : AtO (rawX X w X) v X := ⟨h, trim_size _ _ _⟩
/-! ### sorting -/
end Go.Ev
namespace Go.Ev
open Go.Proofs Go.Sort
set_option maxRecDepth 100000
set_option linter.unusedSimpArgs false
/-! ### places in doubt -/
def atR (r : Rd) : P3 := (r.ch, r.ln, r.wd)
end Go.Ev
namespace Go.Ev
open Go.Proofs Go.Sort
set_option maxRecDepth 100000
set_option linter.unusedSimpArgs false
attribute [local irreducible] Wp WpS
/-! ### the word of a place -/
set_option maxHeartbeats 2000000 in
theorem ans19 {e : Exts} (he : Quiet e) (t : Txt) (ht : Fits t) (htx : textB t = true) (ch : AV) (xs : List AV) (hch : SlOf 2 xs ch) (hall : All2 ChapA t xs) (a b c : Nat) (ln : Line) (hL : lineAt t a b = some ln) (own : ByteArray) (hc : ln[c]? = some own) :
    Ans (Cx e) 10 [.agg [ch], .agg [intA a, intA b, intA c]] (.tup [.v (.string own), intA 0]) := by
  have h40 := call40 he t ht ch ⟨xs, hch, hall⟩
  rw [htx, if_pos rfl] at h40
  unfold intA at h40
  have hcl := (List.getElem?_eq_some_iff.1 hc).1
  have h44 := call44 he t ht ch xs hch hall a b c
  have hp : placeB' t a b c = true := by unfold placeB'; rw [hL]; simp; omega
  rw [hp] at h44
  obtain ⟨y, hy, h45, hi45⟩ := call45 he t ht ch xs hch hall a b c
  rw [hL] at hy
  have hy : SlOf 1 (strs ln) y := hy
  have hyi := hy.idx (strs_get hc)
  unfold Ans
  rw [fn_step (fn_10 e) (show Try.f10.body = some _ from rfl)]
  simp -implicitDefEqProofs only [Try.f10, go_sem, ↓reduceIte, Int.reduceEq, Int.reduceLT, Int.reduceLE, List.reduceReplicate, intA, setT_nil, setT_cons, ↓boolP_bool, ↓iteB_true, ↓iteB_false, hch.cells, hch.flat, hch.bound, h40, h44]
  refine wp_drawX [([], [], false), ([0], [], false), ([], [], false), ([], [], false), ([0, 1, 2], [], false), ([], [], false), ([], [], false), ([], [], false), ([], [], false)] (by kernel_rfl) (by kernel_rfl) ?_
  simp -implicitDefEqProofs only [go_sem, ↓reduceIte, Int.reduceEq, Int.reduceLT, Int.reduceLE, List.reduceReplicate, intA, setT_nil, setT_cons, ↓boolP_bool, ↓iteB_true, ↓iteB_false, hch.cells, hch.flat, hch.bound, h45, hi45, hyi]
  rfl
/-! ### the places of a copy that are in doubt -/
def plsV : List P3 → AV
  | [] => .v (.slice none 0 0)
  | p :: l => .vs 3 ((p :: l).map p3V) none
theorem chunk_pls : ∀ f : List P3, chunk 3 f.length (clP f) = f.map p3V
  | [] => rfl
  | r :: f => by
    rw [clP_cons, List.length_cons, List.map_cons, ← chunk_pls f]; rfl
theorem plsV_bound (l : List P3) : bound (plsV l) = 0 := by cases l <;> rfl
end Go.Ev
namespace Go.Ev
open Go.Proofs Go.Sort
set_option maxRecDepth 100000
set_option linter.unusedSimpArgs false
attribute [local irreducible] Wp WpS
variable {C : Cfg} {me : FuncId} {a : AAct} {H : Heap} {s : Nat} {K : PostO} {d : Option Tmp}
@[go_sem] theorem slLen_sl (b v o len : Nat) (c : Option Nat) : slLen (.sl b v o len c) = some (.v (.int .i64 len)) := rfl
theorem slIdx_at (sz b v o len : Nat) (c : Option Nat) (i : Nat) (h : i < len) : slIdx sz (.sl b v o len c) (.v (.int .i64 (i : Int))) = some (.ptr b v (o + i * sz)) := by
  unfold slIdx
  simp only [Int.toNat_natCast]
  rw [if_pos (by omega)]
theorem eqP_iff (p q : P3) : eqP p.1 p.2.1 p.2.2 q.1 q.2.1 q.2.2 = decide (p = q) := by
  unfold eqP
  obtain ⟨a, b, c⟩ := p
  obtain ⟨x, y, z⟩ := q
  simp only [Prod.mk.injEq]
  by_cases h1 : a = x <;> by_cases h2 : b = y <;> by_cases h3 : c = z <;> simp [h1, h2, h3]
theorem neq32 (x y : Operand) (a b c a' b' c' : Int) : binA Try.prog .neq 26 x y (.agg [.v (.int .i64 a), .v (.int .i64 b), .v (.int .i64 c)]) (.agg [.v (.int .i64 a'), .v (.int .i64 b'), .v (.int .i64 c')]) = some (.v (.bool (!eqP a b c a' b' c'))) := by
  have := (bin_struct (P := Try.prog) (t := 26) (us := [.int .i64 a, .int .i64 b, .int .i64 c]) (ws := [.int .i64 a', .int .i64 b', .int .i64 c']) (n := 3) (by kernel_rfl) (by decide) (by kernel_rfl) (by kernel_rfl) x y).2
  rw [eqP_cells] at this
  exact this
end Go.Ev
namespace Go.Ev
open Go.Proofs Go.Sort
set_option maxRecDepth 100000
set_option linter.unusedSimpArgs false
attribute [local irreducible] Wp WpS
end Go.Ev
namespace Go.Ev
open Go.Proofs Go.Sort
set_option maxRecDepth 100000
set_option linter.unusedSimpArgs false
attribute [local irreducible] Wp WpS
/-! ### lists of copies: closed, or in memory -/
/-! ### memory behind which places are laid -/
structure MP (X : Heap) (ch : AV) (H : Heap) (ps : List P3) (out : AV) : Prop where
  lock : H.lock = X.lock
  size : X.size + 2 ≤ H.size
  low : ∀ b, b < X.size → H.get b = X.get b
  b1 : H.get X.size = some (.cells 0 0 24 1 false [ch])
  b2 : H.get (X.size + 1) = some (.cells 0 0 89 1 false [ch])
  done : (ps = [] ∧ out = .v (.slice none 0 0)) ∨ (ps ≠ [] ∧ ∃ b v, X.size + 2 ≤ b ∧ b < H.size ∧ out = .sl b v 0 ps.length none ∧ H.row b v = some (0, 26, 3, true, clP ps))
theorem MP.plus {X : Heap} {ch : AV} {H : Heap} {ps : List P3} {out : AV} (h : MP X ch H ps out) (E : List (Option AObj)) : MP X ch (H.plus E) ps out := by
  have hs := h.size
  refine ⟨h.lock, by rw [plus_size]; omega, fun b hb => (plus_get E (by omega)).trans (h.low b hb), (plus_get E (by omega)).trans h.b1, (plus_get E (by omega)).trans h.b2, ?_⟩
  rcases h.done with hd | ⟨h0, b, v, h1, h2, h3, h4⟩
  · exact Or.inl hd
  · exact Or.inr ⟨h0, b, v, h1, by rw [plus_size]; omega, h3, by rw [rowLo h2]; exact h4⟩
theorem MP.trim {X : Heap} {ch : AV} {H : Heap} {ps : List P3} {out : AV} (h : MP X ch H ps out) {n : Nat} (hn : X.size + 2 ≤ n) (hn2 : n ≤ H.size) (vs : List AV) (ms : List Nat) (hv : bound out ≤ boundL vs) : MP X ch (H.trim n vs ms) ps out := by
  refine ⟨trim_lock.trans h.lock, Nat.le_trans hn (trim_size' hn2), fun b hb => (trim_lo (by omega)).trans (h.low b hb), (trim_lo (by omega)).trans h.b1, (trim_lo (by omega)).trans h.b2, ?_⟩
  rcases h.done with hd | ⟨h0, b, v, h1, h2, rfl, h4⟩
  · exact Or.inl hd
  · unfold Heap.trim
    split
    · rename_i hq
      rw [Bool.and_eq_true, Bool.and_eq_true, Bool.and_eq_true, Nat.ble_eq] at hq
      have h5 := hq.1.1.1
      have hb : b < n := by simp only [bound] at hv; omega
      have hg := (takeH_get (H := H) hb).trans (row_of_get h4)
      exact Or.inr ⟨h0, b, v, h1, get_size hg, rfl, get_row hg⟩
    · exact Or.inr ⟨h0, b, v, h1, h2, rfl, h4⟩
theorem MP.more {X : Heap} {ch : AV} {H : Heap} {ps : List P3} {b v : Nat} (h : MP X ch H ps (.sl b v 0 ps.length none)) (h0 : ps ≠ []) (h1 : X.size + 2 ≤ b) (hb : b < H.size) (s : List P3) (n : Nat) (hn : n = ps.length + s.length) : MP X ch (H.put b (.cells (v + 1) 0 26 3 true (clP (ps ++ s)))) (ps ++ s) (.sl b (v + 1) 0 n none) := by
  have hs := h.size
  refine ⟨h.lock, by rw [put_sizeI _ hb]; omega, fun c hc => (put_get_ne _ (by omega) (by omega)).trans (h.low c hc), (put_get_ne _ (by omega) (by omega)).trans h.b1, (put_get_ne _ (by omega) (by omega)).trans h.b2, Or.inr ⟨fun e => h0 (List.append_eq_nil_iff.1 e).1, b, v + 1, h1, by rw [put_sizeI _ hb]; exact hb, by rw [hn, List.length_append], row_put_same hb⟩⟩
theorem MP.new {X : Heap} {ch : AV} {H : Heap} {ps : List P3} {out : AV} (h : MP X ch H ps out) {N : Nat} (hN : H.size = N) (E : List (Option AObj)) (k : Nat) (qs : List P3) (h0 : qs ≠ []) (hE : E[k]? = some (some (.cells 0 0 26 3 true (clP qs)))) : MP X ch (H.plus E) qs (.sl (N + k) 0 0 qs.length none) := by
  have hk := (List.getElem?_eq_some_iff.1 hE).1
  have hs := h.size
  refine ⟨h.lock, by rw [plus_size]; omega, fun b hb => (plus_get E (by omega)).trans (h.low b hb), (plus_get E (by omega)).trans h.b1, (plus_get E (by omega)).trans h.b2, Or.inr ⟨h0, N + k, 0, by omega, by rw [plus_size]; omega, rfl, ?_⟩⟩
  rw [rowP hN, hE]; rfl
end Go.Ev
namespace Go.Ev
open Go.Proofs Go.Sort
set_option maxRecDepth 100000
set_option linter.unusedSimpArgs false
attribute [local irreducible] Wp WpS
theorem words_at {t : Txt} {n : Nat} {x : Plc × ByteArray} (hx : (wordsT 0 t)[n]? = some x) : ∃ ln, lineAt t x.1.1 x.1.2.1 = some ln ∧ ln[x.1.2.2]? = some x.2 := by
  obtain ⟨m, k, w, c, l, h1, h2, h3, h4⟩ := (wordsT_mem t 0 x).1 (List.mem_of_getElem? hx)
  rw [h1]
  refine ⟨l, ?_, h4⟩
  rw [Nat.zero_add]
  exact lineAt_nat h2 h3
end Go.Ev
namespace Go.Ev
open Go.Proofs Go.Sort
set_option maxRecDepth 100000
set_option linter.unusedSimpArgs false
attribute [local irreducible] Wp WpS
theorem plsV_sl (l : List P3) : SlOf 3 (l.map p3V) (plsV l) := by
  cases l with
  | nil => exact Or.inl ⟨rfl, rfl⟩
  | cons p r => exact Or.inr ⟨none, rfl⟩
end Go.Ev
namespace Go.Ev
open Go.Proofs
set_option maxRecDepth 100000
set_option linter.unusedSimpArgs false
attribute [local irreducible] Wp WpS
/-! ### the word at a place -/
def wordO (t : Txt) (a b c : Int) : Option ByteArray := (lineAt t a b).bind fun l => if 0 ≤ c then l[c.toNat]? else none
theorem placeB_wordO (t : Txt) (a b c : Int) : placeB' t a b c = (wordO t a b c).isSome := by
  unfold placeB' wordO
  cases lineAt t a b with
  | none => rfl
  | some l =>
    simp only [Option.bind_some]
    by_cases h : 0 ≤ c
    · rw [if_pos h]
      cases hg : l[c.toNat]? with
      | none => have := List.getElem?_eq_none_iff.1 hg; simp; omega
      | some s => have := (List.getElem?_eq_some_iff.1 hg).1; simp; omega
    · rw [if_neg h]; simp; omega
theorem wordO_some {t : Txt} {a b c : Int} {s : ByteArray} (h : wordO t a b c = some s) : ∃ (i j k : Nat) (ln : Line), a = i ∧ b = j ∧ c = k ∧ lineAt t i j = some ln ∧ ln[k]? = some s := by
  unfold wordO at h
  cases hL : lineAt t a b with
  | none => rw [hL] at h; cases h
  | some l =>
    rw [hL] at h
    simp only [Option.bind_some] at h
    have hab : 0 ≤ a ∧ 0 ≤ b := by unfold lineAt at hL; split at hL; assumption; cases hL
    split at h
    · rename_i hc
      refine ⟨a.toNat, b.toNat, c.toNat, l, by omega, by omega, by omega, ?_, h⟩
      rw [Int.toNat_of_nonneg hab.1, Int.toNat_of_nonneg hab.2]; exact hL
    · cases h
def atRes (t : Txt) (a b c : Int) : AV := if textB t = false then .tup [.v (.string ⟨#[]⟩), intA 10] else match wordO t a b c with | some s => .tup [.v (.string s), intA 0] | none => .tup [.v (.string ⟨#[]⟩), intA 12]
theorem ansR11 {e : Exts} (he : Quiet e) (t : Txt) (ht : Fits t) (ch : AV) (xs : List AV) (hch : SlOf 2 xs ch) (hall : All2 ChapA t xs) (a b c : Int) : Ans (Cx e) 11 [.agg [ch], .agg [intA a, intA b, intA c]] (atRes t a b c) := by
  have h39 := fun me d H => call39 he t ht _ ⟨ch, rfl, xs, hch, hall⟩ me d H
  have h17 := fun me d H => call17 he t ht ch xs hch hall a b c me d H
  unfold Ans
  rw [fn_step (fn_11 e) (show Try.f11.body = some _ from rfl)]
  cases h1 : textB t
  · rw [h1] at h39
    simp -implicitDefEqProofs only [Try.f11, go_sem, ↓reduceIte, Int.reduceEq, Int.reduceLT, Int.reduceLE, List.reduceReplicate, intA, setT_nil, setT_cons, hch.cells, hch.flat, hch.bound, h39, ↓boolP_bool, ↓iteB_true, ↓iteB_false, Bool.not_false]
    unfold atRes; rw [h1]; rfl
  · rw [h1] at h39
    rw [placeB_wordO] at h17
    cases hw : wordO t a b c with
    | none =>
      rw [hw] at h17
      simp -implicitDefEqProofs only [Try.f11, go_sem, ↓reduceIte, Int.reduceEq, Int.reduceLT, Int.reduceLE, List.reduceReplicate, intA, setT_nil, setT_cons, hch.cells, hch.flat, hch.bound, h39, h17, ↓boolP_bool, ↓iteB_true, ↓iteB_false, Bool.not_true, Option.isSome_none, Bool.not_false]
      unfold atRes; rw [h1, hw]; rfl
    | some s =>
      rw [hw] at h17
      obtain ⟨i, j, k, ln, rfl, rfl, rfl, hL, hc⟩ := wordO_some hw
      have h47 := fun me d H => (ansR47 (e := e) t ht ch xs hch hall i j k ln hL s hc).call (ext_47 he) (pure_47 e me d) (by simp only [boundL_cons, bound_agg, hch.bound, boundL_nil]; rfl) H
      unfold intA at h47
      simp -implicitDefEqProofs only [Try.f11, go_sem, ↓reduceIte, Int.reduceEq, Int.reduceLT, Int.reduceLE, List.reduceReplicate, intA, setT_nil, setT_cons, hch.cells, hch.flat, hch.bound, h39, h17, h47, ↓boolP_bool, ↓iteB_true, ↓iteB_false, Bool.not_true, Option.isSome_some]
      unfold atRes; rw [h1, hw]; rfl
theorem ansR10 {e : Exts} (he : Quiet e) (t : Txt) (ht : Fits t) (ch : AV) (xs : List AV) (hch : SlOf 2 xs ch) (hall : All2 ChapA t xs) (a b c : Int) : Ans (Cx e) 10 [.agg [ch], .agg [intA a, intA b, intA c]] (atRes t a b c) := by
  have hc := fun me d H => call40 he t ht ch ⟨xs, hch, hall⟩ me d H
  cases h1 : textB t
  · rw [h1] at hc
    simp only [Bool.false_eq_true, if_false, intA] at hc
    unfold Ans
    rw [fn_step (fn_10 e) (show Try.f10.body = some _ from rfl)]
    simp -implicitDefEqProofs only [Try.f10, go_sem, ↓reduceIte, Int.reduceEq, Int.reduceLT, Int.reduceLE, List.reduceReplicate, intA, setT_nil, setT_cons, hch.cells, hch.flat, hch.bound, hc, ↓boolP_bool, ↓iteB_true, ↓iteB_false, Int.reduceNe, decide_true, decide_false]
    unfold atRes; rw [h1]; rfl
  · rw [h1] at hc
    simp only [if_true, intA] at hc
    cases hw : wordO t a b c with
    | some s =>
      have : atRes t a b c = .tup [.v (.string s), intA 0] := by unfold atRes; rw [h1, hw]; rfl
      rw [this]
      obtain ⟨i, j, k, ln, rfl, rfl, rfl, hL, hcc⟩ := wordO_some hw
      exact ans19 he t ht h1 ch xs hch hall i j k ln hL s hcc
    | none =>
      have h44 := fun me d H => call44 he t ht ch xs hch hall a b c me d H
      rw [placeB_wordO, hw] at h44
      unfold Ans
      rw [fn_step (fn_10 e) (show Try.f10.body = some _ from rfl)]
      simp -implicitDefEqProofs only [Try.f10, go_sem, ↓reduceIte, Int.reduceEq, Int.reduceLT, Int.reduceLE, List.reduceReplicate, intA, setT_nil, setT_cons, hch.cells, hch.flat, hch.bound, hc, h44, ↓boolP_bool, ↓iteB_true, ↓iteB_false, Int.reduceNe, decide_true, decide_false, Option.isSome_none, Bool.not_false]
      unfold atRes; rw [h1, hw]; rfl
/-! ### numbers and places -/
theorem allN_get {t : Txt} {n : Nat} {x : Plc × ByteArray} (h : (wordsT 0 t)[n]? = some x) : (allN t)[n]? = some x.1 := by unfold allN; rw [List.getElem?_map, h]; rfl
theorem ansR17 {e : Exts} (he : Quiet e) (t : Txt) (ht : Fits t) (hs : (wordsT 0 t).length < 2 ^ 33) (ch : AV) (xs : List AV) (hch : SlOf 2 xs ch) (hall : All2 ChapA t xs) (n : Int) : Ans (Cx e) 17 [.agg [ch], intA n] (placeOfR t n) := by
  have h39 := fun me d H => call39 he t ht _ ⟨ch, rfl, xs, hch, hall⟩ me d H
  have h43 := fun me d H => callR43 he t ht hs hch hall me d H
  have hsl := plsN_sl (allN t)
  have hlen := hsl.len
  rw [List.length_map, allN_len] at hlen
  have h48 := fun me d H => call43 he n 0 (((wordsT 0 t).length : Int) - 1) me d H
  rw [within_len] at h48
  have hw : IntKind.i64.wrap (((wordsT 0 t).length : Int) - 1) = ((wordsT 0 t).length : Int) - 1 := wrap_in _ (by omega) (by omega)
  unfold Ans
  rw [fn_step (fn_17 e) (show Try.f17.body = some _ from rfl)]
  cases h1 : textB t
  · rw [h1] at h39
    simp -implicitDefEqProofs only [Try.f17, go_sem, ↓reduceIte, Int.reduceEq, Int.reduceLT, Int.reduceLE, List.reduceReplicate, intA, setT_nil, setT_cons, hch.cells, hch.flat, hch.bound, h39, ↓boolP_bool, ↓iteB_true, ↓iteB_false, Bool.not_false]
    unfold placeOfR; rw [h1]; rfl
  · rw [h1] at h39
    by_cases hn : 0 ≤ n ∧ n < (wordsT 0 t).length
    · rw [decide_eq_true hn] at h48
      obtain ⟨k, rfl⟩ : ∃ k : Nat, n = k := ⟨n.toNat, by omega⟩
      obtain ⟨x, hx⟩ := at_lt (wordsT 0 t) k (by omega)
      have hi := hsl.idx (show ((allN t).map plN)[k]? = some (plN x.1) by rw [List.getElem?_map, allN_get hx]; rfl)
      unfold plN intA at hi
      simp -implicitDefEqProofs only [Try.f17, go_sem, ↓reduceIte, Int.reduceEq, Int.reduceLT, Int.reduceLE, List.reduceReplicate, intA, setT_nil, setT_cons, hch.cells, hch.flat, hch.bound, hsl.bound, h39, h43, hlen, hw, h48, hi, ↓boolP_bool, ↓iteB_true, ↓iteB_false, Bool.not_true]
      unfold placeOfR placeR; rw [h1, if_pos rfl, if_pos hn]
      simp [hx, plN, intA]
      try rfl
    · rw [decide_eq_false hn] at h48
      simp -implicitDefEqProofs only [Try.f17, go_sem, ↓reduceIte, Int.reduceEq, Int.reduceLT, Int.reduceLE, List.reduceReplicate, intA, setT_nil, setT_cons, hch.cells, hch.flat, hch.bound, hsl.bound, h39, h43, hlen, hw, h48, ↓boolP_bool, ↓iteB_true, ↓iteB_false, Bool.not_true, Bool.not_false]
      unfold placeOfR placeR; rw [h1, if_pos rfl, if_neg hn]
      rfl
end Go.Ev
namespace Go.Ev
open Go.Proofs
set_option maxRecDepth 100000
set_option linter.unusedSimpArgs false
attribute [local irreducible] Wp WpS
/-! ### the number of a place -/
theorem neqPl (x y : Operand) (a b c a' b' c' : Int) : binA Try.prog .neq 26 x y (.agg [.v (.int .i64 a), .v (.int .i64 b), .v (.int .i64 c)]) (.agg [.v (.int .i64 a'), .v (.int .i64 b'), .v (.int .i64 c')]) = some (.v (.bool (!eqP a b c a' b' c'))) := by
  have := (bin_struct (P := Try.prog) (t := 26) (us := [.int .i64 a, .int .i64 b, .int .i64 c]) (ws := [.int .i64 a', .int .i64 b', .int .i64 c']) (n := 3) (by kernel_rfl) (by decide) (by kernel_rfl) (by kernel_rfl) x y).2
  rw [eqP_cells] at this
  exact this
set_option maxHeartbeats 2000000 in
theorem ansR15 {e : Exts} (he : Quiet e) (t : Txt) (ht : Fits t) (h1 : textB t = true) (hs : (wordsT 0 t).length < 2 ^ 33) (ch : AV) (xs : List AV) (hch : SlOf 2 xs ch) (hall : All2 ChapA t xs) (n : Nat) (x : Plc × ByteArray) (hx : (wordsT 0 t)[n]? = some x) : Ans (Cx e) 15 [.agg [ch], plN x.1] (.tup [intA n, intA 0]) := by
  have h39 := fun me d H => call39 he t ht _ ⟨ch, rfl, xs, hch, hall⟩ me d H
  rw [h1] at h39
  have h43 := fun me d H => callR43 he t ht hs hch hall me d H
  have hsl := plsN_sl (allN t)
  have hlen := hsl.len
  rw [List.length_map, allN_len] at hlen
  have hlenI := hsl.lenI
  have h17 := fun me d H => call17 he t ht ch xs hch hall x.1.1 x.1.2.1 x.1.2.2 me d H
  rw [place_in hx] at h17
  have hnl := (List.getElem?_eq_some_iff.1 hx).1
  unfold Ans plN
  rw [fn_step (fn_15 e) (show Try.f15.body = some _ from rfl)]
  simp -implicitDefEqProofs only [Try.f15, go_sem, ↓reduceIte, Int.reduceEq, Int.reduceLT, Int.reduceLE, List.reduceReplicate, intA, setT_nil, setT_cons, hch.cells, hch.flat, hch.bound, h39, h17, h43, ↓boolP_bool, ↓iteB_true, ↓iteB_false, Bool.not_true]
  refine Lp_rule (P := fun μ a H => ∃ k, k + μ = n ∧ a = ⟨32, [(0, .agg [ch]), (1, .agg [.v (.int .i64 x.1.1), .v (.int .i64 x.1.2.1), .v (.int .i64 x.1.2.2)]), (2, .ptr 0 0 0), (3, .ptr 1 0 0), (4, intA 0), (5, intA 0), (10, .v (.bool false)), (14, .v (.bool false)), (6, plsN (allN t)), (7, intA k)], []⟩ ∧ H = ⟨[some (.cells 0 0 24 1 false [ch]), some (.cells 0 0 26 1 false [.v (.int .i64 x.1.1), .v (.int .i64 x.1.2.1), .v (.int .i64 x.1.2.2)])], 0⟩) ?_ n _ _ ⟨0, by omega, rfl, rfl⟩
  rintro μ _ _ ⟨k, hk, rfl, rfl⟩
  obtain ⟨y, hy⟩ := at_lt (wordsT 0 t) k (by omega)
  have hi := hsl.idx (show ((allN t).map plN)[k]? = some (plN y.1) by rw [List.getElem?_map, allN_get hy]; rfl)
  unfold plN intA at hi
  have hlt : (k : Int) < ((wordsT 0 t).length : Int) := by omega
  have hw := wrap_succ k (by omega)
  cases μ with
  | zero =>
    obtain rfl : k = n := by omega
    obtain rfl : x = y := by rw [hx] at hy; exact Option.some.inj hy
    have hE : eqP (x.1.1 : Int) x.1.2.1 x.1.2.2 x.1.1 x.1.2.1 x.1.2.2 = true := by unfold eqP; simp
    simp -implicitDefEqProofs only [go_sem, ↓reduceIte, Int.reduceEq, Int.reduceLT, Int.reduceLE, List.reduceReplicate, intA, setT_nil, setT_cons, hch.cells, hch.flat, hch.bound, hsl.bound, hlen, hlenI, hlt, hi]
    refine wp_draw (by kernel_rfl) ?_
    simp -implicitDefEqProofs only [go_sem, ↓reduceIte, Int.reduceEq, Int.reduceLT, Int.reduceLE, List.reduceReplicate, intA, setT_nil, setT_cons, hch.cells, hch.flat, hch.bound, hsl.bound, hlen, hlenI, hlt, hi, neqPl, hE, Bool.not_true, ↓boolP_bool, ↓iteB_true, ↓iteB_false, decide_true]
    try rfl
  | succ μ =>
    have hE : eqP (y.1.1 : Int) y.1.2.1 y.1.2.2 x.1.1 x.1.2.1 x.1.2.2 = false := by
      have := up_lt (wordsT_up t 0) hy hx (by omega)
      unfold plLt at this
      unfold eqP
      simp only [Bool.and_eq_false_iff, decide_eq_false_iff_not]
      omega
    simp -implicitDefEqProofs only [go_sem, ↓reduceIte, Int.reduceEq, Int.reduceLT, Int.reduceLE, List.reduceReplicate, intA, setT_nil, setT_cons, hch.cells, hch.flat, hch.bound, hsl.bound, hlen, hlenI, hlt, hi]
    refine wp_draw (by kernel_rfl) ?_
    simp -implicitDefEqProofs only [go_sem, ↓reduceIte, Int.reduceEq, Int.reduceLT, Int.reduceLE, List.reduceReplicate, intA, setT_nil, setT_cons, hch.cells, hch.flat, hch.bound, hsl.bound, hlen, hlenI, hlt, hi, neqPl, hE, hw, Bool.not_false, ↓boolP_bool, ↓iteB_true, ↓iteB_false, decide_true, trim_at]
    exact ⟨μ, by omega, k + 1, by omega, rfl, rfl⟩
theorem ansR15e {e : Exts} (he : Quiet e) (t : Txt) (ht : Fits t) (ch : AV) (xs : List AV) (hch : SlOf 2 xs ch) (hall : All2 ChapA t xs) (a b c : Int) (h : textB t = false ∨ wordO t a b c = none) : Ans (Cx e) 15 [.agg [ch], .agg [intA a, intA b, intA c]] (if textB t then .tup [intA 0, intA 12] else .tup [intA 0, intA 10]) := by
  have h39 := fun me d H => call39 he t ht _ ⟨ch, rfl, xs, hch, hall⟩ me d H
  unfold Ans
  rw [fn_step (fn_15 e) (show Try.f15.body = some _ from rfl)]
  cases h1 : textB t
  · rw [h1] at h39
    simp -implicitDefEqProofs only [Try.f15, go_sem, ↓reduceIte, Int.reduceEq, Int.reduceLT, Int.reduceLE, List.reduceReplicate, intA, setT_nil, setT_cons, hch.cells, hch.flat, hch.bound, h39, ↓boolP_bool, ↓iteB_true, ↓iteB_false, Bool.not_false]
    rfl
  · rw [h1] at h39
    have h17 := fun me d H => call17 he t ht ch xs hch hall a b c me d H
    rw [placeB_wordO, h.resolve_left (by rw [h1]; simp)] at h17
    simp -implicitDefEqProofs only [Try.f15, go_sem, ↓reduceIte, Int.reduceEq, Int.reduceLT, Int.reduceLE, List.reduceReplicate, intA, setT_nil, setT_cons, hch.cells, hch.flat, hch.bound, h39, h17, ↓boolP_bool, ↓iteB_true, ↓iteB_false, Bool.not_true, Option.isSome_none, Bool.not_false]
    rfl
/-! ### the program's Number where there is no number -/
def hb14 (ch : AV) (a b c : Int) (s : Nat × Option Plc) : List (Option AObj) := [some (.cells 0 0 24 1 false [ch]), some (.cells 0 0 26 1 false [intA a, intA b, intA c]), some (.cells 0 0 3 1 false [intA (if s.2.isSome then IntKind.i64.wrap s.1 else 0)]), some (.cells 0 0 29 1 false [intA 0]), some (.cells 0 0 89 1 false [ch]), some (.cells 0 0 3 1 false [intA (IntKind.i64.wrap s.1)])]
def q14 (a b c : Int) (_ : Nat) (p : Plc) : Bool := eqP p.1 p.2.1 p.2.2 a b c
theorem wordO_of {t : Txt} {n : Nat} {x : Plc × ByteArray} (hx : (wordsT 0 t)[n]? = some x) : wordO t x.1.1 x.1.2.1 x.1.2.2 = some x.2 := by
  obtain ⟨ln, hL, hc⟩ := words_at hx
  unfold wordO
  rw [hL, Option.bind_some, if_pos (by omega), Int.toNat_natCast]; exact hc
set_option maxHeartbeats 2000000 in
theorem ansR14e {e : Exts} (he : Quiet e) (t : Txt) (ht : Fits t) (ch : AV) (xs : List AV) (hch : SlOf 2 xs ch) (hall : All2 ChapA t xs) (a b c : Int) (h : textB t = false ∨ wordO t a b c = none) : Ans (Cx e) 14 [.agg [ch], .agg [intA a, intA b, intA c]] (if textB t then .tup [intA 0, intA 12] else .tup [intA 0, intA 10]) := by
  have hc := call40 he t ht ch ⟨xs, hch, hall⟩
  have hy := yields63 he ch xs hch (okCh2_of ht hall) (by rw [← hall.1]; exact ht.chs)
  rw [allIts_eq hall] at hy
  unfold Ans
  rw [fn_step (fn_14 e) (show Try.f14.body = some _ from rfl)]
  cases h1 : textB t
  · rw [h1] at hc
    simp only [Bool.false_eq_true, if_false, intA] at hc
    simp -implicitDefEqProofs only [Try.f14, go_sem, ↓reduceIte, Int.reduceEq, Int.reduceLT, Int.reduceLE, List.zip_cons_cons, List.zip_nil_right, List.zip_nil_left, setT_nil, setT_cons, intA, hch.cells, hch.flat, hch.bound, hc]
    rfl
  · have h := h.resolve_left (by rw [h1]; simp)
    rw [h1] at hc
    simp only [if_true, intA] at hc
    simp -implicitDefEqProofs only [Try.f14, go_sem, ↓reduceIte, Int.reduceEq, Int.reduceLT, Int.reduceLE, List.zip_cons_cons, List.zip_nil_right, List.zip_nil_left, setT_nil, setT_cons, intA, hch.cells, hch.flat, hch.bound, hc, call41 he ch xs hch]
    refine wp_rangeS hy rfl (hb14 ch a b c) (stpG (q14 a b c)) (fun s => s.2 = none) okW (n0 := 6) (k := 0) (fun _ => rfl) (by omega) (okW_all t 0) ?_ ?_ (0, none) rfl rfl ?_
    · intro s x hs _ h
      unfold stpG at h ⊢
      split at h
      · cases h
      · rename_i hq; rw [if_neg hq]; exact hs
    · rintro L L' ⟨c', o⟩ y E - hlv ⟨p, w, rfl⟩ -
      simp only at hlv
      subst hlv
      have hs : stpG (q14 a b c) (c', none) (itW (p, w)) = if eqP p.1 p.2.1 p.2.2 a b c = true then (.ret, (c', some p)) else (.normal, (c' + 1, none)) := by unfold stpG q14; rw [plOf_it]
      rw [hs]
      simp -implicitDefEqProofs only [go_sem, ↓reduceIte, Int.reduceEq, Int.reduceLT, Int.reduceLE, List.zip_cons_cons, List.zip_nil_right, List.zip_nil_left, setT_nil, setT_cons, intA, hb14, itW, plN]
      refine asK_mk [some (.cells 0 0 26 1 false [intA p.1, intA p.2.1, intA p.2.2])] rfl ?_
      simp only [lh, Heap.plus]
      cases hn : eqP p.1 p.2.1 p.2.2 a b c
      · simp -implicitDefEqProofs only [go_sem, ↓reduceIte, Int.reduceEq, Int.reduceLT, Int.reduceLE, List.zip_cons_cons, List.zip_nil_right, List.zip_nil_left, setT_nil, setT_cons, intA, hb14, eq32, hn]
        simp only [rngK_at, true_and, wrap_wrap']
        refine ⟨[some (.cells 0 0 26 1 false [intA p.1, intA p.2.1, intA p.2.2])], ?_⟩
        simp -implicitDefEqProofs only [go_sem, ↓reduceIte, Int.reduceEq, Int.reduceLT, Int.reduceLE, List.zip_cons_cons, List.zip_nil_right, List.zip_nil_left, setT_nil, setT_cons, intA, lh, Heap.plus, hb14, Option.isSome_some, Option.isSome_none]
      · simp -implicitDefEqProofs only [go_sem, ↓reduceIte, Int.reduceEq, Int.reduceLT, Int.reduceLE, List.zip_cons_cons, List.zip_nil_right, List.zip_nil_left, setT_nil, setT_cons, intA, hb14, eq32, hn]
        simp only [rngK_at, true_and]
        refine ⟨[some (.cells 0 0 26 1 false [intA p.1, intA p.2.1, intA p.2.2])], ?_⟩
        simp -implicitDefEqProofs only [go_sem, ↓reduceIte, Int.reduceEq, Int.reduceLT, Int.reduceLE, List.zip_cons_cons, List.zip_nil_right, List.zip_nil_left, setT_nil, setT_cons, intA, lh, Heap.plus, hb14, Option.isSome_some, Option.isSome_none]
    · intro G
      rcases foldG (q14 a b c) (wordsT 0 t) 0 with ⟨k, y, hk, hq, hno, hf⟩ | ⟨hq, hf⟩
      · exfalso
        have hw := wordO_of hk
        unfold q14 eqP at hq
        simp only [Bool.and_eq_true, decide_eq_true_eq] at hq
        rw [hq.1, hq.2.1, hq.2.2, h] at hw
        cases hw
      · rw [hf]
        simp -implicitDefEqProofs only [go_sem, ↓reduceIte, Int.reduceEq, Int.reduceLT, Int.reduceLE, List.zip_cons_cons, List.zip_nil_right, List.zip_nil_left, setT_nil, setT_cons, intA, hb14, Option.isSome_none]
        rfl
end Go.Ev
namespace Go.Ev
open Go.Proofs
set_option maxRecDepth 100000
set_option linter.unusedSimpArgs false
attribute [local irreducible] Wp WpS
/-! ### the words of a text, for bodies that lay memory -/
theorem okRun_app {S : Type} (stp : S → List AV → Bool × S) (ok : S → List AV → Prop) : ∀ (l r : List (List AV)) (s : S), okRun stp ok (l ++ r) s → okRun stp ok l s ∧ ((runIt stp l s).1 = true → okRun stp ok r (runIt stp l s).2)
  | [], r, s, h => ⟨trivial, fun _ => h⟩
  | x :: l, r, s, h => by
    have h2 := fun hg => okRun_app stp ok l r _ (h.2 hg)
    refine ⟨⟨h.1, fun hg => (h2 hg).1⟩, fun hq => ?_⟩
    rw [runIt_cons] at hq ⊢
    cases hs : (stp s x).1 with
    | true => rw [hs, if_pos rfl] at hq; rw [if_pos rfl]; exact (h2 hs).2 hq
    | false => rw [hs] at hq; simp at hq
def stp63b {S : Type} (stp : S → List AV → Bool × S) (s : S) (x : List AV) : AExit × S := (if (runIt stp (expandL x) s).1 then .normal else .ret, (runIt stp (expandL x) s).2)
def Ok63b {S : Type} (stp : S → List AV → Bool × S) (ok : S → List AV → Prop) (s : S) (x : List AV) : Prop := ∃ (i k : Nat) (lx : AV) (els : List AV), x = [placeA i k 0, lx] ∧ SlOf 1 els lx ∧ (∀ z ∈ els, z.cells = [z]) ∧ els.length < 2 ^ 63 ∧ okRun stp ok (expandL x) s
def It63 (x : List AV) : Prop := ∃ (i k : Nat) (lx : AV) (els : List AV), x = [placeA i k 0, lx] ∧ SlOf 1 els lx ∧ (∀ z ∈ els, z.cells = [z]) ∧ els.length < 2 ^ 63
theorem okRun63b {S : Type} (stp : S → List AV → Bool × S) (ok : S → List AV → Prop) : ∀ (T : List (List AV)) (s : S), (∀ x ∈ T, It63 x) → okRun stp ok (T.flatMap expandL) s → okRun (fun s x => (isGo (stp63b stp s x).1, (stp63b stp s x).2)) (Ok63b stp ok) T s
  | [], _, _, _ => trivial
  | x :: r, s, hx, h => by
    rw [List.flatMap_cons] at h
    obtain ⟨h1, h2⟩ := okRun_app stp ok _ _ s h
    refine ⟨?_, fun hg => ?_⟩
    · obtain ⟨i, k, lx, els, rfl, a, b, c⟩ := hx x (List.mem_cons_self ..)
      exact ⟨i, k, lx, els, rfl, a, b, c, h1⟩
    · refine okRun63b stp ok r _ (fun y hy => hx y (List.mem_cons_of_mem _ hy)) (h2 ?_)
      unfold stp63b at hg
      simp only at hg
      cases hq : (runIt stp (expandL x) s).1 with
      | true => rfl
      | false => rw [hq] at hg; cases hg
theorem fold63b {S : Type} (stp : S → List AV → Bool × S) : ∀ (T : List (List AV)) (s : S), foldE (stp63b stp) T s = (if (runIt stp (T.flatMap expandL) s).1 then .normal else .ret, (runIt stp (T.flatMap expandL) s).2)
  | [], s => rfl
  | x :: r, s => by
    rw [List.flatMap_cons, runIt_append]
    have ih := fold63b stp r (runIt stp (expandL x) s).2
    cases hq : (runIt stp (expandL x) s).1 with
    | true =>
      rw [foldE_go (by unfold stp63b; simp only [hq, if_true]), if_pos rfl]
      exact ih
    | false =>
      rw [foldE_out (by unfold stp63b; simp only [hq]; intro h; cases h)]
      unfold stp63b
      simp only [hq, Bool.false_eq_true, if_false]
theorem live_run {S : Type} (stp : S → List AV → Bool × S) (ok : S → List AV → Prop) (live : S → Prop) (hst : ∀ s x, live s → ok s x → (stp s x).1 = true → live (stp s x).2) : ∀ (l : List (List AV)) (s : S), okRun stp ok l s → live s → (runIt stp l s).1 = true → live (runIt stp l s).2
  | [], s, _, h, _ => h
  | x :: r, s, ho, h, hq => by
    rw [runIt_cons] at hq ⊢
    cases hs : (stp s x).1 with
    | true => rw [hs, if_pos rfl] at hq; rw [if_pos rfl]; exact live_run stp ok live hst r _ (ho.2 hs) (hst s x h ho.1 hs) hq
    | false => rw [hs] at hq; simp at hq
def R63b {S : Type} (R : S → Fm → Prop) (N : Nat) (l : Nat) (s : S) (m : Fm) : Prop := ∃ m0, R s m0 ∧ ¬ keyIn N m0 ∧ ¬ keyIn (N + 1) m0 ∧ ¬ keyIn (N + 2) m0 ∧ m = (N, .cells 0 (bound (.yld l)) 128 1 false [.yld l]) :: m0
/-- the place that is handed over -/
def bx63 (i k w : Nat) : AObj := .cells 0 0 26 1 false [.v (.int .i64 i), .v (.int .i64 k), .v (.int .i64 w)]
theorem bd2K_at' {S : Type} (R : S → Fm → Prop) (d : Nat) (L' : ALoop) (m : Fm) (H : Heap) (p : AExit × S) (e : AExit) (a : AAct) (H' : Heap) : AtK (bd2K R d L' m H p) e a H' = (e = p.1 ∧ ∃ m', R p.2 m' ∧ Has m' H' ∧ loopObj H' (d + 1) = some L' ∧ Moves ((d + 1, .loop L') :: m) H ((d + 1, .loop L') :: m') H') := rfl
set_option maxHeartbeats 4000000 in
theorem yields2_63 {e : Exts} (he : Quiet e) (ch : AV) (xs : List AV) (hch : SlOf 2 xs ch) (hall : ∀ y ∈ xs, OkCh2 y) (hlen : xs.length < 2 ^ 63) : Yields2 (Cx e) 69 [.ro (.agg [ch]) 0] (allIts xs) := by
  intro l S R stp ok live n0 k hsrc s m H hok hlv hR hH hlk hsz
  have hkn := hsrc.klock
  have hit : ∀ x ∈ chapIts 0 xs, It63 x := by
    intro x hx
    obtain ⟨i, y, j, z, hy, hz, rfl⟩ := chapIts_of xs 0 x hx
    obtain ⟨id, l0, lxs, rfl, hl0, -, hlx⟩ := hall y (List.mem_of_getElem? hy)
    have hz' : lxs[j]? = some z := by rw [← hl0.elems]; exact hz
    obtain ⟨els, h1, h2, h3⟩ := hlx z (List.mem_of_getElem? hz')
    exact ⟨0 + i, j, z, els, rfl, h1, h2, h3⟩
  have key : Fn' (Cx e) 69 [.yld l, .ro (.agg [ch]) 0] H fun v H' => v = .tup [] ∧ ∃ m', R (runIt stp (allIts xs) s).2 m' ∧ Has m' H' ∧ Moves m H m' H' := by
    obtain ⟨N, hN⟩ : ∃ N, H.size = N := ⟨_, rfl⟩
    have hlkN : H.lock ≤ N := by omega
    generalize hKK : (fun v H' => v = .tup [] ∧ ∃ m', R (runIt stp (allIts xs) s).2 m' ∧ Has m' H' ∧ Moves m H m' H' : PostO) = KK
    rw [fn_step (fn_69 e) (show Try.f69.body = some _ from rfl), ← plus_nil H]
    simp -implicitDefEqProofs only [Try.f69, go_sem, ↓reduceIte, Int.reduceEq, Int.reduceLT, Int.reduceLE, List.reduceReplicate, intA, setT_nil, setT_cons, ↓boolP_bool, ↓iteB_true, ↓iteB_false, sizeP hN, putP0 hN, putP hN, settleP0 hN, settleP hN, rowP0 hN, rowP hN, storeP0 hN hlkN, storeP hN hlkN, List.length_nil, Nat.add_zero, hch.cells, call64 he ch xs hch]
    have hN1 : (H.plus [some (.cells 0 (bound (.yld l)) 128 1 false [.yld l])]).size = N + 1 := by rw [plus_size, hN]; rfl
    have hgN : (H.plus [some (.cells 0 (bound (.yld l)) 128 1 false [.yld l])]).get N = some (.cells 0 (bound (.yld l)) 128 1 false [.yld l]) := plus_mid_get hN [] [] _
    refine wp_range2 (yields2_88 ch xs hch (fun y hy => (hall y hy).ok) hlen) rfl (R63b R N l) (stp63b stp) live (Ok63b stp ok) (n0 := N + 1) (k := k) (by rw [hN1]; exact Nat.le_refl _) (by omega) (fun x hx => ?_) ?_ ?_ (fun s x hl hx h => ?_) ?_ s ((N, .cells 0 (bound (.yld l)) 128 1 false [.yld l]) :: m) (okRun63b stp ok _ s hit hok) hlv ⟨m, hR, not_key hH (by omega), not_key hH (by omega), not_key hH (by omega), rfl⟩ ?_ (by rw [plus_lock]; exact hlk) ?_
    · obtain ⟨i, k, lx, els, rfl, -⟩ := hit x hx
      rfl
    · rintro s' m' ⟨m0, hR0, k1, k2, k3, rfl⟩ n hn ⟨p, hp, hpn⟩
      rcases List.mem_cons.1 hp with rfl | hp
      · simp only at hpn; omega
      · obtain ⟨q, hq, h1, h2⟩ := hsrc.anch s' m0 hR0 n (by omega) ⟨p, hp, hpn⟩
        exact ⟨q, List.mem_cons_of_mem _ hq, h1, h2⟩
    · rintro s' m' ⟨m0, hR0, k1, k2, k3, rfl⟩
      rw [hN1]
      constructor
      · rintro ⟨p, hp, he⟩
        rcases List.mem_cons.1 hp with rfl | hp
        · simp only at he; omega
        · exact k2 ⟨p, hp, he⟩
      · rintro ⟨p, hp, he⟩
        rcases List.mem_cons.1 hp with rfl | hp
        · simp only at he; omega
        · exact k3 ⟨p, hp, he⟩
    · obtain ⟨i, kk, lx, els, rfl, h1, h2, h3, h4⟩ := hx
      refine live_run stp ok live hsrc.step _ _ h4 hl ?_
      unfold stp63b at h
      simp only at h
      cases hq : (runIt stp (expandL [placeA i kk 0, lx]) s).1 with
      | true => rfl
      | false => rw [hq] at h; cases h
    · rw [hN1]
      rintro L L' s x' x H' - hl ⟨i, kk, lx, els, rfl, hels, hec, hel, hokx⟩ - ⟨m0, hR0, k1, k2, k3, rfl⟩ hHm hd0 hlo hlk' hsz'
      have hHm0 : Has m0 H' := fun p hp => hHm p (List.mem_cons_of_mem _ hp)
      obtain ⟨N2, hN2⟩ : ∃ N2, H'.size = N2 := ⟨_, rfl⟩
      have hlk2 : H'.lock ≤ N2 := by omega
      have hp1 : stp63b stp s [placeA i kk 0, lx] = (if (runIt stp (wIts (intA i) (intA kk) 0 els) s).1 then .normal else .ret, (runIt stp (wIts (intA i) (intA kk) 0 els) s).2) := by
        unfold stp63b
        rw [show expandL [placeA i kk 0, lx] = wIts (intA i) (intA kk) 0 (slElems lx) from rfl, hels.elems]
      generalize stp63b stp s [placeA i kk 0, lx] = p63 at hp1 ⊢
      have hgN' : H'.get N = some (.cells 0 (bound (.yld l)) 128 1 false [.yld l]) := hHm (N, _) (List.mem_cons_self ..)
      rw [← plus_nil H']
      simp -implicitDefEqProofs only [go_sem, ↓reduceIte, Int.reduceEq, Int.reduceLT, Int.reduceLE, List.reduceReplicate, intA, setT_nil, setT_cons, ↓boolP_bool, ↓iteB_true, ↓iteB_false, placeA, List.zip_cons_cons, List.zip_nil_right, List.zip_nil_left, sizeP hN2, putP0 hN2, putP hN2, settleP0 hN2, settleP hN2, rowP0 hN2, rowP hN2, storeP0 hN2 hlk2, storeP hN2 hlk2, List.length_nil, Nat.add_zero]
      obtain ⟨E0, hE0⟩ : ∃ E0 : List (Option AObj), [some (.cells 0 0 26 1 false [.v (.int .i64 i), .v (.int .i64 kk), .v (.int .i64 0)])] = E0 := ⟨_, rfl⟩
      have hlo1 : loopObj (H'.plus E0) (N + 1 + 1) = some L := get_loopObj ((plus_get _ (by omega)).trans (loopObj_getI hlo))
      rw [hE0, plus_nil]
      refine ⟨rfl, hlo1, ?_⟩
      obtain ⟨X, hX⟩ : ∃ X, (H'.plus E0).put (N + 1 + 1) (.loop L') = X := ⟨_, rfl⟩
      have hszE : (H'.plus E0).size = N2 + 1 := by rw [plus_size, hN2, ← hE0]; rfl
      have hN3 : X.size = N2 + 1 := by rw [← hX, put_sizeI _ (by omega)]; exact hszE
      have hXg : ∀ b, b ≠ N + 1 + 1 → b < N2 → X.get b = H'.get b := fun b hb hb2 => by rw [← hX, put_get_ne _ (by omega) hb]; exact plus_get _ (by omega)
      have hXlk : X.lock = k := by rw [← hX]; exact hlk'
      have hlk3 : X.lock ≤ N2 + 1 := by omega
      have hXL : X.get (N + 1 + 1) = some (.loop L') := by rw [← hX]; exact put_get_eq _ (by omega)
      have hXc : X.get N2 = some (bx63 i kk 0) := by rw [← hX, put_get_ne _ (by omega) (by omega), ← hE0]; exact plus_mid_get hN2 [] [] _
      have hXH : Has m0 X := fun p hp => (hXg p.1 (fun he => k3 ⟨p, hp, by omega⟩) (by have := get_ltS (hHm0 p hp); omega)).trans (hHm0 p hp)
      have hXN : X.get N = some (.cells 0 (bound (.yld l)) 128 1 false [.yld l]) := (hXg N (by omega) (by omega)).trans hgN'
      have hltX : ∀ p ∈ m0, p.1 < N2 := fun p hp => by have := get_ltS (hHm0 p hp); omega
      have hel2 := hels.len
      rw [hX, ← plus_nil X]
      simp -implicitDefEqProofs only [go_sem, ↓reduceIte, Int.reduceEq, Int.reduceLT, Int.reduceLE, List.reduceReplicate, intA, setT_nil, setT_cons, ↓boolP_bool, ↓iteB_true, ↓iteB_false, hel2, sizeP hN3, putP0 hN3, putP hN3, settleP0 hN3, settleP hN3, rowP0 hN3, rowP hN3, storeP0 hN3 hlk3, storeP hN3 hlk3, List.length_nil, Nat.add_zero]
      have hoff : ∀ b, b ≤ N + 2 → ¬ keyIn b m0 → ¬ keyIn b ((N2, bx63 i kk 0) :: m0) := by
        rintro b hb hnb ⟨p, hp, he⟩
        rcases List.mem_cons.1 hp with rfl | hp
        · simp only at he; omega
        · exact hnb ⟨p, hp, he⟩
      have hend : ∀ s2 m2 w H2, R s2 m2 → Has ((N2, bx63 i kk w) :: m2) H2 → Moves ((N2, bx63 i kk 0) :: m0) X ((N2, bx63 i kk w) :: m2) H2 →
          ∃ m', R63b R N l s2 m' ∧ Has m' H2 ∧ loopObj H2 (N + 1 + 1) = some L' ∧ Moves ((N + 1 + 1, .loop L') :: (N, .cells 0 (bound (.yld l)) 128 1 false [.yld l]) :: m0) H' ((N + 1 + 1, .loop L') :: m') H2 := by
        intro s2 m2 w H2 hR2 hH2 hmv
        have hoff2 : ∀ b, b ≤ N + 2 → ¬ keyIn b m0 → ¬ keyIn b m2 := by
          rintro b hb hnb ⟨p, hp, he⟩
          rcases hmv.keys p (List.mem_cons_of_mem _ hp) with h | h
          · rw [he] at h; exact hoff b hb hnb h
          · omega
        refine ⟨(N, .cells 0 (bound (.yld l)) 128 1 false [.yld l]) :: m2, ⟨m2, hR2, hoff2 _ (by omega) k1, hoff2 _ (by omega) k2, hoff2 _ (by omega) k3, rfl⟩, fun p hp => ?_, get_loopObj ((hmv.same _ (by omega) (hoff _ (by omega) k3)).trans hXL), ?_, ?_, fun b hb hnb => ?_, fun p hp => ?_⟩
        · rcases List.mem_cons.1 hp with rfl | hp
          · exact (hmv.same N (by omega) (hoff _ (by omega) k1)).trans hXN
          · exact hH2 p (List.mem_cons_of_mem _ hp)
        · rw [hmv.lock, hXlk, hlk']
        · have := hmv.size; omega
        · have h9 : ¬ keyIn b m0 := fun ⟨q, hq, he⟩ => hnb ⟨q, List.mem_cons_of_mem _ (List.mem_cons_of_mem _ hq), he⟩
          have h10 : b ≠ N + 1 + 1 := fun he => hnb ⟨_, List.mem_cons_self .., he.symm⟩
          rw [hmv.same b (by omega) ?_, hXg b h10 (by omega)]
          rintro ⟨q, hq, he⟩
          rcases List.mem_cons.1 hq with rfl | hq
          · simp only at he; omega
          · exact h9 ⟨q, hq, he⟩
        · rcases List.mem_cons.1 hp with rfl | hp
          · exact Or.inl ⟨_, List.mem_cons_self .., rfl⟩
          · rcases List.mem_cons.1 hp with rfl | hp
            · exact Or.inl ⟨_, List.mem_cons_of_mem _ (List.mem_cons_self ..), rfl⟩
            · rcases hmv.keys p (List.mem_cons_of_mem _ hp) with ⟨q, hq, he⟩ | h
              · rcases List.mem_cons.1 hq with rfl | hq
                · simp only at he; exact Or.inr (by omega)
                · exact Or.inl ⟨q, List.mem_cons_of_mem _ (List.mem_cons_of_mem _ hq), he⟩
              · exact Or.inr (by omega)
      have hoks : okRun stp ok (wIts (intA i) (intA kk) 0 els) s := by
        rw [show expandL [placeA i kk 0, lx] = wIts (intA i) (intA kk) 0 (slElems lx) from rfl, hels.elems] at hokx; exact hokx
      have hN2m : ¬ keyIn N2 m0 := fun ⟨p, hp, he⟩ => by have := hltX p hp; omega
      rw [plus_nil]
      refine Lp_rule (P := fun μ a H2 => ∃ (j w : Nat) (s2 : S) (m2 : Fm), j + μ = els.length ∧ a = ⟨26, [(0, .yld l), (1, .ro (.agg [ch]) 0), (2, .ptr N 0 0), (8, .fn (.func 97) [] [.ro (.agg [ch]) 0]), (9, .agg [.v (.int .i64 i), .v (.int .i64 kk), .v (.int .i64 0)]), (10, lx), (3, .ptr N2 0 0), (4, lx), (11, lx), (12, intA els.length), (13, intA j)], []⟩ ∧ live s2 ∧ R s2 m2 ∧ ¬ keyIn N2 m2 ∧ Has ((N2, bx63 i kk w) :: m2) H2 ∧ Moves ((N2, bx63 i kk 0) :: m0) X ((N2, bx63 i kk w) :: m2) H2 ∧ runIt stp (wIts (intA i) (intA kk) 0 els) s = runIt stp (wIts (intA i) (intA kk) j (els.drop j)) s2 ∧ okRun stp ok (wIts (intA i) (intA kk) j (els.drop j)) s2) ?_ els.length _ _ ⟨0, 0, s, m0, by omega, rfl, hl, hR0, hN2m, ?_, Moves.refl _ _, rfl, hoks⟩
      · rintro μ _ H2 ⟨j, w, s2, m2, hj, rfl, hl2, hR2, hnk, hH2, hmv, hrun, hok2⟩
        obtain ⟨M, hM⟩ : ∃ M, H2.size = M := ⟨_, rfl⟩
        have hMs := hmv.size
        have hbxg : H2.get N2 = some (bx63 i kk w) := hH2 (N2, _) (List.mem_cons_self ..)
        have hH2k : H2.lock = k := hmv.lock.trans hXlk
        cases μ with
        | zero =>
          obtain rfl : j = els.length := by omega
          rw [List.drop_of_length_le (Nat.le_refl _)] at hrun
          rw [hrun] at hp1
          simp only [runIt, wIts, if_true] at hp1
          subst hp1
          simp -implicitDefEqProofs only [go_sem, ↓reduceIte, Int.reduceEq, Int.reduceLT, Int.reduceLE, List.reduceReplicate, intA, setT_nil, setT_cons, ↓boolP_bool, ↓iteB_true, ↓iteB_false, Int.lt_irrefl, hM, settle_eqN hM, trim_eqN hM, bd2K_at']
          exact hend _ _ _ _ hR2 hH2 hmv
        | succ μ =>
          obtain ⟨x, hx⟩ := at_lt els j (by omega)
          have hxc := hec x (List.mem_of_getElem? hx)
          have hltj : (j : Int) < ((els.length : Nat) : Int) := by omega
          have hwj := wrap_succ j (by omega)
          have hdr := wIts_drop (intA i) (intA kk) els j x hx
          rw [hdr] at hrun hok2
          obtain ⟨Y, hY⟩ : ∃ Y, H2.put N2 (bx63 i kk j) = Y := ⟨_, rfl⟩
          have hst : storeCells H2 N2 0 2 [.v (.int .i64 j)] = some Y := by
            have hr := row_of (v := 0) hbxg
            unfold storeCells
            rw [hr]
            simp only [if_true]
            rw [if_pos ⟨by omega, by simp, rfl⟩, ← hY]
            rfl
          have hYs : Y.size = M := by rw [← hY, put_sizeI _ (by omega)]; exact hM
          have hYk : Y.lock = k := by rw [← hY]; exact hH2k
          have hYg : Y.get N2 = some (bx63 i kk j) := by rw [← hY]; exact put_get_eq _ (by omega)
          have hYo : ∀ b, b ≠ N2 → b ≤ M → Y.get b = H2.get b := fun b hb hb2 => by rw [← hY]; exact put_get_ne _ (by omega) hb
          have hYm : Has m2 Y := fun p hp => by
            have h1 := hH2 p (List.mem_cons_of_mem _ hp)
            rw [hYo p.1 (fun he => hnk ⟨p, hp, he⟩) (by have := get_ltS h1; omega)]; exact h1
          have hYN : Y.get N = some (.cells 0 (bound (.yld l)) 128 1 false [.yld l]) := by
            rw [hYo N (by omega) (by omega)]
            exact (hmv.same N (by omega) (hoff _ (by omega) k1)).trans hXN
          have hrN := row_of (v := 0) hYN
          have hrB := row_of (v := 0) hYg
          obtain ⟨H3, H4, m4, hr3, hr4, hR4, hH4, hmv4⟩ := hsrc.round' s2 m2 [placeB (intA i) (intA kk) j, x] Y hl2 hok2.1 hR2 hYm hYk (by omega)
          rw [hYs] at hr4
          have hstp := hsrc.step s2 [placeB (intA i) (intA kk) j, x] hl2 hok2.1
          have hnk4 : ¬ keyIn N2 m4 := by
            rintro ⟨p, hp, he⟩
            rcases hmv4.keys p hp with h | h
            · rw [he] at h; exact hnk h
            · omega
          have hHas4 : ∀ Z, Moves m2 Y m4 Z → Has m4 Z → Has ((N2, bx63 i kk j) :: m4) Z := fun Z hz hHz p hp => by
            rcases List.mem_cons.1 hp with rfl | hp
            · exact (hz.same N2 (by omega) hnk).trans hYg
            · exact hHz p hp
          have hT : ∀ Z, Moves m2 Y m4 Z → Moves ((N2, bx63 i kk 0) :: m0) X ((N2, bx63 i kk j) :: m4) Z := by
            intro Z hz
            have hs4 := hz.size
            refine ⟨hz.lock.trans (hYk.trans hXlk.symm), by omega, fun b hb hnb => ?_, fun p hp => ?_⟩
            · have hb2 : ¬ keyIn b m2 := fun ⟨p, hp, he⟩ => by
                rcases hmv.keys p (List.mem_cons_of_mem _ hp) with h | h
                · rw [he] at h; exact hnb h
                · omega
              rw [hz.same b (by omega) hb2, hYo b (fun he => hnb ⟨_, List.mem_cons_self .., he.symm⟩) (by omega)]
              exact hmv.same b hb hnb
            · rcases List.mem_cons.1 hp with rfl | hp
              · exact Or.inl ⟨_, List.mem_cons_self .., rfl⟩
              · rcases hz.keys p hp with ⟨q, hq, he⟩ | h
                · rw [← he]; exact hmv.keys q (List.mem_cons_of_mem _ hq)
                · exact Or.inr (by omega)
          rw [runIt_cons] at hrun
          cases hb : (stp s2 [placeB (intA i) (intA kk) j, x]).1
          · rw [hb] at hr3 hrun
            simp only [placeB, intA] at hr3
            simp only [Bool.false_eq_true, if_false] at hrun
            rw [hrun] at hp1
            simp only [Bool.false_eq_true, if_false] at hp1
            subst hp1
            simp -implicitDefEqProofs only [go_sem, ↓reduceIte, Int.reduceEq, Int.reduceLT, Int.reduceLE, List.reduceReplicate, intA, setT_nil, setT_cons, ↓boolP_bool, ↓iteB_true, ↓iteB_false, hltj, hM, settle_eqN hM, trim_eqN hM, hwj, hels.idx hx, hxc, hst, hYs, settle_eqN hYs, trim_eqN hYs, hrN, hrB, bx63, hr3, hr4, bd2K_at']
            exact hend _ _ _ _ hR4 (hHas4 _ hmv4 hH4) (hT _ hmv4)
          · rw [hb] at hr3 hrun
            simp only [placeB, intA] at hr3
            simp only [if_true] at hrun
            simp -implicitDefEqProofs only [go_sem, ↓reduceIte, Int.reduceEq, Int.reduceLT, Int.reduceLE, List.reduceReplicate, intA, setT_nil, setT_cons, ↓boolP_bool, ↓iteB_true, ↓iteB_false, hltj, hM, settle_eqN hM, trim_eqN hM, hwj, hels.idx hx, hxc, hst, hYs, settle_eqN hYs, trim_eqN hYs, hrN, hrB, bx63, hr3, hr4]
            exact ⟨μ, by omega, j + 1, j, _, m4, by omega, rfl, hstp hb, hR4, hnk4, hHas4 _ (hmv4.trim _ _ hYs.symm) (hH4.trim (hsrc.anch _ _ hR4) (by omega) _ _), hT _ (hmv4.trim _ _ hYs.symm), hrun, hok2.2 hb⟩
      · intro p hp
        rcases List.mem_cons.1 hp with rfl | hp
        · exact hXc
        · exact hXH p hp
    · intro p hp
      rcases List.mem_cons.1 hp with rfl | hp
      · exact hgN
      · exact hH.plus _ p hp
    · rw [hN1]
      rintro m' H' ⟨m1, hR1, k1, k2, k3, rfl⟩ hH1 hd hdd hmv hsz'
      rw [fold63b] at hR1 ⊢
      rw [show (chapIts 0 xs).flatMap expandL = allIts xs from rfl] at hR1 ⊢
      generalize hr : runIt stp (allIts xs) s = r at hKK hR1 ⊢
      simp only at hR1 ⊢
      have hlk' : H'.lock = k := by rw [hmv.lock, plus_lock]; exact hlk
      have hkill : killAll [N + 1] H' = some (H'.put (N + 1) .dead) := by
        unfold killAll
        rw [hd]
        simp only
        rw [if_pos (by omega)]
        unfold killAll; rfl
      have hfin : ∃ m', R r.2 m' ∧ Has m' (H'.put (N + 1) .dead) ∧ Moves m H m' (H'.put (N + 1) .dead) := by
        refine ⟨m1, hR1, fun p hp => ?_, ?_, ?_, fun b hb hnb => ?_, fun p hp => ?_⟩
        · rw [put_get_ne _ (by omega) (fun he => k2 ⟨p, hp, he⟩)]
          exact hH1 p (List.mem_cons_of_mem _ hp)
        · show H'.lock = H.lock
          omega
        · rw [put_sizeI _ (by omega)]; omega
        · rw [put_get_ne _ (by omega) (by omega), hmv.same b (by omega) ?_]
          · exact plus_get _ hb
          · rintro ⟨q, hq, he⟩
            rcases List.mem_cons.1 hq with rfl | hq
            · simp only at he; omega
            · exact hnb ⟨q, hq, he⟩
        · rcases hmv.keys p (List.mem_cons_of_mem _ (List.mem_cons_of_mem _ hp)) with ⟨q, hq, he⟩ | h
          · rcases List.mem_cons.1 hq with rfl | hq
            · exact absurd ⟨p, hp, he.symm⟩ k1
            · exact Or.inl ⟨q, hq, he⟩
          · exact Or.inr (by omega)
      subst hKK
      cases hb : r.1 with
      | true =>
        simp -implicitDefEqProofs only [go_sem, ↓reduceIte, Int.reduceEq, Int.reduceLT, Int.reduceLE, List.reduceReplicate, intA, setT_nil, setT_cons, ↓boolP_bool, ↓iteB_true, ↓iteB_false, hkill]
        exact ⟨rfl, hfin⟩
      | false =>
        simp -implicitDefEqProofs only [go_sem, ↓reduceIte, Int.reduceEq, Int.reduceLT, Int.reduceLE, List.reduceReplicate, intA, setT_nil, setT_cons, ↓boolP_bool, ↓iteB_true, ↓iteB_false, hkill]
        exact ⟨rfl, hfin⟩
  obtain ⟨v, H', h1, h2⟩ : ∃ v H', lim (Cx e) (.call 69 ([.yld l] ++ [.ro (.agg [ch]) 0]) H) = some (.ret v H') ∧ (v = .tup [] ∧ ∃ m', R (runIt stp (allIts xs) s).2 m' ∧ Has m' H' ∧ Moves m H m' H') := by
    unfold Fn' at key
    rw [bindO_iff] at key
    obtain ⟨o, h1, h2⟩ := key
    cases o with
    | ret v H' => exact ⟨v, H', h1, h2⟩
    | _ => exact h2.elim
  obtain ⟨rfl, m', h3, h4, h5⟩ := h2
  exact ⟨H', m', h1, h3, h4, h5⟩
end Go.Ev
