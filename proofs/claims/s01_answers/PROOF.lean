import PyProof.Rows.All
import Wide.All
import OpenK.AllK
import Wide.FinOn
import Open.SpecLaws
import KE.OsGo
import HandS.ForSpec
import HandS.TryMany
import HandS.Comp
import HandS.Dict
import HandS.Iter
import HandS.Rev
import PySem.Challenge.RW_axiomparts_s01_answers
import PyFlatLaws
import HandS.WideBits
import HandS.RevTup
import HandS.Walk
set_option Elab.async false
set_option linter.all false
set_option maxRecDepth 100000
set_option maxHeartbeats 2000000
section
set_option maxHeartbeats 200000
/-! Models, and what the specification's decision by types says of them. -/
namespace AX
open Oc

structure Model where
  W : Type
  nm : Nat → W → Prop
  rl : Nat → W → W → Prop

def sat (M : Model) : C → M.W → Prop
  | .top, _ => True
  | .bot, _ => False
  | .name a, x => M.nm a x
  | .and c d, x => sat M c x ∧ sat M d x
  | .or c d, x => sat M c x ∨ sat M d x
  | .not c, x => ¬ sat M c x
  | .some r c, x => ∃ y, M.rl r x y ∧ sat M c y
  | .all r c, x => ∀ y, M.rl r x y → sat M c y

/-- in each model of the axioms the first lies in the second -/
def Sub (ax : List Axiom) (c d : C) : Prop := ∀ M : Model, (∀ a ∈ ax, ∀ x, sat M a.1 x → sat M a.2 x) → ∀ x, sat M c x → sat M d x

/-! a number with given bits -/
def mk (p : Nat → Bool) : Nat → Nat
  | 0 => 0
  | n + 1 => mk p n + (if p n = true then 2 ^ n else 0)
theorem mk_lt (p : Nat → Bool) : ∀ n, mk p n < 2 ^ n
  | 0 => by simp [mk]
  | n + 1 => by
    have := mk_lt p n
    simp only [mk, Nat.pow_succ]
    split <;> omega
theorem bit_mk (p : Nat → Bool) : ∀ n k, k < n → bit (mk p n) k = p k
  | 0, k, h => by omega
  | n + 1, k, h => by
    have hl := mk_lt p n
    have ih := bit_mk p n k
    unfold bit at *
    simp only [mk]
    by_cases e : k = n
    · subst e
      split
      · rename_i hp
        have : (mk p k + 2 ^ k) / 2 ^ k = 1 := by
          rw [Nat.add_div_right _ (Nat.two_pow_pos k), Nat.div_eq_of_lt hl]
        rw [this, hp]; rfl
      · rename_i hp
        rw [Nat.add_zero, Nat.div_eq_of_lt hl]
        simp only [Bool.not_eq_true] at hp
        rw [hp]; rfl
    · have hk : k < n := by omega
      rw [← ih hk]
      split
      · have e2 : 2 ^ n = 2 * 2 ^ (n - k - 1) * 2 ^ k := by
          rw [Nat.mul_assoc, ← Nat.pow_add, ← Nat.pow_succ']
          congr 1; omega
        rw [e2, Nat.add_mul_div_right _ _ (Nat.two_pow_pos k), Nat.add_mul_mod_self_left]
      · rw [Nat.add_zero]

/-! atoms -/
theorem mem_distinct_go : ∀ (l m : List C) (x : C), x ∈ l.foldl (fun m c => if m.contains c = true then m else m ++ [c]) m ↔ x ∈ m ∨ x ∈ l
  | [], m, x => by simp
  | c :: l, m, x => by
    rw [List.foldl_cons, mem_distinct_go l]
    by_cases h : m.contains c = true
    · rw [if_pos h]
      have : c ∈ m := by simpa using h
      constructor
      · rintro (h | h) <;> simp [h]
      · rintro (h | h)
        · exact .inl h
        · rcases List.mem_cons.mp h with rfl | h
          · exact .inl this
          · exact .inr h
    · rw [if_neg h]
      simp [or_assoc]
theorem mem_distinct {l : List C} {x : C} : x ∈ distinct l ↔ x ∈ l := by
  unfold distinct; rw [mem_distinct_go]; simp
theorem nodup_distinct_go : ∀ (l m : List C), m.Nodup → (l.foldl (fun m c => if m.contains c = true then m else m ++ [c]) m).Nodup
  | [], m, h => h
  | c :: l, m, h => by
    rw [List.foldl_cons]
    refine nodup_distinct_go l _ ?_
    by_cases e : m.contains c = true
    · rw [if_pos e]; exact h
    · rw [if_neg e]
      have : c ∉ m := by simpa using e
      rw [List.nodup_append]
      refine ⟨h, by simp, ?_⟩
      intro a ha b hb
      rw [List.mem_singleton] at hb
      subst hb
      intro e; subst e; exact this ha
theorem nodup_distinct (l : List C) : (distinct l).Nodup := nodup_distinct_go l [] (by simp)

/-- every atom's inner atoms are there too -/
def Closed (l : List C) : Prop := ∀ x ∈ l, match x with
  | .some _ c => ∀ y ∈ c.atoms, y ∈ l
  | .all _ c => ∀ y ∈ c.atoms, y ∈ l
  | _ => True
theorem atoms_closed : ∀ c : C, Closed c.atoms
  | .top => by intro x h; simp [C.atoms] at h
  | .bot => by intro x h; simp [C.atoms] at h
  | .name a => by intro x h; simp [C.atoms] at h; subst h; trivial
  | .and c d => by
    intro x h
    simp only [C.atoms, List.mem_append] at h
    rcases h with h | h
    · have := atoms_closed c x h
      revert this; cases x <;> simp (config := {contextual := true}) [C.atoms]
    · have := atoms_closed d x h
      revert this; cases x <;> simp (config := {contextual := true}) [C.atoms]
  | .or c d => by
    intro x h
    simp only [C.atoms, List.mem_append] at h
    rcases h with h | h
    · have := atoms_closed c x h
      revert this; cases x <;> simp (config := {contextual := true}) [C.atoms]
    · have := atoms_closed d x h
      revert this; cases x <;> simp (config := {contextual := true}) [C.atoms]
  | .not c => by
    intro x h
    have := atoms_closed c x h
    revert this; cases x <;> simp (config := {contextual := true}) [C.atoms]
  | .some r c => by
    intro x h
    simp only [C.atoms, List.mem_cons] at h
    rcases h with rfl | h
    · intro y hy; simp [C.atoms, hy]
    · have := atoms_closed c x h
      revert this; cases x <;> simp (config := {contextual := true}) [C.atoms]
  | .all r c => by
    intro x h
    simp only [C.atoms, List.mem_cons] at h
    rcases h with rfl | h
    · intro y hy; simp [C.atoms, hy]
    · have := atoms_closed c x h
      revert this; cases x <;> simp (config := {contextual := true}) [C.atoms]
theorem mem_atomsOf {l : List C} {x : C} : x ∈ atomsOf l ↔ ∃ c ∈ l, x ∈ c.atoms := by
  unfold atomsOf; rw [mem_distinct, List.mem_flatMap]
theorem atomsOf_closed (l : List C) : Closed (atomsOf l) := by
  intro x h
  obtain ⟨c, hc, hx⟩ := mem_atomsOf.mp h
  have := atoms_closed c x hx
  revert this
  cases x with
  | some r d => intro this y hy; exact mem_atomsOf.mpr ⟨c, hc, this y hy⟩
  | all r d => intro this y hy; exact mem_atomsOf.mpr ⟨c, hc, this y hy⟩
  | _ => intro _; trivial
/-- an atom -/
def IsAtom : C → Prop
  | .name _ => True
  | .some _ _ => True
  | .all _ _ => True
  | _ => False

/-! holds at an atom -/
theorem idx_mem {l : List C} {x : C} (h : x ∈ l) : ∃ k, l.idxOf? x = some k ∧ k < l.length ∧ l[k]? = some x := by
  have h1 : (l.idxOf? x).isSome := by
    cases e : l.idxOf? x with
    | some k => rfl
    | none => rw [List.idxOf?_eq_none_iff] at e; exact absurd h e
  obtain ⟨k, hk⟩ := Option.isSome_iff_exists.mp h1
  have h2 := hk
  rw [List.idxOf?, List.findIdx?_eq_some_iff_getElem] at h2
  obtain ⟨hlt, hx, _⟩ := h2
  refine ⟨k, hk, hlt, ?_⟩
  rw [List.getElem?_eq_getElem hlt]
  simpa using hx

/-- the type of an element -/
noncomputable def tp (M : Model) (at_ : List C) (x : M.W) : Nat :=
  mk (fun k => match at_[k]? with | some c => @decide (sat M c x) (Classical.propDecidable _) | none => false) at_.length
theorem tp_lt (M : Model) (at_ : List C) (x : M.W) : tp M at_ x < 2 ^ at_.length := mk_lt _ _
theorem tp_bit (M : Model) {at_ : List C} (x : M.W) {c : C} {k : Nat} (h : at_[k]? = some c) : bit (tp M at_ x) k = true ↔ sat M c x := by
  have hk : k < at_.length := by
    rcases Nat.lt_or_ge k at_.length with h2 | h2
    · exact h2
    · rw [List.getElem?_eq_none h2] at h; cases h
  unfold tp
  rw [bit_mk _ _ _ hk, h]
  simp
theorem holds_tp (M : Model) {at_ : List C} (x : M.W) : ∀ c : C, (∀ y ∈ c.atoms, y ∈ at_) → (holds at_ (tp M at_ x) c = true ↔ sat M c x)
  | .top, _ => by simp [holds, sat]
  | .bot, _ => by simp [holds, sat]
  | .name a, h => by
    obtain ⟨k, h1, _, h2⟩ := idx_mem (h (.name a) (by simp [C.atoms]))
    simp only [holds, h1]
    exact tp_bit M x h2
  | .and c d, h => by
    have hc := holds_tp M x c (fun y hy => h y (by simp [C.atoms, hy]))
    have hd := holds_tp M x d (fun y hy => h y (by simp [C.atoms, hy]))
    simp only [holds, sat, Bool.and_eq_true, hc, hd]
  | .or c d, h => by
    have hc := holds_tp M x c (fun y hy => h y (by simp [C.atoms, hy]))
    have hd := holds_tp M x d (fun y hy => h y (by simp [C.atoms, hy]))
    simp only [holds, sat, Bool.or_eq_true, hc, hd]
  | .not c, h => by
    have hc := holds_tp M x c (fun y hy => h y (by simpa [C.atoms] using hy))
    simp only [holds, sat, ← hc, Bool.not_eq_true', Bool.not_eq_true]
  | .some r c, h => by
    obtain ⟨k, h1, _, h2⟩ := idx_mem (h (.some r c) (by simp [C.atoms]))
    simp only [holds, h1]
    exact tp_bit M x h2
  | .all r c, h => by
    obtain ⟨k, h1, _, h2⟩ := idx_mem (h (.all r c) (by simp [C.atoms]))
    simp only [holds, h1]
    exact tp_bit M x h2

/-! settle -/
theorem settle_keeps (at_ : List C) (good : Nat → Prop) (hg : ∀ l, (∀ t, good t → t ∈ l) → ∀ t, good t → borne at_ l t = true) :
    ∀ (n : Nat) (l : List Nat), (∀ t, good t → t ∈ l) → ∀ t, good t → t ∈ settle at_ n l
  | 0, l, h, t, ht => h t ht
  | n + 1, l, h, t, ht => by
    show t ∈ (if (l.filter (borne at_ l)).length = l.length then l else settle at_ n (l.filter (borne at_ l)))
    split
    · exact h t ht
    · exact settle_keeps at_ good hg n _ (fun u hu => List.mem_filter.mpr ⟨h u hu, hg l h u hu⟩) t ht
theorem settle_sub (at_ : List C) : ∀ (n : Nat) (l : List Nat), ∀ t ∈ settle at_ n l, t ∈ l
  | 0, l, t, h => h
  | n + 1, l, t, h => by
    replace h : t ∈ (if (l.filter (borne at_ l)).length = l.length then l else settle at_ n (l.filter (borne at_ l))) := h
    split at h
    · exact h
    · exact (List.mem_filter.mp (settle_sub at_ n _ t h)).1
theorem settle_borne (at_ : List C) : ∀ (n : Nat) (l : List Nat), l.length < n → ∀ t ∈ settle at_ n l, borne at_ (settle at_ n l) t = true
  | 0, l, h => by omega
  | n + 1, l, h => by
    intro t ht
    unfold settle at ht ⊢
    by_cases e : (l.filter (borne at_ l)).length = l.length
    · simp only [e, if_true] at ht ⊢
      have e2 : l.filter (borne at_ l) = l := List.filter_eq_self.mpr (by
        intro a ha
        exact List.length_filter_eq_length_iff.mp e a ha)
      rw [← e2] at ht
      exact (List.mem_filter.mp ht).2
    · simp only [e, if_false] at ht ⊢
      have : (l.filter (borne at_ l)).length ≤ l.length := List.length_filter_le _ _
      exact settle_borne at_ n _ (by omega) t ht

theorem fits_tp (M : Model) {at_ : List C} (hcl : Closed at_) {r : Nat} {x y : M.W} (h : M.rl r x y) (hd : ∀ c ∈ at_, ∀ z ∈ c.atoms, z ∈ at_) : fits at_ r (tp M at_ x) (tp M at_ y) = true := by
  unfold fits
  rw [List.all_eq_true]
  intro a ha
  cases a with
  | some s c =>
    by_cases e : s = r
    · subst e
      have h1 := holds_tp M x (.some s c) (hd _ ha)
      have h2 := holds_tp M y c (hcl (.some s c) ha)
      simp only [bne_self_eq_false, Bool.false_or, Bool.or_eq_true, Bool.not_eq_true']
      by_cases q : sat M c y
      · exact .inl (h1.mpr ⟨y, h, q⟩)
      · refine .inr ?_
        rw [← Bool.not_eq_true]; exact fun z => q (h2.mp z)
    · have : (s != r) = true := by simpa using e
      simp [this]
  | all s c =>
    by_cases e : s = r
    · subst e
      have h1 := holds_tp M x (.all s c) (hd _ ha)
      have h2 := holds_tp M y c (hcl (.all s c) ha)
      simp only [bne_self_eq_false, Bool.false_or, Bool.or_eq_true, Bool.not_eq_true']
      by_cases q : sat M c y
      · exact .inr (h2.mpr q)
      · refine .inl ?_
        rw [← Bool.not_eq_true]; exact fun z => q (h1.mp z y h)
    · have : (s != r) = true := by simpa using e
      simp [this]
  | _ => rfl

theorem borne_tp (M : Model) {at_ : List C} (hcl : Closed at_) (hd : ∀ c ∈ at_, ∀ z ∈ c.atoms, z ∈ at_) (l : List Nat) (hl : ∀ y, tp M at_ y ∈ l) (x : M.W) : borne at_ l (tp M at_ x) = true := by
  unfold borne
  rw [List.all_eq_true]
  intro a ha
  cases a with
  | some r c =>
    have h1 := holds_tp M x (.some r c) (hd _ ha)
    simp only [Bool.or_eq_true, Bool.not_eq_true', List.any_eq_true, Bool.and_eq_true]
    by_cases q : sat M (.some r c) x
    · obtain ⟨y, hy, hc⟩ := q
      exact .inr ⟨_, hl y, fits_tp M hcl hy hd, (holds_tp M y c (hcl _ ha)).mpr hc⟩
    · refine .inl ?_
      rw [← Bool.not_eq_true]; exact fun z => q (h1.mp z)
  | all r c =>
    have h1 := holds_tp M x (.all r c) (hd _ ha)
    simp only [Bool.or_eq_true, Bool.not_eq_true', List.any_eq_true, Bool.and_eq_true]
    by_cases q : sat M (.all r c) x
    · exact .inl (h1.mpr q)
    · refine .inr ?_
      have q2 : ∃ y, M.rl r x y ∧ ¬ sat M c y := by
        apply Classical.byContradiction
        intro z
        exact q fun y hy => Classical.byContradiction fun w => z ⟨y, hy, w⟩
      obtain ⟨y, hy, hc⟩ := q2
      refine ⟨_, hl y, fits_tp M hcl hy hd, ?_⟩
      rw [← Bool.not_eq_true]; exact fun z => hc ((holds_tp M y c (hcl _ ha)).mp z)
  | _ => rfl

/-! the types' model -/
def tModel (at_ : List C) (L : List Nat) : Model := { W := { t : Nat // t ∈ L }, nm := fun a t => holds at_ t.1 (.name a) = true, rl := fun r t u => fits at_ r t.1 u.1 = true }
theorem sat_tModel {at_ : List C} {L : List Nat} (hcl : Closed at_) (hb : ∀ t ∈ L, borne at_ L t = true) : ∀ (c : C), (∀ y ∈ c.atoms, y ∈ at_) → ∀ t : (tModel at_ L).W, (sat (tModel at_ L) c t ↔ holds at_ t.1 c = true)
  | .top, _, t => by simp [holds, sat]
  | .bot, _, t => by simp [holds, sat]
  | .name a, _, t => Iff.rfl
  | .and c d, h, t => by
    have hc := sat_tModel hcl hb c (fun y hy => h y (by simp [C.atoms, hy])) t
    have hd := sat_tModel hcl hb d (fun y hy => h y (by simp [C.atoms, hy])) t
    simp only [holds, sat, Bool.and_eq_true, hc, hd]
  | .or c d, h, t => by
    have hc := sat_tModel hcl hb c (fun y hy => h y (by simp [C.atoms, hy])) t
    have hd := sat_tModel hcl hb d (fun y hy => h y (by simp [C.atoms, hy])) t
    simp only [holds, sat, Bool.or_eq_true, hc, hd]
  | .not c, h, t => by
    have hc := sat_tModel hcl hb c (fun y hy => h y (by simpa [C.atoms] using hy)) t
    simp only [holds, sat, hc, Bool.not_eq_true', Bool.not_eq_true]
  | .some r c, h, t => by
    have ha : C.some r c ∈ at_ := h _ (by simp [C.atoms])
    have hc := sat_tModel hcl hb c (fun y hy => h y (by simp [C.atoms, hy]))
    have hbt := hb t.1 t.2
    unfold borne at hbt
    rw [List.all_eq_true] at hbt
    have h1 := hbt _ ha
    simp only [Bool.or_eq_true, Bool.not_eq_true', List.any_eq_true, Bool.and_eq_true] at h1
    constructor
    · rintro ⟨u, hu, hs⟩
      have hf : fits at_ r t.1 u.1 = true := hu
      unfold fits at hf
      rw [List.all_eq_true] at hf
      have h2 := hf _ ha
      simp only [bne_self_eq_false, Bool.false_or, Bool.or_eq_true, Bool.not_eq_true'] at h2
      rcases h2 with h2 | h2
      · exact h2
      · rw [(hc u).mp hs] at h2; cases h2
    · intro q
      rcases h1 with h1 | ⟨u, hu, hf, hh⟩
      · rw [q] at h1; cases h1
      · exact ⟨⟨u, hu⟩, hf, (hc ⟨u, hu⟩).mpr hh⟩
  | .all r c, h, t => by
    have ha : C.all r c ∈ at_ := h _ (by simp [C.atoms])
    have hc := sat_tModel hcl hb c (fun y hy => h y (by simp [C.atoms, hy]))
    have hbt := hb t.1 t.2
    unfold borne at hbt
    rw [List.all_eq_true] at hbt
    have h1 := hbt _ ha
    simp only [Bool.or_eq_true, Bool.not_eq_true', List.any_eq_true, Bool.and_eq_true] at h1
    constructor
    · intro q
      rcases h1 with h1 | ⟨u, hu, hf, hh⟩
      · exact h1
      · have := (hc ⟨u, hu⟩).mp (q ⟨u, hu⟩ hf)
        rw [this] at hh; cases hh
    · intro q u hu
      have hf : fits at_ r t.1 u.1 = true := hu
      unfold fits at hf
      rw [List.all_eq_true] at hf
      have h2 := hf _ ha
      simp only [bne_self_eq_false, Bool.false_or, Bool.or_eq_true, Bool.not_eq_true'] at h2
      rcases h2 with h2 | h2
      · rw [q] at h2; cases h2
      · exact (hc u).mpr h2

theorem atomsOf_deep (l : List C) : ∀ c ∈ atomsOf l, ∀ z ∈ c.atoms, z ∈ atomsOf l := by
  intro c hc z hz
  have hcl := atomsOf_closed l c hc
  cases c with
  | name a => simp [C.atoms] at hz; subst hz; exact hc
  | some r d =>
    simp only [C.atoms, List.mem_cons] at hz
    rcases hz with rfl | hz
    · exact hc
    · exact hcl z hz
  | all r d =>
    simp only [C.atoms, List.mem_cons] at hz
    rcases hz with rfl | hz
    · exact hc
    · exact hcl z hz
  | _ =>
    obtain ⟨d, _, h⟩ := mem_atomsOf.mp hc
    exact absurd h (by
      have : ∀ (d x : C), x ∈ d.atoms → IsAtom x := by
        intro d; induction d <;> simp_all [C.atoms, IsAtom]
        all_goals first
          | (intro x h; rcases h with h | h <;> simp_all)
          | skip
      intro h; exact (this _ _ h).elim)

theorem can_iff (ax : List Axiom) (c : C) : can ax c = true ↔ ∃ M : Model, (∀ a ∈ ax, ∀ x, sat M a.1 x → sat M a.2 x) ∧ ∃ x, sat M c x := by
  unfold can
  simp only
  have hat : ∃ l, atomsFor ax [c] = atomsOf l ∧ c ∈ l ∧ ∀ a ∈ ax, a.1 ∈ l ∧ a.2 ∈ l := by
    refine ⟨_, rfl, by simp, ?_⟩
    intro a ha
    constructor
    · exact List.mem_append.mpr (.inl (List.mem_flatMap.mpr ⟨a, ha, by simp⟩))
    · exact List.mem_append.mpr (.inl (List.mem_flatMap.mpr ⟨a, ha, by simp⟩))
  obtain ⟨l, e, hc, hax⟩ := hat
  rw [e]
  have hcl := atomsOf_closed l
  have hdp := atomsOf_deep l
  have hm : ∀ d ∈ l, ∀ z ∈ d.atoms, z ∈ atomsOf l := fun d hd z hz => mem_atomsOf.mpr ⟨d, hd, hz⟩
  rw [List.any_eq_true]
  constructor
  · rintro ⟨t, ht, hh⟩
    have hb : ∀ u ∈ types (atomsOf l) ax, borne (atomsOf l) (types (atomsOf l) ax) u = true := by
      refine settle_borne (atomsOf l) _ _ ?_
      refine Nat.lt_of_le_of_lt (List.length_filter_le _ _) ?_
      rw [List.length_range]; omega
    refine ⟨tModel (atomsOf l) (types (atomsOf l) ax), ?_, ⟨t, ht⟩, ?_⟩
    · intro a ha x hx
      have hk := (List.mem_filter.mp (settle_sub _ _ _ x.1 x.2)).2
      unfold keeps at hk
      rw [List.all_eq_true] at hk
      have := hk a ha
      rw [(sat_tModel hcl hb a.1 (hm _ (hax a ha).1) x).mp hx] at this
      exact (sat_tModel hcl hb a.2 (hm _ (hax a ha).2) x).mpr (by simpa using this)
    · exact (sat_tModel hcl hb c (hm _ hc) ⟨t, ht⟩).mpr hh
  · rintro ⟨M, hM, x, hx⟩
    refine ⟨tp M (atomsOf l) x, ?_, (holds_tp M x c (hm _ hc)).mpr hx⟩
    refine settle_keeps (atomsOf l) (fun t => ∃ y, t = tp M (atomsOf l) y) ?_ _ _ ?_ _ ⟨x, rfl⟩
    · rintro l2 h2 t ⟨y, rfl⟩
      exact borne_tp M hcl hdp l2 (fun z => h2 _ ⟨z, rfl⟩) y
    · rintro t ⟨y, rfl⟩
      refine List.mem_filter.mpr ⟨List.mem_range.mpr (tp_lt M _ y), ?_⟩
      unfold keeps
      rw [List.all_eq_true]
      intro a ha
      simp only [Bool.or_eq_true, Bool.not_eq_true']
      by_cases q : sat M a.1 y
      · exact .inr ((holds_tp M y a.2 (hm _ (hax a ha).2)).mpr (hM a ha y q))
      · refine .inl ?_
        rw [← Bool.not_eq_true]; exact fun z => q ((holds_tp M y a.1 (hm _ (hax a ha).1)).mp z)

theorem under_iff (ax : List Axiom) (c d : C) : under ax c d = true ↔ Sub ax c d := by
  unfold under Sub
  rw [Bool.not_eq_true', ← Bool.not_eq_true, can_iff]
  constructor
  · intro h M hM x hx
    apply Classical.byContradiction
    intro hn
    exact h ⟨M, hM, x, hx, hn⟩
  · rintro h ⟨M, hM, x, hx, hn⟩
    exact hn (h M hM x hx)
end AX
end
section
set_option maxHeartbeats 200000
namespace AX
open Oc Oc06

/-- the model in which names and roles outside the signature are empty -/
def cut (w : Words) (M : Model) : Model := { W := M.W, nm := fun a x => has w.names a = true ∧ M.nm a x, rl := fun r x y => has w.roles r = true ∧ M.rl r x y }
theorem sat_emptied (w : Words) (M : Model) : ∀ (c : C) (x : M.W), sat M (emptied w c) x ↔ sat (cut w M) c x
  | .top, x => Iff.rfl
  | .bot, x => Iff.rfl
  | .name a, x => by
    show sat M (if has w.names a = true then .name a else .bot) x ↔ (has w.names a = true ∧ M.nm a x)
    by_cases h : has w.names a = true
    · rw [if_pos h]; exact ⟨fun q => ⟨h, q⟩, fun q => q.2⟩
    · rw [if_neg h]; exact ⟨fun q => q.elim, fun q => h q.1⟩
  | .and c d, x => and_congr (sat_emptied w M c x) (sat_emptied w M d x)
  | .or c d, x => or_congr (sat_emptied w M c x) (sat_emptied w M d x)
  | .not c, x => not_congr (sat_emptied w M c x)
  | .some r c, x => by
    show sat M (if has w.roles r = true then .some r (emptied w c) else .bot) x ↔ ∃ y, (has w.roles r = true ∧ M.rl r x y) ∧ sat (cut w M) c y
    by_cases h : has w.roles r = true
    · rw [if_pos h]
      exact ⟨fun ⟨y, a, b⟩ => ⟨y, ⟨h, a⟩, (sat_emptied w M c y).mp b⟩, fun ⟨y, a, b⟩ => ⟨y, a.2, (sat_emptied w M c y).mpr b⟩⟩
    · rw [if_neg h]; exact ⟨fun q => q.elim, fun ⟨y, a, b⟩ => h a.1⟩
  | .all r c, x => by
    show sat M (if has w.roles r = true then .all r (emptied w c) else .top) x ↔ ∀ y, (has w.roles r = true ∧ M.rl r x y) → sat (cut w M) c y
    by_cases h : has w.roles r = true
    · rw [if_pos h]
      exact ⟨fun q y a => (sat_emptied w M c y).mp (q y a.2), fun q y a => (sat_emptied w M c y).mpr (q y ⟨h, a⟩)⟩
    · rw [if_neg h]; exact ⟨fun _ y a => absurd a.1 h, fun _ => trivial⟩

/-- an axiom is local: it holds wherever what is outside the signature is empty -/
theorem quiet_iff (w : Words) (a : Axiom) : Oc06.quiet w a = true ↔ ∀ M : Model, ∀ x, sat (cut w M) a.1 x → sat (cut w M) a.2 x := by
  unfold Oc06.quiet
  rw [under_iff]
  constructor
  · intro h M x hx
    exact (sat_emptied w M a.2 x).mp (h M (by simp) x ((sat_emptied w M a.1 x).mpr hx))
  · intro h M _ x hx
    exact (sat_emptied w M a.2 x).mpr (h M x ((sat_emptied w M a.1 x).mp hx))

theorem sat_same {W : Type} {n n' : Nat → W → Prop} {r r' : Nat → W → W → Prop} (hn : n = n') (hr : r = r') (c : C) (x : W) : sat ⟨W, n, r⟩ c x ↔ sat ⟨W, n', r'⟩ c x := by
  subst hn hr; exact Iff.rfl
theorem sat_cut_cut (w v : Words) (hn : ∀ k, has w.names k = true → has v.names k = true) (hr : ∀ k, has w.roles k = true → has v.roles k = true) (M : Model) (c : C) (x : M.W) :
    sat (cut v (cut w M)) c x ↔ sat (cut w M) c x := by
  refine sat_same ?_ ?_ c x
  · funext a x
    exact propext ⟨fun q => q.2, fun q => ⟨hn _ q.1, q⟩⟩
  · funext r x y
    exact propext ⟨fun q => q.2, fun q => ⟨hr _ q.1, q⟩⟩
/-- a smaller signature keeps what is local -/
theorem quiet_mono {w v : Words} (hn : ∀ k, has w.names k = true → has v.names k = true) (hr : ∀ k, has w.roles k = true → has v.roles k = true) {a : Axiom} (h : Oc06.quiet v a = true) : Oc06.quiet w a = true := by
  rw [quiet_iff] at h ⊢
  intro M x hx
  exact (sat_cut_cut w v hn hr M a.2 x).mp (h (cut w M) x ((sat_cut_cut w v hn hr M a.1 x).mpr hx))
end AX
end
section
set_option maxHeartbeats 200000
/-! The program's reading of concepts: symbols in the order of writing, then rows from the end. -/
namespace AX
open Oc

def marks : Nat → Nat
  | 2 => 4
  | 6 => 2
  | 7 => 2
  | _ => 0
def inner : Nat → Nat
  | 3 => 2
  | 4 => 2
  | 5 => 1
  | 6 => 1
  | 7 => 1
  | _ => 0
/-- read_symbols: what is left of the numbers, how many concepts are missing, the symbols so far -/
def syms : List Nat → Nat → List (Nat × Nat) → Option (List (Nat × Nat))
  | [], m, acc => if 0 < m then none else some acc
  | h :: r, m, acc => if m = 0 ∨ 7 < h then none else
    if 0 < marks h then
      match r with
      | [] => none
      | k :: r => if marks h ≤ k then none else syms r (m - 1 + inner h) (acc ++ [(h, k)])
    else syms r (m - 1 + inner h) (acc ++ [(h, 0)])
theorem syms_cons (h : Nat) (r : List Nat) (m : Nat) (acc : List (Nat × Nat)) : syms (h :: r) m acc = if m = 0 ∨ 7 < h then none else
    if 0 < marks h then
      match r with
      | [] => none
      | k :: r => if marks h ≤ k then none else syms r (m - 1 + inner h) (acc ++ [(h, k)])
    else syms r (m - 1 + inner h) (acc ++ [(h, 0)]) := by
  cases r <;> rfl
/-- a concept's symbols -/
def symsOf : C → List (Nat × Nat)
  | .top => [(0, 0)]
  | .bot => [(1, 0)]
  | .name a => [(2, a)]
  | .and c d => (3, 0) :: (symsOf c ++ symsOf d)
  | .or c d => (4, 0) :: (symsOf c ++ symsOf d)
  | .not c => (5, 0) :: symsOf c
  | .some r c => (6, r) :: symsOf c
  | .all r c => (7, r) :: symsOf c

theorem read_less : ∀ (n : Nat) (l : List Nat) (c : C) (r : List Nat), Oc.read n l = some (c, r) → r.length < l.length
  | 0, l, c, r, h => by cases h
  | n + 1, l, c, r, h => by
    unfold Oc.read at h
    split at h
    · cases h; simp
    · cases h; simp
    · split at h
      · cases h; simp; omega
      · cases h
    · split at h
      · cases h
      · rename_i x hx
        have h1 := read_less n _ x.1 x.2 hx
        cases e : Oc.read n x.2 with
        | none => rw [e] at h; cases h
        | some y =>
          rw [e] at h
          have h2 := read_less n _ y.1 y.2 e
          cases h; simp only [List.length_cons]; omega
    · split at h
      · cases h
      · rename_i x hx
        have h1 := read_less n _ x.1 x.2 hx
        cases e : Oc.read n x.2 with
        | none => rw [e] at h; cases h
        | some y =>
          rw [e] at h
          have h2 := read_less n _ y.1 y.2 e
          cases h; simp only [List.length_cons]; omega
    · rename_i r0
      cases e : Oc.read n r0 with
      | none => rw [e] at h; cases h
      | some y =>
        rw [e] at h
        have h2 := read_less n _ y.1 y.2 e
        cases h; simp only [List.length_cons]; omega
    · rename_i k r0
      split at h
      · cases e : Oc.read n r0 with
        | none => rw [e] at h; cases h
        | some y =>
          rw [e] at h
          have h2 := read_less n _ y.1 y.2 e
          cases h; simp only [List.length_cons]; omega
      · cases h
    · rename_i k r0
      split at h
      · cases e : Oc.read n r0 with
        | none => rw [e] at h; cases h
        | some y =>
          rw [e] at h
          have h2 := read_less n _ y.1 y.2 e
          cases h; simp only [List.length_cons]; omega
      · cases h
    · cases h

/-- what syms does at a concept's start -/
def Goes (n : Nat) (l : List Nat) : Prop := ∀ (m : Nat) (acc : List (Nat × Nat)), syms l (m + 1) acc = match Oc.read n l with
  | some (c, r) => syms r m (acc ++ symsOf c)
  | none => none
theorem syms_read : ∀ (n : Nat) (l : List Nat), l.length < n → Goes n l
  | 0, l, h => by omega
  | n + 1, [], h => by intro m acc; simp [syms, Oc.read]
  | n + 1, [0], h => by intro m acc; simp [syms_cons, Oc.read, marks, inner, symsOf]
  | n + 1, 0 :: b :: r, h => by intro m acc; simp [syms_cons, Oc.read, marks, inner, symsOf]
  | n + 1, 1 :: r, h => by intro m acc; simp [syms_cons, Oc.read, marks, inner, symsOf]
  | n + 1, [2], h => by intro m acc; simp [syms_cons, Oc.read, marks]
  | n + 1, 2 :: a :: r, h => by
    intro m acc
    by_cases k : a < 4
    · have : ¬ 4 ≤ a := by omega
      simp [syms_cons, Oc.read, marks, inner, symsOf, NAMES, k, this]
    · have : 4 ≤ a := by omega
      simp [syms_cons, Oc.read, marks, NAMES, k, this]
  | n + 1, 3 :: r, h => by
    intro m acc
    have hr : r.length < n := by simp only [List.length_cons] at h; omega
    have h1 := syms_read n r hr (m + 1) (acc ++ [(3, 0)])
    have e : syms (3 :: r) (m + 1) acc = syms r (m + 1 + 1) (acc ++ [(3, 0)]) := by simp [syms_cons, marks, inner]
    rw [e, h1]
    simp only [Oc.read]
    cases e1 : Oc.read n r with
    | none => rfl
    | some x =>
      obtain ⟨c, s⟩ := x
      have hs := read_less n r c s e1
      have h2 := syms_read n s (by omega) m (acc ++ [(3, 0)] ++ symsOf c)
      show syms s (m + 1) _ = _
      rw [h2]
      simp only
      cases e2 : Oc.read n s with
      | none => rfl
      | some y =>
        simp [symsOf]
  | n + 1, 4 :: r, h => by
    intro m acc
    have hr : r.length < n := by simp only [List.length_cons] at h; omega
    have h1 := syms_read n r hr (m + 1) (acc ++ [(4, 0)])
    have e : syms (4 :: r) (m + 1) acc = syms r (m + 1 + 1) (acc ++ [(4, 0)]) := by simp [syms_cons, marks, inner]
    rw [e, h1]
    simp only [Oc.read]
    cases e1 : Oc.read n r with
    | none => rfl
    | some x =>
      obtain ⟨c, s⟩ := x
      have hs := read_less n r c s e1
      have h2 := syms_read n s (by omega) m (acc ++ [(4, 0)] ++ symsOf c)
      show syms s (m + 1) _ = _
      rw [h2]
      simp only
      cases e2 : Oc.read n s with
      | none => rfl
      | some y =>
        simp [symsOf]
  | n + 1, 5 :: r, h => by
    intro m acc
    have hr : r.length < n := by simp only [List.length_cons] at h; omega
    have h1 := syms_read n r hr m (acc ++ [(5, 0)])
    have e : syms (5 :: r) (m + 1) acc = syms r (m + 1) (acc ++ [(5, 0)]) := by simp [syms_cons, marks, inner]
    rw [e, h1]
    simp only [Oc.read]
    cases e1 : Oc.read n r with
    | none => rfl
    | some x => simp [symsOf]
  | n + 1, [6], h => by intro m acc; simp [syms_cons, Oc.read, marks]
  | n + 1, 6 :: k :: r, h => by
    intro m acc
    have hr : r.length < n := by simp only [List.length_cons] at h; omega
    have h1 := syms_read n r hr m (acc ++ [(6, k)])
    by_cases q : k < 2
    · have : ¬ 2 ≤ k := by omega
      have e : syms (6 :: k :: r) (m + 1) acc = syms r (m + 1) (acc ++ [(6, k)]) := by simp [syms_cons, marks, inner, this]
      rw [e, h1]
      simp only [Oc.read, ROLES, q, if_true]
      cases e1 : Oc.read n r with
      | none => rfl
      | some x => simp [symsOf]
    · have : 2 ≤ k := by omega
      simp [syms_cons, Oc.read, marks, ROLES, q, this]
  | n + 1, [7], h => by intro m acc; simp [syms_cons, Oc.read, marks]
  | n + 1, 7 :: k :: r, h => by
    intro m acc
    have hr : r.length < n := by simp only [List.length_cons] at h; omega
    have h1 := syms_read n r hr m (acc ++ [(7, k)])
    by_cases q : k < 2
    · have : ¬ 2 ≤ k := by omega
      have e : syms (7 :: k :: r) (m + 1) acc = syms r (m + 1) (acc ++ [(7, k)]) := by simp [syms_cons, marks, inner, this]
      rw [e, h1]
      simp only [Oc.read, ROLES, q, if_true]
      cases e1 : Oc.read n r with
      | none => rfl
      | some x => simp [symsOf]
    · have : 2 ≤ k := by omega
      simp [syms_cons, Oc.read, marks, ROLES, q, this]
  | n + 1, (a + 8) :: r, h => by
    intro m acc
    have : 7 < a + 8 := by omega
    simp [syms_cons, Oc.read]

theorem syms_zero (l : List Nat) (acc : List (Nat × Nat)) : syms l 0 acc = if l = [] then some acc else none := by
  cases l with
  | nil => rfl
  | cons a l => simp [syms_cons]
theorem syms_concept (l : List Nat) (acc : List (Nat × Nat)) : syms l 1 acc = (concept l).map fun c => acc ++ symsOf c := by
  have h := syms_read (l.length + 1) l (by omega) 0 acc
  rw [h]
  unfold concept
  cases e : Oc.read (l.length + 1) l with
  | none => rfl
  | some x =>
    obtain ⟨c, r⟩ := x
    simp only
    rw [syms_zero]
    cases r with
    | nil => rfl
    | cons a r => rfl
theorem syms_one (l : List Nat) : syms l 1 [] = (concept l).map symsOf := by
  rw [syms_concept]; rfl
theorem syms_two (l : List Nat) : syms l 2 [] = (two l).map fun a => symsOf a.1 ++ symsOf a.2 := by
  have h := syms_read (l.length + 1) l (by omega) 1 []
  rw [h]
  unfold two
  cases e : Oc.read (l.length + 1) l with
  | none => rfl
  | some x =>
    obtain ⟨c, r⟩ := x
    simp only
    rw [syms_concept]
    cases concept r <;> rfl
end AX
end
section
set_option maxHeartbeats 200000
/-! The rows of concepts: each concept once, inner ones ahead of outer ones. -/
namespace AX
open Oc

abbrev Row := Nat × Nat × Nat × Nat
def plc (D : List C) (c : C) : Nat := D.idxOf c
def rowC (D : List C) : C → Row
  | .top => (0, 0, 0, 0)
  | .bot => (1, 0, 0, 0)
  | .name a => (2, a, 0, 0)
  | .and c d => (3, 0, plc D c, plc D d)
  | .or c d => (4, 0, plc D c, plc D d)
  | .not c => (5, 0, plc D c, 0)
  | .some r c => (6, r, plc D c, 0)
  | .all r c => (7, r, plc D c, 0)
def kids : C → List C
  | .and c d => [c, d]
  | .or c d => [c, d]
  | .not c => [c]
  | .some _ c => [c]
  | .all _ c => [c]
  | _ => []
def addC (D : List C) (c : C) : List C := if c ∈ D then D else D ++ [c]
/-- a concept's own concepts, put behind -/
def subs : C → List C → List C
  | .and c d, D => addC (subs c (subs d D)) (.and c d)
  | .or c d, D => addC (subs c (subs d D)) (.or c d)
  | .not c, D => addC (subs c D) (.not c)
  | .some r c, D => addC (subs c D) (.some r c)
  | .all r c, D => addC (subs c D) (.all r c)
  | .top, D => addC D .top
  | .bot, D => addC D .bot
  | .name a, D => addC D (.name a)
/-- each concept once, its inner ones ahead of it -/
inductive Nice : List C → Prop
  | nil : Nice []
  | snoc {D : List C} {c : C} : Nice D → c ∉ D → (∀ k ∈ kids c, k ∈ D) → Nice (D ++ [c])
def rowsOf (D : List C) : List Row := D.map (rowC D)

theorem plc_app {D E : List C} {c : C} (h : c ∈ D) : plc (D ++ E) c = plc D c := by
  unfold plc; rw [List.idxOf_append, if_pos h]
theorem plc_lt {D : List C} {c : C} (h : c ∈ D) : plc D c < D.length := List.idxOf_lt_length_of_mem h
theorem plc_get {D : List C} {c : C} (h : c ∈ D) : D[plc D c]? = some c := by
  unfold plc
  rw [List.getElem?_eq_getElem (List.idxOf_lt_length_of_mem h), List.getElem_idxOf]
theorem plc_inj {D : List C} {c d : C} (hc : c ∈ D) (hd : d ∈ D) (h : plc D c = plc D d) : c = d := by
  have h1 := plc_get hc
  rw [h, plc_get hd] at h1
  exact (Option.some.inj h1).symm
theorem rowC_app {D E : List C} {c : C} (h : ∀ k ∈ kids c, k ∈ D) : rowC (D ++ E) c = rowC D c := by
  cases c <;> simp only [kids, List.mem_cons, List.not_mem_nil, or_false, forall_eq_or_imp, forall_eq] at h <;> simp only [rowC]
  case and => rw [plc_app h.1, plc_app h.2]
  case or => rw [plc_app h.1, plc_app h.2]
  case not => rw [plc_app h]
  case some => rw [plc_app h]
  case all => rw [plc_app h]
theorem rowC_inj {D : List C} {c d : C} (hc : ∀ k ∈ kids c, k ∈ D) (hd : ∀ k ∈ kids d, k ∈ D) (h : rowC D c = rowC D d) : c = d := by
  cases c <;> cases d <;> simp_all [rowC, kids]
  case and.and => exact ⟨plc_inj hc.1 hd.1 h.1, plc_inj hc.2 hd.2 h.2⟩
  case or.or => exact ⟨plc_inj hc.1 hd.1 h.1, plc_inj hc.2 hd.2 h.2⟩
  case not.not => exact plc_inj hc hd h
  case some.some => exact plc_inj hc hd h.2
  case all.all => exact plc_inj hc hd h.2
theorem Nice.nodup {D : List C} (h : Nice D) : D.Nodup := by
  induction h with
  | nil => simp
  | snoc _ hn _ ih =>
    rw [List.nodup_append]
    refine ⟨ih, by simp, ?_⟩
    intro a ha b hb e
    rw [List.mem_singleton] at hb
    subst hb; subst e; exact hn ha
theorem Nice.kids {D : List C} (h : Nice D) : ∀ c ∈ D, ∀ k ∈ kids c, k ∈ D := by
  induction h with
  | nil => intro c hc; simp at hc
  | snoc _ _ hk ih =>
    intro c hc k hkc
    rw [List.mem_append] at hc ⊢
    rcases hc with hc | hc
    · exact .inl (ih c hc k hkc)
    · rw [List.mem_singleton] at hc; subst hc; exact .inl (hk k hkc)
theorem rowsOf_snoc {D : List C} {c : C} (h : Nice D) (hk : ∀ k ∈ kids c, k ∈ D) : rowsOf (D ++ [c]) = rowsOf D ++ [rowC D c] := by
  unfold rowsOf
  rw [List.map_append]
  congr 1
  · exact List.map_congr_left fun x hx => rowC_app (h.kids x hx)
  · simp only [List.map_cons, List.map_nil]
    rw [rowC_app hk]
theorem mem_rowsOf {D : List C} {c : C} (h : Nice D) (hk : ∀ k ∈ kids c, k ∈ D) : rowC D c ∈ rowsOf D ↔ c ∈ D := by
  unfold rowsOf
  rw [List.mem_map]
  constructor
  · rintro ⟨x, hx, e⟩
    rw [← rowC_inj (h.kids x hx) hk e]; exact hx
  · intro hc; exact ⟨c, hc, rfl⟩
theorem idxOf_map {α β : Type} [BEq α] [LawfulBEq α] [BEq β] [LawfulBEq β] (f : α → β) (a : α) : ∀ (l : List α), (∀ x ∈ l, f x = f a → x = a) → (l.map f).idxOf (f a) = l.idxOf a
  | [], _ => rfl
  | x :: l, h => by
    rw [List.map_cons, List.idxOf_cons, List.idxOf_cons]
    have e : (f x == f a) = (x == a) := by
      by_cases q : x = a
      · subst q; simp
      · have : f x ≠ f a := fun z => q (h x (by simp) z)
        rw [beq_eq_false_iff_ne.mpr this, beq_eq_false_iff_ne.mpr q]
    rw [e, idxOf_map f a l fun y hy => h y (by simp [hy])]
theorem idx_rowsOf {D : List C} {c : C} (h : Nice D) (hc : c ∈ D) : (rowsOf D).idxOf (rowC D c) = plc D c :=
  idxOf_map (rowC D) c D fun x hx e => rowC_inj (h.kids x hx) (h.kids c hc) e
theorem addC_mem (D : List C) (c : C) : c ∈ addC D c := by
  unfold addC; split
  · assumption
  · simp
theorem addC_pre (D : List C) (c : C) : ∃ E, addC D c = D ++ E := by
  unfold addC; split
  · exact ⟨[], by simp⟩
  · exact ⟨[c], rfl⟩
theorem addC_nice {D : List C} {c : C} (h : Nice D) (hk : ∀ k ∈ kids c, k ∈ D) : Nice (addC D c) := by
  unfold addC; split
  · exact h
  · exact .snoc h (by assumption) hk
theorem subs_pre : ∀ (c : C) (D : List C), ∃ E, subs c D = D ++ E
  | .top, D => addC_pre D _
  | .bot, D => addC_pre D _
  | .name _, D => addC_pre D _
  | .and c d, D => by
    obtain ⟨E, e⟩ := subs_pre d D
    obtain ⟨F, f⟩ := subs_pre c (subs d D)
    obtain ⟨G, g⟩ := addC_pre (subs c (subs d D)) (.and c d)
    exact ⟨E ++ F ++ G, by show addC _ _ = _; rw [g, f, e]; simp⟩
  | .or c d, D => by
    obtain ⟨E, e⟩ := subs_pre d D
    obtain ⟨F, f⟩ := subs_pre c (subs d D)
    obtain ⟨G, g⟩ := addC_pre (subs c (subs d D)) (.or c d)
    exact ⟨E ++ F ++ G, by show addC _ _ = _; rw [g, f, e]; simp⟩
  | .not c, D => by
    obtain ⟨E, e⟩ := subs_pre c D
    obtain ⟨G, g⟩ := addC_pre (subs c D) (.not c)
    exact ⟨E ++ G, by show addC _ _ = _; rw [g, e]; simp⟩
  | .some r c, D => by
    obtain ⟨E, e⟩ := subs_pre c D
    obtain ⟨G, g⟩ := addC_pre (subs c D) (.some r c)
    exact ⟨E ++ G, by show addC _ _ = _; rw [g, e]; simp⟩
  | .all r c, D => by
    obtain ⟨E, e⟩ := subs_pre c D
    obtain ⟨G, g⟩ := addC_pre (subs c D) (.all r c)
    exact ⟨E ++ G, by show addC _ _ = _; rw [g, e]; simp⟩
theorem subs_mem : ∀ (c : C) (D : List C), c ∈ subs c D := by
  intro c D; cases c <;> exact addC_mem _ _
theorem subs_keep {c x : C} {D : List C} (h : x ∈ D) : x ∈ subs c D := by
  obtain ⟨E, e⟩ := subs_pre c D
  rw [e]; exact List.mem_append.mpr (.inl h)
theorem subs_nice : ∀ (c : C) (D : List C), Nice D → Nice (subs c D)
  | .top, D, h => addC_nice h (by simp [kids])
  | .bot, D, h => addC_nice h (by simp [kids])
  | .name _, D, h => addC_nice h (by simp [kids])
  | .and c d, D, h => addC_nice (subs_nice c _ (subs_nice d D h)) (by
      intro k hk; simp only [kids, List.mem_cons, List.not_mem_nil, or_false] at hk
      rcases hk with rfl | rfl
      · exact subs_mem _ _
      · exact subs_keep (subs_mem _ _))
  | .or c d, D, h => addC_nice (subs_nice c _ (subs_nice d D h)) (by
      intro k hk; simp only [kids, List.mem_cons, List.not_mem_nil, or_false] at hk
      rcases hk with rfl | rfl
      · exact subs_mem _ _
      · exact subs_keep (subs_mem _ _))
  | .not c, D, h => addC_nice (subs_nice c D h) (by
      intro k hk; simp only [kids, List.mem_cons, List.not_mem_nil, or_false] at hk
      subst hk; exact subs_mem _ _)
  | .some r c, D, h => addC_nice (subs_nice c D h) (by
      intro k hk; simp only [kids, List.mem_cons, List.not_mem_nil, or_false] at hk
      subst hk; exact subs_mem _ _)
  | .all r c, D, h => addC_nice (subs_nice c D h) (by
      intro k hk; simp only [kids, List.mem_cons, List.not_mem_nil, or_false] at hk
      subst hk; exact subs_mem _ _)

/-! what the program does with one symbol: rows, waiting (its top at the end) -/
def rowOf (y : Nat × Nat) (W : List Nat) : Row :=
  (y.1, y.2, if 0 < inner y.1 then W.getLastD 0 else 0, if 1 < inner y.1 then W.dropLast.getLastD 0 else 0)
def taken (y : Nat × Nat) (W : List Nat) : List Nat :=
  if 1 < inner y.1 then W.dropLast.dropLast else if 0 < inner y.1 then W.dropLast else W
def stepR (s : List Row × List Nat) (y : Nat × Nat) : List Row × List Nat :=
  let row := rowOf y s.2
  let R := if row ∈ s.1 then s.1 else s.1 ++ [row]
  (R, taken y s.2 ++ [R.idxOf row])
/-- the stack as the program keeps it -/
def stk (D : List C) (st : List C) : List Nat := (st.map (plc D)).reverse
theorem stk_cons (D : List C) (c : C) (st : List C) : stk D (c :: st) = stk D st ++ [plc D c] := by
  unfold stk; rw [List.map_cons, List.reverse_cons]
theorem stk_app {D E st : List C} (h : ∀ x ∈ st, x ∈ D) : stk (D ++ E) st = stk D st := by
  unfold stk; congr 1; exact List.map_congr_left fun x hx => plc_app (h x hx)
theorem stk_addC {D st : List C} {c : C} (h : ∀ x ∈ st, x ∈ D) : stk (addC D c) st = stk D st := by
  obtain ⟨E, e⟩ := addC_pre D c; rw [e, stk_app h]
theorem stk_subs {D st : List C} {c : C} (h : ∀ x ∈ st, x ∈ D) : stk (subs c D) st = stk D st := by
  obtain ⟨E, e⟩ := subs_pre c D; rw [e, stk_app h]
theorem put_row {D st : List C} {c : C} (h : Nice D) (hk : ∀ k ∈ kids c, k ∈ D) (hs : ∀ x ∈ st, x ∈ D) (W : List Nat) (hW : W = stk D st) :
    let R := if rowC D c ∈ rowsOf D then rowsOf D else rowsOf D ++ [rowC D c]
    (R, W ++ [R.idxOf (rowC D c)]) = (rowsOf (addC D c), stk (addC D c) (c :: st)) := by
  intro R
  rw [stk_cons, stk_addC hs, hW]
  by_cases hc : c ∈ D
  · have e : addC D c = D := if_pos hc
    have e2 : R = rowsOf D := if_pos ((mem_rowsOf h hk).mpr hc)
    rw [e2, e, idx_rowsOf h hc]
  · have e : addC D c = D ++ [c] := if_neg hc
    have e2 : R = rowsOf D ++ [rowC D c] := if_neg fun z => hc ((mem_rowsOf h hk).mp z)
    have hn : Nice (D ++ [c]) := .snoc h hc hk
    have e3 := rowsOf_snoc h hk
    rw [e2, e, ← e3]
    have e4 := idx_rowsOf hn (c := c) (by simp)
    rw [rowC_app hk] at e4
    rw [e4]
theorem last_snoc (W : List Nat) (x : Nat) : (W ++ [x]).getLastD 0 = x := by simp
theorem foldl_subs : ∀ (c : C) (D st : List C), Nice D → (∀ x ∈ st, x ∈ D) →
    (symsOf c).reverse.foldl stepR (rowsOf D, stk D st) = (rowsOf (subs c D), stk (subs c D) (c :: st))
  | .top, D, st, h, hs => put_row (c := .top) h (by simp [kids]) hs _ rfl
  | .bot, D, st, h, hs => put_row (c := .bot) h (by simp [kids]) hs _ rfl
  | .name a, D, st, h, hs => put_row (c := .name a) h (by simp [kids]) hs _ rfl
  | .and c d, D, st, h, hs => by
    have h1 := foldl_subs d D st h hs
    have hd := subs_nice d D h
    have hs2 : ∀ x ∈ d :: st, x ∈ subs d D := by
      intro x hx; rcases List.mem_cons.mp hx with rfl | hx
      · exact subs_mem _ _
      · exact subs_keep (hs x hx)
    have h2 := foldl_subs c (subs d D) (d :: st) hd hs2
    have hs3 : ∀ x ∈ c :: d :: st, x ∈ subs c (subs d D) := by
      intro x hx; rcases List.mem_cons.mp hx with rfl | hx
      · exact subs_mem _ _
      · exact subs_keep (hs2 x hx)
    rw [symsOf, List.reverse_cons, List.reverse_append, List.foldl_append, List.foldl_append, h1, h2]
    show stepR _ (3, 0) = _
    unfold stepR rowOf taken
    simp only [inner, stk_cons, List.dropLast_concat, last_snoc, Nat.zero_lt_two, Nat.one_lt_two, if_true]
    have p := put_row (c := .and c d) (st := st) (subs_nice c _ hd) (by
      intro k hk; simp only [kids, List.mem_cons, List.not_mem_nil, or_false] at hk
      rcases hk with rfl | rfl
      · exact hs3 _ (by simp)
      · exact hs3 _ (by simp)) (fun x hx => hs3 x (by simp [hx])) _ rfl
    simp only [stk_cons] at p
    exact p
  | .or c d, D, st, h, hs => by
    have h1 := foldl_subs d D st h hs
    have hd := subs_nice d D h
    have hs2 : ∀ x ∈ d :: st, x ∈ subs d D := by
      intro x hx; rcases List.mem_cons.mp hx with rfl | hx
      · exact subs_mem _ _
      · exact subs_keep (hs x hx)
    have h2 := foldl_subs c (subs d D) (d :: st) hd hs2
    have hs3 : ∀ x ∈ c :: d :: st, x ∈ subs c (subs d D) := by
      intro x hx; rcases List.mem_cons.mp hx with rfl | hx
      · exact subs_mem _ _
      · exact subs_keep (hs2 x hx)
    rw [symsOf, List.reverse_cons, List.reverse_append, List.foldl_append, List.foldl_append, h1, h2]
    show stepR _ (4, 0) = _
    unfold stepR rowOf taken
    simp only [inner, stk_cons, List.dropLast_concat, last_snoc, Nat.zero_lt_two, Nat.one_lt_two, if_true]
    have p := put_row (c := .or c d) (st := st) (subs_nice c _ hd) (by
      intro k hk; simp only [kids, List.mem_cons, List.not_mem_nil, or_false] at hk
      rcases hk with rfl | rfl
      · exact hs3 _ (by simp)
      · exact hs3 _ (by simp)) (fun x hx => hs3 x (by simp [hx])) _ rfl
    simp only [stk_cons] at p
    exact p
  | .not c, D, st, h, hs => by
    have h1 := foldl_subs c D st h hs
    rw [symsOf, List.reverse_cons, List.foldl_append, h1]
    show stepR _ (5, 0) = _
    unfold stepR rowOf taken
    simp only [inner, stk_cons, List.dropLast_concat, last_snoc, Nat.lt_irrefl, Nat.zero_lt_one, if_true, if_false]
    have p := put_row (c := .not c) (subs_nice c _ h) (by
      intro k hk; simp only [kids, List.mem_cons, List.not_mem_nil, or_false] at hk
      subst hk; exact subs_mem _ _) (fun x hx => subs_keep (hs x hx)) _ rfl
    simp only [stk_cons] at p
    exact p
  | .some r c, D, st, h, hs => by
    have h1 := foldl_subs c D st h hs
    rw [symsOf, List.reverse_cons, List.foldl_append, h1]
    show stepR _ (6, r) = _
    unfold stepR rowOf taken
    simp only [inner, stk_cons, List.dropLast_concat, last_snoc, Nat.lt_irrefl, Nat.zero_lt_one, if_true, if_false]
    have p := put_row (c := .some r c) (subs_nice c _ h) (by
      intro k hk; simp only [kids, List.mem_cons, List.not_mem_nil, or_false] at hk
      subst hk; exact subs_mem _ _) (fun x hx => subs_keep (hs x hx)) _ rfl
    simp only [stk_cons] at p
    exact p
  | .all r c, D, st, h, hs => by
    have h1 := foldl_subs c D st h hs
    rw [symsOf, List.reverse_cons, List.foldl_append, h1]
    show stepR _ (7, r) = _
    unfold stepR rowOf taken
    simp only [inner, stk_cons, List.dropLast_concat, last_snoc, Nat.lt_irrefl, Nat.zero_lt_one, if_true, if_false]
    have p := put_row (c := .all r c) (subs_nice c _ h) (by
      intro k hk; simp only [kids, List.mem_cons, List.not_mem_nil, or_false] at hk
      subst hk; exact subs_mem _ _) (fun x hx => subs_keep (hs x hx)) _ rfl
    simp only [stk_cons] at p
    exact p
end AX
end
section
set_option maxHeartbeats 200000
/-! Profiles over a list of concepts: a set of them that supports itself and is the largest such decides what can be. -/
namespace AX
open Oc Oc06

def at_ (D : List C) (p : List Bool) (c : C) : Bool := p.getD (plc D c) false
/-- what a profile must be by itself -/
def Own (D : List C) (w : Words) (p : List Bool) (c : C) : Prop := match c with
  | .top => at_ D p .top = true
  | .bot => at_ D p .bot = false
  | .name a => has w.names a = true ∨ at_ D p (.name a) = false
  | .and c d => at_ D p (.and c d) = (at_ D p c && at_ D p d)
  | .or c d => at_ D p (.or c d) = (at_ D p c || at_ D p d)
  | .not c => at_ D p (.not c) = !at_ D p c
  | .some r c => has w.roles r = true ∨ at_ D p (.some r c) = false
  | .all r c => has w.roles r = true ∨ at_ D p (.all r c) = true
/-- may p be related to q by r -/
def Rel (D : List C) (r : Nat) (p q : List Bool) : Prop := ∀ c ∈ D, match c with
  | .some s c => s = r → at_ D q c = true → at_ D p (.some s c) = true
  | .all s c => s = r → at_ D q c = false → at_ D p (.all s c) = false
  | _ => True
/-- has p all that it needs in S -/
def Has (D : List C) (S : List Bool → Prop) (p : List Bool) : Prop := ∀ c ∈ D, match c with
  | .some r c => at_ D p (.some r c) = true → ∃ q, S q ∧ at_ D q c = true ∧ Rel D r p q
  | .all r c => at_ D p (.all r c) = false → ∃ q, S q ∧ at_ D q c = false ∧ Rel D r p q
  | _ => True
/-- the profiles ahead of the search -/
structure Fst (D : List C) (w : Words) (ax : List Axiom) (p : List Bool) : Prop where
  len : p.length = D.length
  own : ∀ c ∈ D, Own D w p c
  ax : ∀ a ∈ ax, at_ D p a.1 = true → at_ D p a.2 = true

def pModel (D : List C) (L : List Bool → Prop) : Model := { W := { p : List Bool // L p }, nm := fun a p => at_ D p.1 (.name a) = true, rl := fun r p q => Rel D r p.1 q.1 }
theorem sat_pModel {D : List C} {w : Words} (hk : ∀ c ∈ D, ∀ k ∈ kids c, k ∈ D) {L : List Bool → Prop} (ho : ∀ p, L p → ∀ c ∈ D, Own D w p c) (hh : ∀ p, L p → Has D L p) :
    ∀ (c : C), c ∈ D → ∀ p : (pModel D L).W, (sat (cut w (pModel D L)) c p ↔ at_ D p.1 c = true)
  | .top, h, p => by have := ho p.1 p.2 _ h; simp only [Own] at this; simp [sat, this]
  | .bot, h, p => by have := ho p.1 p.2 _ h; simp only [Own] at this; simp [sat, this]
  | .name a, h, p => by
    have := ho p.1 p.2 _ h; simp only [Own] at this
    show (has w.names a = true ∧ at_ D p.1 (.name a) = true) ↔ _
    constructor
    · exact fun q => q.2
    · intro q; exact ⟨this.resolve_right (by rw [q]; decide), q⟩
  | .and c d, h, p => by
    have := ho p.1 p.2 _ h; simp only [Own] at this
    have hc := sat_pModel hk ho hh c (hk _ h c (by simp [kids])) p
    have hd := sat_pModel hk ho hh d (hk _ h d (by simp [kids])) p
    rw [this, Bool.and_eq_true, ← hc, ← hd]; rfl
  | .or c d, h, p => by
    have := ho p.1 p.2 _ h; simp only [Own] at this
    have hc := sat_pModel hk ho hh c (hk _ h c (by simp [kids])) p
    have hd := sat_pModel hk ho hh d (hk _ h d (by simp [kids])) p
    rw [this, Bool.or_eq_true, ← hc, ← hd]; rfl
  | .not c, h, p => by
    have := ho p.1 p.2 _ h; simp only [Own] at this
    have hc := sat_pModel hk ho hh c (hk _ h c (by simp [kids])) p
    rw [this, Bool.not_eq_true', ← Bool.not_eq_true, ← hc]; rfl
  | .some r c, h, p => by
    have o := ho p.1 p.2 _ h; simp only [Own] at o
    have hc := sat_pModel hk ho hh c (hk _ h c (by simp [kids]))
    show (∃ y : (pModel D L).W, (has w.roles r = true ∧ Rel D r p.1 y.1) ∧ sat (cut w (pModel D L)) c y) ↔ _
    constructor
    · rintro ⟨y, ⟨_, hr⟩, hs⟩
      exact hr _ h rfl ((hc y).mp hs)
    · intro q
      have hw := o.resolve_right (by rw [q]; decide)
      obtain ⟨u, hu, huc, hur⟩ := hh p.1 p.2 _ h q
      exact ⟨⟨u, hu⟩, ⟨hw, hur⟩, (hc ⟨u, hu⟩).mpr huc⟩
  | .all r c, h, p => by
    have o := ho p.1 p.2 _ h; simp only [Own] at o
    have hc := sat_pModel hk ho hh c (hk _ h c (by simp [kids]))
    show (∀ y : (pModel D L).W, (has w.roles r = true ∧ Rel D r p.1 y.1) → sat (cut w (pModel D L)) c y) ↔ _
    constructor
    · intro q
      cases e : at_ D p.1 (.all r c) with
      | true => rfl
      | false =>
        have hw := o.resolve_right (by rw [e]; decide)
        obtain ⟨u, hu, huc, hur⟩ := hh p.1 p.2 _ h e
        have := (hc ⟨u, hu⟩).mp (q ⟨u, hu⟩ ⟨hw, hur⟩)
        rw [this] at huc; cases huc
    · rintro q y ⟨_, hr⟩
      cases e : at_ D y.1 c with
      | true => exact (hc y).mpr e
      | false =>
        have := hr _ h rfl e
        rw [q] at this; cases this

/-- the profile of an element -/
noncomputable def prof (M : Model) (D : List C) (x : M.W) : List Bool := D.map fun c => @decide (sat M c x) (Classical.propDecidable _)
theorem at_prof (M : Model) {D : List C} (x : M.W) {c : C} (h : c ∈ D) : at_ D (prof M D x) c = true ↔ sat M c x := by
  unfold at_ prof
  rw [List.getD_eq_getElem?_getD, List.getElem?_map, plc_get h]
  simp
theorem at_prof_false (M : Model) {D : List C} (x : M.W) {c : C} (h : c ∈ D) : at_ D (prof M D x) c = false ↔ ¬ sat M c x := by
  rw [← Bool.not_eq_true, at_prof M x h]
theorem own_prof (w : Words) (M : Model) {D : List C} (hk : ∀ c ∈ D, ∀ k ∈ kids c, k ∈ D) (x : M.W) : ∀ c ∈ D, Own D w (prof (cut w M) D x) c := by
  intro c h
  have e : ∀ {k : C}, k ∈ D → (at_ D (prof (cut w M) D x) k = true ↔ sat (cut w M) k x) := fun hk => at_prof (cut w M) (D := D) x hk
  cases c with
  | top => exact (e h).mpr trivial
  | bot => exact (at_prof_false (cut w M) (D := D) x h).mpr fun q => q
  | name a =>
    by_cases q : has w.names a = true
    · exact .inl q
    · exact .inr ((at_prof_false (cut w M) (D := D) x h).mpr fun z => q z.1)
  | and c d =>
    have hc := e (hk _ h c (by simp [kids])); have hd := e (hk _ h d (by simp [kids]))
    show _ = _
    rw [Bool.eq_iff_iff, e h, Bool.and_eq_true, hc, hd]; rfl
  | or c d =>
    have hc := e (hk _ h c (by simp [kids])); have hd := e (hk _ h d (by simp [kids]))
    show _ = _
    rw [Bool.eq_iff_iff, e h, Bool.or_eq_true, hc, hd]; rfl
  | not c =>
    have hc := e (hk _ h c (by simp [kids]))
    show _ = _
    rw [Bool.eq_iff_iff, e h, Bool.not_eq_true', ← Bool.not_eq_true, hc]; rfl
  | some r c =>
    by_cases q : has w.roles r = true
    · exact .inl q
    · exact .inr ((at_prof_false (cut w M) (D := D) x h).mpr fun ⟨_, z, _⟩ => q z.1)
  | all r c =>
    by_cases q : has w.roles r = true
    · exact .inl q
    · exact .inr ((e h).mpr fun _ z => absurd z.1 q)
theorem rel_prof (w : Words) (M : Model) {D : List C} (hk : ∀ c ∈ D, ∀ k ∈ kids c, k ∈ D) {r : Nat} {x y : M.W} (h : (cut w M).rl r x y) : Rel D r (prof (cut w M) D x) (prof (cut w M) D y) := by
  intro c hc
  cases c with
  | some s c =>
    rintro rfl q
    exact (at_prof (cut w M) (D := D) x hc).mpr ⟨y, h, (at_prof (cut w M) (D := D) y (hk _ hc c (by simp [kids]))).mp q⟩
  | all s c =>
    rintro rfl q
    exact (at_prof_false (cut w M) (D := D) x hc).mpr fun z => (at_prof_false (cut w M) (D := D) y (hk _ hc c (by simp [kids]))).mp q (z y h)
  | _ => trivial
theorem has_prof (w : Words) (M : Model) {D : List C} (hk : ∀ c ∈ D, ∀ k ∈ kids c, k ∈ D) (x : M.W) : Has D (fun p => ∃ y : M.W, p = prof (cut w M) D y) (prof (cut w M) D x) := by
  intro c hc
  cases c with
  | some r c =>
    intro q
    obtain ⟨y, hy, hs⟩ := (at_prof (cut w M) (D := D) x hc).mp q
    exact ⟨_, ⟨y, rfl⟩, (at_prof (cut w M) (D := D) y (hk _ hc c (by simp [kids]))).mpr hs, rel_prof w M hk hy⟩
  | all r c =>
    intro q
    have q2 := (at_prof_false (cut w M) (D := D) x hc).mp q
    have : ∃ y : M.W, (cut w M).rl r x y ∧ ¬ sat (cut w M) c y := by
      apply Classical.byContradiction
      intro z
      exact q2 fun y hy => Classical.byContradiction fun v => z ⟨y, hy, v⟩
    obtain ⟨y, hy, hs⟩ := this
    exact ⟨_, ⟨y, rfl⟩, (at_prof_false (cut w M) (D := D) y (hk _ hc c (by simp [kids]))).mpr hs, rel_prof w M hk hy⟩
  | _ => trivial

/-- the largest set of first profiles that supports itself -/
structure Last (D : List C) (w : Words) (ax : List Axiom) (L : List Bool → Prop) : Prop where
  fst : ∀ p, L p → Fst D w ax p
  has : ∀ p, L p → Has D L p
  all : ∀ S : List Bool → Prop, (∀ p, S p → Fst D w ax p) → (∀ p, S p → Has D S p) → ∀ p, S p → L p
/-- some element of a model of the axioms has c and not d -/
theorem last_iff {D : List C} {w : Words} {ax : List Axiom} {L : List Bool → Prop} (h : Last D w ax L) (hk : ∀ c ∈ D, ∀ k ∈ kids c, k ∈ D) (hax : ∀ a ∈ ax, a.1 ∈ D ∧ a.2 ∈ D) {c d : C} (hc : c ∈ D) (hd : d ∈ D) :
    (∃ p, L p ∧ at_ D p c = true ∧ at_ D p d = false) ↔ ∃ M : Model, (∀ a ∈ ax, ∀ x, sat (cut w M) a.1 x → sat (cut w M) a.2 x) ∧ ∃ x, sat (cut w M) c x ∧ ¬ sat (cut w M) d x := by
  constructor
  · rintro ⟨p, hp, h1, h2⟩
    have e := fun {k : C} (hkD : k ∈ D) => sat_pModel hk (fun p hp => (h.fst p hp).own) h.has k hkD
    refine ⟨pModel D L, ?_, ⟨p, hp⟩, (e hc ⟨p, hp⟩).mpr h1, ?_⟩
    · intro a ha x hx
      exact (e (hax a ha).2 x).mpr ((h.fst x.1 x.2).ax a ha ((e (hax a ha).1 x).mp hx))
    · intro z
      have := (e hd ⟨p, hp⟩).mp z
      rw [show (⟨p, hp⟩ : (pModel D L).W).1 = p from rfl, h2] at this
      cases this
  · rintro ⟨M, hM, x, h1, h2⟩
    refine ⟨prof (cut w M) D x, h.all (fun p => ∃ y : M.W, p = prof (cut w M) D y) ?_ ?_ _ ⟨x, rfl⟩, (at_prof (cut w M) (D := D) x hc).mpr h1, (at_prof_false (cut w M) (D := D) x hd).mpr h2⟩
    · rintro p ⟨y, rfl⟩
      refine ⟨by simp [prof], own_prof w M hk y, ?_⟩
      intro a ha q
      exact (at_prof (cut w M) (D := D) y (hax a ha).2).mpr (hM a ha y ((at_prof (cut w M) (D := D) y (hax a ha).1).mp q))
    · rintro p ⟨y, rfl⟩
      exact has_prof w M hk y
/-- locality by profiles -/
theorem quiet_last {D : List C} {w : Words} {L : List Bool → Prop} (h : Last D w [] L) (hk : ∀ c ∈ D, ∀ k ∈ kids c, k ∈ D) {c d : C} (hc : c ∈ D) (hd : d ∈ D) :
    Oc06.quiet w (c, d) = true ↔ ¬ ∃ p, L p ∧ at_ D p c = true ∧ at_ D p d = false := by
  rw [last_iff h hk (by simp) hc hd, quiet_iff]
  constructor
  · rintro q ⟨M, _, x, h1, h2⟩; exact h2 (q M x h1)
  · intro q M x h1
    exact Classical.byContradiction fun z => q ⟨M, by simp, x, h1, z⟩

/-! all names and roles in the signature -/
def Within (w : Words) : C → Prop
  | .name a => has w.names a = true
  | .and c d => Within w c ∧ Within w d
  | .or c d => Within w c ∧ Within w d
  | .not c => Within w c
  | .some r c => has w.roles r = true ∧ Within w c
  | .all r c => has w.roles r = true ∧ Within w c
  | _ => True
theorem sat_within (w : Words) (M : Model) : ∀ (c : C) (x : M.W), Within w c → (sat (cut w M) c x ↔ sat M c x)
  | .top, x, _ => Iff.rfl
  | .bot, x, _ => Iff.rfl
  | .name a, x, h => ⟨fun q => q.2, fun q => ⟨h, q⟩⟩
  | .and c d, x, h => and_congr (sat_within w M c x h.1) (sat_within w M d x h.2)
  | .or c d, x, h => or_congr (sat_within w M c x h.1) (sat_within w M d x h.2)
  | .not c, x, h => not_congr (sat_within w M c x h)
  | .some r c, x, h => ⟨fun ⟨y, a, b⟩ => ⟨y, a.2, (sat_within w M c y h.2).mp b⟩, fun ⟨y, a, b⟩ => ⟨y, ⟨h.1, a⟩, (sat_within w M c y h.2).mpr b⟩⟩
  | .all r c, x, h => ⟨fun q y a => (sat_within w M c y h.2).mp (q y ⟨h.1, a⟩), fun q y a => (sat_within w M c y h.2).mpr (q y a.2)⟩
/-- subsumption by profiles -/
theorem under_last {D : List C} {w : Words} {ax : List Axiom} {L : List Bool → Prop} (h : Last D w ax L) (hk : ∀ c ∈ D, ∀ k ∈ kids c, k ∈ D) (hax : ∀ a ∈ ax, a.1 ∈ D ∧ a.2 ∈ D) (hw : ∀ c ∈ D, Within w c) {c d : C} (hc : c ∈ D) (hd : d ∈ D) :
    Oc.under ax c d = true ↔ ¬ ∃ p, L p ∧ at_ D p c = true ∧ at_ D p d = false := by
  rw [last_iff h hk hax hc hd, under_iff]
  constructor
  · rintro q ⟨M, hM, x, h1, h2⟩
    refine h2 ((sat_within w M d x (hw d hd)).mpr (q M ?_ x ((sat_within w M c x (hw c hc)).mp h1)))
    intro a ha y hy
    exact (sat_within w M a.2 y (hw _ (hax a ha).2)).mp (hM a ha y ((sat_within w M a.1 y (hw _ (hax a ha).1)).mpr hy))
  · intro q M hM x h1
    refine Classical.byContradiction fun z => q ⟨M, ?_, x, (sat_within w M c x (hw c hc)).mpr h1, fun v => z ((sat_within w M d x (hw d hd)).mp v)⟩
    intro a ha y hy
    exact (sat_within w M a.2 y (hw _ (hax a ha).2)).mpr (hM a ha y ((sat_within w M a.1 y (hw _ (hax a ha).1)).mp hy))

/-! the search: what falls is taken out till nothing falls -/
theorem last_of {D : List C} {w : Words} {ax : List Axiom} {P0 L : List (List Bool)} (h0 : ∀ p, p ∈ P0 ↔ Fst D w ax p) (hL : ∀ p ∈ L, p ∈ P0) (hh : ∀ p ∈ L, Has D (· ∈ L) p)
    (ha : ∀ S : List Bool → Prop, (∀ p, S p → p ∈ P0) → (∀ p, S p → Has D S p) → ∀ p, S p → p ∈ L) : Last D w ax (· ∈ L) :=
  ⟨fun p hp => (h0 p).mp (hL p hp), hh, fun S h1 h2 => ha S (fun p hp => (h0 p).mpr (h1 p hp)) h2⟩
theorem Has.mono {D : List C} {S T : List Bool → Prop} {p : List Bool} (hst : ∀ q, S q → T q) (h : Has D S p) : Has D T p := by
  intro c hc
  have := h c hc
  cases c with
  | some r c => intro q; obtain ⟨u, a, b⟩ := this q; exact ⟨u, hst u a, b⟩
  | all r c => intro q; obtain ⟨u, a, b⟩ := this q; exact ⟨u, hst u a, b⟩
  | _ => trivial
end AX
end
section
set_option maxHeartbeats 200000
/-! The rows of several concepts together. -/
namespace AX
open Oc
def subsAll : List C → List C → List C
  | [], D => D
  | c :: cs, D => subs c (subsAll cs D)
theorem subsAll_nice : ∀ (cs D : List C), Nice D → Nice (subsAll cs D)
  | [], _, h => h
  | c :: cs, D, h => subs_nice c _ (subsAll_nice cs D h)
theorem subsAll_keep {x : C} : ∀ (cs D : List C), x ∈ D → x ∈ subsAll cs D
  | [], _, h => h
  | c :: cs, D, h => subs_keep (subsAll_keep cs D h)
theorem subsAll_mem {x : C} : ∀ (cs D : List C), x ∈ cs → x ∈ subsAll cs D
  | c :: cs, D, h => by
    rcases List.mem_cons.mp h with rfl | h
    · exact subs_mem _ _
    · exact subs_keep (subsAll_mem cs D h)
theorem foldl_all : ∀ (cs D st : List C), Nice D → (∀ x ∈ st, x ∈ D) →
    (cs.flatMap symsOf).reverse.foldl stepR (rowsOf D, stk D st) = (rowsOf (subsAll cs D), stk (subsAll cs D) (cs ++ st))
  | [], D, st, _, _ => rfl
  | c :: cs, D, st, h, hs => by
    rw [List.flatMap_cons, List.reverse_append, List.foldl_append, foldl_all cs D st h hs]
    exact foldl_subs c (subsAll cs D) (cs ++ st) (subsAll_nice cs D h) fun x hx => by
      rcases List.mem_append.mp hx with hx | hx
      · exact subsAll_mem cs D hx
      · exact subsAll_keep cs D (hs x hx)
theorem build_all (cs : List C) : (cs.flatMap symsOf).reverse.foldl stepR ([], []) = (rowsOf (subsAll cs []), (cs.map (plc (subsAll cs []))).reverse) := by
  have := foldl_all cs [] [] .nil (by simp)
  rw [List.append_nil] at this
  exact this
/-- each symbol finds what it takes -/
def okL : List (Nat × Nat) → Nat → Prop
  | [], _ => True
  | y :: l, n => y.1 ≤ 7 ∧ inner y.1 ≤ n ∧ okL l (n - inner y.1 + 1)
theorem okL_syms : ∀ (c : C) (l : List (Nat × Nat)) (n : Nat), okL l (n + 1) → okL ((symsOf c).reverse ++ l) n
  | .top, l, n, h => ⟨by decide, Nat.zero_le _, h⟩
  | .bot, l, n, h => ⟨by decide, Nat.zero_le _, h⟩
  | .name a, l, n, h => ⟨by show 2 ≤ 7; decide, Nat.zero_le _, h⟩
  | .and c d, l, n, h => by
    rw [symsOf, List.reverse_cons, List.reverse_append, List.append_assoc, List.append_assoc]
    refine okL_syms d _ n (okL_syms c _ (n + 1) ⟨by decide, ?_, ?_⟩)
    · show 2 ≤ n + 1 + 1; omega
    · show okL l (n + 1 + 1 - 2 + 1); exact h
  | .or c d, l, n, h => by
    rw [symsOf, List.reverse_cons, List.reverse_append, List.append_assoc, List.append_assoc]
    refine okL_syms d _ n (okL_syms c _ (n + 1) ⟨by decide, ?_, ?_⟩)
    · show 2 ≤ n + 1 + 1; omega
    · show okL l (n + 1 + 1 - 2 + 1); exact h
  | .not c, l, n, h => by
    rw [symsOf, List.reverse_cons, List.append_assoc]
    refine okL_syms c _ n ⟨by decide, ?_, ?_⟩
    · show 1 ≤ n + 1; omega
    · show okL l (n + 1 - 1 + 1); exact h
  | .some r c, l, n, h => by
    rw [symsOf, List.reverse_cons, List.append_assoc]
    refine okL_syms c _ n ⟨by show 6 ≤ 7; decide, ?_, ?_⟩
    · show 1 ≤ n + 1; omega
    · show okL l (n + 1 - 1 + 1); exact h
  | .all r c, l, n, h => by
    rw [symsOf, List.reverse_cons, List.append_assoc]
    refine okL_syms c _ n ⟨by show 7 ≤ 7; decide, ?_, ?_⟩
    · show 1 ≤ n + 1; omega
    · show okL l (n + 1 - 1 + 1); exact h
theorem okL_all : ∀ (cs : List C) (l : List (Nat × Nat)) (n : Nat), okL l (n + cs.length) → okL ((cs.flatMap symsOf).reverse ++ l) n
  | [], l, n, h => h
  | c :: cs, l, n, h => by
    rw [List.flatMap_cons, List.reverse_append, List.append_assoc]
    refine okL_all cs _ n (okL_syms c l _ ?_)
    rw [Nat.add_assoc]; exact h
theorem taken_length (y : Nat × Nat) (W : List Nat) (h : inner y.1 ≤ W.length) : (taken y W).length = W.length - inner y.1 := by
  have := inner y.1
  unfold taken
  have h2 : inner y.1 ≤ 2 := by unfold inner; split <;> omega
  split
  · simp only [List.length_dropLast]; omega
  · split
    · simp only [List.length_dropLast]; omega
    · omega
theorem okL_at : ∀ (l : List (Nat × Nat)) (s : List Row × List Nat) (i : Nat) (y : Nat × Nat), okL l s.2.length → l[i]? = some y → y.1 ≤ 7 ∧ inner y.1 ≤ ((l.take i).foldl stepR s).2.length
  | [], s, i, y, _, h => by simp at h
  | z :: l, s, 0, y, h, e => by
    have e : z = y := Option.some.inj e
    subst e; exact ⟨h.1, h.2.1⟩
  | z :: l, s, i + 1, y, h, e => by
    refine okL_at l (stepR s z) i y ?_ e
    have : (stepR s z).2.length = s.2.length - inner z.1 + 1 := by
      show (taken z s.2 ++ [_]).length = _
      rw [List.length_append, taken_length z s.2 h.2.1]; rfl
    rw [this]; exact h.2.2
theorem stepR_rows_length (s : List Row × List Nat) (y : Nat × Nat) : (stepR s y).1.length ≤ s.1.length + 1 := by
  unfold stepR
  simp only
  split <;> simp
theorem foldl_rows_length : ∀ (l : List (Nat × Nat)) (s : List Row × List Nat), (l.foldl stepR s).1.length ≤ s.1.length + l.length
  | [], s => Nat.le_refl _
  | y :: l, s => by
    have h1 := foldl_rows_length l (stepR s y)
    have h2 := stepR_rows_length s y
    rw [List.foldl_cons, List.length_cons]; omega
theorem stepR_stack_length (s : List Row × List Nat) (y : Nat × Nat) : (stepR s y).2.length ≤ s.2.length + 1 := by
  unfold stepR taken
  simp only
  split
  · simp only [List.length_append, List.length_dropLast, List.length_cons, List.length_nil]; omega
  · split
    · simp only [List.length_append, List.length_dropLast, List.length_cons, List.length_nil]; omega
    · simp only [List.length_append, List.length_cons, List.length_nil]; omega
theorem foldl_stack_length : ∀ (l : List (Nat × Nat)) (s : List Row × List Nat), (l.foldl stepR s).2.length ≤ s.2.length + l.length
  | [], s => Nat.le_refl _
  | y :: l, s => by
    have h1 := foldl_stack_length l (stepR s y)
    have h2 := stepR_stack_length s y
    rw [List.foldl_cons, List.length_cons]; omega
end AX
end
section
set_option maxHeartbeats 200000
/-! How many atoms; the signature. -/
namespace AX
open Oc Oc06
theorem len_le {α : Type} [BEq α] [LawfulBEq α] : ∀ (l m : List α), l.Nodup → (∀ x ∈ l, x ∈ m) → l.length ≤ m.length
  | [], _, _, _ => Nat.zero_le _
  | a :: l, m, hn, h => by
    rw [List.nodup_cons] at hn
    have ha : a ∈ m := h a (by simp)
    have ih := len_le l (m.erase a) hn.2 fun x hx => by
      have hxa : x ≠ a := fun e => hn.1 (by rw [← e]; exact hx)
      exact (List.mem_erase_of_ne hxa).mpr (h x (by simp [hx]))
    rw [List.length_erase_of_mem ha] at ih
    have : 0 < m.length := List.length_pos_of_mem ha
    rw [List.length_cons]; omega
def isAtom : C → Bool
  | .name _ => true
  | .some _ _ => true
  | .all _ _ => true
  | _ => false
theorem isAtom_atoms : ∀ (c x : C), x ∈ c.atoms → isAtom x = true := by
  intro c
  induction c with
  | top => intro x h; simp [C.atoms] at h
  | bot => intro x h; simp [C.atoms] at h
  | name a => intro x h; simp [C.atoms] at h; subst h; rfl
  | and c d hc hd => intro x h; simp only [C.atoms, List.mem_append] at h; rcases h with h | h; exact hc x h; exact hd x h
  | or c d hc hd => intro x h; simp only [C.atoms, List.mem_append] at h; rcases h with h | h; exact hc x h; exact hd x h
  | not c hc => intro x h; exact hc x h
  | some r c hc => intro x h; simp only [C.atoms, List.mem_cons] at h; rcases h with rfl | h; rfl; exact hc x h
  | all r c hc => intro x h; simp only [C.atoms, List.mem_cons] at h; rcases h with rfl | h; rfl; exact hc x h
theorem mem_addC {D : List C} {c x : C} : x ∈ addC D c ↔ x ∈ D ∨ x = c := by
  unfold addC; split
  · rename_i h
    constructor
    · exact .inl
    · rintro (h2 | rfl); exact h2; exact h
  · simp
theorem mem_subs_atom {x : C} (hx : isAtom x = true) : ∀ (c : C) (D : List C), x ∈ subs c D ↔ x ∈ D ∨ x ∈ c.atoms
  | .top, D => by
    show x ∈ addC D .top ↔ _
    rw [mem_addC]; simp only [C.atoms, List.not_mem_nil, or_false]
    constructor
    · rintro (h | rfl); exact h; cases hx
    · exact .inl
  | .bot, D => by
    show x ∈ addC D .bot ↔ _
    rw [mem_addC]; simp only [C.atoms, List.not_mem_nil, or_false]
    constructor
    · rintro (h | rfl); exact h; cases hx
    · exact .inl
  | .name a, D => by
    show x ∈ addC D (.name a) ↔ _
    rw [mem_addC]; simp only [C.atoms, List.mem_cons, List.not_mem_nil, or_false]
  | .and c d, D => by
    show x ∈ addC (subs c (subs d D)) (.and c d) ↔ _
    rw [mem_addC, mem_subs_atom hx c, mem_subs_atom hx d]; simp only [C.atoms, List.mem_append]
    constructor
    · rintro (((h | h) | h) | rfl)
      · exact .inl h
      · exact .inr (.inr h)
      · exact .inr (.inl h)
      · cases hx
    · rintro (h | h | h)
      · exact .inl (.inl (.inl h))
      · exact .inl (.inr h)
      · exact .inl (.inl (.inr h))
  | .or c d, D => by
    show x ∈ addC (subs c (subs d D)) (.or c d) ↔ _
    rw [mem_addC, mem_subs_atom hx c, mem_subs_atom hx d]; simp only [C.atoms, List.mem_append]
    constructor
    · rintro (((h | h) | h) | rfl)
      · exact .inl h
      · exact .inr (.inr h)
      · exact .inr (.inl h)
      · cases hx
    · rintro (h | h | h)
      · exact .inl (.inl (.inl h))
      · exact .inl (.inr h)
      · exact .inl (.inl (.inr h))
  | .not c, D => by
    show x ∈ addC (subs c D) (.not c) ↔ _
    rw [mem_addC, mem_subs_atom hx c]; simp only [C.atoms]
    constructor
    · rintro (h | rfl); exact h; cases hx
    · exact .inl
  | .some r c, D => by
    show x ∈ addC (subs c D) (.some r c) ↔ _
    rw [mem_addC, mem_subs_atom hx c]; simp only [C.atoms, List.mem_cons]
    constructor
    · rintro ((h | h) | h); exact .inl h; exact .inr (.inr h); exact .inr (.inl h)
    · rintro (h | h | h); exact .inl (.inl h); exact .inr h; exact .inl (.inr h)
  | .all r c, D => by
    show x ∈ addC (subs c D) (.all r c) ↔ _
    rw [mem_addC, mem_subs_atom hx c]; simp only [C.atoms, List.mem_cons]
    constructor
    · rintro ((h | h) | h); exact .inl h; exact .inr (.inr h); exact .inr (.inl h)
    · rintro (h | h | h); exact .inl (.inl h); exact .inr h; exact .inl (.inr h)
theorem mem_subsAll_atom {x : C} (hx : isAtom x = true) : ∀ (cs D : List C), x ∈ subsAll cs D ↔ x ∈ D ∨ ∃ c ∈ cs, x ∈ c.atoms
  | [], D => by simp [subsAll]
  | c :: cs, D => by
    show x ∈ subs c (subsAll cs D) ↔ _
    rw [mem_subs_atom hx, mem_subsAll_atom hx cs D]
    simp only [List.mem_cons, exists_eq_or_imp]
    constructor
    · rintro ((h | h) | h); exact .inl h; exact .inr (.inr h); exact .inr (.inl h)
    · rintro (h | h | h); exact .inl (.inl h); exact .inr h; exact .inl (.inr h)
theorem marks_rowC (D : List C) (c : C) : decide (0 < marks (rowC D c).1) = isAtom c := by
  cases c <;> rfl
theorem rows_filter (D : List C) : ((rowsOf D).filter fun r => decide (0 < marks r.1)).length = (D.filter isAtom).length := by
  unfold rowsOf
  rw [List.filter_map, List.length_map]
  congr 2
  funext c
  exact marks_rowC D c
/-- the rows that are atoms are as many as the atoms -/
theorem atoms_count (cs : List C) : ((rowsOf (subsAll cs [])).filter fun r => decide (0 < marks r.1)).length = (atomsOf cs).length := by
  rw [rows_filter]
  have hn : ((subsAll cs []).filter isAtom).Nodup := (subsAll_nice cs [] .nil).nodup.filter _
  have hm : ∀ x, x ∈ (subsAll cs []).filter isAtom ↔ x ∈ atomsOf cs := by
    intro x
    rw [List.mem_filter, mem_atomsOf]
    constructor
    · rintro ⟨h, hx⟩
      rcases (mem_subsAll_atom hx cs []).mp h with h | h
      · simp at h
      · exact h
    · rintro ⟨c, hc, h⟩
      have hx := isAtom_atoms c x h
      exact ⟨(mem_subsAll_atom hx cs []).mpr (.inr ⟨c, hc, h⟩), hx⟩
  exact Nat.le_antisymm (len_le _ _ hn fun x h => (hm x).mp h) (len_le _ _ (nodup_distinct _) fun x h => (hm x).mpr h)

/-! the signature -/
theorem bit_eq (m k : Nat) : bit m k = m.testBit k := by
  unfold bit; rw [Nat.testBit_eq_decide_div_mod_eq]
  by_cases h : m / 2 ^ k % 2 = 1
  · rw [h]; rfl
  · rw [decide_eq_false h]; exact beq_eq_false_iff_ne.mpr h
theorem put_eq (m k : Nat) : put m k = m ||| 2 ^ k := by
  unfold put
  rw [bit_eq]
  by_cases h : m.testBit k = true
  · rw [if_pos h]
    apply Nat.eq_of_testBit_eq
    intro j
    rw [Nat.testBit_or, Nat.testBit_two_pow]
    by_cases e : k = j
    · subst e; simp [h]
    · simp [e]
  · rw [if_neg h]
    apply Nat.eq_of_testBit_eq
    intro j
    rw [Nat.testBit_or, Nat.testBit_two_pow]
    by_cases e : k = j
    · subst e
      rw [Nat.add_comm, Nat.testBit_two_pow_add_eq]
      simp [h]
    · simp only [e, decide_false, Bool.or_false]
      exact testBit_add_ne h e
where
  testBit_add_ne {m k j : Nat} (h : ¬ m.testBit k = true) (e : ¬ k = j) : (m + 2 ^ k).testBit j = m.testBit j := by
    have h2 : m / 2 ^ k % 2 = 0 := by
      rw [Nat.testBit_eq_decide_div_mod_eq] at h
      simp only [decide_eq_true_eq] at h; omega
    have hd : m = 2 ^ k * (m / 2 ^ k) + m % 2 ^ k := (Nat.div_add_mod m (2 ^ k)).symm
    have hlt : m % 2 ^ k < 2 ^ k := Nat.mod_lt _ (Nat.two_pow_pos k)
    have e1 : m + 2 ^ k = 2 ^ k * (m / 2 ^ k + 1) + m % 2 ^ k := by
      rw [Nat.mul_add]; omega
    rw [e1]
    conv => rhs; rw [hd]
    rw [Nat.testBit_two_pow_mul_add _ hlt, Nat.testBit_two_pow_mul_add _ hlt]
    split
    · rfl
    · rename_i hj
      have hj2 : 0 < j - k := by omega
      obtain ⟨i, hi⟩ : ∃ i, j - k = i + 1 := ⟨j - k - 1, by omega⟩
      rw [hi, Nat.testBit_succ, Nat.testBit_succ]
      congr 1; omega
theorem names_words : ∀ (c : C) (w : Words) (k : Nat), (wordsOf c w).names.testBit k = true ↔ w.names.testBit k = true ∨ C.name k ∈ c.atoms
  | .top, w, k => by simp [wordsOf, C.atoms]
  | .bot, w, k => by simp [wordsOf, C.atoms]
  | .name a, w, k => by
    simp only [wordsOf, put_eq, Nat.testBit_or, Nat.testBit_two_pow, Bool.or_eq_true, decide_eq_true_eq, C.atoms, List.mem_cons, List.not_mem_nil, or_false, C.name.injEq]
    exact or_congr Iff.rfl eq_comm
  | .and c d, w, k => by simp only [wordsOf, names_words d, names_words c, C.atoms, List.mem_append, or_assoc]
  | .or c d, w, k => by simp only [wordsOf, names_words d, names_words c, C.atoms, List.mem_append, or_assoc]
  | .not c, w, k => by simp only [wordsOf, names_words c, C.atoms]
  | .some r c, w, k => by simp only [wordsOf, names_words c, C.atoms, List.mem_cons, reduceCtorEq, false_or]
  | .all r c, w, k => by simp only [wordsOf, names_words c, C.atoms, List.mem_cons, reduceCtorEq, false_or]
theorem roles_words : ∀ (c : C) (w : Words) (k : Nat), (wordsOf c w).roles.testBit k = true ↔ w.roles.testBit k = true ∨ (∃ d, C.some k d ∈ c.atoms ∨ C.all k d ∈ c.atoms)
  | .top, w, k => by simp [wordsOf, C.atoms]
  | .bot, w, k => by simp [wordsOf, C.atoms]
  | .name a, w, k => by simp [wordsOf, C.atoms]
  | .and c d, w, k => by
    simp only [wordsOf, roles_words d, roles_words c, C.atoms, List.mem_append]
    constructor
    · rintro ((h | ⟨e, h | h⟩) | ⟨e, h | h⟩)
      · exact .inl h
      · exact .inr ⟨e, .inl (.inl h)⟩
      · exact .inr ⟨e, .inr (.inl h)⟩
      · exact .inr ⟨e, .inl (.inr h)⟩
      · exact .inr ⟨e, .inr (.inr h)⟩
    · rintro (h | ⟨e, (h | h) | (h | h)⟩)
      · exact .inl (.inl h)
      · exact .inl (.inr ⟨e, .inl h⟩)
      · exact .inr ⟨e, .inl h⟩
      · exact .inl (.inr ⟨e, .inr h⟩)
      · exact .inr ⟨e, .inr h⟩
  | .or c d, w, k => by
    simp only [wordsOf, roles_words d, roles_words c, C.atoms, List.mem_append]
    constructor
    · rintro ((h | ⟨e, h | h⟩) | ⟨e, h | h⟩)
      · exact .inl h
      · exact .inr ⟨e, .inl (.inl h)⟩
      · exact .inr ⟨e, .inr (.inl h)⟩
      · exact .inr ⟨e, .inl (.inr h)⟩
      · exact .inr ⟨e, .inr (.inr h)⟩
    · rintro (h | ⟨e, (h | h) | (h | h)⟩)
      · exact .inl (.inl h)
      · exact .inl (.inr ⟨e, .inl h⟩)
      · exact .inr ⟨e, .inl h⟩
      · exact .inl (.inr ⟨e, .inr h⟩)
      · exact .inr ⟨e, .inr h⟩
  | .not c, w, k => by simp only [wordsOf, roles_words c, C.atoms]
  | .some r c, w, k => by
    simp only [wordsOf, put_eq, Nat.testBit_or, Nat.testBit_two_pow, Bool.or_eq_true, decide_eq_true_eq, roles_words c, C.atoms, List.mem_cons, C.some.injEq, reduceCtorEq, false_or]
    constructor
    · rintro ((h | ⟨e, h | h⟩) | h)
      · exact .inl h
      · exact .inr ⟨e, .inl (.inr h)⟩
      · exact .inr ⟨e, .inr h⟩
      · exact .inr ⟨c, .inl (.inl ⟨h.symm, rfl⟩)⟩
    · rintro (h | ⟨e, (⟨h, rfl⟩ | h) | h⟩)
      · exact .inl (.inl h)
      · exact .inr h.symm
      · exact .inl (.inr ⟨e, .inl h⟩)
      · exact .inl (.inr ⟨e, .inr h⟩)
  | .all r c, w, k => by
    simp only [wordsOf, put_eq, Nat.testBit_or, Nat.testBit_two_pow, Bool.or_eq_true, decide_eq_true_eq, roles_words c, C.atoms, List.mem_cons, C.all.injEq, reduceCtorEq, false_or]
    constructor
    · rintro ((h | ⟨e, h | h⟩) | h)
      · exact .inl h
      · exact .inr ⟨e, .inl h⟩
      · exact .inr ⟨e, .inr (.inr h)⟩
      · exact .inr ⟨c, .inr (.inl ⟨h.symm, rfl⟩)⟩
    · rintro (h | ⟨e, h | (⟨h, rfl⟩ | h)⟩)
      · exact .inl (.inl h)
      · exact .inl (.inr ⟨e, .inl h⟩)
      · exact .inr h.symm
      · exact .inl (.inr ⟨e, .inr h⟩)
/-- the program's way: row by row -/
theorem marks_bits (heads : List Nat) (k : Nat) : ∀ (rows : List Row) (f : Nat), (rows.foldl (fun f r => if r.1 ∈ heads then f ||| 2 ^ r.2.1 else f) f).testBit k = true ↔ f.testBit k = true ∨ ∃ r ∈ rows, r.1 ∈ heads ∧ r.2.1 = k
  | [], f => by simp
  | r :: rows, f => by
    rw [List.foldl_cons, marks_bits heads k rows]
    simp only [List.mem_cons, exists_eq_or_imp]
    by_cases h : r.1 ∈ heads
    · rw [if_pos h]
      simp only [Nat.testBit_or, Nat.testBit_two_pow, Bool.or_eq_true, decide_eq_true_eq, h, true_and, or_assoc]
    · rw [if_neg h]; simp only [h, false_and, false_or]
theorem row_names (D : List C) (c : C) (k : Nat) : ((rowC D c).1 ∈ [2] ∧ (rowC D c).2.1 = k) ↔ c = .name k := by
  cases c <;> simp [rowC]
theorem row_roles (D : List C) (c : C) (k : Nat) : ((rowC D c).1 ∈ [6, 7] ∧ (rowC D c).2.1 = k) ↔ ∃ d, c = .some k d ∨ c = .all k d := by
  constructor
  · rintro ⟨h1, h2⟩
    cases c <;> simp [rowC] at h1 h2
    · rename_i r c; subst h2; exact ⟨c, .inl rfl⟩
    · rename_i r c; subst h2; exact ⟨c, .inr rfl⟩
  · rintro ⟨d, rfl | rfl⟩ <;> simp [rowC]
/-- the signature of several concepts -/
def wordsAll (cs : List C) (w : Words) : Words := cs.foldl (fun w c => wordsOf c w) w
theorem names_all (k : Nat) : ∀ (cs : List C) (w : Words), (wordsAll cs w).names.testBit k = true ↔ w.names.testBit k = true ∨ ∃ c ∈ cs, C.name k ∈ c.atoms
  | [], w => by simp [wordsAll]
  | c :: cs, w => by
    have ih := names_all k cs (wordsOf c w)
    show (wordsAll cs (wordsOf c w)).names.testBit k = true ↔ _
    rw [ih, names_words]; simp only [List.mem_cons, exists_eq_or_imp, or_assoc]
theorem roles_all (k : Nat) : ∀ (cs : List C) (w : Words), (wordsAll cs w).roles.testBit k = true ↔ w.roles.testBit k = true ∨ ∃ c ∈ cs, ∃ d, C.some k d ∈ c.atoms ∨ C.all k d ∈ c.atoms
  | [], w => by simp [wordsAll]
  | c :: cs, w => by
    have ih := roles_all k cs (wordsOf c w)
    show (wordsAll cs (wordsOf c w)).roles.testBit k = true ↔ _
    rw [ih, roles_words]; simp only [List.mem_cons, exists_eq_or_imp, or_assoc]
theorem rows_names (cs : List C) : (rowsOf (subsAll cs [])).foldl (fun f r => if r.1 ∈ [2] then f ||| 2 ^ r.2.1 else f) 0 = (wordsAll cs ⟨0, 0⟩).names := by
  apply Nat.eq_of_testBit_eq
  intro k
  rw [Bool.eq_iff_iff, marks_bits, names_all]
  refine or_congr Iff.rfl ?_
  constructor
  · rintro ⟨r, hr, h⟩
    obtain ⟨c, hc, rfl⟩ := List.mem_map.mp hr
    obtain rfl := (row_names _ c k).mp h
    rcases (mem_subsAll_atom rfl cs []).mp hc with h | h
    · simp at h
    · exact h
  · rintro ⟨c, hc, h⟩
    exact ⟨_, List.mem_map.mpr ⟨.name k, (mem_subsAll_atom rfl cs []).mpr (.inr ⟨c, hc, h⟩), rfl⟩, (row_names _ _ k).mpr rfl⟩
theorem rows_roles (cs : List C) : (rowsOf (subsAll cs [])).foldl (fun f r => if r.1 ∈ [6, 7] then f ||| 2 ^ r.2.1 else f) 0 = (wordsAll cs ⟨0, 0⟩).roles := by
  apply Nat.eq_of_testBit_eq
  intro k
  rw [Bool.eq_iff_iff, marks_bits, roles_all]
  refine or_congr Iff.rfl ?_
  constructor
  · rintro ⟨r, hr, h⟩
    obtain ⟨c, hc, rfl⟩ := List.mem_map.mp hr
    obtain ⟨d, hd⟩ := (row_roles _ c k).mp h
    have ha : isAtom c = true := by rcases hd with rfl | rfl <;> rfl
    rcases (mem_subsAll_atom ha cs []).mp hc with h | ⟨e, he, h⟩
    · simp at h
    · refine ⟨e, he, d, ?_⟩
      rcases hd with rfl | rfl
      · exact .inl h
      · exact .inr h
  · rintro ⟨c, hc, d, h | h⟩
    · exact ⟨_, List.mem_map.mpr ⟨.some k d, (mem_subsAll_atom rfl cs []).mpr (.inr ⟨c, hc, h⟩), rfl⟩, (row_roles _ _ k).mpr ⟨d, .inl rfl⟩⟩
    · exact ⟨_, List.mem_map.mpr ⟨.all k d, (mem_subsAll_atom rfl cs []).mpr (.inr ⟨c, hc, h⟩), rfl⟩, (row_roles _ _ k).mpr ⟨d, .inr rfl⟩⟩
end AX
end
section
set_option maxHeartbeats 200000
/-! What is read has names below 4 and roles below 2. -/
namespace AX
open Oc Oc06
def Fine : C → Prop
  | .name a => a < 4
  | .and c d => Fine c ∧ Fine d
  | .or c d => Fine c ∧ Fine d
  | .not c => Fine c
  | .some r c => r < 2 ∧ Fine c
  | .all r c => r < 2 ∧ Fine c
  | _ => True
theorem read_fine : ∀ (n : Nat) (l : List Nat) (c : C) (r : List Nat), Oc.read n l = some (c, r) → Fine c
  | 0, l, c, r, h => by cases h
  | n + 1, l, c, r, h => by
    unfold Oc.read at h
    split at h
    · cases h; trivial
    · cases h; trivial
    · split at h
      · cases h; assumption
      · cases h
    · split at h
      · cases h
      · rename_i x hx
        have h1 := read_fine n _ x.1 x.2 hx
        cases e : Oc.read n x.2 with
        | none => rw [e] at h; cases h
        | some y =>
          rw [e] at h
          have h2 := read_fine n _ y.1 y.2 e
          cases h; exact ⟨h1, h2⟩
    · split at h
      · cases h
      · rename_i x hx
        have h1 := read_fine n _ x.1 x.2 hx
        cases e : Oc.read n x.2 with
        | none => rw [e] at h; cases h
        | some y =>
          rw [e] at h
          have h2 := read_fine n _ y.1 y.2 e
          cases h; exact ⟨h1, h2⟩
    · rename_i r0
      cases e : Oc.read n r0 with
      | none => rw [e] at h; cases h
      | some y =>
        rw [e] at h
        have h2 := read_fine n _ y.1 y.2 e
        cases h; exact h2
    · rename_i k r0
      split at h
      · cases e : Oc.read n r0 with
        | none => rw [e] at h; cases h
        | some y =>
          rw [e] at h
          have h2 := read_fine n _ y.1 y.2 e
          cases h; exact ⟨by assumption, h2⟩
      · cases h
    · rename_i k r0
      split at h
      · cases e : Oc.read n r0 with
        | none => rw [e] at h; cases h
        | some y =>
          rw [e] at h
          have h2 := read_fine n _ y.1 y.2 e
          cases h; exact ⟨by assumption, h2⟩
      · cases h
    · cases h
theorem concept_fine {l : List Nat} {c : C} (h : concept l = some c) : Fine c := by
  unfold concept at h
  cases e : Oc.read (l.length + 1) l with
  | none => rw [e] at h; cases h
  | some x =>
    obtain ⟨d, r⟩ := x
    rw [e] at h
    cases r with
    | nil => cases h; exact read_fine _ _ _ _ e
    | cons a r => cases h
theorem two_fine {l : List Nat} {a : C × C} (h : two l = some a) : Fine a.1 ∧ Fine a.2 := by
  unfold two at h
  cases e : Oc.read (l.length + 1) l with
  | none => rw [e] at h; cases h
  | some x =>
    obtain ⟨d, r⟩ := x
    rw [e] at h
    cases e2 : concept r with
    | none => simp only [e2] at h; cases h
    | some y => simp only [e2, Option.map_some] at h; cases h; exact ⟨read_fine _ _ _ _ e, concept_fine e2⟩
theorem fine_kids {c : C} (h : Fine c) : ∀ k ∈ kids c, Fine k := by
  cases c <;> simp only [kids, List.mem_cons, List.not_mem_nil, or_false, forall_eq_or_imp, forall_eq, false_implies, implies_true, Fine] at *
  · exact h
  · exact h
  · exact h
  · exact h.2
  · exact h.2
theorem addC_all {p : C → Prop} {D : List C} {c : C} (hD : ∀ x ∈ D, p x) (hc : p c) : ∀ x ∈ addC D c, p x := fun x hx => by
  rcases mem_addC.mp hx with h | rfl
  · exact hD x h
  · exact hc
theorem subs_fine : ∀ (c : C) (D : List C), Fine c → (∀ x ∈ D, Fine x) → ∀ x ∈ subs c D, Fine x
  | .top, D, hc, hD => addC_all hD hc
  | .bot, D, hc, hD => addC_all hD hc
  | .name a, D, hc, hD => addC_all hD hc
  | .and c d, D, hc, hD => addC_all (subs_fine c _ hc.1 (subs_fine d D hc.2 hD)) hc
  | .or c d, D, hc, hD => addC_all (subs_fine c _ hc.1 (subs_fine d D hc.2 hD)) hc
  | .not c, D, hc, hD => addC_all (subs_fine c D hc hD) hc
  | .some r c, D, hc, hD => addC_all (subs_fine c D hc.2 hD) hc
  | .all r c, D, hc, hD => addC_all (subs_fine c D hc.2 hD) hc
theorem subsAll_fine : ∀ (cs D : List C), (∀ c ∈ cs, Fine c) → (∀ x ∈ D, Fine x) → ∀ x ∈ subsAll cs D, Fine x
  | [], D, _, hD => hD
  | c :: cs, D, hc, hD => subs_fine c _ (hc c (by simp)) (subsAll_fine cs D (fun d hd => hc d (by simp [hd])) hD)
theorem rowC_head (D : List C) (c : C) : (rowC D c).1 ≤ 7 := by cases c <;> simp [rowC]
theorem rowC_mark (D : List C) {c : C} (h : Fine c) : (rowC D c).2.1 < 4 := by
  cases c <;> simp [rowC, Fine] at * <;> omega
theorem rows_head (D : List C) : ∀ r ∈ rowsOf D, r.1 ≤ 7 := fun r hr => by
  obtain ⟨c, _, rfl⟩ := List.mem_map.mp hr; exact rowC_head D c
theorem rows_mark {D : List C} (h : ∀ x ∈ D, Fine x) : ∀ r ∈ rowsOf D, r.2.1 < 4 := fun r hr => by
  obtain ⟨c, hc, rfl⟩ := List.mem_map.mp hr; exact rowC_mark D (h c hc)
/-- how long -/
theorem addC_length (D : List C) (c : C) : (addC D c).length ≤ D.length + 1 := by unfold addC; split <;> simp
theorem subs_length : ∀ (c : C) (D : List C), (subs c D).length ≤ D.length + (symsOf c).length
  | .top, D => addC_length D _
  | .bot, D => addC_length D _
  | .name a, D => addC_length D _
  | .and c d, D => by
    have h1 := subs_length d D; have h2 := subs_length c (subs d D); have h3 := addC_length (subs c (subs d D)) (.and c d)
    show (addC _ _).length ≤ _
    rw [symsOf, List.length_cons, List.length_append]; omega
  | .or c d, D => by
    have h1 := subs_length d D; have h2 := subs_length c (subs d D); have h3 := addC_length (subs c (subs d D)) (.or c d)
    show (addC _ _).length ≤ _
    rw [symsOf, List.length_cons, List.length_append]; omega
  | .not c, D => by
    have h2 := subs_length c D; have h3 := addC_length (subs c D) (.not c)
    show (addC _ _).length ≤ _
    rw [symsOf, List.length_cons]; omega
  | .some r c, D => by
    have h2 := subs_length c D; have h3 := addC_length (subs c D) (.some r c)
    show (addC _ _).length ≤ _
    rw [symsOf, List.length_cons]; omega
  | .all r c, D => by
    have h2 := subs_length c D; have h3 := addC_length (subs c D) (.all r c)
    show (addC _ _).length ≤ _
    rw [symsOf, List.length_cons]; omega
theorem subsAll_length : ∀ (cs D : List C), (subsAll cs D).length ≤ D.length + (cs.flatMap symsOf).length
  | [], D => by simp [subsAll]
  | c :: cs, D => by
    have h1 := subsAll_length cs D; have h2 := subs_length c (subsAll cs D)
    show (subs c (subsAll cs D)).length ≤ _
    rw [List.flatMap_cons, List.length_append]; omega
theorem syms_length : ∀ (l : List Nat) (m : Nat) (acc ys : List (Nat × Nat)), syms l m acc = some ys → ys.length ≤ acc.length + l.length
  | [], m, acc, ys, h => by
    unfold syms at h; split at h
    · cases h
    · cases h; simp
  | h0 :: r, m, acc, ys, h => by
    rw [syms_cons] at h
    split at h
    · cases h
    · split at h
      · cases r with
        | nil => cases h
        | cons k r =>
          simp only at h
          split at h
          · cases h
          · have := syms_length r _ _ ys h
            simp only [List.length_append, List.length_cons, List.length_nil] at this ⊢; omega
      · have := syms_length r _ _ ys h
        simp only [List.length_append, List.length_cons, List.length_nil] at this ⊢; omega
end AX
end
section
set_option maxHeartbeats 200000
/-! The specification's step, operation by operation. -/
namespace AX
open Oc Oc06
theorem step_line (axs : List Axiom) (l : List Nat) : Oc06.step ⟨axs⟩ (.line l) = match Oc.two l with
    | none => (⟨axs⟩, ok (-1))
    | some a => if axs.length = AXIOMS ∨ LINE < (Oc.atomsOf [a.1, a.2]).length then (⟨axs⟩, ok (-7)) else (⟨axs ++ [a]⟩, ok (axs.length : Nat)) := rfl
theorem step_line_none {axs : List Axiom} {l : List Nat} (e : Oc.two l = none) : Oc06.step ⟨axs⟩ (.line l) = (⟨axs⟩, ok (-1)) := by rw [step_line, e]
theorem step_line_some {axs : List Axiom} {l : List Nat} {a : Axiom} (e : Oc.two l = some a) : Oc06.step ⟨axs⟩ (.line l) = if axs.length = AXIOMS ∨ LINE < (Oc.atomsOf [a.1, a.2]).length then (⟨axs⟩, ok (-7)) else (⟨axs ++ [a]⟩, ok (axs.length : Nat)) := by rw [step_line, e]
theorem step_drop (axs : List Axiom) (i : Nat) : Oc06.step ⟨axs⟩ (.drop i) = if axs.length ≤ i then (⟨axs⟩, ok (-2)) else (⟨axs.take i ++ axs.drop (i + 1)⟩, ok (axs.length - 1 : Nat)) := rfl
theorem step_words (axs : List Axiom) (l : List Nat) : Oc06.step ⟨axs⟩ (.words l) = match Oc.concept l with
    | none => (⟨axs⟩, ok (-1))
    | some c => (⟨axs⟩, ⟨0, [(wordsOf c ⟨0, 0⟩).names, (wordsOf c ⟨0, 0⟩).roles]⟩) := rfl
theorem step_words_none {axs : List Axiom} {l : List Nat} (e : Oc.concept l = none) : Oc06.step ⟨axs⟩ (.words l) = (⟨axs⟩, ok (-1)) := by rw [step_words, e]
theorem step_words_some {axs : List Axiom} {l : List Nat} {c : C} (e : Oc.concept l = some c) : Oc06.step ⟨axs⟩ (.words l) = (⟨axs⟩, ⟨0, [(wordsOf c ⟨0, 0⟩).names, (wordsOf c ⟨0, 0⟩).roles]⟩) := by rw [step_words, e]
theorem step_quiet (axs : List Axiom) (i n r : Nat) : Oc06.step ⟨axs⟩ (.quiet i n r) = match axs[i]? with
    | none => (⟨axs⟩, ok (-2))
    | some a => if isWords n r = false then (⟨axs⟩, ok (-1)) else (⟨axs⟩, ok (flag (Oc06.quiet ⟨n, r⟩ a) : Nat)) := rfl
theorem step_quiet_none {axs : List Axiom} {i n r : Nat} (e : axs[i]? = none) : Oc06.step ⟨axs⟩ (.quiet i n r) = (⟨axs⟩, ok (-2)) := by rw [step_quiet, e]
theorem step_quiet_some {axs : List Axiom} {i n r : Nat} {a : Axiom} (e : axs[i]? = some a) : Oc06.step ⟨axs⟩ (.quiet i n r) = if isWords n r = false then (⟨axs⟩, ok (-1)) else (⟨axs⟩, ok (flag (Oc06.quiet ⟨n, r⟩ a) : Nat)) := by rw [step_quiet, e]
theorem isWords_iff (n r : Nat) : isWords n r = true ↔ n < 16 ∧ r < 4 := by
  unfold isWords; rw [Bool.and_eq_true, decide_eq_true_eq, decide_eq_true_eq]; exact Iff.rfl
theorem isWords_false (n r : Nat) : isWords n r = false ↔ 16 ≤ n ∨ 4 ≤ r := by
  rw [← Bool.not_eq_true, isWords_iff]; omega
end AX
namespace AX
open Oc Oc06
theorem step_part (axs : List Axiom) (n r : Nat) : Oc06.step ⟨axs⟩ (.part n r) = if isWords n r = false then (⟨axs⟩, ok (-1)) else (⟨axs⟩, ⟨((Oc06.part axs ⟨n, r⟩).1.length : Nat), [(Oc06.part axs ⟨n, r⟩).2.names, (Oc06.part axs ⟨n, r⟩).2.roles] ++ (Oc06.part axs ⟨n, r⟩).1⟩) := rfl
theorem step_under (axs : List Axiom) (l : List Nat) : Oc06.step ⟨axs⟩ (.under l) = match Oc.two l with
    | none => (⟨axs⟩, ok (-1))
    | some a => if much (some_ axs (Oc06.part axs (ofAxiom a ⟨0, 0⟩)).1) [a.1, a.2] = true then (⟨axs⟩, ok (-7)) else (⟨axs⟩, ok (flag (Oc.under (some_ axs (Oc06.part axs (ofAxiom a ⟨0, 0⟩)).1) a.1 a.2) : Nat)) := rfl
theorem step_under_none {axs : List Axiom} {l : List Nat} (e : Oc.two l = none) : Oc06.step ⟨axs⟩ (.under l) = (⟨axs⟩, ok (-1)) := by rw [step_under, e]
theorem step_under_some {axs : List Axiom} {l : List Nat} {a : Axiom} (e : Oc.two l = some a) : Oc06.step ⟨axs⟩ (.under l) = if much (some_ axs (Oc06.part axs (ofAxiom a ⟨0, 0⟩)).1) [a.1, a.2] = true then (⟨axs⟩, ok (-7)) else (⟨axs⟩, ok (flag (Oc.under (some_ axs (Oc06.part axs (ofAxiom a ⟨0, 0⟩)).1) a.1 a.2) : Nat)) := by rw [step_under, e]
theorem step_by (axs : List Axiom) (l : List Nat) : Oc06.step ⟨axs⟩ (.by_ l) = match Oc.two l with
    | none => (⟨axs⟩, ok (-1))
    | some a => (⟨axs⟩, ⟨((Oc06.part axs (ofAxiom a ⟨0, 0⟩)).1.length : Nat), (Oc06.part axs (ofAxiom a ⟨0, 0⟩)).1⟩) := rfl
theorem step_by_none {axs : List Axiom} {l : List Nat} (e : Oc.two l = none) : Oc06.step ⟨axs⟩ (.by_ l) = (⟨axs⟩, ok (-1)) := by rw [step_by, e]
theorem step_by_some {axs : List Axiom} {l : List Nat} {a : Axiom} (e : Oc.two l = some a) : Oc06.step ⟨axs⟩ (.by_ l) = (⟨axs⟩, ⟨((Oc06.part axs (ofAxiom a ⟨0, 0⟩)).1.length : Nat), (Oc06.part axs (ofAxiom a ⟨0, 0⟩)).1⟩) := by rw [step_by, e]
theorem step_parts (axs : List Axiom) : Oc06.step ⟨axs⟩ .parts = (⟨axs⟩, ⟨(Oc.NAMES : Nat), (List.range Oc.NAMES).flatMap fun a => (Oc06.part axs ⟨2 ^ a, 0⟩).1.length :: (Oc06.part axs ⟨2 ^ a, 0⟩).1⟩) := rfl
end AX
end
section
set_option maxHeartbeats 200000
/-! What the program does with profiles, and what it comes to. -/
namespace AX
open Oc Oc06

def gb (p : List Bool) (i : Nat) : Bool := p.getD i false
def madeTruth (r : Row) (p : List Bool) : Bool :=
  if r.1 = 3 then gb p r.2.2.1 && gb p r.2.2.2 else if r.1 = 4 then gb p r.2.2.1 || gb p r.2.2.2 else if r.1 = 5 then !gb p r.2.2.1 else decide (r.1 = 0)
def choicesR (r : Row) (p : List Bool) (n m : Nat) : List Bool :=
  if r.1 = 2 ∨ r.1 = 6 ∨ r.1 = 7 then (if has (if r.1 = 2 then n else m) r.2.1 = true then [false, true] else [decide (r.1 = 7)]) else [madeTruth r p]
def longer (n m : Nat) (ps : List (List Bool)) (r : Row) : List (List Bool) := ps.flatMap fun p => (choicesR r p n m).map fun t => p ++ [t]
def allP (rows : List Row) (n m : Nat) : List (List Bool) := rows.foldl (longer n m) [[]]

theorem at_app_old {D : List C} {c x : C} {p : List Bool} {t : Bool} (hl : p.length = D.length) (hx : x ∈ D) : at_ (D ++ [c]) (p ++ [t]) x = at_ D p x := by
  unfold at_
  rw [plc_app hx, List.getD_eq_getElem?_getD, List.getD_eq_getElem?_getD, List.getElem?_append_left (by rw [hl]; exact plc_lt hx)]
theorem plc_new {D : List C} {c : C} (hc : c ∉ D) : plc (D ++ [c]) c = D.length := by
  unfold plc
  rw [List.idxOf_append, if_neg hc]; simp
theorem at_app_new {D : List C} {c : C} {p : List Bool} {t : Bool} (hl : p.length = D.length) (hc : c ∉ D) : at_ (D ++ [c]) (p ++ [t]) c = t := by
  unfold at_
  rw [plc_new hc, ← hl]; simp
theorem own_app_old {D : List C} {c x : C} {w : Words} {p : List Bool} {t : Bool} (hl : p.length = D.length) (hx : x ∈ D) (hk : ∀ k ∈ kids x, k ∈ D) : Own (D ++ [c]) w (p ++ [t]) x ↔ Own D w p x := by
  cases x <;> simp only [kids, List.mem_cons, List.not_mem_nil, or_false, forall_eq_or_imp, forall_eq] at hk <;> simp only [Own, at_app_old hl hx]
  case and => rw [at_app_old hl hk.1, at_app_old hl hk.2]
  case or => rw [at_app_old hl hk.1, at_app_old hl hk.2]
  case not => rw [at_app_old hl hk]
theorem own_app_new {D : List C} {c : C} {n m : Nat} {p : List Bool} {t : Bool} (hl : p.length = D.length) (hc : c ∉ D) (hk : ∀ k ∈ kids c, k ∈ D) : Own (D ++ [c]) ⟨n, m⟩ (p ++ [t]) c ↔ t ∈ choicesR (rowC D c) p n m := by
  cases c <;> simp only [kids, List.mem_cons, List.not_mem_nil, or_false, forall_eq_or_imp, forall_eq] at hk <;> simp only [Own, at_app_new hl hc]
  case top => simp [choicesR, rowC, madeTruth]
  case bot => simp [choicesR, rowC, madeTruth]
  case name a =>
    simp only [choicesR, rowC, true_or, if_true]
    by_cases h : has n a = true
    · rw [if_pos h]; simp [h]
    · rw [if_neg h]; simp [h]
  case and c d => rw [at_app_old hl hk.1, at_app_old hl hk.2]; simp [choicesR, rowC, madeTruth, gb, at_]
  case or c d => rw [at_app_old hl hk.1, at_app_old hl hk.2]; simp [choicesR, rowC, madeTruth, gb, at_]
  case not c => rw [at_app_old hl hk]; simp [choicesR, rowC, madeTruth, gb, at_]
  case some r c =>
    simp only [choicesR, rowC]
    by_cases h : has m r = true
    · simp [h]
    · simp [h]
  case all r c =>
    simp only [choicesR, rowC]
    by_cases h : has m r = true
    · simp [h]
    · simp [h]
theorem mem_allP {D : List C} (hD : Nice D) (n m : Nat) : ∀ p : List Bool, p ∈ allP (rowsOf D) n m ↔ Fst D ⟨n, m⟩ [] p := by
  induction hD with
  | nil =>
    intro p
    simp only [allP, rowsOf, List.map_nil, List.foldl_nil, List.mem_singleton]
    constructor
    · rintro rfl; exact ⟨rfl, by simp, by simp⟩
    · intro h; exact List.length_eq_zero_iff.mp h.len
  | @snoc D c hD hc hk ih =>
    intro q
    rw [rowsOf_snoc hD hk]
    unfold allP
    rw [List.foldl_append]
    show q ∈ longer n m (allP (rowsOf D) n m) (rowC D c) ↔ _
    unfold longer
    rw [List.mem_flatMap]
    constructor
    · rintro ⟨p, hp, hq⟩
      obtain ⟨t, ht, rfl⟩ := List.mem_map.mp hq
      have f := (ih p).mp hp
      refine ⟨by simp [f.len], ?_, by simp⟩
      intro x hx
      rcases List.mem_append.mp hx with hx | hx
      · exact (own_app_old f.len hx (hD.kids x hx)).mpr (f.own x hx)
      · rw [List.mem_singleton] at hx; subst hx
        exact (own_app_new f.len hc hk).mpr ht
    · intro f
      have hne : q ≠ [] := fun e => by have := f.len; rw [e] at this; simp at this
      obtain ⟨p, t, rfl⟩ : ∃ p t, q = p ++ [t] := ⟨q.dropLast, q.getLast hne, (List.dropLast_concat_getLast hne).symm⟩
      have hl : p.length = D.length := by have := f.len; simp at this; exact this
      refine ⟨p, (ih p).mpr ⟨hl, fun x hx => (own_app_old hl hx (hD.kids x hx)).mp (f.own x (by simp [hx])), by simp⟩, List.mem_map.mpr ⟨t, ?_, rfl⟩⟩
      exact (own_app_new hl hc hk).mp (f.own c (by simp))

/-! how many there are -/
theorem longer_length (n m : Nat) (r : Row) (ps : List (List Bool)) : (longer n m ps r).length ≤ (if 0 < marks r.1 then 2 else 1) * ps.length := by
  unfold longer
  rw [List.length_flatMap]
  have h : ∀ p, ((choicesR r p n m).map fun t => p ++ [t]).length ≤ (if 0 < marks r.1 then 2 else 1) := by
    intro p
    rw [List.length_map]
    unfold choicesR
    by_cases e : r.1 = 2 ∨ r.1 = 6 ∨ r.1 = 7
    · rw [if_pos e]
      have : 0 < marks r.1 := by rcases e with e | e | e <;> rw [e] <;> decide
      rw [if_pos this]
      generalize has (if r.1 = 2 then n else m) r.2.1 = b
      cases b <;> simp
    · rw [if_neg e]
      show 1 ≤ _
      split <;> omega
  generalize (if 0 < marks r.1 then 2 else 1) = k at h
  induction ps with
  | nil => simp
  | cons p ps ih =>
    rw [List.map_cons, List.sum_cons, List.length_cons]
    have := h p
    calc _ ≤ k + k * ps.length := Nat.add_le_add this ih
      _ = k * (ps.length + 1) := by rw [Nat.mul_add]; omega
def atomsIn (rows : List Row) : Nat := (rows.filter fun r => decide (0 < marks r.1)).length
theorem foldl_longer_length (n m : Nat) : ∀ (rows : List Row) (ps : List (List Bool)), (rows.foldl (longer n m) ps).length ≤ 2 ^ atomsIn rows * ps.length
  | [], ps => by simp [atomsIn]
  | r :: rows, ps => by
    have h1 := foldl_longer_length n m rows (longer n m ps r)
    have h2 := longer_length n m r ps
    rw [List.foldl_cons]
    by_cases e : 0 < marks r.1
    · have e2 : atomsIn (r :: rows) = atomsIn rows + 1 := by unfold atomsIn; rw [List.filter_cons_of_pos (by simpa using e)]; simp
      rw [if_pos e] at h2
      rw [e2, Nat.pow_succ]
      calc _ ≤ _ := h1
        _ ≤ 2 ^ atomsIn rows * (2 * ps.length) := Nat.mul_le_mul_left _ h2
        _ = _ := by rw [Nat.mul_assoc]
    · have e2 : atomsIn (r :: rows) = atomsIn rows := by unfold atomsIn; rw [List.filter_cons_of_neg (by simpa using e)]
      rw [if_neg e, Nat.one_mul] at h2
      rw [e2]
      exact Nat.le_trans h1 (Nat.mul_le_mul_left _ h2)
theorem allP_length (rows : List Row) (n m : Nat) : (allP rows n m).length ≤ 2 ^ atomsIn rows := by
  have := foldl_longer_length n m rows [[]]
  simpa [allP] using this
theorem atomsIn_take (rows : List Row) (i : Nat) : atomsIn (rows.take i) ≤ atomsIn rows := by
  unfold atomsIn
  exact ((List.take_sublist i rows).filter _).length_le

/-! restrictions -/
abbrev Lim := Nat × Nat × Nat × Bool
def isLim (r : Row) : Bool := decide (r.1 = 6 ∨ r.1 = 7)
def limOf (i : Nat) (r : Row) : Lim := (i, r.2.1, r.2.2.1, decide (r.1 = 6))
def limits : Nat → List Row → List Lim
  | _, [] => []
  | i, r :: rs => if isLim r = true then limOf i r :: limits (i + 1) rs else limits (i + 1) rs
theorem limits_app : ∀ (rs ts : List Row) (i : Nat), limits i (rs ++ ts) = limits i rs ++ limits (i + rs.length) ts
  | [], ts, i => by simp [limits]
  | r :: rs, ts, i => by
    have ih := limits_app rs ts (i + 1)
    have e : i + 1 + rs.length = i + (rs.length + 1) := by omega
    show limits i (r :: (rs ++ ts)) = _
    simp only [limits, List.length_cons]
    by_cases h : isLim r = true
    · rw [if_pos h, if_pos h, ih, e]; rfl
    · rw [if_neg h, if_neg h, ih, e]
theorem mem_limits : ∀ (rs : List Row) (i : Nat) (l : Lim), l ∈ limits i rs ↔ ∃ j r, rs[j]? = some r ∧ isLim r = true ∧ l = limOf (i + j) r
  | [], i, l => by simp [limits]
  | r :: rs, i, l => by
    have ih := mem_limits rs (i + 1) l
    have h1 : l ∈ limits i (r :: rs) ↔ (isLim r = true ∧ l = limOf i r) ∨ l ∈ limits (i + 1) rs := by
      simp only [limits]
      by_cases h : isLim r = true
      · rw [if_pos h, List.mem_cons]; simp [h]
      · rw [if_neg h]; simp [h]
    rw [h1, ih]
    constructor
    · rintro (⟨a, b⟩ | ⟨j, s, a, b, e⟩)
      · exact ⟨0, r, rfl, a, b⟩
      · exact ⟨j + 1, s, by simpa using a, b, by rw [e, show i + 1 + j = i + (j + 1) by omega]⟩
    · rintro ⟨j, s, a, b, e⟩
      cases j with
      | zero =>
        left
        have : r = s := by simpa using a
        subst this; exact ⟨b, e⟩
      | succ j => right; exact ⟨j, s, by simpa using a, b, by rw [e, show i + 1 + j = i + (j + 1) by omega]⟩
theorem limits_length : ∀ (rs : List Row) (i : Nat), (limits i rs).length ≤ rs.length
  | [], i => by simp [limits]
  | r :: rs, i => by
    have := limits_length rs (i + 1)
    simp only [limits]
    split
    · simp; omega
    · simp; omega
def canRelate (ls : List Lim) (role : Nat) (p q : List Bool) : Bool := ls.all fun l => !((l.2.1 == role && (gb q l.2.2.1 == l.2.2.2)) && (gb p l.1 != l.2.2.2))
def hasWitness (ls : List Lim) (l : Lim) (p : List Bool) (S : List (List Bool)) : Bool := S.any fun q => gb q l.2.2.1 == l.2.2.2 && canRelate ls l.2.1 p q
def isSupp (ls : List Lim) (p : List Bool) (S : List (List Bool)) : Bool := ls.all fun l => !(gb p l.1 == l.2.2.2 && !hasWitness ls l p S)

theorem mem_lims {D : List C} (hD : D.Nodup) (l : Lim) : l ∈ limits 0 (rowsOf D) ↔ ∃ c ∈ D, (∃ r d, c = .some r d ∧ l = (plc D c, r, plc D d, true)) ∨ (∃ r d, c = .all r d ∧ l = (plc D c, r, plc D d, false)) := by
  rw [mem_limits]
  have key : ∀ j c, D[j]? = some c → plc D c = j := by
    intro j c h
    obtain ⟨hj, e⟩ := List.getElem?_eq_some_iff.mp h
    unfold plc
    subst e
    exact hD.idxOf_getElem j hj
  constructor
  · rintro ⟨j, r, h1, h2, e⟩
    unfold rowsOf at h1
    rw [List.getElem?_map] at h1
    cases q : D[j]? with
    | none => rw [q] at h1; cases h1
    | some c =>
      rw [q] at h1
      have h1 : rowC D c = r := Option.some.inj h1
      have hp := key j c q
      have hm : c ∈ D := List.mem_of_getElem? q
      subst h1
      refine ⟨c, hm, ?_⟩
      rw [Nat.zero_add] at e
      cases c
      case top => exact absurd h2 (by simp [isLim, rowC])
      case bot => exact absurd h2 (by simp [isLim, rowC])
      case name => exact absurd h2 (by simp [isLim, rowC])
      case and => exact absurd h2 (by simp [isLim, rowC])
      case or => exact absurd h2 (by simp [isLim, rowC])
      case not => exact absurd h2 (by simp [isLim, rowC])
      case some r d => left; exact ⟨r, d, rfl, by rw [e, hp]; rfl⟩
      case all r d => right; exact ⟨r, d, rfl, by rw [e, hp]; rfl⟩
  · rintro ⟨c, hm, h⟩
    refine ⟨plc D c, rowC D c, by unfold rowsOf; rw [List.getElem?_map, plc_get hm]; rfl, ?_, ?_⟩
    · rcases h with ⟨r, d, rfl, _⟩ | ⟨r, d, rfl, _⟩ <;> rfl
    · rw [Nat.zero_add]
      rcases h with ⟨r, d, rfl, e⟩ | ⟨r, d, rfl, e⟩ <;> rw [e] <;> rfl

theorem canRelate_iff {D : List C} (hD : D.Nodup) (role : Nat) (p q : List Bool) : canRelate (limits 0 (rowsOf D)) role p q = true ↔ Rel D role p q := by
  unfold canRelate
  rw [List.all_eq_true]
  constructor
  · intro h c hc
    cases c <;> try trivial
    case some s c =>
      intro e hq
      have := h _ ((mem_lims hD _).mpr ⟨_, hc, .inl ⟨s, c, rfl, rfl⟩⟩)
      subst e
      have hq : gb q (plc D c) = true := hq
      show gb p (plc D (.some s c)) = true
      simp [hq] at this
      exact this
    case all s c =>
      intro e hq
      have := h _ ((mem_lims hD _).mpr ⟨_, hc, .inr ⟨s, c, rfl, rfl⟩⟩)
      subst e
      have hq : gb q (plc D c) = false := hq
      show gb p (plc D (.all s c)) = false
      simp [hq] at this
      exact this
  · intro h l hl
    obtain ⟨c, hc, ⟨s, d, rfl, rfl⟩ | ⟨s, d, rfl, rfl⟩⟩ := (mem_lims hD l).mp hl
    · have := h _ hc
      by_cases e : s = role
      · have := this e
        cases hq : gb q (plc D d) with
        | false => simp [hq]
        | true =>
          have : gb p (plc D (.some s d)) = true := this hq
          simp [this]
      · simp [e]
    · have := h _ hc
      by_cases e : s = role
      · have := this e
        cases hq : gb q (plc D d) with
        | true => simp [hq]
        | false =>
          have : gb p (plc D (.all s d)) = false := this hq
          simp [this]
      · simp [e]
theorem isSupp_iff {D : List C} (hD : D.Nodup) (p : List Bool) (S : List (List Bool)) : isSupp (limits 0 (rowsOf D)) p S = true ↔ Has D (· ∈ S) p := by
  unfold isSupp
  rw [List.all_eq_true]
  have wit : ∀ (l : Lim), hasWitness (limits 0 (rowsOf D)) l p S = true ↔ ∃ q ∈ S, gb q l.2.2.1 = l.2.2.2 ∧ Rel D l.2.1 p q := by
    intro l
    unfold hasWitness
    rw [List.any_eq_true]
    constructor
    · rintro ⟨q, hq, h⟩
      rw [Bool.and_eq_true, canRelate_iff hD] at h
      exact ⟨q, hq, by simpa using h.1, h.2⟩
    · rintro ⟨q, hq, h1, h2⟩
      exact ⟨q, hq, by rw [Bool.and_eq_true, canRelate_iff hD]; exact ⟨by simpa using h1, h2⟩⟩
  constructor
  · intro h c hc
    cases c <;> try trivial
    case some s c =>
      intro hp
      have := h _ ((mem_lims hD _).mpr ⟨_, hc, .inl ⟨s, c, rfl, rfl⟩⟩)
      have hp : gb p (plc D (.some s c)) = true := hp
      rw [hp] at this
      have : hasWitness (limits 0 (rowsOf D)) (plc D (.some s c), s, plc D c, true) p S = true := by simpa using this
      obtain ⟨q, h1, h2, h3⟩ := (wit _).mp this
      exact ⟨q, h1, h2, h3⟩
    case all s c =>
      intro hp
      have := h _ ((mem_lims hD _).mpr ⟨_, hc, .inr ⟨s, c, rfl, rfl⟩⟩)
      have hp : gb p (plc D (.all s c)) = false := hp
      rw [hp] at this
      have : hasWitness (limits 0 (rowsOf D)) (plc D (.all s c), s, plc D c, false) p S = true := by simpa using this
      obtain ⟨q, h1, h2, h3⟩ := (wit _).mp this
      exact ⟨q, h1, h2, h3⟩
  · intro h l hl
    obtain ⟨c, hc, ⟨s, d, rfl, rfl⟩ | ⟨s, d, rfl, rfl⟩⟩ := (mem_lims hD l).mp hl
    · have := h _ hc
      show (!(gb p (plc D (.some s d)) == true && !hasWitness _ _ p S)) = true
      cases hp : gb p (plc D (.some s d)) with
      | false => rfl
      | true =>
        obtain ⟨q, h1, h2, h3⟩ := this hp
        rw [(wit (plc D (.some s d), s, plc D d, true)).mpr ⟨q, h1, h2, h3⟩]; rfl
    · have := h _ hc
      show (!(gb p (plc D (.all s d)) == false && !hasWitness _ _ p S)) = true
      cases hp : gb p (plc D (.all s d)) with
      | true => rfl
      | false =>
        obtain ⟨q, h1, h2, h3⟩ := this hp
        rw [(wit (plc D (.all s d), s, plc D d, false)).mpr ⟨q, h1, h2, h3⟩]; rfl
/-- what the search keeps to: L lies in P and holds each set in P that supports itself -/
structure Keeps (ls : List Lim) (P L : List (List Bool)) : Prop where
  sub : L.Sublist P
  all : ∀ S : List Bool → Prop, (∀ p, S p → p ∈ P) → (∀ p T, S p → (∀ q, S q → q ∈ T) → isSupp ls p T = true) → ∀ p, S p → p ∈ L
theorem Keeps.start (ls : List Lim) (P : List (List Bool)) : Keeps ls P P := ⟨List.Sublist.refl _, fun _ h _ p hp => h p hp⟩
theorem Keeps.turn {ls : List Lim} {P L : List (List Bool)} (h : Keeps ls P L) : Keeps ls P (L.filter fun p => isSupp ls p L) :=
  ⟨List.filter_sublist.trans h.sub, fun S h1 h2 p hp => List.mem_filter.mpr ⟨h.all S h1 h2 p hp, h2 p L hp (h.all S h1 h2)⟩⟩
theorem Keeps.last {D : List C} (hD : Nice D) {n m : Nat} {L : List (List Bool)} (h : Keeps (limits 0 (rowsOf D)) (allP (rowsOf D) n m) L) (he : (L.filter fun p => isSupp (limits 0 (rowsOf D)) p L).length = L.length) : Last D ⟨n, m⟩ [] (· ∈ L) := by
  refine last_of (mem_allP hD n m) (fun p hp => h.sub.subset hp) ?_ ?_
  · intro p hp
    have e : L.filter (fun p => isSupp (limits 0 (rowsOf D)) p L) = L := List.filter_sublist.eq_of_length he
    have := List.filter_eq_self.mp e p hp
    exact (isSupp_iff hD.nodup p L).mp this
  · intro S h1 h2 p hp
    exact h.all S h1 (fun p T hp hT => (isSupp_iff hD.nodup p T).mpr ((h2 p hp).mono hT)) p hp
/-- locality as the program tells it -/
def localR (first second : Nat) (L : List (List Bool)) : Bool := L.all fun p => !(gb p first && !gb p second)
theorem localR_iff {D : List C} {n m : Nat} {L : List (List Bool)} (hD : Nice D) (h : Last D ⟨n, m⟩ [] (· ∈ L)) {c d : C} (hc : c ∈ D) (hd : d ∈ D) : localR (plc D c) (plc D d) L = Oc06.quiet ⟨n, m⟩ (c, d) := by
  rw [Bool.eq_iff_iff, quiet_last h hD.kids hc hd]
  unfold localR
  rw [List.all_eq_true]
  constructor
  · rintro q ⟨p, hp, h1, h2⟩
    have := q p hp
    have h1 : gb p (plc D c) = true := h1
    have h2 : gb p (plc D d) = false := h2
    rw [h1, h2] at this; cases this
  · intro q p hp
    cases e1 : gb p (plc D c) with
    | false => rfl
    | true =>
      cases e2 : gb p (plc D d) with
      | true => rfl
      | false => exact absurd ⟨p, hp, e1, e2⟩ q
/-- the rows: heads, marks, inner places -/
structure RowOk (i : Nat) (r : Row) : Prop where
  head : r.1 ≤ 7
  mark : r.2.1 < 4
  fst : 3 ≤ r.1 → r.2.2.1 < i
  snd : r.1 = 3 ∨ r.1 = 4 → r.2.2.2 < i
def RowsOk (rows : List Row) : Prop := ∀ i r, rows[i]? = some r → RowOk i r
theorem rowsOk {D : List C} (hD : Nice D) : (∀ x ∈ D, Fine x) → RowsOk (rowsOf D) := by
  induction hD with
  | nil => intro _ i r h; simp [rowsOf] at h
  | @snoc D c hD hc hk ih =>
    intro hf i r h
    rw [rowsOf_snoc hD hk] at h
    rcases Nat.lt_or_ge i (rowsOf D).length with q | q
    · rw [List.getElem?_append_left q] at h
      exact ih (fun x hx => hf x (by simp [hx])) i r h
    · rw [List.getElem?_append_right q] at h
      have hi : i - (rowsOf D).length = 0 := by
        apply Classical.byContradiction; intro z
        rw [List.getElem?_eq_none (by simp; omega)] at h; cases h
      rw [hi] at h
      have h : rowC D c = r := by simpa using h
      have hlen : i = D.length := by unfold rowsOf at hi q; rw [List.length_map] at hi q; omega
      subst h
      refine ⟨rowC_head D c, rowC_mark D (hf c (by simp)), ?_, ?_⟩
      · intro h3
        rw [hlen]
        cases c <;> simp only [kids, List.mem_cons, List.not_mem_nil, or_false, forall_eq_or_imp, forall_eq] at hk <;> simp only [rowC] at h3 ⊢
        case top => omega
        case bot => omega
        case name => omega
        case and => exact plc_lt hk.1
        case or => exact plc_lt hk.1
        case not => exact plc_lt hk
        case some => exact plc_lt hk
        case all => exact plc_lt hk
      · intro h3
        rw [hlen]
        cases c <;> simp only [kids, List.mem_cons, List.not_mem_nil, or_false, forall_eq_or_imp, forall_eq] at hk <;> simp only [rowC] at h3 ⊢
        case and => exact plc_lt hk.2
        case or => exact plc_lt hk.2
        all_goals omega
theorem allP_len {n m : Nat} : ∀ (rows : List Row) (ps : List (List Bool)) (k : Nat), (∀ p ∈ ps, p.length = k) → ∀ p ∈ rows.foldl (longer n m) ps, p.length = k + rows.length
  | [], ps, k, h, p, hp => h p hp
  | r :: rows, ps, k, h, p, hp => by
    rw [List.foldl_cons] at hp
    have := allP_len rows (longer n m ps r) (k + 1) (by
      intro q hq
      unfold longer at hq
      obtain ⟨u, hu, hq⟩ := List.mem_flatMap.mp hq
      obtain ⟨t, _, rfl⟩ := List.mem_map.mp hq
      simp [h u hu]) p hp
    rw [this, List.length_cons]; omega
end AX
end
section
set_option maxHeartbeats 200000
/-! What a profile needs and serves, as bits; it comes to the same as the search with witnesses. -/
namespace AX
open Oc Oc06
def needsOf (ls : List Lim) (p : List Bool) (r : Nat) : Nat := ls.foldl (fun f l => if l.2.1 = r ∧ gb p l.1 = l.2.2.2 then f ||| 2 ^ l.1 else f) 0
def servesOf (ls : List Lim) (q : List Bool) (r : Nat) : Nat := ls.foldl (fun f l => if l.2.1 = r ∧ gb q l.2.2.1 = l.2.2.2 then f ||| 2 ^ l.1 else f) 0
def servedM (ls : List Lim) (n r : Nat) (S : List (List Bool)) : Nat := S.foldl (fun f q => if servesOf ls q r &&& n = servesOf ls q r then f ||| servesOf ls q r else f) 0
def isSupp2 (ls : List Lim) (p : List Bool) (S : List (List Bool)) : Bool := (servedM ls (needsOf ls p 0) 0 S == needsOf ls p 0) && (servedM ls (needsOf ls p 1) 1 S == needsOf ls p 1)
theorem fold_bits {α : Type} (c : α → Prop) [DecidablePred c] (g : α → Nat) (k : Nat) : ∀ (xs : List α) (f : Nat), (xs.foldl (fun f x => if c x then f ||| g x else f) f).testBit k = true ↔ f.testBit k = true ∨ ∃ x ∈ xs, c x ∧ (g x).testBit k = true
  | [], f => by simp
  | x :: xs, f => by
    rw [List.foldl_cons, fold_bits c g k xs]
    simp only [List.mem_cons, exists_eq_or_imp]
    by_cases h : c x
    · rw [if_pos h]; simp only [Nat.testBit_or, Bool.or_eq_true, h, true_and, or_assoc]
    · rw [if_neg h]; simp only [h, false_and, false_or]
theorem needs_bit (ls : List Lim) (p : List Bool) (r k : Nat) : (needsOf ls p r).testBit k = true ↔ ∃ l ∈ ls, (l.2.1 = r ∧ gb p l.1 = l.2.2.2) ∧ l.1 = k := by
  unfold needsOf
  rw [fold_bits (fun l : Lim => l.2.1 = r ∧ gb p l.1 = l.2.2.2) (fun l => 2 ^ l.1)]
  simp only [Nat.zero_testBit, Bool.false_eq_true, false_or, Nat.testBit_two_pow, decide_eq_true_eq]
theorem serves_bit (ls : List Lim) (q : List Bool) (r k : Nat) : (servesOf ls q r).testBit k = true ↔ ∃ l ∈ ls, (l.2.1 = r ∧ gb q l.2.2.1 = l.2.2.2) ∧ l.1 = k := by
  unfold servesOf
  rw [fold_bits (fun l : Lim => l.2.1 = r ∧ gb q l.2.2.1 = l.2.2.2) (fun l => 2 ^ l.1)]
  simp only [Nat.zero_testBit, Bool.false_eq_true, false_or, Nat.testBit_two_pow, decide_eq_true_eq]
theorem and_self_iff (s n : Nat) : s &&& n = s ↔ ∀ k, s.testBit k = true → n.testBit k = true := by
  constructor
  · intro h k hk
    rw [← h, Nat.testBit_and, Bool.and_eq_true] at hk
    exact hk.2
  · intro h
    apply Nat.eq_of_testBit_eq
    intro k
    rw [Nat.testBit_and]
    cases e : s.testBit k with
    | false => rfl
    | true => rw [h k e]; rfl
/-- no two restrictions at one place -/
def Apart (ls : List Lim) : Prop := ∀ l ∈ ls, ∀ l' ∈ ls, l.1 = l'.1 → l = l'
theorem serves_needs {ls : List Lim} (ha : Apart ls) (p q : List Bool) (r : Nat) : servesOf ls q r &&& needsOf ls p r = servesOf ls q r ↔ canRelate ls r p q = true := by
  rw [and_self_iff]
  unfold canRelate
  rw [List.all_eq_true]
  constructor
  · intro h l hl
    by_cases c1 : l.2.1 = r
    · by_cases c2 : gb q l.2.2.1 = l.2.2.2
      · obtain ⟨l', hl', h1, h2⟩ := (needs_bit ls p r l.1).mp (h l.1 ((serves_bit ls q r l.1).mpr ⟨l, hl, ⟨c1, c2⟩, rfl⟩))
        have e := ha l' hl' l hl h2
        subst e
        simp [h1.2]
      · simp [c2]
    · simp [c1]
  · intro h k hk
    obtain ⟨l, hl, ⟨h1, h2⟩, h3⟩ := (serves_bit ls q r k).mp hk
    refine (needs_bit ls p r k).mpr ⟨l, hl, ⟨h1, ?_⟩, h3⟩
    have := h l hl
    simpa [h1, h2] using this
theorem served_bit (ls : List Lim) (n r : Nat) (S : List (List Bool)) (k : Nat) : (servedM ls n r S).testBit k = true ↔ ∃ q ∈ S, servesOf ls q r &&& n = servesOf ls q r ∧ (servesOf ls q r).testBit k = true := by
  unfold servedM
  rw [fold_bits (fun q : List Bool => servesOf ls q r &&& n = servesOf ls q r) (fun q => servesOf ls q r)]
  simp only [Nat.zero_testBit, Bool.false_eq_true, false_or]
theorem served_is {ls : List Lim} (ha : Apart ls) (p : List Bool) (S : List (List Bool)) (r : Nat) : servedM ls (needsOf ls p r) r S = needsOf ls p r ↔ ∀ l ∈ ls, l.2.1 = r → gb p l.1 = l.2.2.2 → hasWitness ls l p S = true := by
  constructor
  · intro h l hl h1 h2
    have hb := (needs_bit ls p r l.1).mpr ⟨l, hl, ⟨h1, h2⟩, rfl⟩
    rw [← h] at hb
    obtain ⟨q, hq, hs, hk⟩ := (served_bit ls _ r S l.1).mp hb
    obtain ⟨l', hl', ⟨h3, h4⟩, h5⟩ := (serves_bit ls q r l.1).mp hk
    have e := ha l' hl' l hl h5
    subst e
    unfold hasWitness
    rw [List.any_eq_true]
    exact ⟨q, hq, by rw [Bool.and_eq_true]; exact ⟨by simpa using h4, by rw [h1]; exact (serves_needs ha p q r).mp hs⟩⟩
  · intro h
    apply Nat.eq_of_testBit_eq
    intro k
    rw [Bool.eq_iff_iff]
    constructor
    · intro hk
      obtain ⟨q, hq, hs, hk⟩ := (served_bit ls _ r S k).mp hk
      exact (and_self_iff _ _).mp hs k hk
    · intro hk
      obtain ⟨l, hl, ⟨h1, h2⟩, h3⟩ := (needs_bit ls p r k).mp hk
      have hw := h l hl h1 h2
      unfold hasWitness at hw
      rw [List.any_eq_true] at hw
      obtain ⟨q, hq, hw⟩ := hw
      rw [Bool.and_eq_true] at hw
      refine (served_bit ls _ r S k).mpr ⟨q, hq, (serves_needs ha p q r).mpr (by rw [← h1]; exact hw.2), (serves_bit ls q r k).mpr ⟨l, hl, ⟨h1, by simpa using hw.1⟩, h3⟩⟩
theorem isSupp2_is {ls : List Lim} (ha : Apart ls) (hr : ∀ l ∈ ls, l.2.1 < 2) (p : List Bool) (S : List (List Bool)) : isSupp2 ls p S = isSupp ls p S := by
  rw [Bool.eq_iff_iff]
  unfold isSupp2 isSupp
  rw [Bool.and_eq_true, beq_iff_eq, beq_iff_eq, served_is ha, served_is ha, List.all_eq_true]
  constructor
  · rintro ⟨h0, h1⟩ l hl
    by_cases c : gb p l.1 = l.2.2.2
    · have hw : hasWitness ls l p S = true := by
        have := hr l hl
        rcases (show l.2.1 = 0 ∨ l.2.1 = 1 by omega) with e | e
        · exact h0 l hl e c
        · exact h1 l hl e c
      simp [hw]
    · simp [c]
  · intro h
    refine ⟨fun l hl _ c => ?_, fun l hl _ c => ?_⟩
    · have := h l hl; simpa [c] using this
    · have := h l hl; simpa [c] using this
theorem limits_apart (rows : List Row) : Apart (limits 0 rows) := by
  intro l hl l' hl' e
  obtain ⟨j, r, h1, h2, rfl⟩ := (mem_limits rows 0 l).mp hl
  obtain ⟨j', r', h1', h2', rfl⟩ := (mem_limits rows 0 l').mp hl'
  have e : 0 + j = 0 + j' := e
  have e : j = j' := by omega
  subst e
  rw [h1] at h1'
  cases h1'
  rfl
theorem limits_roles {D : List C} (hD : D.Nodup) (hF : ∀ c ∈ D, Fine c) : ∀ l ∈ limits 0 (rowsOf D), l.2.1 < 2 := by
  intro l hl
  obtain ⟨c, hc, ⟨r, d, rfl, rfl⟩ | ⟨r, d, rfl, rfl⟩⟩ := (mem_lims hD l).mp hl
  · exact (hF _ hc).1
  · exact (hF _ hc).1
/-- the bits of needs and serves stay below the number of rows -/
theorem foldl_filter {α : Type} (P : List α) (fs : List (α → Bool)) (p : α) : p ∈ fs.foldl (fun ps f => ps.filter f) P ↔ p ∈ P ∧ ∀ f ∈ fs, f p = true := by
  induction fs generalizing P with
  | nil => simp
  | cons f fs ih =>
    rw [List.foldl_cons, ih, List.mem_filter]
    simp only [List.mem_cons, forall_eq_or_imp, and_assoc]
def keepsB (i j : Nat) (p : List Bool) : Bool := gb p j || !gb p i
/-- the profiles that keep to the axioms -/
def heldP (D : List C) (axs : List Axiom) (P : List (List Bool)) : List (List Bool) := axs.foldl (fun ps a => ps.filter (keepsB (plc D a.1) (plc D a.2))) P
theorem mem_heldP (D : List C) (p : List Bool) : ∀ (axs : List Axiom) (P : List (List Bool)), p ∈ heldP D axs P ↔ p ∈ P ∧ ∀ a ∈ axs, at_ D p a.1 = true → at_ D p a.2 = true
  | [], P => by simp [heldP]
  | a :: axs, P => by
    show p ∈ heldP D axs (P.filter (keepsB (plc D a.1) (plc D a.2))) ↔ _
    rw [mem_heldP D p axs, List.mem_filter]
    simp only [List.mem_cons, forall_eq_or_imp, and_assoc]
    refine and_congr Iff.rfl (and_congr ?_ Iff.rfl)
    show (gb p (plc D a.2) || !gb p (plc D a.1)) = true ↔ (gb p (plc D a.1) = true → gb p (plc D a.2) = true)
    cases gb p (plc D a.1) <;> cases gb p (plc D a.2) <;> simp
theorem held_fst {D : List C} (hD : Nice D) {n m : Nat} (axs : List Axiom) (p : List Bool) : p ∈ heldP D axs (allP (rowsOf D) n m) ↔ Fst D ⟨n, m⟩ axs p := by
  rw [mem_heldP, mem_allP hD]
  exact ⟨fun h => ⟨h.1.len, h.1.own, h.2⟩, fun h => ⟨⟨h.len, h.own, by simp⟩, h.ax⟩⟩
theorem heldP_sub (D : List C) : ∀ (axs : List Axiom) (P : List (List Bool)), (heldP D axs P).Sublist P
  | [], P => List.Sublist.refl _
  | a :: axs, P => (heldP_sub D axs _).trans List.filter_sublist
theorem heldP_more {D : List C} {axs : List Axiom} {i : Nat} {a : Axiom} (P : List (List Bool)) (h : axs[i]? = some a) : heldP D (axs.take (i + 1)) P = (heldP D (axs.take i) P).filter (keepsB (plc D a.1) (plc D a.2)) := by
  have e : axs.take (i + 1) = axs.take i ++ [a] := by
    obtain ⟨hi, e⟩ := List.getElem?_eq_some_iff.mp h
    rw [← e]; simp
  rw [e]
  unfold heldP
  rw [List.foldl_append]; rfl
theorem Keeps.lastA {D : List C} (hD : Nice D) {n m : Nat} {axs : List Axiom} {L : List (List Bool)} (h : Keeps (limits 0 (rowsOf D)) (heldP D axs (allP (rowsOf D) n m)) L) (he : (L.filter fun p => isSupp (limits 0 (rowsOf D)) p L).length = L.length) : Last D ⟨n, m⟩ axs (· ∈ L) := by
  refine last_of (held_fst hD axs) (fun p hp => h.sub.subset hp) ?_ ?_
  · intro p hp
    have e : L.filter (fun p => isSupp (limits 0 (rowsOf D)) p L) = L := List.filter_sublist.eq_of_length he
    have := List.filter_eq_self.mp e p hp
    exact (isSupp_iff hD.nodup p L).mp this
  · intro S h1 h2 p hp
    exact h.all S h1 (fun p T hp hT => (isSupp_iff hD.nodup p T).mpr ((h2 p hp).mono hT)) p hp
/-- all keep the pair, as the program tells it -/
theorem all_keep {D : List C} {L : List (List Bool)} {c d : C} : (L.filter (keepsB (plc D c) (plc D d))).length = L.length ↔ ¬ ∃ p, p ∈ L ∧ at_ D p c = true ∧ at_ D p d = false := by
  rw [List.length_filter_eq_length_iff]
  constructor
  · rintro h ⟨p, hp, h1, h2⟩
    have := h p hp
    have h1 : gb p (plc D c) = true := h1
    have h2 : gb p (plc D d) = false := h2
    unfold keepsB at this
    rw [h1, h2] at this; cases this
  · intro h p hp
    unfold keepsB
    cases e1 : gb p (plc D d) with
    | true => rfl
    | false =>
      cases e2 : gb p (plc D c) with
      | false => rfl
      | true => exact absurd ⟨p, hp, e2, e1⟩ h
end AX
end
section
set_option maxHeartbeats 200000
/-! Concepts read together; the rounds of a module. -/
namespace AX
open Oc Oc06
theorem syms_acc : ∀ (n : Nat) (l : List Nat), l.length < n → ∀ (m : Nat) (acc : List (Nat × Nat)), syms l m acc = (syms l m []).map fun ys => acc ++ ys
  | 0, l, h => by omega
  | n + 1, [], _ => fun m acc => by
    simp only [syms]
    split <;> simp
  | n + 1, h :: r, hl => fun m acc => by
    have hr : r.length < n := by simp at hl; omega
    rw [syms_cons, syms_cons]
    by_cases c : m = 0 ∨ 7 < h
    · rw [if_pos c, if_pos c]; rfl
    · rw [if_neg c, if_neg c]
      by_cases c2 : 0 < marks h
      · rw [if_pos c2, if_pos c2]
        cases r with
        | nil => rfl
        | cons k r =>
          simp only
          by_cases c3 : marks h ≤ k
          · rw [if_pos c3, if_pos c3]; rfl
          · rw [if_neg c3, if_neg c3]
            have hr2 : r.length < n := by simp at hr; omega
            rw [syms_acc n r hr2 _ (acc ++ [(h, k)]), syms_acc n r hr2 _ ([] ++ [(h, k)])]
            cases syms r (m - 1 + inner h) [] <;> simp
      · rw [if_neg c2, if_neg c2, syms_acc n r hr _ (acc ++ [(h, 0)]), syms_acc n r hr _ ([] ++ [(h, 0)])]
        cases syms r (m - 1 + inner h) [] <;> simp
theorem syms_app : ∀ (n : Nat) (l : List Nat), l.length < n → ∀ (m : Nat) (acc ys : List (Nat × Nat)) (r : List Nat) (m2 : Nat), syms l m acc = some ys → syms (l ++ r) (m + m2) acc = syms r m2 ys
  | 0, l, h => by omega
  | n + 1, [], _ => fun m acc ys r m2 h => by
    simp only [syms] at h
    split at h
    · cases h
    · rename_i hm
      cases h
      have : m = 0 := by omega
      subst this
      simp
  | n + 1, h :: t, hl => fun m acc ys r m2 e => by
    have ht : t.length < n := by simp at hl; omega
    rw [syms_cons] at e
    rw [List.cons_append, syms_cons]
    by_cases c : m = 0 ∨ 7 < h
    · rw [if_pos c] at e; cases e
    · rw [if_neg c] at e
      have hm : m ≠ 0 := fun z => c (.inl z)
      rw [if_neg (show ¬ (m + m2 = 0 ∨ 7 < h) from fun z => z.elim (fun z => by omega) (fun z => c (.inr z)))]
      have em : m + m2 - 1 + inner h = (m - 1 + inner h) + m2 := by omega
      by_cases c2 : 0 < marks h
      · rw [if_pos c2] at e ⊢
        cases t with
        | nil => cases e
        | cons k t =>
          simp only [List.cons_append] at e ⊢
          by_cases c3 : marks h ≤ k
          · rw [if_pos c3] at e; cases e
          · rw [if_neg c3] at e ⊢
            rw [em]
            exact syms_app n t (by simp at ht; omega) _ _ ys r m2 e
      · rw [if_neg c2] at e ⊢
        rw [em]
        exact syms_app n t ht _ _ ys r m2 e
theorem syms_put {l r : List Nat} {m m2 : Nat} {ys zs : List (Nat × Nat)} (h1 : syms l m [] = some ys) (h2 : syms r m2 [] = some zs) : syms (l ++ r) (m + m2) [] = some (ys ++ zs) := by
  rw [syms_app _ l (Nat.lt_succ_self _) m [] ys r m2 h1, syms_acc _ r (Nat.lt_succ_self _), h2]; rfl

/-! signatures -/
theorem within_of {D : List C} {w : Words} (hk : ∀ c ∈ D, ∀ k ∈ kids c, k ∈ D) (hn : ∀ a, C.name a ∈ D → has w.names a = true) (hr : ∀ r c, C.some r c ∈ D ∨ C.all r c ∈ D → has w.roles r = true) : ∀ c : C, c ∈ D → Within w c
  | .top, _ => trivial
  | .bot, _ => trivial
  | .name a, h => hn a h
  | .and c d, h => ⟨within_of hk hn hr c (hk _ h c (by simp [kids])), within_of hk hn hr d (hk _ h d (by simp [kids]))⟩
  | .or c d, h => ⟨within_of hk hn hr c (hk _ h c (by simp [kids])), within_of hk hn hr d (hk _ h d (by simp [kids]))⟩
  | .not c, h => within_of hk hn hr c (hk _ h c (by simp [kids]))
  | .some r c, h => ⟨hr r c (.inl h), within_of hk hn hr c (hk _ h c (by simp [kids]))⟩
  | .all r c, h => ⟨hr r c (.inr h), within_of hk hn hr c (hk _ h c (by simp [kids]))⟩
theorem within_all (cs : List C) : ∀ c ∈ subsAll cs [], Within (wordsAll cs ⟨0, 0⟩) c := by
  have hN := subsAll_nice cs [] .nil
  refine fun c hc => within_of hN.kids ?_ ?_ c hc
  · intro a ha
    unfold has; rw [bit_eq, names_all]
    rcases (mem_subsAll_atom rfl cs []).mp ha with h | h
    · simp at h
    · exact .inr h
  · intro r c h
    unfold has; rw [bit_eq, roles_all]
    rcases h with h | h
    · rcases (mem_subsAll_atom rfl cs []).mp h with h | ⟨e, he, h⟩
      · simp at h
      · exact .inr ⟨e, he, c, .inl h⟩
    · rcases (mem_subsAll_atom rfl cs []).mp h with h | ⟨e, he, h⟩
      · simp at h
      · exact .inr ⟨e, he, c, .inr h⟩
theorem ofAxiom_names (a : Axiom) (w : Words) : (ofAxiom a w).names = w.names ||| (wordsAll [a.1, a.2] ⟨0, 0⟩).names := by
  apply Nat.eq_of_testBit_eq
  intro k
  rw [Bool.eq_iff_iff, Nat.testBit_or, Bool.or_eq_true, names_all]
  show (wordsOf a.2 (wordsOf a.1 w)).names.testBit k = true ↔ _
  rw [names_words, names_words]
  simp [or_assoc]
theorem ofAxiom_roles (a : Axiom) (w : Words) : (ofAxiom a w).roles = w.roles ||| (wordsAll [a.1, a.2] ⟨0, 0⟩).roles := by
  apply Nat.eq_of_testBit_eq
  intro k
  rw [Bool.eq_iff_iff, Nat.testBit_or, Bool.or_eq_true, roles_all]
  show (wordsOf a.2 (wordsOf a.1 w)).roles.testBit k = true ↔ _
  rw [roles_words, roles_words]
  simp [or_assoc]
theorem marks_lt (heads : List Nat) {rows : List Row} (h : ∀ r ∈ rows, r.2.1 < 4) : rows.foldl (fun f r => if r.1 ∈ heads then f ||| 2 ^ r.2.1 else f) 0 < 16 := by
  show _ < 2 ^ 4
  apply Nat.lt_pow_two_of_testBit
  intro i hi
  rw [← Bool.not_eq_true, marks_bits]
  simp only [Nat.zero_testBit, Bool.false_eq_true, false_or]
  rintro ⟨r, hr, _, e⟩
  have := h r hr
  omega
theorem words_lt {a : Axiom} (h1 : Fine a.1) (h2 : Fine a.2) : (wordsAll [a.1, a.2] ⟨0, 0⟩).names < 16 ∧ (wordsAll [a.1, a.2] ⟨0, 0⟩).roles < 16 := by
  have hm : ∀ r ∈ rowsOf (subsAll [a.1, a.2] []), r.2.1 < 4 := rows_mark (subsAll_fine [a.1, a.2] [] (by
    intro c hc
    simp only [List.mem_cons, List.not_mem_nil, or_false] at hc
    rcases hc with rfl | rfl
    · exact h1
    · exact h2) (by simp))
  rw [← rows_names, ← rows_roles]
  exact ⟨marks_lt _ hm, marks_lt _ hm⟩
theorem or_lt16 {a b : Nat} (ha : a < 16) (hb : b < 16) : a ||| b < 16 := Nat.or_lt_two_pow (n := 4) ha hb

/-! the rounds -/
def isNew (ax : List Axiom) (l : List Nat) (w : Words) (i : Nat) : Bool := !l.contains i && match ax[i]? with
  | some a => !quiet w a
  | none => false
def newIn (ax : List Axiom) (l : List Nat) (w : Words) : List Nat := (List.range ax.length).filter (isNew ax l w)
def addW (ax : List Axiom) (new : List Nat) (w : Words) : Words := new.foldl (fun v i => match ax[i]? with
  | some a => ofAxiom a v
  | none => v) w
theorem grow_succ (ax : List Axiom) (n : Nat) (l : List Nat) (w : Words) : grow ax (n + 1) l w = if (newIn ax l w).isEmpty = true then (l, w) else grow ax n (l ++ newIn ax l w) (addW ax (newIn ax l w) w) := rfl
structure GrowAt (ax : List Axiom) (w0 : Words) (l : List Nat) (w : Words) (k : Nat) : Prop where
  eq : grow ax (ax.length + 1) [] w0 = grow ax k l w
  nd : l.Nodup
  lt : ∀ i ∈ l, i < ax.length
  room : ax.length + 1 ≤ l.length + k
theorem GrowAt.start (ax : List Axiom) (w : Words) : GrowAt ax w [] w (ax.length + 1) := ⟨rfl, by simp, by simp, by simp⟩
theorem GrowAt.len {ax : List Axiom} {w0 w : Words} {l : List Nat} {k : Nat} (h : GrowAt ax w0 l w k) : l.length ≤ ax.length := by
  have := len_le l (List.range ax.length) h.nd (fun x hx => List.mem_range.mpr (h.lt x hx))
  simpa using this
theorem mem_newIn {ax : List Axiom} {l : List Nat} {w : Words} {i : Nat} (h : i ∈ newIn ax l w) : i < ax.length ∧ i ∉ l := by
  unfold newIn at h
  obtain ⟨h1, h2⟩ := List.mem_filter.mp h
  unfold isNew at h2
  rw [Bool.and_eq_true] at h2
  exact ⟨List.mem_range.mp h1, by simpa using h2.1⟩
theorem newIn_nodup (ax : List Axiom) (l : List Nat) (w : Words) : (newIn ax l w).Nodup := List.nodup_range.filter _
theorem GrowAt.stop {ax : List Axiom} {w0 w : Words} {l : List Nat} {k : Nat} (h : GrowAt ax w0 l w k) (e : newIn ax l w = []) : part ax w0 = ((List.range ax.length).filter l.contains, w) := by
  have hl := h.len
  have hr := h.room
  obtain ⟨j, rfl⟩ : ∃ j, k = j + 1 := ⟨k - 1, by omega⟩
  have e2 : grow ax (ax.length + 1) [] w0 = (l, w) := by
    rw [h.eq, grow_succ, e]; rfl
  unfold part
  rw [e2]
theorem GrowAt.turn {ax : List Axiom} {w0 w : Words} {l : List Nat} {k : Nat} (h : GrowAt ax w0 l w k) (e : newIn ax l w ≠ []) : ∃ j, j < k ∧ GrowAt ax w0 (l ++ newIn ax l w) (addW ax (newIn ax l w) w) j := by
  have hl := h.len
  have hr := h.room
  obtain ⟨j, rfl⟩ : ∃ j, k = j + 1 := ⟨k - 1, by omega⟩
  have hne : ¬ (newIn ax l w).isEmpty = true := by simpa using e
  have hp : 0 < (newIn ax l w).length := List.length_pos_iff.mpr e
  refine ⟨j, by omega, ?_, ?_, ?_, ?_⟩
  · rw [h.eq, grow_succ, if_neg hne]
  · rw [List.nodup_append]
    refine ⟨h.nd, newIn_nodup ax l w, ?_⟩
    intro a ha b hb e
    subst e
    exact (mem_newIn hb).2 ha
  · intro i hi
    rcases List.mem_append.mp hi with hi | hi
    · exact h.lt i hi
    · exact (mem_newIn hi).1
  · rw [List.length_append]; omega
theorem part_length (ax : List Axiom) (w : Words) : (part ax w).1.length ≤ ax.length := by
  unfold part
  refine Nat.le_trans (List.length_filter_le _ _) ?_
  simp
theorem part_lt (ax : List Axiom) (w : Words) : ∀ i ∈ (part ax w).1, i < ax.length := by
  intro i hi
  exact List.mem_range.mp (List.mem_filter.mp hi).1
/-- sorted rows of whole numbers with the same members are the same -/
theorem sorted_ext : ∀ (l m : List Int), l.Pairwise (· < ·) → m.Pairwise (· < ·) → (∀ x, x ∈ l ↔ x ∈ m) → l = m
  | [], [], _, _, _ => rfl
  | [], b :: m, _, _, h => by have := (h b).mpr (by simp); simp at this
  | a :: l, [], _, _, h => by have := (h a).mp (by simp); simp at this
  | a :: l, b :: m, hl, hm, h => by
    rw [List.pairwise_cons] at hl hm
    have e : a = b := by
      have h1 := (h a).mp (by simp)
      have h2 := (h b).mpr (by simp)
      rcases List.mem_cons.mp h1 with h1 | h1
      · exact h1
      · rcases List.mem_cons.mp h2 with h2 | h2
        · exact h2.symm
        · have := hm.1 a h1; have := hl.1 b h2; omega
    subst e
    congr 1
    refine sorted_ext l m hl.2 hm.2 fun x => ?_
    constructor
    · intro hx
      have h1 := (h x).mp (by simp [hx])
      rcases List.mem_cons.mp h1 with e | h1
      · have := hl.1 x hx; omega
      · exact h1
    · intro hx
      have h1 := (h x).mpr (by simp [hx])
      rcases List.mem_cons.mp h1 with e | h1
      · have := hm.1 x hx; omega
      · exact h1
theorem sorted_part {n : Nat} {l : List Nat} {ns : List Int} (hd : l.Nodup) (hl : ∀ i ∈ l, i < n) (hp : ns.Perm (l.map fun i : Nat => (i : Int))) (hs : ns.Pairwise (· ≤ ·)) : ns = ((List.range n).filter l.contains).map fun i : Nat => (i : Int) := by
  have hnd : ns.Nodup := by
    refine hp.nodup_iff.mpr ?_
    unfold List.Nodup
    rw [List.pairwise_map]
    exact List.Pairwise.imp (fun {a b} h e => h (by omega)) hd
  refine sorted_ext _ _ ?_ ?_ ?_
  · have h2 := List.Pairwise.and hs hnd
    exact List.Pairwise.imp (fun {a b} h => by have h1 := h.1; have h2 : a ≠ b := h.2; omega) h2
  · rw [List.pairwise_map]
    refine List.Pairwise.imp (R := fun a b : Nat => a < b) (fun {a b} h => by omega) ?_
    exact List.pairwise_lt_range.filter _
  · intro x
    rw [hp.mem_iff]
    simp only [List.mem_map, List.mem_filter, List.mem_range, List.contains_iff_mem]
    constructor
    · rintro ⟨i, hi, rfl⟩; exact ⟨i, ⟨hl i hi, hi⟩, rfl⟩
    · rintro ⟨i, ⟨_, hi⟩, rfl⟩; exact ⟨i, hi, rfl⟩
/-- the tops of axioms and two concepts -/
def csOf (axs : List Axiom) : List C := axs.flatMap fun a => [a.1, a.2]
theorem csOf_length (axs : List Axiom) : (csOf axs).length = 2 * axs.length := by
  induction axs with
  | nil => rfl
  | cons a l ih => show (csOf l).length + 1 + 1 = _; rw [ih, List.length_cons]; omega
theorem csOf_at {axs : List Axiom} {i : Nat} {a : Axiom} (cs : List C) (h : axs[i]? = some a) : (csOf axs ++ cs)[2 * i]? = some a.1 ∧ (csOf axs ++ cs)[2 * i + 1]? = some a.2 := by
  induction axs generalizing i with
  | nil => simp at h
  | cons b l ih =>
    cases i with
    | zero =>
      have h : b = a := by simpa using h
      subst h; exact ⟨rfl, rfl⟩
    | succ i =>
      have h : l[i]? = some a := by simpa using h
      obtain ⟨h1, h2⟩ := ih h
      have e : csOf (b :: l) ++ cs = b.1 :: b.2 :: (csOf l ++ cs) := rfl
      rw [e, show 2 * (i + 1) = 2 * i + 1 + 1 by omega]
      exact ⟨h1, h2⟩
theorem csOf_snoc (axs : List Axiom) (a : Axiom) : csOf (axs ++ [a]) = csOf axs ++ [a.1, a.2] := by
  unfold csOf; rw [List.flatMap_append]; rfl
end AX
end
section
set_option maxHeartbeats 200000
/-! The calls of a request, one behind another. -/
namespace AX
open Oc06
def intsOf (l : List Nat) : List Int := l.map fun n : Nat => (n : Int)
def rawOf : Call → List (List Int)
  | .begins => [[0]]
  | .line l => [[1], intsOf l]
  | .drop i => [[2, (i : Int)]]
  | .words l => [[3], intsOf l]
  | .quiet i n r => [[4, (i : Int), (n : Int), (r : Int)]]
  | .part n r => [[5, (n : Int), (r : Int)]]
  | .under l => [[6], intsOf l]
  | .by_ l => [[7], intsOf l]
  | .parts => [[8]]
def InCall : Call → Prop
  | .line l => l.length ≤ 30
  | .drop i => i < 2 ^ 32
  | .words l => l.length ≤ 30
  | .quiet i n r => i < 2 ^ 32 ∧ n < 2 ^ 32 ∧ r < 2 ^ 32
  | .part n r => n < 2 ^ 32 ∧ r < 2 ^ 32
  | .under l => l.length ≤ 30
  | .by_ l => l.length ≤ 30
  | _ => True
theorem intsOf_nat {l : List Int} (h : ∀ z ∈ l, 0 ≤ z) : intsOf (l.map Int.toNat) = l := by
  unfold intsOf
  rw [List.map_map]
  conv => rhs; rw [← List.map_id l]
  refine List.map_congr_left fun z hz => ?_
  have := h z hz
  show ((z.toNat : Nat) : Int) = z
  omega
theorem row32_nat {l : List Int} (h : Oc06Neutral.row32 l 30 = true) : ∃ ns : List Nat, l = intsOf ns ∧ ns.length ≤ 30 := by
  unfold Oc06Neutral.row32 at h
  rw [Bool.and_eq_true, List.all_eq_true] at h
  refine ⟨l.map Int.toNat, (intsOf_nat fun z hz => ?_).symm, by simpa using h.1⟩
  have := h.2 z hz
  unfold Oc06Neutral.whole32 at this
  simp at this
  exact this.1
theorem whole32_nat {z : Int} (h : Oc06Neutral.whole32 z = true) : ∃ n : Nat, z = (n : Int) ∧ n < 2 ^ 32 := by
  unfold Oc06Neutral.whole32 at h
  simp at h
  exact ⟨z.toNat, by omega, by omega⟩
theorem len0 {α : Type} {a : List α} (h : a.length = 0) : a = [] := List.length_eq_zero_iff.mp h
theorem len1 {α : Type} {a : List α} (h : a.length = 1) : ∃ x, a = [x] := by
  match a, h with
  | [x], _ => exact ⟨x, rfl⟩
theorem len2 {α : Type} {a : List α} (h : a.length = 2) : ∃ x y, a = [x, y] := by
  match a, h with
  | [x, y], _ => exact ⟨x, y, rfl⟩
theorem len3 {α : Type} {a : List α} (h : a.length = 3) : ∃ x y z, a = [x, y, z] := by
  match a, h with
  | [x, y, z], _ => exact ⟨x, y, z, rfl⟩
theorem whole_id (c : List (List Int)) : PyOc06.whole c = c := by
  unfold PyOc06.whole; split <;> rfl
theorem pair_some {a b c d : Nat} (h : some (a, b) = some (c, d)) : c = a ∧ d = b := by
  injection h with h; injection h with h1 h2; exact ⟨h1.symm, h2.symm⟩
theorem call_of {c : List (List Int)} (h : PyFlat.okCall PyOc06.shape c) (q : Oc06Neutral.asked1 c = true) : ∃ x : Call, c = rawOf x ∧ InCall x := by
  obtain ⟨p, a, xs, rfl, hs⟩ := h
  unfold PyOc06.shape at hs
  by_cases c0 : p = 0
  · rw [if_pos c0] at hs; obtain ⟨e1, e2⟩ := pair_some hs; subst c0; rw [len0 e1, len0 e2]
    exact ⟨.begins, rfl, trivial⟩
  rw [if_neg c0] at hs
  by_cases c1 : p = 1
  · rw [if_pos c1] at hs; obtain ⟨e1, e2⟩ := pair_some hs; subst c1; obtain rfl := len0 e1; obtain ⟨l, rfl⟩ := len1 e2
    obtain ⟨ns, rfl, hn⟩ := row32_nat (l := l) q
    exact ⟨.line ns, rfl, hn⟩
  rw [if_neg c1] at hs
  by_cases c2 : p = 2
  · rw [if_pos c2] at hs; obtain ⟨e1, e2⟩ := pair_some hs; subst c2; obtain ⟨i, rfl⟩ := len1 e1; obtain rfl := len0 e2
    obtain ⟨n, rfl, hn⟩ := whole32_nat (z := i) q
    exact ⟨.drop n, rfl, hn⟩
  rw [if_neg c2] at hs
  by_cases c3 : p = 3
  · rw [if_pos c3] at hs; obtain ⟨e1, e2⟩ := pair_some hs; subst c3; obtain rfl := len0 e1; obtain ⟨l, rfl⟩ := len1 e2
    obtain ⟨ns, rfl, hn⟩ := row32_nat (l := l) q
    exact ⟨.words ns, rfl, hn⟩
  rw [if_neg c3] at hs
  by_cases c4 : p = 4
  · rw [if_pos c4] at hs; obtain ⟨e1, e2⟩ := pair_some hs; subst c4; obtain ⟨i, n, r, rfl⟩ := len3 e1; obtain rfl := len0 e2
    have q : (Oc06Neutral.whole32 i && (Oc06Neutral.whole32 n && Oc06Neutral.whole32 r)) = true := q
    rw [Bool.and_eq_true, Bool.and_eq_true] at q
    obtain ⟨i, rfl, hi⟩ := whole32_nat q.1
    obtain ⟨n, rfl, hn⟩ := whole32_nat q.2.1
    obtain ⟨r, rfl, hr⟩ := whole32_nat q.2.2
    exact ⟨.quiet i n r, rfl, hi, hn, hr⟩
  rw [if_neg c4] at hs
  by_cases c5 : p = 5
  · rw [if_pos c5] at hs; obtain ⟨e1, e2⟩ := pair_some hs; subst c5; obtain ⟨n, r, rfl⟩ := len2 e1; obtain rfl := len0 e2
    have q : (Oc06Neutral.whole32 n && Oc06Neutral.whole32 r) = true := q
    rw [Bool.and_eq_true] at q
    obtain ⟨n, rfl, hn⟩ := whole32_nat q.1
    obtain ⟨r, rfl, hr⟩ := whole32_nat q.2
    exact ⟨.part n r, rfl, hn, hr⟩
  rw [if_neg c5] at hs
  by_cases c6 : p = 6
  · rw [if_pos c6] at hs; obtain ⟨e1, e2⟩ := pair_some hs; subst c6; obtain rfl := len0 e1; obtain ⟨l, rfl⟩ := len1 e2
    obtain ⟨ns, rfl, hn⟩ := row32_nat (l := l) q
    exact ⟨.under ns, rfl, hn⟩
  rw [if_neg c6] at hs
  by_cases c7 : p = 7
  · rw [if_pos c7] at hs; obtain ⟨e1, e2⟩ := pair_some hs; subst c7; obtain rfl := len0 e1; obtain ⟨l, rfl⟩ := len1 e2
    obtain ⟨ns, rfl, hn⟩ := row32_nat (l := l) q
    exact ⟨.by_ ns, rfl, hn⟩
  rw [if_neg c7] at hs
  by_cases c8 : p = 8
  · rw [if_pos c8] at hs; obtain ⟨e1, e2⟩ := pair_some hs; subst c8; rw [len0 e1, len0 e2]
    exact ⟨.parts, rfl, trivial⟩
  rw [if_neg c8] at hs
  cases hs
theorem nats_intsOf (l : List Nat) : Oc06Neutral.nats (intsOf l) = l := by
  unfold Oc06Neutral.nats intsOf
  rw [List.map_map]
  conv => rhs; rw [← List.map_id l]
  exact List.map_congr_left fun n _ => Int.toNat_natCast n
theorem step_raw (s : House) (c : Call) : Oc06Neutral.step s (rawOf c) = ((Oc06.step s c).1, Oc06Neutral.out (Oc06.step s c).2) := by
  have h : Oc06Neutral.callOf (rawOf c) = some c := by
    cases c <;> simp [rawOf, Oc06Neutral.callOf, nats_intsOf]
  unfold Oc06Neutral.step
  rw [h]
/-- the answers, call by call -/
def outs : House → List Call → List (List Int)
  | _, [] => []
  | s, c :: r => Oc06Neutral.out (Oc06.step s c).2 :: outs (Oc06.step s c).1 r
def after (s : House) (cs : List Call) : House := cs.foldl (fun s c => (Oc06.step s c).1) s
theorem played_outs : ∀ (cs : List Call) (s : House), PyFlat.played Oc06Neutral.step s (cs.map rawOf) = outs s cs
  | [], _ => rfl
  | c :: r, s => by
    show (Oc06Neutral.step s (rawOf c)).2 :: PyFlat.played Oc06Neutral.step (Oc06Neutral.step s (rawOf c)).1 (r.map rawOf) = _
    rw [step_raw, played_outs r]; rfl
theorem outs_more {cs : List Call} {c : Call} {i : Nat} (s : House) (h : cs[i]? = some c) : outs s (cs.take (i + 1)) = outs s (cs.take i) ++ [Oc06Neutral.out (Oc06.step (after s (cs.take i)) c).2] := by
  induction cs generalizing s i with
  | nil => simp at h
  | cons d cs ih =>
    cases i with
    | zero =>
      have h : d = c := by simpa using h
      subst h; rfl
    | succ i =>
      have h : cs[i]? = some c := by simpa using h
      show _ :: outs _ (cs.take (i + 1)) = _ :: outs _ (cs.take i) ++ _
      rw [ih _ h]; rfl
theorem take_snoc {α : Type} : ∀ {l : List α} {i : Nat} {x : α}, l[i]? = some x → l.take (i + 1) = l.take i ++ [x]
  | [], i, x, h => by simp at h
  | a :: l, 0, x, h => by
    have e : a = x := Option.some.inj h
    subst e
    rfl
  | a :: l, i + 1, x, h => by
    have ih := take_snoc (l := l) (i := i) (x := x) h
    show a :: l.take (i + 1) = a :: l.take i ++ [x]
    rw [ih]
    rfl
theorem after_more {cs : List Call} {c : Call} {i : Nat} (s : House) (h : cs[i]? = some c) : after s (cs.take (i + 1)) = (Oc06.step (after s (cs.take i)) c).1 := by
  unfold after
  rw [take_snoc h, List.foldl_append]; rfl
def enc (c : Call) : List Int := PyFlat.put1 (rawOf c)
def encs (cs : List Call) : List Int := cs.flatMap enc
theorem put_map (cs : List Call) : PyFlat.put (cs.map rawOf) = encs cs := by
  induction cs with
  | nil => rfl
  | cons c cs ih =>
    show PyFlat.put1 (rawOf c) ++ PyFlat.put (cs.map rawOf) = _
    rw [ih]; rfl
theorem many_outs : ∀ (cs : List Call) (s : House), Oc06Neutral.many s (cs.map rawOf) = ((outs s cs).map List.length).sum
  | [], _ => rfl
  | c :: r, s => by
    show (Oc06Neutral.step s (rawOf c)).2.length + Oc06Neutral.many (Oc06Neutral.step s (rawOf c)).1 (r.map rawOf) = _
    rw [step_raw, many_outs r]; rfl
theorem told_length (l : List (List Int)) : (PyFlat.told l).length = l.length + (l.map List.length).sum := by
  induction l with
  | nil => rfl
  | cons a l ih =>
    have : PyFlat.told (a :: l) = ((a.length : Int) :: a) ++ PyFlat.told l := rfl
    rw [this, List.length_append, ih, List.map_cons, List.sum_cons, List.length_cons, List.length_cons]; omega
theorem outs_length : ∀ (cs : List Call) (s : House), (outs s cs).length = cs.length
  | [], _ => rfl
  | c :: r, s => by show (outs _ r).length + 1 = _; rw [outs_length r]; rfl
theorem asked_calls {l : List Int} (h : PyOc06.answers_asked l = true) : ∃ cs : List Call, l = encs cs ∧ (∀ c ∈ cs, InCall c) ∧ cs.length ≤ 60 ∧ PyOc06.answers l = PyFlat.told (outs init cs) ∧ ((outs init cs).map List.length).sum ≤ 1000000 := by
  unfold PyOc06.answers_asked at h
  cases e : PyFlat.calls PyOc06.shape l.length l with
  | none => rw [e] at h; cases h
  | some raw =>
    rw [e] at h
    have ew : raw.map PyOc06.whole = raw := by
      conv => rhs; rw [← List.map_id raw]
      exact List.map_congr_left fun c _ => whole_id c
    rw [Bool.and_eq_true, Bool.and_eq_true, ew] at h
    have ha := h.1.2
    unfold Oc06Neutral.asked at ha
    simp only [Bool.and_eq_true, decide_eq_true_eq, List.all_eq_true] at ha
    obtain ⟨hl, ho⟩ := PyFlat.put_calls _ _ _ e
    have hx : ∃ cs : List Call, raw = cs.map rawOf ∧ ∀ c ∈ cs, InCall c := by
      have h1 := ha.1
      clear h ha e ew hl
      induction raw with
      | nil => exact ⟨[], rfl, by simp⟩
      | cons c raw ih =>
        obtain ⟨cs, e1, e2⟩ := ih (fun d hd => ho d (by simp [hd])) (fun d hd => h1 d (by simp [hd]))
        obtain ⟨x, e3, e4⟩ := call_of (ho c (by simp)) (h1 c (by simp))
        refine ⟨x :: cs, by rw [e3, e1]; rfl, fun d hd => ?_⟩
        rcases List.mem_cons.mp hd with rfl | hd
        · exact e4
        · exact e2 d hd
    obtain ⟨cs, e1, e2⟩ := hx
    subst e1
    refine ⟨cs, by rw [hl, put_map], e2, by simpa using ha.2.2.1.1, ?_, ?_⟩
    · have hc : PyOc06.calls l = some (cs.map rawOf) := by unfold PyOc06.calls; rw [e]; show some _ = _; rw [ew]
      unfold PyOc06.answers
      rw [hc]
      show PyFlat.told (PyFlat.played Oc06Neutral.step Oc06Neutral.start (cs.map rawOf)) = _
      rw [played_outs]; rfl
    · rw [← many_outs]; exact ha.2.2.2
end AX
end
namespace AX
open PySem PySem.Spec PyProof.Rows L2
def top (i : Nat) : Stmt := PySem.Challenge.pw_axiomparts_s01_answers.main.body.getD i (.Pass ⟨0, 0, 0, 0⟩)
abbrev s_Concepts_init : Stmt := inClass (top 10) 0
abbrev s_Concepts_atom_count : Stmt := inClass (top 10) 1
abbrev s_Concepts_used_names : Stmt := inClass (top 10) 2
abbrev s_Concepts_used_roles : Stmt := inClass (top 10) 3
abbrev s_marks_of : Stmt := top 11
abbrev s_read_symbols : Stmt := top 12
abbrev s_row_of : Stmt := top 13
abbrev s_read_concepts : Stmt := top 14
abbrev s_read_together : Stmt := top 15
abbrev s_Profile_init : Stmt := inClass (top 17) 0
abbrev s_Profile_keeps : Stmt := inClass (top 17) 1
abbrev s_restrictions : Stmt := top 18
abbrev s_made_truth : Stmt := top 19
abbrev s_choices : Stmt := top 20
abbrev s_all_profiles : Stmt := top 21
abbrev s_served : Stmt := top 22
abbrev s_is_supported : Stmt := top 23
abbrev s_lasting_profiles : Stmt := top 24
abbrev s_keep_all : Stmt := top 25
abbrev s_follows : Stmt := top 26
abbrev s_is_local : Stmt := top 27
abbrev s_is_subsumed : Stmt := top 28
abbrev s_Module_init : Stmt := inClass (top 30) 0
abbrev s_Module_listed : Stmt := inClass (top 30) 1
abbrev s_module_for : Stmt := top 31
abbrev s_Reader_init : Stmt := inClass (top 33) 0
abbrev s_Reader_has_more : Stmt := inClass (top 33) 1
abbrev s_Reader_take_number : Stmt := inClass (top 33) 2
abbrev s_Reader_take_list : Stmt := inClass (top 33) 3
abbrev s_Desk_init : Stmt := inClass (top 52) 0
abbrev s_Desk_module_of : Stmt := inClass (top 52) 1
abbrev s_Desk_begins : Stmt := inClass (top 52) 2
abbrev s_Desk_line : Stmt := inClass (top 52) 3
abbrev s_Desk_drop : Stmt := inClass (top 52) 4
abbrev s_Desk_words : Stmt := inClass (top 52) 5
abbrev s_Desk_quiet : Stmt := inClass (top 52) 6
abbrev s_Desk_part : Stmt := inClass (top 52) 7
abbrev s_Desk_under : Stmt := inClass (top 52) 8
abbrev s_Desk_by : Stmt := inClass (top 52) 9
abbrev s_Desk_parts : Stmt := inClass (top 52) 10
abbrev s_answer_quiet : Stmt := top 53
abbrev s_answer_part : Stmt := top 54
abbrev s_answer_next : Stmt := top 55
abbrev s_answers : Stmt := top 56
theorem sc_Concepts_init : FnScope ["self", "numbers", "rows", "tops"] ["self", "numbers", "rows", "tops"] (defScope s_Concepts_init) := ⟨rfl, rfl, rfl, by decide +kernel, rfl, by decide +kernel, by decide +kernel⟩
theorem sc_Concepts_atom_count : FnScope ["self", "row"] ["self"] (defScope s_Concepts_atom_count) := ⟨rfl, rfl, rfl, by decide +kernel, rfl, by decide +kernel, by decide +kernel⟩
theorem sc_Concepts_used_names : FnScope ["self"] ["self"] (defScope s_Concepts_used_names) := ⟨rfl, rfl, rfl, by decide +kernel, rfl, by decide +kernel, by decide +kernel⟩
theorem sc_Concepts_used_roles : FnScope ["self"] ["self"] (defScope s_Concepts_used_roles) := ⟨rfl, rfl, rfl, by decide +kernel, rfl, by decide +kernel, by decide +kernel⟩
theorem sc_marks_of : FnScope ["rows", "heads", "found", "row"] ["rows", "heads"] (defScope s_marks_of) := ⟨rfl, rfl, rfl, by decide +kernel, rfl, by decide +kernel, by decide +kernel⟩
theorem sc_read_symbols : FnScope ["numbers", "wanted", "symbols", "missing", "at", "head", "mark"] ["numbers", "wanted"] (defScope s_read_symbols) := ⟨rfl, rfl, rfl, by decide +kernel, rfl, by decide +kernel, by decide +kernel⟩
theorem sc_row_of : FnScope ["symbol", "waiting", "count", "first", "second"] ["symbol", "waiting"] (defScope s_row_of) := ⟨rfl, rfl, rfl, by decide +kernel, rfl, by decide +kernel, by decide +kernel⟩
theorem sc_read_concepts : FnScope ["numbers", "wanted", "symbols", "rows", "places", "waiting", "symbol", "row"] ["numbers", "wanted"] (defScope s_read_concepts) := ⟨rfl, rfl, rfl, by decide +kernel, rfl, by decide +kernel, by decide +kernel⟩
theorem sc_read_together : FnScope ["parts", "numbers", "wanted", "part"] ["parts"] (defScope s_read_together) := ⟨rfl, rfl, rfl, by decide +kernel, rfl, by decide +kernel, by decide +kernel⟩
theorem sc_Profile_init : FnScope ["self", "truths", "limits", "place", "role", "inner", "witness"] ["self", "truths", "limits"] (defScope s_Profile_init) := ⟨rfl, rfl, rfl, by decide +kernel, rfl, by decide +kernel, by decide +kernel⟩
theorem sc_Profile_keeps : FnScope ["self", "pair"] ["self", "pair"] (defScope s_Profile_keeps) := ⟨rfl, rfl, rfl, by decide +kernel, rfl, by decide +kernel, by decide +kernel⟩
theorem sc_restrictions : FnScope ["rows", "found", "place", "row"] ["rows"] (defScope s_restrictions) := ⟨rfl, rfl, rfl, by decide +kernel, rfl, by decide +kernel, by decide +kernel⟩
theorem sc_made_truth : FnScope ["row", "truths", "head"] ["row", "truths"] (defScope s_made_truth) := ⟨rfl, rfl, rfl, by decide +kernel, rfl, by decide +kernel, by decide +kernel⟩
theorem sc_choices : FnScope ["row", "truths", "names", "roles", "head", "known"] ["row", "truths", "names", "roles"] (defScope s_choices) := ⟨rfl, rfl, rfl, by decide +kernel, rfl, by decide +kernel, by decide +kernel⟩
theorem sc_all_profiles : FnScope ["rows", "names", "roles", "begun", "row", "longer", "truths", "truth", "limits"] ["rows", "names", "roles"] (defScope s_all_profiles) := ⟨rfl, rfl, rfl, by decide +kernel, rfl, by decide +kernel, by decide +kernel⟩
theorem sc_served : FnScope ["needs", "role", "profiles", "found", "target", "serves"] ["needs", "role", "profiles"] (defScope s_served) := ⟨rfl, rfl, rfl, by decide +kernel, rfl, by decide +kernel, by decide +kernel⟩
theorem sc_is_supported : FnScope ["source", "profiles", "role", "needs"] ["source", "profiles"] (defScope s_is_supported) := ⟨rfl, rfl, rfl, by decide +kernel, rfl, by decide +kernel, by decide +kernel⟩
theorem sc_lasting_profiles : FnScope ["profiles", "lasting", "supported", "source"] ["profiles"] (defScope s_lasting_profiles) := ⟨rfl, rfl, rfl, by decide +kernel, rfl, by decide +kernel, by decide +kernel⟩
theorem sc_keep_all : FnScope ["profiles", "pair", "profile"] ["profiles", "pair"] (defScope s_keep_all) := ⟨rfl, rfl, rfl, by decide +kernel, rfl, by decide +kernel, by decide +kernel⟩
theorem sc_follows : FnScope ["concepts", "names", "roles", "tops", "profiles", "last", "at", "lasting"] ["concepts", "names", "roles"] (defScope s_follows) := ⟨rfl, rfl, rfl, by decide +kernel, rfl, by decide +kernel, by decide +kernel⟩
theorem sc_is_local : FnScope ["axiom", "names", "roles"] ["axiom", "names", "roles"] (defScope s_is_local) := ⟨rfl, rfl, rfl, by decide +kernel, rfl, by decide +kernel, by decide +kernel⟩
theorem sc_is_subsumed : FnScope ["concepts"] ["concepts"] (defScope s_is_subsumed) := ⟨rfl, rfl, rfl, by decide +kernel, rfl, by decide +kernel, by decide +kernel⟩
theorem sc_Module_init : FnScope ["self", "indexes", "names", "roles"] ["self", "indexes", "names", "roles"] (defScope s_Module_init) := ⟨rfl, rfl, rfl, by decide +kernel, rfl, by decide +kernel, by decide +kernel⟩
theorem sc_Module_listed : FnScope ["self"] ["self"] (defScope s_Module_listed) := ⟨rfl, rfl, rfl, by decide +kernel, rfl, by decide +kernel, by decide +kernel⟩
theorem sc_module_for : FnScope ["axioms", "names", "roles", "inside", "added", "index", "axiom"] ["axioms", "names", "roles"] (defScope s_module_for) := ⟨rfl, rfl, rfl, by decide +kernel, rfl, by decide +kernel, by decide +kernel⟩
theorem sc_Reader_init : FnScope ["self", "numbers"] ["self", "numbers"] (defScope s_Reader_init) := ⟨rfl, rfl, rfl, by decide +kernel, rfl, by decide +kernel, by decide +kernel⟩
theorem sc_Reader_has_more : FnScope ["self"] ["self"] (defScope s_Reader_has_more) := ⟨rfl, rfl, rfl, by decide +kernel, rfl, by decide +kernel, by decide +kernel⟩
theorem sc_Reader_take_number : FnScope ["self", "number"] ["self"] (defScope s_Reader_take_number) := ⟨rfl, rfl, rfl, by decide +kernel, rfl, by decide +kernel, by decide +kernel⟩
theorem sc_Reader_take_list : FnScope ["self", "length", "start"] ["self"] (defScope s_Reader_take_list) := ⟨rfl, rfl, rfl, by decide +kernel, rfl, by decide +kernel, by decide +kernel⟩
theorem sc_Desk_init : FnScope ["self"] ["self"] (defScope s_Desk_init) := ⟨rfl, rfl, rfl, by decide +kernel, rfl, by decide +kernel, by decide +kernel⟩
theorem sc_Desk_module_of : FnScope ["self", "concepts"] ["self", "concepts"] (defScope s_Desk_module_of) := ⟨rfl, rfl, rfl, by decide +kernel, rfl, by decide +kernel, by decide +kernel⟩
theorem sc_Desk_begins : FnScope ["self"] ["self"] (defScope s_Desk_begins) := ⟨rfl, rfl, rfl, by decide +kernel, rfl, by decide +kernel, by decide +kernel⟩
theorem sc_Desk_line : FnScope ["self", "concepts", "axiom"] ["self", "concepts"] (defScope s_Desk_line) := ⟨rfl, rfl, rfl, by decide +kernel, rfl, by decide +kernel, by decide +kernel⟩
theorem sc_Desk_drop : FnScope ["self", "index"] ["self", "index"] (defScope s_Desk_drop) := ⟨rfl, rfl, rfl, by decide +kernel, rfl, by decide +kernel, by decide +kernel⟩
theorem sc_Desk_words : FnScope ["self", "concept", "read"] ["self", "concept"] (defScope s_Desk_words) := ⟨rfl, rfl, rfl, by decide +kernel, rfl, by decide +kernel, by decide +kernel⟩
theorem sc_Desk_quiet : FnScope ["self", "index", "names", "roles"] ["self", "index", "names", "roles"] (defScope s_Desk_quiet) := ⟨rfl, rfl, rfl, by decide +kernel, rfl, by decide +kernel, by decide +kernel⟩
theorem sc_Desk_part : FnScope ["self", "names", "roles", "module"] ["self", "names", "roles"] (defScope s_Desk_part) := ⟨rfl, rfl, rfl, by decide +kernel, rfl, by decide +kernel, by decide +kernel⟩
theorem sc_Desk_under : FnScope ["self", "concepts", "asked", "needed", "together", "index"] ["self", "concepts"] (defScope s_Desk_under) := ⟨rfl, rfl, rfl, by decide +kernel, rfl, by decide +kernel, by decide +kernel⟩
theorem sc_Desk_by : FnScope ["self", "concepts", "asked"] ["self", "concepts"] (defScope s_Desk_by) := ⟨rfl, rfl, rfl, by decide +kernel, rfl, by decide +kernel, by decide +kernel⟩
theorem sc_Desk_parts : FnScope ["self", "result", "name"] ["self"] (defScope s_Desk_parts) := ⟨rfl, rfl, rfl, by decide +kernel, rfl, by decide +kernel, by decide +kernel⟩
theorem sc_answer_quiet : FnScope ["desk", "reader", "index", "names", "roles"] ["desk", "reader"] (defScope s_answer_quiet) := ⟨rfl, rfl, rfl, by decide +kernel, rfl, by decide +kernel, by decide +kernel⟩
theorem sc_answer_part : FnScope ["desk", "reader", "names", "roles"] ["desk", "reader"] (defScope s_answer_part) := ⟨rfl, rfl, rfl, by decide +kernel, rfl, by decide +kernel, by decide +kernel⟩
theorem sc_answer_next : FnScope ["desk", "reader", "call"] ["desk", "reader"] (defScope s_answer_next) := ⟨rfl, rfl, rfl, by decide +kernel, rfl, by decide +kernel, by decide +kernel⟩
theorem sc_answers : FnScope ["calls", "desk", "reader", "given", "result"] ["calls"] (defScope s_answers) := ⟨rfl, rfl, rfl, by decide +kernel, rfl, by decide +kernel, by decide +kernel⟩
/-- what the top has written -/
structure Txt (K : PySem.W.Frag) (mg : Str → Option Value) where
  c_Concepts : Addr
  g_Concepts : mg "Concepts" = some (.ref c_Concepts)
  cl_Concepts : Cls K c_Concepts
  n_Concepts_numbers : NoAttr K c_Concepts "numbers"
  n_Concepts_rows : NoAttr K c_Concepts "rows"
  n_Concepts_tops : NoAttr K c_Concepts "tops"
  c_Profile : Addr
  g_Profile : mg "Profile" = some (.ref c_Profile)
  cl_Profile : Cls K c_Profile
  n_Profile_truths : NoAttr K c_Profile "truths"
  n_Profile_needs : NoAttr K c_Profile "needs"
  n_Profile_serves : NoAttr K c_Profile "serves"
  c_Module : Addr
  g_Module : mg "Module" = some (.ref c_Module)
  cl_Module : Cls K c_Module
  n_Module_indexes : NoAttr K c_Module "indexes"
  n_Module_names : NoAttr K c_Module "names"
  n_Module_roles : NoAttr K c_Module "roles"
  c_Reader : Addr
  g_Reader : mg "Reader" = some (.ref c_Reader)
  cl_Reader : Cls K c_Reader
  n_Reader_numbers : NoAttr K c_Reader "numbers"
  n_Reader_at : NoAttr K c_Reader "at"
  c_Desk : Addr
  g_Desk : mg "Desk" = some (.ref c_Desk)
  cl_Desk : Cls K c_Desk
  n_Desk_axioms : NoAttr K c_Desk "axioms"
  f_Concepts_init : Addr
  fd_Concepts_init : FuncData
  F_Concepts_init : Fun K "__init__" "Concepts.__init__" s_Concepts_init f_Concepts_init fd_Concepts_init
  b_Concepts_init : Binds K fd_Concepts_init ["self", "numbers", "rows", "tops"] []
  mk_Concepts : Mk K c_Concepts f_Concepts_init
  f_Concepts_atom_count : Addr
  fd_Concepts_atom_count : FuncData
  F_Concepts_atom_count : Fun K "atom_count" "Concepts.atom_count" s_Concepts_atom_count f_Concepts_atom_count fd_Concepts_atom_count
  b_Concepts_atom_count : Binds K fd_Concepts_atom_count ["self"] []
  m_Concepts_atom_count : Meth K c_Concepts "atom_count" f_Concepts_atom_count
  f_Concepts_used_names : Addr
  fd_Concepts_used_names : FuncData
  F_Concepts_used_names : Fun K "used_names" "Concepts.used_names" s_Concepts_used_names f_Concepts_used_names fd_Concepts_used_names
  b_Concepts_used_names : Binds K fd_Concepts_used_names ["self"] []
  m_Concepts_used_names : Meth K c_Concepts "used_names" f_Concepts_used_names
  f_Concepts_used_roles : Addr
  fd_Concepts_used_roles : FuncData
  F_Concepts_used_roles : Fun K "used_roles" "Concepts.used_roles" s_Concepts_used_roles f_Concepts_used_roles fd_Concepts_used_roles
  b_Concepts_used_roles : Binds K fd_Concepts_used_roles ["self"] []
  m_Concepts_used_roles : Meth K c_Concepts "used_roles" f_Concepts_used_roles
  f_marks_of : Addr
  fd_marks_of : FuncData
  F_marks_of : Fun K "marks_of" "marks_of" s_marks_of f_marks_of fd_marks_of
  b_marks_of : Binds K fd_marks_of ["rows", "heads"] []
  g_marks_of : mg "marks_of" = some (.ref f_marks_of)
  f_read_symbols : Addr
  fd_read_symbols : FuncData
  F_read_symbols : Fun K "read_symbols" "read_symbols" s_read_symbols f_read_symbols fd_read_symbols
  b_read_symbols : Binds K fd_read_symbols ["numbers", "wanted"] []
  g_read_symbols : mg "read_symbols" = some (.ref f_read_symbols)
  f_row_of : Addr
  fd_row_of : FuncData
  F_row_of : Fun K "row_of" "row_of" s_row_of f_row_of fd_row_of
  b_row_of : Binds K fd_row_of ["symbol", "waiting"] []
  g_row_of : mg "row_of" = some (.ref f_row_of)
  f_read_concepts : Addr
  fd_read_concepts : FuncData
  F_read_concepts : Fun K "read_concepts" "read_concepts" s_read_concepts f_read_concepts fd_read_concepts
  b_read_concepts : Binds K fd_read_concepts ["numbers", "wanted"] []
  g_read_concepts : mg "read_concepts" = some (.ref f_read_concepts)
  f_read_together : Addr
  fd_read_together : FuncData
  F_read_together : Fun K "read_together" "read_together" s_read_together f_read_together fd_read_together
  b_read_together : Binds K fd_read_together ["parts"] []
  g_read_together : mg "read_together" = some (.ref f_read_together)
  f_Profile_init : Addr
  fd_Profile_init : FuncData
  F_Profile_init : Fun K "__init__" "Profile.__init__" s_Profile_init f_Profile_init fd_Profile_init
  b_Profile_init : Binds K fd_Profile_init ["self", "truths", "limits"] []
  mk_Profile : Mk K c_Profile f_Profile_init
  f_Profile_keeps : Addr
  fd_Profile_keeps : FuncData
  F_Profile_keeps : Fun K "keeps" "Profile.keeps" s_Profile_keeps f_Profile_keeps fd_Profile_keeps
  b_Profile_keeps : Binds K fd_Profile_keeps ["self", "pair"] []
  m_Profile_keeps : Meth K c_Profile "keeps" f_Profile_keeps
  f_restrictions : Addr
  fd_restrictions : FuncData
  F_restrictions : Fun K "restrictions" "restrictions" s_restrictions f_restrictions fd_restrictions
  b_restrictions : Binds K fd_restrictions ["rows"] []
  g_restrictions : mg "restrictions" = some (.ref f_restrictions)
  f_made_truth : Addr
  fd_made_truth : FuncData
  F_made_truth : Fun K "made_truth" "made_truth" s_made_truth f_made_truth fd_made_truth
  b_made_truth : Binds K fd_made_truth ["row", "truths"] []
  g_made_truth : mg "made_truth" = some (.ref f_made_truth)
  f_choices : Addr
  fd_choices : FuncData
  F_choices : Fun K "choices" "choices" s_choices f_choices fd_choices
  b_choices : Binds K fd_choices ["row", "truths", "names", "roles"] []
  g_choices : mg "choices" = some (.ref f_choices)
  f_all_profiles : Addr
  fd_all_profiles : FuncData
  F_all_profiles : Fun K "all_profiles" "all_profiles" s_all_profiles f_all_profiles fd_all_profiles
  b_all_profiles : Binds K fd_all_profiles ["rows", "names", "roles"] []
  g_all_profiles : mg "all_profiles" = some (.ref f_all_profiles)
  f_served : Addr
  fd_served : FuncData
  F_served : Fun K "served" "served" s_served f_served fd_served
  b_served : Binds K fd_served ["needs", "role", "profiles"] []
  g_served : mg "served" = some (.ref f_served)
  f_is_supported : Addr
  fd_is_supported : FuncData
  F_is_supported : Fun K "is_supported" "is_supported" s_is_supported f_is_supported fd_is_supported
  b_is_supported : Binds K fd_is_supported ["source", "profiles"] []
  g_is_supported : mg "is_supported" = some (.ref f_is_supported)
  f_lasting_profiles : Addr
  fd_lasting_profiles : FuncData
  F_lasting_profiles : Fun K "lasting_profiles" "lasting_profiles" s_lasting_profiles f_lasting_profiles fd_lasting_profiles
  b_lasting_profiles : Binds K fd_lasting_profiles ["profiles"] []
  g_lasting_profiles : mg "lasting_profiles" = some (.ref f_lasting_profiles)
  f_keep_all : Addr
  fd_keep_all : FuncData
  F_keep_all : Fun K "keep_all" "keep_all" s_keep_all f_keep_all fd_keep_all
  b_keep_all : Binds K fd_keep_all ["profiles", "pair"] []
  g_keep_all : mg "keep_all" = some (.ref f_keep_all)
  f_follows : Addr
  fd_follows : FuncData
  F_follows : Fun K "follows" "follows" s_follows f_follows fd_follows
  b_follows : Binds K fd_follows ["concepts", "names", "roles"] []
  g_follows : mg "follows" = some (.ref f_follows)
  f_is_local : Addr
  fd_is_local : FuncData
  F_is_local : Fun K "is_local" "is_local" s_is_local f_is_local fd_is_local
  b_is_local : Binds K fd_is_local ["axiom", "names", "roles"] []
  g_is_local : mg "is_local" = some (.ref f_is_local)
  f_is_subsumed : Addr
  fd_is_subsumed : FuncData
  F_is_subsumed : Fun K "is_subsumed" "is_subsumed" s_is_subsumed f_is_subsumed fd_is_subsumed
  b_is_subsumed : Binds K fd_is_subsumed ["concepts"] []
  g_is_subsumed : mg "is_subsumed" = some (.ref f_is_subsumed)
  f_Module_init : Addr
  fd_Module_init : FuncData
  F_Module_init : Fun K "__init__" "Module.__init__" s_Module_init f_Module_init fd_Module_init
  b_Module_init : Binds K fd_Module_init ["self", "indexes", "names", "roles"] []
  mk_Module : Mk K c_Module f_Module_init
  f_Module_listed : Addr
  fd_Module_listed : FuncData
  F_Module_listed : Fun K "listed" "Module.listed" s_Module_listed f_Module_listed fd_Module_listed
  b_Module_listed : Binds K fd_Module_listed ["self"] []
  m_Module_listed : Meth K c_Module "listed" f_Module_listed
  f_module_for : Addr
  fd_module_for : FuncData
  F_module_for : Fun K "module_for" "module_for" s_module_for f_module_for fd_module_for
  b_module_for : Binds K fd_module_for ["axioms", "names", "roles"] []
  g_module_for : mg "module_for" = some (.ref f_module_for)
  f_Reader_init : Addr
  fd_Reader_init : FuncData
  F_Reader_init : Fun K "__init__" "Reader.__init__" s_Reader_init f_Reader_init fd_Reader_init
  b_Reader_init : Binds K fd_Reader_init ["self", "numbers"] []
  mk_Reader : Mk K c_Reader f_Reader_init
  f_Reader_has_more : Addr
  fd_Reader_has_more : FuncData
  F_Reader_has_more : Fun K "has_more" "Reader.has_more" s_Reader_has_more f_Reader_has_more fd_Reader_has_more
  b_Reader_has_more : Binds K fd_Reader_has_more ["self"] []
  m_Reader_has_more : Meth K c_Reader "has_more" f_Reader_has_more
  f_Reader_take_number : Addr
  fd_Reader_take_number : FuncData
  F_Reader_take_number : Fun K "take_number" "Reader.take_number" s_Reader_take_number f_Reader_take_number fd_Reader_take_number
  b_Reader_take_number : Binds K fd_Reader_take_number ["self"] []
  m_Reader_take_number : Meth K c_Reader "take_number" f_Reader_take_number
  f_Reader_take_list : Addr
  fd_Reader_take_list : FuncData
  F_Reader_take_list : Fun K "take_list" "Reader.take_list" s_Reader_take_list f_Reader_take_list fd_Reader_take_list
  b_Reader_take_list : Binds K fd_Reader_take_list ["self"] []
  m_Reader_take_list : Meth K c_Reader "take_list" f_Reader_take_list
  f_Desk_init : Addr
  fd_Desk_init : FuncData
  F_Desk_init : Fun K "__init__" "Desk.__init__" s_Desk_init f_Desk_init fd_Desk_init
  b_Desk_init : Binds K fd_Desk_init ["self"] []
  mk_Desk : Mk K c_Desk f_Desk_init
  f_Desk_module_of : Addr
  fd_Desk_module_of : FuncData
  F_Desk_module_of : Fun K "module_of" "Desk.module_of" s_Desk_module_of f_Desk_module_of fd_Desk_module_of
  b_Desk_module_of : Binds K fd_Desk_module_of ["self", "concepts"] []
  m_Desk_module_of : Meth K c_Desk "module_of" f_Desk_module_of
  f_Desk_begins : Addr
  fd_Desk_begins : FuncData
  F_Desk_begins : Fun K "begins" "Desk.begins" s_Desk_begins f_Desk_begins fd_Desk_begins
  b_Desk_begins : Binds K fd_Desk_begins ["self"] []
  m_Desk_begins : Meth K c_Desk "begins" f_Desk_begins
  f_Desk_line : Addr
  fd_Desk_line : FuncData
  F_Desk_line : Fun K "line" "Desk.line" s_Desk_line f_Desk_line fd_Desk_line
  b_Desk_line : Binds K fd_Desk_line ["self", "concepts"] []
  m_Desk_line : Meth K c_Desk "line" f_Desk_line
  f_Desk_drop : Addr
  fd_Desk_drop : FuncData
  F_Desk_drop : Fun K "drop" "Desk.drop" s_Desk_drop f_Desk_drop fd_Desk_drop
  b_Desk_drop : Binds K fd_Desk_drop ["self", "index"] []
  m_Desk_drop : Meth K c_Desk "drop" f_Desk_drop
  f_Desk_words : Addr
  fd_Desk_words : FuncData
  F_Desk_words : Fun K "words" "Desk.words" s_Desk_words f_Desk_words fd_Desk_words
  b_Desk_words : Binds K fd_Desk_words ["self", "concept"] []
  m_Desk_words : Meth K c_Desk "words" f_Desk_words
  f_Desk_quiet : Addr
  fd_Desk_quiet : FuncData
  F_Desk_quiet : Fun K "quiet" "Desk.quiet" s_Desk_quiet f_Desk_quiet fd_Desk_quiet
  b_Desk_quiet : Binds K fd_Desk_quiet ["self", "index", "names", "roles"] []
  m_Desk_quiet : Meth K c_Desk "quiet" f_Desk_quiet
  f_Desk_part : Addr
  fd_Desk_part : FuncData
  F_Desk_part : Fun K "part" "Desk.part" s_Desk_part f_Desk_part fd_Desk_part
  b_Desk_part : Binds K fd_Desk_part ["self", "names", "roles"] []
  m_Desk_part : Meth K c_Desk "part" f_Desk_part
  f_Desk_under : Addr
  fd_Desk_under : FuncData
  F_Desk_under : Fun K "under" "Desk.under" s_Desk_under f_Desk_under fd_Desk_under
  b_Desk_under : Binds K fd_Desk_under ["self", "concepts"] []
  m_Desk_under : Meth K c_Desk "under" f_Desk_under
  f_Desk_by : Addr
  fd_Desk_by : FuncData
  F_Desk_by : Fun K "by" "Desk.by" s_Desk_by f_Desk_by fd_Desk_by
  b_Desk_by : Binds K fd_Desk_by ["self", "concepts"] []
  m_Desk_by : Meth K c_Desk "by" f_Desk_by
  f_Desk_parts : Addr
  fd_Desk_parts : FuncData
  F_Desk_parts : Fun K "parts" "Desk.parts" s_Desk_parts f_Desk_parts fd_Desk_parts
  b_Desk_parts : Binds K fd_Desk_parts ["self"] []
  m_Desk_parts : Meth K c_Desk "parts" f_Desk_parts
  f_answer_quiet : Addr
  fd_answer_quiet : FuncData
  F_answer_quiet : Fun K "answer_quiet" "answer_quiet" s_answer_quiet f_answer_quiet fd_answer_quiet
  b_answer_quiet : Binds K fd_answer_quiet ["desk", "reader"] []
  g_answer_quiet : mg "answer_quiet" = some (.ref f_answer_quiet)
  f_answer_part : Addr
  fd_answer_part : FuncData
  F_answer_part : Fun K "answer_part" "answer_part" s_answer_part f_answer_part fd_answer_part
  b_answer_part : Binds K fd_answer_part ["desk", "reader"] []
  g_answer_part : mg "answer_part" = some (.ref f_answer_part)
  f_answer_next : Addr
  fd_answer_next : FuncData
  F_answer_next : Fun K "answer_next" "answer_next" s_answer_next f_answer_next fd_answer_next
  b_answer_next : Binds K fd_answer_next ["desk", "reader"] []
  g_answer_next : mg "answer_next" = some (.ref f_answer_next)
  f_answers : Addr
  fd_answers : FuncData
  F_answers : Fun K "answers" "answers" s_answers f_answers fd_answers
  b_answers : Binds K fd_answers ["calls"] []
  g_answers : mg "answers" = some (.ref f_answers)
  g_ALL : ∃ t, mg "ALL" = some (.int (0) t)
  g_NAME : ∃ t, mg "NAME" = some (.int (2) t)
  g_BOTH : ∃ t, mg "BOTH" = some (.int (3) t)
  g_EITHER : ∃ t, mg "EITHER" = some (.int (4) t)
  g_LACK : ∃ t, mg "LACK" = some (.int (5) t)
  g_SOME : ∃ t, mg "SOME" = some (.int (6) t)
  g_EVERY : ∃ t, mg "EVERY" = some (.int (7) t)
  a_MARKS : Addr
  g_MARKS : mg "MARKS" = some (.ref a_MARKS)
  q_MARKS : ∀ H, SqT K H a_MARKS [V.int 0, V.int 0, V.int 4, V.int 0, V.int 0, V.int 0, V.int 2, V.int 2]
  a_INNER : Addr
  g_INNER : mg "INNER" = some (.ref a_INNER)
  q_INNER : ∀ H, SqT K H a_INNER [V.int 0, V.int 0, V.int 0, V.int 2, V.int 2, V.int 1, V.int 1, V.int 1]
  g_BEGINS : ∃ t, mg "BEGINS" = some (.int (0) t)
  g_LINE : ∃ t, mg "LINE" = some (.int (1) t)
  g_DROP : ∃ t, mg "DROP" = some (.int (2) t)
  g_WORDS : ∃ t, mg "WORDS" = some (.int (3) t)
  g_QUIET : ∃ t, mg "QUIET" = some (.int (4) t)
  g_PART : ∃ t, mg "PART" = some (.int (5) t)
  g_UNDER : ∃ t, mg "UNDER" = some (.int (6) t)
  g_BY : ∃ t, mg "BY" = some (.int (7) t)
  g_MALFORMED : ∃ t, mg "MALFORMED" = some (.int (-1) t)
  g_NO_SUCH_AXIOM : ∃ t, mg "NO_SUCH_AXIOM" = some (.int (-2) t)
  g_TOO_MUCH : ∃ t, mg "TOO_MUCH" = some (.int (-7) t)
  g_MOST_AXIOMS : ∃ t, mg "MOST_AXIOMS" = some (.int (8) t)
  g_MOST_ATOMS : ∃ t, mg "MOST_ATOMS" = some (.int (4) t)
  g_MOST_ATOMS_UNDER : ∃ t, mg "MOST_ATOMS_UNDER" = some (.int (6) t)
  g_NAMES : ∃ t, mg "NAMES" = some (.int (4) t)
  g_NAME_SETS : ∃ t, mg "NAME_SETS" = some (.int (16) t)
  g_ROLE_SETS : ∃ t, mg "ROLE_SETS" = some (.int (4) t)
  no_enumerate : mg "enumerate" = none
  no_len : mg "len" = none
  no_list : mg "list" = none
  no_range : mg "range" = none
  no_reversed : mg "reversed" = none
  no_sorted : mg "sorted" = none
section
variable {X : Cx}
theorem pe_globI {x : Str} {v : Int} {pos : Pos} (hg : Gl X x) (h : ∃ t, X.mg x = some (.int v t)) (hd : (x == ("__debug__" : Str)) = false := by decide) : PE X (.Name x pos) (tC (.int v)) := let ⟨t, e⟩ := h; pe_glob (hd := hd) hg e ⟨t, rfl⟩
theorem pe_globR {x : Str} {a : Addr} {pos : Pos} (hg : Gl X x) (h : X.mg x = some (.ref a)) (hd : (x == ("__debug__" : Str)) = false := by decide) : PE X (.Name x pos) (tC (.ref a)) := pe_glob (v := .ref a) (hd := hd) hg h rfl
end
end AX

namespace AX
open PySem PySem.Spec PyProof.Rows L2
/-! ### small words -/
theorem lk_here {k : Str} {v : V} {r : List (Str × V)} : List.lookup k ((k, v) :: r) = some v := by
  have e : (k == k) = true := beq_self_eq_true k
  simp only [List.lookup, e]
theorem lk_past {k g : Str} {v : V} {r : List (Str × V)} (h : (k == g) = false) : List.lookup k ((g, v) :: r) = List.lookup k r := by
  simp only [List.lookup, h]
theorem lk_2 {k g : Str} {u v : V} {r : List (Str × V)} (h : (k == g) = false) : List.lookup k ((g, u) :: (k, v) :: r) = some v := (lk_past h).trans lk_here
theorem put_here {f : Str} {v x : V} {r : List (Str × V)} : putF f v ((f, x) :: r) = (f, v) :: r := if_pos rfl
theorem put_past {f g : Str} {v x : V} {r : List (Str × V)} (h : ¬ g = f) : putF f v ((g, x) :: r) = (g, x) :: putF f v r := if_neg h
theorem put_3 {f g h : Str} {a b c : V} (h1 : ¬ f = g) (h2 : ¬ f = h) (h3 : ¬ g = h) : putF h c (putF g b (putF f a [])) = [(f, a), (g, b), (h, c)] := by
  have e1 : putF g b [(f, a)] = [(f, a), (g, b)] := (put_past h1).trans rfl
  have e2 : putF h c [(f, a), (g, b)] = [(f, a), (g, b), (h, c)] := (put_past h2).trans (congrArg _ ((put_past h3).trans rfl))
  exact (congrArg (putF h c) e1).trans e2
theorem lk_3 {k f g : Str} {u w v : V} {r : List (Str × V)} (h1 : (k == f) = false) (h2 : (k == g) = false) : List.lookup k ((f, u) :: (g, w) :: (k, v) :: r) = some v := (lk_past h1).trans (lk_2 h2)
theorem no_3 {k f g h : Str} {a b c : V} (h1 : (k == f) = false) (h2 : (k == g) = false) (h3 : (k == h) = false) : List.lookup k [(f, a), (g, b), (h, c)] = none := (lk_past h1).trans ((lk_past h2).trans ((lk_past h3).trans rfl))
theorem if_true_of {c : Bool} {A B : Prop} (hc : c = true) (h : A) : if c = true then A else B := by
  rw [if_pos hc]
  exact h
theorem if_false_of {c : Bool} {A B : Prop} (hc : c = false) (h : B) : if c = true then A else B := by
  rw [hc, if_neg Bool.false_ne_true]
  exact h
/-- all but what stands at the addresses is as it was -/
def But (M : List Addr) (H H' : Hp) : Prop := ∀ b o, H b = some o → b ∉ M → H' b = some o
theorem But.refl {M : List Addr} (H : Hp) : But M H H := fun _ _ h _ => h
theorem But.trans {M : List Addr} {H H1 H2 : Hp} (a : But M H H1) (b : But M H1 H2) : But M H H2 := fun c o h n => b c o (a c o h n) n
theorem But.of {M : List Addr} {H H' : Hp} (s : Same H H') : But M H H' := fun b o h _ => s b o h
theorem But.mono {M N : List Addr} {H H' : Hp} (s : But M H H') (h : ∀ a ∈ M, a ∈ N) : But N H H' := fun b o e n => s b o e fun z => n (h b z)
theorem Same.upd {H : Hp} {p : Addr} {o : HO} (n : H p = none) : Same H (upd H p o) := fun b u e => by
  rw [upd_ne (ne_of_none e n)]; exact e
theorem But.upd {M : List Addr} {H : Hp} {p : Addr} {o : HO} (m : p ∈ M) : But M H (upd H p o) := fun b u e n => by
  rw [upd_ne (fun z => n (by rw [z]; exact m))]; exact e
theorem none_of_but {M : List Addr} {H H' : Hp} {p : Addr} (s : But M H H') (h : H' p = none) (n : p ∉ M) : H p = none := by
  cases q : H p with
  | none => rfl
  | some o => rw [s p o q n] at h; cases h
theorem But.seq {K : PySem.W.Frag} {M : List Addr} {H H' : Hp} {a : Addr} {xs : List V} (e : But M H H') (n : a ∉ M) (h : SqL K H a xs) : SqL K H' a xs := by
  rcases h with (h | ⟨o, h⟩) | h
  · exact .inl (.inl (e _ _ h n))
  · exact .inl (.inr ⟨o, e _ _ h n⟩)
  · exact .inr h
theorem But.tup {K : PySem.W.Frag} {M : List Addr} {H H' : Hp} {a : Addr} {xs : List V} (e : But M H H') (n : a ∉ M) (h : SqT K H a xs) : SqT K H' a xs := by
  rcases h with (h | ⟨o, h⟩) | h
  · exact .inl (.inl (e _ _ h n))
  · exact .inl (.inr ⟨o, e _ _ h n⟩)
  · exact .inr h
theorem cutV_nat (xs : List V) {i j : Nat} (hi : i ≤ j) (hj : j ≤ xs.length) : cutV xs (some (i : Int)) (some (j : Int)) = (xs.drop i).take (j - i) := by
  unfold cutV
  rw [HT.sIx_nat, HT.sIx_nat, Nat.min_eq_left hj, Nat.min_eq_left (Nat.le_trans hi hj)]
end AX
namespace AX
open PySem PySem.Spec PyProof.Rows L2
/-! ### Reader -/
def rdF (a : Addr) (i : Int) : List (Str × V) := [("numbers", .ref a), ("at", .int i)]
theorem rdF_at (a : Addr) (i : Int) : (rdF a i).lookup ("at" : Str) = some (.int i) := lk_2 (by decide +kernel)
theorem rdF_numbers (a : Addr) (i : Int) : (rdF a i).lookup ("numbers" : Str) = some (.ref a) := lk_here
theorem rdF_put (a : Addr) (i j : Int) : putF "at" (.int j) (rdF a i) = rdF a j := (put_past (by decide +kernel)).trans (congrArg _ put_here)
theorem rdF_no {m : Str} (a : Addr) (i : Int) (h1 : (m == ("numbers" : Str)) = false) (h2 : (m == ("at" : Str)) = false) : (rdF a i).lookup m = none := (lk_past h1).trans ((lk_past h2).trans rfl)
/-- at r a reader of the list at a, at the place i -/
def RdAt (C : Addr) (H : Hp) (r a : Addr) (i : Int) : Prop := ∃ dx, H r = some (.ins C dx (rdF a i))
def sp_Reader_init (C : Addr) : Sp := fun vs H Q _ => ∃ (p dx a : Addr), vs = [.ref p, .ref a] ∧ H p = some (.ins C dx []) ∧
  ∀ H' : Hp, RdAt C H' p a 0 → But [p] H H' → Q .non H'
def sp_Reader_has_more (K : PySem.W.Frag) (C : Addr) : Sp := fun vs H Q _ => ∃ (p a : Addr) (i : Int) (xs : List V), vs = [.ref p] ∧ RdAt C H p a i ∧ SqL K H a xs ∧
  Q (.bl (decide (i < (xs.length : Int)))) H
def sp_Reader_take_number (K : PySem.W.Frag) (C : Addr) : Sp := fun vs H Q _ => ∃ (p a : Addr) (i : Nat) (xs : List V) (x : V), vs = [.ref p] ∧ RdAt C H p a (i : Int) ∧ SqL K H a xs ∧ xs[i]? = some x ∧
  ∀ H' : Hp, RdAt C H' p a ((i + 1 : Nat) : Int) → But [p] H H' → Q x H'
def sp_Reader_take_list (K : PySem.W.Frag) (C : Addr) : Sp := fun vs H Q _ => ∃ (p a : Addr) (i n : Nat) (xs : List V), vs = [.ref p] ∧ RdAt C H p a (i : Int) ∧ SqL K H a xs ∧ (∀ H' : Hp, But [p] H H' → SqL K H' a xs) ∧ xs[i]? = some (.int (n : Int)) ∧ i + 1 + n ≤ xs.length ∧
  ∀ (H' : Hp) (q : Addr), RdAt C H' p a ((i + 1 + n : Nat) : Int) → But [p] H H' → H q = none → H' q = some (.lst ((xs.drop (i + 1)).take n)) → Q (.ref q) H'
section
variable {P : Program} {w : World} {K : PySem.W.Frag} {mg : Str → Option Value} {base : Heap}
theorem ok_Reader_init (T : Txt K mg) : FnOk P w K mg base CX0 1 T.f_Reader_init T.fd_Reader_init ["self", "numbers"] (sp_Reader_init T.c_Reader) := by
  refine T.F_Reader_init.ok sc_Reader_init (fun vs H Q E h => ?_) (fun cdv A outer s H vs Q E hr h => ⟨_, (pss_cons (ps_fld (pv 0) (pv 1) rfl)
    (pss_one (ps_fld (pv 0) pe_int rfl))), ?_⟩)
  · obtain ⟨p, dx, a, rfl, _⟩ := h; rfl
  · obtain ⟨p, dx, a, rfl, hp, k⟩ := h
    refine ⟨_, rfl, _, rfl, p, T.c_Reader, dx, [], rfl, hp, T.cl_Reader, T.n_Reader_numbers, (by show 0 < 1000; decide), ?_⟩
    refine ⟨_, rfl, p, T.c_Reader, dx, _, rfl, upd_same, T.cl_Reader, T.n_Reader_at, (by show 1 < 1000; decide), ?_⟩
    refine k _ ⟨dx, Eq.trans upd_same (congrArg (fun q => some (HO.ins T.c_Reader dx q)) ((put_past (by decide +kernel)).trans rfl))⟩ ?_
    exact (But.upd (by simp)).trans (But.upd (by simp))
theorem ok_Reader_has_more (T : Txt K mg) : FnOk P w K mg base CX0 1 T.f_Reader_has_more T.fd_Reader_has_more ["self"] (sp_Reader_has_more K T.c_Reader) := by
  refine T.F_Reader_has_more.ok sc_Reader_has_more (fun vs H Q E h => ?_) (fun cdv A outer s H vs Q E hr h => ⟨_, (pss_one (ps_ret (pe_cmpR op_lt (pe_fld (pv 0) rfl) (pe_callB call_len_seq (by rfl) T.no_len PySem.boot_len (pa_cons (pe_fld (pv 0) rfl) pa_nil)) (nomark _)))), ?_⟩)
  · obtain ⟨p, a, i, xs, rfl, _⟩ := h; rfl
  · obtain ⟨p, a, i, xs, rfl, ⟨dx, hp⟩, hS, k⟩ := h
    refine ⟨_, rfl, p, T.c_Reader, dx, _, _, rfl, hp, T.cl_Reader, T.n_Reader_at, rdF_at a i, _, rfl, p, T.c_Reader, dx, _, _, rfl, hp, T.cl_Reader, T.n_Reader_numbers, rdF_numbers a i, a, _, rfl, .inl hS, _, _, rfl, rfl, ?_⟩
    exact k
theorem ok_Reader_take_number (T : Txt K mg) : FnOk P w K mg base CX0 1 T.f_Reader_take_number T.fd_Reader_take_number ["self"] (sp_Reader_take_number K T.c_Reader) := by
  refine T.F_Reader_take_number.ok sc_Reader_take_number (fun vs H Q E h => ?_) (fun cdv A outer s H vs Q E hr h => ⟨_, (pss_cons (ps_set (i := 1) sc_Reader_take_number.nd rfl (Or.inl rfl) (pe_ix ix_list (pe_fld (pv 0) rfl) (pe_fld (pv 0) rfl) (fun _ _ => rfl)))
    (pss_cons (ps_fld (pv 0) (pe_op op_add (pe_fld (pv 0) rfl) pe_int) rfl)
    (pss_one (ps_ret (pv 1))))), ?_⟩)
  · obtain ⟨p, a, i, xs, x, rfl, _⟩ := h; rfl
  · obtain ⟨p, a, i, xs, x, rfl, ⟨dx, hp⟩, hS, hx, k⟩ := h
    refine ⟨_, rfl, p, T.c_Reader, dx, _, _, rfl, hp, T.cl_Reader, T.n_Reader_numbers, rdF_numbers a i, _, rfl, p, T.c_Reader, dx, _, _, rfl, hp, T.cl_Reader, T.n_Reader_at, rdF_at a i, a, xs, _, _, rfl, rfl, hS, atI_nat hx, ?_⟩
    refine ⟨_, rfl, p, T.c_Reader, dx, _, _, rfl, hp, T.cl_Reader, T.n_Reader_at, rdF_at a i, _, _, rfl, rfl, _, rfl, p, T.c_Reader, dx, _, rfl, hp, T.cl_Reader, T.n_Reader_at, (by show 2 < 1000; decide), ?_⟩
    refine ⟨_, rfl, k _ ⟨dx, Eq.trans upd_same (congrArg (fun q => some (HO.ins T.c_Reader dx q)) (rdF_put a i _))⟩ (But.upd (by simp))⟩
theorem ok_Reader_take_list (T : Txt K mg) : FnOk P w K mg base CX0 2 T.f_Reader_take_list T.fd_Reader_take_list ["self"] (sp_Reader_take_list K T.c_Reader) := by
  refine T.F_Reader_take_list.ok sc_Reader_take_list (fun vs H Q E h => ?_) (fun cdv A outer s H vs Q E hr h => ⟨_, (pss_cons (ps_set (i := 1) sc_Reader_take_list.nd rfl (Or.inl rfl) (pe_meth0 (pv 0) T.cl_Reader T.m_Reader_take_number (ok_Reader_take_number T) (hr.mono (by decide)) T.b_Reader_take_number .nil pass0))
    (pss_cons (ps_set (i := 2) sc_Reader_take_list.nd rfl (Or.inl rfl) (pe_fld (pv 0) rfl))
    (pss_cons (ps_fld (pv 0) (pe_op op_add (pv 2) (pv 1)) rfl)
    (pss_one (ps_ret (pe_slice sl_list (pe_fld (pv 0) rfl) (po_some (pv 2)) (po_some (pe_fld (pv 0) rfl)))))))), ?_⟩)
  · obtain ⟨p, a, i, n, xs, rfl, _⟩ := h; rfl
  · obtain ⟨p, a, i, n, xs, rfl, ⟨dx, hp⟩, hS, hK, hx, hl, k⟩ := h
    refine ⟨_, rfl, p, dx, _, rfl, hp, rdF_no a i (by decide +kernel) (by decide +kernel), p, a, i, xs, _, rfl, ⟨dx, hp⟩, hS, hx, ?_⟩
    rintro H1 ⟨d1, h1⟩ b1
    have hS1 := hK _ b1
    refine ⟨_, rfl, p, T.c_Reader, d1, _, _, rfl, h1, T.cl_Reader, T.n_Reader_at, rdF_at a _, ?_⟩
    refine ⟨_, rfl, _, rfl, _, _, rfl, rfl, _, rfl, p, T.c_Reader, d1, _, rfl, h1, T.cl_Reader, T.n_Reader_at, (by show 2 < 1000; decide), ?_⟩
    have b2 : But [p] H1 (upd H1 p (HO.ins T.c_Reader d1 (putF "at" (.int (((i + 1 : Nat) : Int) + (n : Int))) (rdF a ((i + 1 : Nat) : Int))))) := But.upd (by simp)
    refine ⟨_, rfl, p, T.c_Reader, d1, _, _, rfl, upd_same, T.cl_Reader, T.n_Reader_numbers, (by rw [rdF_put]; exact rdF_numbers a _), _, rfl, _, rfl, _, rfl, p, T.c_Reader, d1, _, _, rfl, upd_same, T.cl_Reader, T.n_Reader_at, (by rw [rdF_put]; exact rdF_at a _), _, rfl, a, xs, rfl, hK _ (b1.trans b2), ?_⟩
    intro q hq
    have hqp : p ≠ q := fun z => by rw [← z, upd_same] at hq; cases hq
    have e : ((i + 1 : Nat) : Int) + (n : Int) = ((i + 1 + n : Nat) : Int) := by omega
    refine k _ q ⟨d1, ?_⟩ ((b1.trans b2).trans (But.of (Same.upd hq))) (none_of_but (b1.trans b2) hq (by simpa using hqp.symm)) ?_
    · rw [upd_ne hqp, upd_same, rdF_put, e]
    · rw [upd_same, e, cutV_nat xs (by omega) hl]
      congr 3; omega
end
end AX
namespace AX
open PySem PySem.Spec PyProof.Rows L2
/-! ### data in the heap -/
def rowV (r : Row) : List V := [.int (r.1 : Nat), .int (r.2.1 : Nat), .int (r.2.2.1 : Nat), .int (r.2.2.2 : Nat)]
theorem row_0 (r : Row) : atI (rowV r) 0 = some (V.int (r.1 : Nat)) := rfl
theorem row_1 (r : Row) : atI (rowV r) 1 = some (V.int (r.2.1 : Nat)) := rfl
theorem row_2 (r : Row) : atI (rowV r) 2 = some (V.int (r.2.2.1 : Nat)) := rfl
theorem row_3 (r : Row) : atI (rowV r) 3 = some (V.int (r.2.2.2 : Nat)) := rfl
/-- the addresses hold these -/
def Each {α : Type} (f : α → HO) (H : Hp) (as : List Addr) (xs : List α) : Prop := as.length = xs.length ∧ ∀ (i : Nat) (t : Addr) (x : α), as[i]? = some t → xs[i]? = some x → H t = some (f x)
/-- a list of addresses that hold these -/
def Refs {α : Type} (f : α → HO) (H : Hp) (a : Addr) (xs : List α) : Prop := ∃ as : List Addr, H a = some (.lst (as.map V.ref)) ∧ Each f H as xs
section
variable {α : Type} {f : α → HO} {H H' : Hp} {as : List Addr} {xs : List α} {a : Addr}
theorem Each.nil : Each f H [] ([] : List α) := ⟨rfl, fun i t x h => by simp at h⟩
theorem Each.at (e : Each f H as xs) {i : Nat} {v : V} (h : (as.map V.ref)[i]? = some v) : ∃ t x, v = .ref t ∧ as[i]? = some t ∧ xs[i]? = some x ∧ H t = some (f x) := by
  rw [List.getElem?_map] at h
  cases q : as[i]? with
  | none => rw [q] at h; cases h
  | some t =>
    rw [q] at h
    have hi : i < as.length := (List.getElem?_eq_some_iff.mp q).1
    have hx : i < xs.length := by rw [← e.1]; exact hi
    have e2 : xs[i]? = some xs[i] := List.getElem?_eq_getElem hx
    exact ⟨t, xs[i], (Option.some.inj h).symm, rfl, e2, e.2 i t _ q e2⟩
theorem Each.get (e : Each f H as xs) {i : Nat} {x : α} (h : xs[i]? = some x) : ∃ t, as[i]? = some t ∧ H t = some (f x) := by
  have hi : i < xs.length := (List.getElem?_eq_some_iff.mp h).1
  have ha : i < as.length := by rw [e.1]; exact hi
  exact ⟨as[i], List.getElem?_eq_getElem ha, e.2 i _ x (List.getElem?_eq_getElem ha) h⟩
theorem Each.keep (e : Each f H as xs) (k : ∀ (t : Addr) (x : α), H t = some (f x) → H' t = some (f x)) : Each f H' as xs :=
  ⟨e.1, fun i t x h1 h2 => k t x (e.2 i t x h1 h2)⟩
theorem Each.same (e : Each f H as xs) (s : Same H H') : Each f H' as xs := e.keep fun t x h => s t _ h
theorem Each.snoc (e : Each f H as xs) {t : Addr} {x : α} (h : H t = some (f x)) : Each f H (as ++ [t]) (xs ++ [x]) := by
  refine ⟨by simp [e.1], fun i u y h1 h2 => ?_⟩
  rcases Nat.lt_trichotomy i as.length with q | q | q
  · rw [List.getElem?_append_left q] at h1
    rw [List.getElem?_append_left (by rw [← e.1]; exact q)] at h2
    exact e.2 i u y h1 h2
  · subst q
    rw [List.getElem?_append_right (Nat.le_refl _)] at h1
    rw [List.getElem?_append_right (by rw [e.1]; exact Nat.le_refl _)] at h2
    simp only [Nat.sub_self, List.getElem?_cons_zero, Option.some.injEq] at h1
    simp only [e.1, Nat.sub_self, List.getElem?_cons_zero, Option.some.injEq] at h2
    subst h1 h2; exact h
  · rw [List.getElem?_eq_none (by simp; omega)] at h1; cases h1
theorem Refs.same (e : Refs f H a xs) (s : Same H H') : Refs f H' a xs := by
  obtain ⟨as, h, r⟩ := e
  exact ⟨as, s _ _ h, r.same s⟩
end
abbrev rowO (r : Row) : HO := .tup (rowV r)
abbrev bitsO (p : List Bool) : HO := .lst (p.map V.bl)
/-- turns of a loop over a list of addresses, a mirror's fold beside it -/
theorem take_more {α : Type} : ∀ {l : List α} {i : Nat} {x : α}, l[i]? = some x → l.take (i + 1) = l.take i ++ [x]
  | [], i, x, h => by simp at h
  | a :: l, 0, x, h => by
    have e : a = x := Option.some.inj h
    subst e
    rfl
  | a :: l, i + 1, x, h => by
    have ih := take_more (l := l) (i := i) (x := x) h
    show a :: l.take (i + 1) = a :: l.take i ++ [x]
    rw [ih]
    rfl
theorem foldl_more {α β : Type} {f : β → α → β} {b : β} {l : List α} {i : Nat} {x : α} (h : l[i]? = some x) : (l.take (i + 1)).foldl f b = f ((l.take i).foldl f b) x := by
  rw [take_more h, List.foldl_append]; rfl
theorem inV_ints {x : Nat} : ∀ hs : List Nat, inV (.int (x : Nat)) (hs.map fun h : Nat => V.int (h : Int)) = decide (x ∈ hs)
  | [] => rfl
  | h :: hs => by
    have ih := inV_ints (x := x) hs
    unfold inV at ih ⊢
    rw [List.map_cons, List.any_cons, ih]
    show (((h : Int) == (x : Int)) || decide (x ∈ hs)) = decide (x ∈ h :: hs)
    by_cases e : x = h
    · subst e; simp
    · have : ((h : Int) == (x : Int)) = false := by
        rw [beq_eq_false_iff_ne]; omega
      rw [this, Bool.false_or]
      simp [e]
theorem flat_ints (hs : List Nat) : (hs.map fun h : Nat => V.int (h : Int)).all flatV = true := by
  rw [List.all_eq_true]; intro v hv
  obtain ⟨h, _, rfl⟩ := List.mem_map.mp hv
  rfl
end AX
namespace AX
open PySem PySem.Spec PyProof.Rows L2
/-! ### objects in the heap -/
/-- all but what stands at the addresses -/
def wo (H : Hp) (M : List Addr) : Hp := fun b => if b ∈ M then none else H b
theorem wo_some {H : Hp} {M : List Addr} {b : Addr} {o : HO} (h : wo H M b = some o) : b ∉ M ∧ H b = some o := by
  unfold wo at h; split at h
  · cases h
  · exact ⟨by assumption, h⟩
theorem wo_of {H : Hp} {M : List Addr} {b : Addr} {o : HO} (n : b ∉ M) (h : H b = some o) : wo H M b = some o := by
  unfold wo; rw [if_neg n]; exact h
theorem wo_same {H H' : Hp} {M N : List Addr} (h : ∀ b o, b ∉ M → H b = some o → b ∉ N ∧ H' b = some o) : Same (wo H M) (wo H' N) := fun b o e => by
  obtain ⟨h1, h2⟩ := wo_some e
  obtain ⟨h3, h4⟩ := h b o h1 h2
  exact wo_of h3 h4
theorem wo_in {H : Hp} {M : List Addr} : Same (wo H M) H := fun b o e => (wo_some e).2
/-- each address is of its item -/
def EachP {α : Type} (P : Hp → Addr → α → Prop) (H : Hp) (as : List Addr) (xs : List α) : Prop := as.length = xs.length ∧ ∀ (i : Nat) (t : Addr) (x : α), as[i]? = some t → xs[i]? = some x → P H t x
def RefsP {α : Type} (P : Hp → Addr → α → Prop) (H : Hp) (a : Addr) (xs : List α) : Prop := ∃ as : List Addr, H a = some (.lst (as.map V.ref)) ∧ EachP P H as xs
/-- what is so stays so where more stands -/
def Stays {α : Type} (P : Hp → Addr → α → Prop) : Prop := ∀ (H H' : Hp) (t : Addr) (x : α), Same H H' → P H t x → P H' t x
section
variable {α : Type} {P : Hp → Addr → α → Prop} {H H' : Hp} {as : List Addr} {xs : List α} {a : Addr}
theorem EachP.nil : EachP P H [] ([] : List α) := ⟨rfl, fun i t x h => by simp at h⟩
theorem EachP.at (e : EachP P H as xs) {i : Nat} {v : V} (h : (as.map V.ref)[i]? = some v) : ∃ t x, v = .ref t ∧ as[i]? = some t ∧ xs[i]? = some x ∧ P H t x := by
  rw [List.getElem?_map] at h
  cases q : as[i]? with
  | none => rw [q] at h; cases h
  | some t =>
    rw [q] at h
    have hi : i < as.length := (List.getElem?_eq_some_iff.mp q).1
    have hx : i < xs.length := by rw [← e.1]; exact hi
    have e2 : xs[i]? = some xs[i] := List.getElem?_eq_getElem hx
    exact ⟨t, xs[i], (Option.some.inj h).symm, rfl, e2, e.2 i t _ q e2⟩
theorem EachP.get (e : EachP P H as xs) {i : Nat} {x : α} (h : xs[i]? = some x) : ∃ t, as[i]? = some t ∧ P H t x := by
  have hi : i < xs.length := (List.getElem?_eq_some_iff.mp h).1
  have ha : i < as.length := by rw [e.1]; exact hi
  exact ⟨as[i], List.getElem?_eq_getElem ha, e.2 i _ x (List.getElem?_eq_getElem ha) h⟩
theorem EachP.keep {Q : Hp → Addr → α → Prop} (e : EachP P H as xs) (k : ∀ (t : Addr) (x : α), P H t x → Q H' t x) : EachP Q H' as xs :=
  ⟨e.1, fun i t x h1 h2 => k t x (e.2 i t x h1 h2)⟩
theorem EachP.same (st : Stays P) (e : EachP P H as xs) (s : Same H H') : EachP P H' as xs := e.keep fun t x h => st H H' t x s h
theorem EachP.snoc (e : EachP P H as xs) {t : Addr} {x : α} (h : P H t x) : EachP P H (as ++ [t]) (xs ++ [x]) := by
  refine ⟨by simp [e.1], fun i u y h1 h2 => ?_⟩
  rcases Nat.lt_trichotomy i as.length with q | q | q
  · rw [List.getElem?_append_left q] at h1
    rw [List.getElem?_append_left (by rw [← e.1]; exact q)] at h2
    exact e.2 i u y h1 h2
  · subst q
    rw [List.getElem?_append_right (Nat.le_refl _)] at h1
    rw [List.getElem?_append_right (by rw [e.1]; exact Nat.le_refl _)] at h2
    simp only [Nat.sub_self, List.getElem?_cons_zero, Option.some.injEq] at h1
    simp only [e.1, Nat.sub_self, List.getElem?_cons_zero, Option.some.injEq] at h2
    subst h1 h2; exact h
  · rw [List.getElem?_eq_none (by simp; omega)] at h1; cases h1
theorem RefsP.same (st : Stays P) (e : RefsP P H a xs) (s : Same H H') : RefsP P H' a xs := by
  obtain ⟨as, h, r⟩ := e
  exact ⟨as, s _ _ h, r.same st s⟩
end
end AX
namespace AX
open PySem PySem.Spec PyProof.Rows L2
/-! ### marks_of -/
def marksOf (rows : List Row) (heads : List Nat) : Nat := rows.foldl (fun f r => if r.1 ∈ heads then f ||| 2 ^ r.2.1 else f) 0
abbrev natV (h : Nat) : V := .int (h : Int)
def sp_marks_of : Sp := fun vs H Q _ => ∃ (a h : Addr) (rows : List Row) (heads : List Nat), vs = [.ref a, .ref h] ∧ Refs rowO H a rows ∧ H h = some (.tup (heads.map natV)) ∧ (∀ r ∈ rows, r.2.1 ≤ 64) ∧
  Q (natV (marksOf rows heads)) H
theorem or_step (f m : Nat) : Builtin.bitOr (f : Int) (1 * 2 ^ ((m : Nat) : Int).toNat) = ((f ||| 2 ^ m : Nat) : Int) := by
  have e : ((2 : Int) ^ m) = ((2 ^ m : Nat) : Int) := by norm_cast
  rw [Int.one_mul, Int.toNat_natCast, e, bitOr_nn (Int.natCast_nonneg _) (Int.natCast_nonneg _), Int.toNat_natCast, Int.toNat_natCast]
section
variable {P : Program} {w : World} {K : PySem.W.Frag} {mg : Str → Option Value} {base : Heap}
theorem ok_marks_of (T : Txt K mg) : FnOk P w K mg base CX0 1 T.f_marks_of T.fd_marks_of ["rows", "heads"] sp_marks_of := by
  refine T.F_marks_of.ok sc_marks_of (fun vs H Q E h => ?_) (fun cdv A outer s H vs Q E hr h => ⟨_, (pss_cons (ps_set (i := 2) sc_marks_of.nd rfl (Or.inl rfl) pe_int)
    (pss_cons (ps_for PassesOwn.never rfl (pi_list (pv 0)) (pg_name (i := 3) sc_marks_of.nd rfl (Or.inl rfl))
    (pss_one (ps_if (pt_cmpR op_in_seq (pe_ix ix_tup (pv 3) pe_int (fun _ _ => rfl)) (pv 1) (by rfl))
    (pss_one (ps_set (i := 2) sc_marks_of.nd rfl (Or.inl rfl) (pe_op op_or (pv 2) (pe_op op_shl pe_int (pe_ix ix_tup (pv 3) pe_int (fun _ _ => rfl))))))
    pss_nil)))
    (pss_one (ps_ret (pv 2))))), ?_⟩)
  · obtain ⟨a, h, rows, heads, rfl, _⟩ := h; rfl
  · obtain ⟨a, h, rows, heads, rfl, ⟨as, ha, e⟩, hh, hm, k⟩ := h
    refine ⟨_, rfl, a, rfl, ⟨_, SqL.of ha⟩, for_list (K := K) (a := a) (xs := as.map V.ref)
      (fun i σ H' => ∃ v : Option V, H' = H ∧ σ = [some (.ref a), some (.ref h), some (natV ((rows.take i).foldl (fun f r => if r.1 ∈ heads then f ||| 2 ^ r.2.1 else f) 0)), v])
      ⟨none, rfl, rfl⟩ (fun i σ H' _ ⟨v, e1, _⟩ => by rw [e1]; exact SqL.of ha) ?_ ?_⟩
    · rintro i y σ H' hi ⟨v, rfl, rfl⟩
      obtain ⟨t, r, rfl, hat, hr2, ht⟩ := e.at hi
      have hrm : r.2.1 ≤ 64 := hm r (List.mem_of_getElem? hr2)
      refine ⟨_, rfl, t, rowV r, _, _, rfl, rfl, SqT.of ht, row_0 r, _, rfl, h, _, rfl, .inr (SqT.of hh), rfl, flat_ints heads, _, rfl, ?_⟩
      rw [if_neg Bool.false_ne_true, inV_ints]
      by_cases c : r.1 ∈ heads
      · refine if_true_of (decide_eq_true c) ?_
        refine ⟨_, rfl, _, rfl, t, rowV r, _, _, rfl, rfl, SqT.of ht, row_1 r, _, _, rfl, rfl, ⟨by omega, by omega, by decide⟩, _, _, rfl, rfl, ?_⟩
        refine ⟨some (.ref t), rfl, ?_⟩
        rw [foldl_more hr2, if_pos c]
        show [some (V.ref a), some (V.ref h), some (V.int (Builtin.bitOr (((rows.take i).foldl (fun f r => if r.1 ∈ heads then f ||| 2 ^ r.2.1 else f) 0 : Nat) : Int) (1 * 2 ^ ((r.2.1 : Nat) : Int).toNat))), some (V.ref t)] = _
        rw [or_step]
      · refine if_false_of (decide_eq_false c) ?_
        refine ⟨some (.ref t), rfl, ?_⟩
        rw [foldl_more hr2, if_neg c]; rfl
    · rintro σ H' ⟨v, rfl, rfl⟩
      refine ⟨_, rfl, ?_⟩
      rw [List.length_map, e.1, List.take_length]
      exact k
end
end AX
namespace AX
open PySem PySem.Spec PyProof.Rows L2
/-! ### Concepts -/
def coF (ln lr lt : Addr) : List (Str × V) := [("numbers", .ref ln), ("rows", .ref lr), ("tops", .ref lt)]
theorem coF_numbers (ln lr lt : Addr) : (coF ln lr lt).lookup ("numbers" : Str) = some (.ref ln) := lk_here
theorem coF_rows (ln lr lt : Addr) : (coF ln lr lt).lookup ("rows" : Str) = some (.ref lr) := lk_2 (by decide +kernel)
theorem coF_tops (ln lr lt : Addr) : (coF ln lr lt).lookup ("tops" : Str) = some (.ref lt) := (lk_past (by decide +kernel)).trans (lk_2 (by decide +kernel))
theorem coF_no {m : Str} (ln lr lt : Addr) (h0 : (m == ("numbers" : Str)) = false) (h1 : (m == ("rows" : Str)) = false) (h2 : (m == ("tops" : Str)) = false) : (coF ln lr lt).lookup m = none := (lk_past h0).trans ((lk_past h1).trans ((lk_past h2).trans rfl))
theorem coF_made (ln lr lt : Addr) : putF "tops" (.ref lt) (putF "rows" (.ref lr) (putF "numbers" (.ref ln) [])) = coF ln lr lt := put_3 (by decide +kernel) (by decide +kernel) (by decide +kernel)
/-- concepts read together -/
def CoAt (C : Addr) (H : Hp) (a ln : Addr) (rows : List Row) (tops : List Nat) : Prop := ∃ dx lr lt, H a = some (.ins C dx (coF ln lr lt)) ∧ Refs rowO H lr rows ∧ H lt = some (.lst (tops.map natV))
theorem CoAt.same {C : Addr} {H H' : Hp} {a ln : Addr} {rows : List Row} {tops : List Nat} (h : CoAt C H a ln rows tops) (s : Same H H') : CoAt C H' a ln rows tops := by
  obtain ⟨dx, lr, lt, h1, h2, h3⟩ := h
  exact ⟨dx, lr, lt, s _ _ h1, h2.same s, s _ _ h3⟩
theorem marks_at : ∀ h : Nat, h ≤ 7 → atI [V.int 0, V.int 0, V.int 4, V.int 0, V.int 0, V.int 0, V.int 2, V.int 2] (h : Int) = some (natV (marks h))
  | 0, _ => rfl | 1, _ => rfl | 2, _ => rfl | 3, _ => rfl | 4, _ => rfl | 5, _ => rfl | 6, _ => rfl | 7, _ => rfl
  | n + 8, h => by omega
theorem inner_at : ∀ h : Nat, h ≤ 7 → atI [V.int 0, V.int 0, V.int 0, V.int 2, V.int 2, V.int 1, V.int 1, V.int 1] (h : Int) = some (natV (inner h))
  | 0, _ => rfl | 1, _ => rfl | 2, _ => rfl | 3, _ => rfl | 4, _ => rfl | 5, _ => rfl | 6, _ => rfl | 7, _ => rfl
  | n + 8, h => by omega
def atomCount (rows : List Row) : Nat := (rows.filter fun r => decide (0 < marks r.1)).length
def sp_Concepts_init (C : Addr) : Sp := fun vs H Q _ => ∃ (p dx ln lr lt : Addr), vs = [.ref p, .ref ln, .ref lr, .ref lt] ∧ H p = some (.ins C dx []) ∧
  ∀ H' : Hp, (∃ dx, H' p = some (.ins C dx (coF ln lr lt))) → But [p] H H' → Q .non H'
def sp_Concepts_atom_count (C : Addr) : Sp := fun vs H Q _ => ∃ (p ln : Addr) (rows : List Row) (tops : List Nat), vs = [.ref p] ∧ CoAt C H p ln rows tops ∧ (∀ r ∈ rows, r.1 ≤ 7) ∧ rows.length ≤ 1000 ∧
  ∀ H' : Hp, Same H H' → Q (natV (atomCount rows)) H'
def sp_Concepts_used_names (C : Addr) : Sp := fun vs H Q _ => ∃ (p ln : Addr) (rows : List Row) (tops : List Nat), vs = [.ref p] ∧ CoAt C H p ln rows tops ∧ (∀ r ∈ rows, r.2.1 ≤ 64) ∧
  ∀ H' : Hp, Same H H' → Q (natV (marksOf rows [2])) H'
def sp_Concepts_used_roles (C : Addr) : Sp := fun vs H Q _ => ∃ (p ln : Addr) (rows : List Row) (tops : List Nat), vs = [.ref p] ∧ CoAt C H p ln rows tops ∧ (∀ r ∈ rows, r.2.1 ≤ 64) ∧
  ∀ H' : Hp, Same H H' → Q (natV (marksOf rows [6, 7])) H'
section
variable {P : Program} {w : World} {K : PySem.W.Frag} {mg : Str → Option Value} {base : Heap}
theorem ok_Concepts_init (T : Txt K mg) : FnOk P w K mg base CX0 1 T.f_Concepts_init T.fd_Concepts_init ["self", "numbers", "rows", "tops"] (sp_Concepts_init T.c_Concepts) := by
  refine T.F_Concepts_init.ok sc_Concepts_init (fun vs H Q E h => ?_) (fun cdv A outer s H vs Q E hr h => ⟨_, (pss_cons (ps_fld (pv 0) (pv 1) rfl)
    (pss_cons (ps_fld (pv 0) (pv 2) rfl)
    (pss_one (ps_fld (pv 0) (pv 3) rfl)))), ?_⟩)
  · obtain ⟨p, dx, ln, lr, lt, rfl, _⟩ := h; rfl
  · obtain ⟨p, dx, ln, lr, lt, rfl, hp, k⟩ := h
    refine ⟨_, rfl, _, rfl, p, T.c_Concepts, dx, [], rfl, hp, T.cl_Concepts, T.n_Concepts_numbers, (by show 0 < 1000; decide), ?_⟩
    refine ⟨_, rfl, _, rfl, p, T.c_Concepts, dx, _, rfl, upd_same, T.cl_Concepts, T.n_Concepts_rows, (by show 1 < 1000; decide), ?_⟩
    refine ⟨_, rfl, _, rfl, p, T.c_Concepts, dx, _, rfl, upd_same, T.cl_Concepts, T.n_Concepts_tops, (by show 2 < 1000; decide), ?_⟩
    refine k _ ⟨dx, Eq.trans upd_same (congrArg (fun q => some (HO.ins T.c_Concepts dx q)) (coF_made ln lr lt))⟩ ?_
    exact ((But.upd (by simp)).trans (But.upd (by simp))).trans (But.upd (by simp))
theorem ok_Concepts_atom_count (T : Txt K mg) : FnOk P w K mg base CX0 1 T.f_Concepts_atom_count T.fd_Concepts_atom_count ["self"] (sp_Concepts_atom_count T.c_Concepts) := by
  refine T.F_Concepts_atom_count.ok sc_Concepts_atom_count (fun vs H Q E h => ?_) (fun cdv A outer s H vs Q E hr h => ⟨_, (pss_one (ps_ret (pe_callB call_len_seq (by rfl) T.no_len PySem.boot_len (pa_cons (pe_lc (own := [("row", 1)]) (g := (gName 1)) rfl sc_Concepts_atom_count.nd (pi_list (pe_fld (pv 0) rfl)) (blkOk_by (N := ["self", "row"]) (sc := defScope s_Concepts_atom_count) (by decide +kernel)) (fun _ _ _ _ _ => (pg_name (i := 1) sc_Concepts_atom_count.nd rfl (Or.inl rfl))) (fun _ _ _ _ _ => (pts_one (pt_cmpR op_gt (pe_ix (r := rIxT K) ix_tup (pe_globR rfl T.g_MARKS) (pe_ix (r := rIxT K) ix_tup (pv 1) pe_int (fun _ _ => rfl)) (fun _ _ => rfl)) pe_int (nomark _)))) (fun _ _ _ _ _ => (pv 1))) pa_nil)))), ?_⟩)
  · obtain ⟨p, ln, rows, tops, rfl, _⟩ := h; rfl
  · obtain ⟨p, ln, rows, tops, rfl, ⟨dx, lr, lt, hp, ⟨as, ha, e⟩, hlt⟩, hm, hz, k⟩ := h
    refine ⟨_, rfl, p, T.c_Concepts, dx, _, _, rfl, hp, T.cl_Concepts, T.n_Concepts_rows, coF_rows ln lr lt, lr, rfl, ⟨_, SqL.of ha⟩, fun D hD => ?_⟩
    have nD : ∀ b o, H b = some o → b ≠ D := fun b o q => ne_of_none q hD
    refine lc_list (K := K) (a := lr) (xs := as.map V.ref) (fun i H' => Same H H' ∧ ∃ acc : List V, H' D = some (.lst acc) ∧ acc.length = ((rows.take i).filter fun r => decide (0 < marks r.1)).length)
      ⟨Same.upd hD, [], upd_same, rfl⟩ (fun i H' _ q => q.1.seq (SqL.of ha)) ?_ ?_
    · rintro i y H' hi ⟨s1, acc, hacc, hl⟩
      obtain ⟨t, r, rfl, hat, hr2, ht⟩ := e.at hi
      have hrm : r.1 ≤ 7 := hm r (List.mem_of_getElem? hr2)
      have hlen : acc.length < sizeLine := by
        have h1 : acc.length ≤ rows.length := by
          rw [hl]; exact Nat.le_trans (List.length_filter_le _ _) (by rw [List.length_take]; omega)
        exact small1000 (Nat.le_trans h1 hz)
      refine ⟨rfl, _, rfl, t, rowV r, _, _, rfl, rfl, SqT.of (s1 _ _ ht), row_0 r, T.a_MARKS, _, _, _, rfl, rfl, T.q_MARKS _, marks_at _ hrm, _, _, rfl, rfl, _, rfl, ?_⟩
      rw [take_more hr2, List.filter_append]
      by_cases c : 0 < marks r.1
      · refine if_true_of (decide_eq_true (by show (0 : Int) < ((marks r.1 : Nat) : Int); omega)) ?_
        refine ⟨_, rfl, acc, hacc, hlen, ?_, _, upd_same, ?_⟩
        · exact fun b o q => by rw [upd_ne (nD b o q)]; exact s1 b o q
        · simp [List.length_append, hl, c]
      · refine if_false_of (decide_eq_false (by show ¬ (0 : Int) < ((marks r.1 : Nat) : Int); omega)) ?_
        refine ⟨s1, acc, hacc, ?_⟩
        simp [hl, c]
    · rintro H' ⟨s1, acc, hacc, hl⟩
      refine ⟨D, acc, rfl, .inl (SqL.of hacc), ?_⟩
      rw [hl, List.length_map, e.1, List.take_length]
      exact k H' s1
theorem ok_Concepts_used_names (T : Txt K mg) : FnOk P w K mg base CX0 2 T.f_Concepts_used_names T.fd_Concepts_used_names ["self"] (sp_Concepts_used_names T.c_Concepts) := by
  refine T.F_Concepts_used_names.ok sc_Concepts_used_names (fun vs H Q E h => ?_) (fun cdv A outer s H vs Q E hr h => ⟨_, (pss_one (ps_ret (pe_call (ok_marks_of T) (hr.mono (by decide)) rfl T.g_marks_of T.F_marks_of.kp T.b_marks_of .nil pass0 (pa_cons (pe_fld (pv 0) rfl) (pa_cons (pe_tup (pa_cons (pe_globI rfl T.g_NAME) pa_nil)) pa_nil))))), ?_⟩)
  · obtain ⟨p, ln, rows, tops, rfl, _⟩ := h; rfl
  · obtain ⟨p, ln, rows, tops, rfl, ⟨dx, lr, lt, hp, hR, hlt⟩, hm, k⟩ := h
    refine ⟨_, rfl, p, T.c_Concepts, dx, _, _, rfl, hp, T.cl_Concepts, T.n_Concepts_rows, coF_rows ln lr lt, (by show 1 ≤ sizeLine; decide), fun q hq => ?_⟩
    exact ⟨lr, q, rows, [2], rfl, hR.same (Same.upd hq), upd_same, hm, k _ (Same.upd hq)⟩
theorem ok_Concepts_used_roles (T : Txt K mg) : FnOk P w K mg base CX0 2 T.f_Concepts_used_roles T.fd_Concepts_used_roles ["self"] (sp_Concepts_used_roles T.c_Concepts) := by
  refine T.F_Concepts_used_roles.ok sc_Concepts_used_roles (fun vs H Q E h => ?_) (fun cdv A outer s H vs Q E hr h => ⟨_, (pss_one (ps_ret (pe_call (ok_marks_of T) (hr.mono (by decide)) rfl T.g_marks_of T.F_marks_of.kp T.b_marks_of .nil pass0 (pa_cons (pe_fld (pv 0) rfl) (pa_cons (pe_tup (pa_cons (pe_globI rfl T.g_SOME) (pa_cons (pe_globI rfl T.g_EVERY) pa_nil))) pa_nil))))), ?_⟩)
  · obtain ⟨p, ln, rows, tops, rfl, _⟩ := h; rfl
  · obtain ⟨p, ln, rows, tops, rfl, ⟨dx, lr, lt, hp, hR, hlt⟩, hm, k⟩ := h
    refine ⟨_, rfl, p, T.c_Concepts, dx, _, _, rfl, hp, T.cl_Concepts, T.n_Concepts_rows, coF_rows ln lr lt, (by show 2 ≤ sizeLine; decide), fun q hq => ?_⟩
    exact ⟨lr, q, rows, [6, 7], rfl, hR.same (Same.upd hq), upd_same, hm, k _ (Same.upd hq)⟩
end
end AX
namespace AX
open PySem PySem.Spec PyProof.Rows L2
/-! ### row_of -/
abbrev pairO (y : Nat × Nat) : HO := .tup [natV y.1, natV y.2]
theorem last_natV {W : List Nat} (h : 0 < W.length) : (W.map natV)[(W.map natV).length - 1]? = some (natV (W.getLastD 0)) := by
  rw [List.length_map, List.getElem?_map]
  have : W.getLastD 0 = W[W.length - 1] := by
    rw [List.getLastD_eq_getLast?, List.getLast?_eq_getElem?, List.getElem?_eq_getElem (by omega)]; rfl
  rw [this, List.getElem?_eq_getElem (by omega)]; rfl
theorem drop_natV (W : List Nat) : (W.map natV).dropLast = W.dropLast.map natV := by rw [List.map_dropLast]
def sp_row_of : Sp := fun vs H Q _ => ∃ (t l : Addr) (y : Nat × Nat) (W : List Nat), vs = [.ref t, .ref l] ∧ H t = some (pairO y) ∧ y.1 ≤ 7 ∧ H l = some (.lst (W.map natV)) ∧ inner y.1 ≤ W.length ∧
  ∀ (H' : Hp) (q : Addr), H q = none → But [l] H H' → H' l = some (.lst ((taken y W).map natV)) → H' q = some (rowO (rowOf y W)) → Q (.ref q) H'
section
variable {P : Program} {w : World} {K : PySem.W.Frag} {mg : Str → Option Value} {base : Heap}
theorem ok_row_of (T : Txt K mg) : FnOk P w K mg base CX0 1 T.f_row_of T.fd_row_of ["symbol", "waiting"] sp_row_of := by
  refine T.F_row_of.ok sc_row_of (fun vs H Q E h => ?_) (fun cdv A outer s H vs Q E hr h => ⟨_, (pss_cons (ps_set (i := 2) sc_row_of.nd rfl (Or.inl rfl) (pe_ix ix_tup (pe_globR rfl T.g_INNER) (pe_ix ix_tup (pv 0) pe_int (fun _ _ => rfl)) (fun _ _ => rfl)))
    (pss_cons (ps_set (i := 3) sc_row_of.nd rfl (Or.inl rfl) (pe_ifExp (pt_cmpR op_gt (pv 2) pe_int (nomark _)) (pe_bm0 PySem.F.plainAttrs_list PySem.F.slot_list_pop PySem.F.type_list_pop mt_pop (pv 1)) pe_int))
    (pss_cons (ps_set (i := 4) sc_row_of.nd rfl (Or.inl rfl) (pe_ifExp (pt_cmpR op_gt (pv 2) pe_int (nomark _)) (pe_bm0 PySem.F.plainAttrs_list PySem.F.slot_list_pop PySem.F.type_list_pop mt_pop (pv 1)) pe_int))
    (pss_one (ps_ret (pe_tup (pa_cons (pe_ix ix_tup (pv 0) pe_int (fun _ _ => rfl)) (pa_cons (pe_ix ix_tup (pv 0) pe_int (fun _ _ => rfl)) (pa_cons (pv 3) (pa_cons (pv 4) pa_nil)))))))))), ?_⟩)
  · obtain ⟨t, l, y, W, rfl, _⟩ := h; rfl
  · obtain ⟨t, l, y, W, rfl, ht, hy, hl, hW, k⟩ := h
    have ntl : t ≠ l := ne_of ht hl (by intro z; cases z)
    refine ⟨_, rfl, t, _, _, _, rfl, rfl, SqT.of ht, (show atI [natV y.1, natV y.2] 0 = some _ from rfl), T.a_INNER, _, _, _, rfl, rfl, T.q_INNER _, inner_at _ hy, ?_⟩
    have fin : ∀ (H1 : Hp) (W1 : List Nat) (x1 x2 : Nat), But [l] H H1 → H1 l = some (.lst (W1.map natV)) → W1 = taken y W → (y.1, y.2, x1, x2) = rowOf y W →
        ∀ q, H1 q = none → Q (.ref q) (upd H1 q (.tup [natV y.1, natV y.2, natV x1, natV x2])) := by
      intro H1 W1 x1 x2 b1 h1 e1 e2 q hq
      have nlq : l ≠ q := ne_of_none h1 hq
      refine k _ q (none_of_but b1 hq (by simpa using nlq.symm)) (b1.trans (But.of (Same.upd hq))) ?_ ?_
      · rw [upd_ne nlq, h1, e1]
      · rw [upd_same, ← e2]; rfl
    have tup : ∀ (H1 : Hp), But [l] H H1 → H1 t = some (pairO y) := fun H1 b1 => b1 _ _ ht (by simpa using ntl)
    have i0 : ∀ n : Nat, decide ((0 : Int) < ((n : Nat) : Int)) = decide (0 < n) := fun n => by
      by_cases c : 0 < n
      · rw [decide_eq_true c, decide_eq_true (by omega)]
      · rw [decide_eq_false c, decide_eq_false (by omega)]
    have i1 : ∀ n : Nat, decide ((1 : Int) < ((n : Nat) : Int)) = decide (1 < n) := fun n => by
      by_cases c : 1 < n
      · rw [decide_eq_true c, decide_eq_true (by omega)]
      · rw [decide_eq_false c, decide_eq_false (by omega)]
    refine ⟨_, rfl, _, _, rfl, rfl, _, rfl, ?_⟩
    rw [i0]
    by_cases c0 : 0 < inner y.1
    · refine if_true_of (decide_eq_true c0) ?_
      refine ⟨_, rfl, .inl ⟨rfl, _, SqL.of hl⟩, l, _, _, rfl, rfl, hl, last_natV (by omega), ?_⟩
      rw [drop_natV]
      have b1 : But [l] H (upd H l (.lst (W.dropLast.map natV))) := But.upd (by simp)
      refine ⟨_, rfl, _, _, rfl, rfl, _, rfl, ?_⟩
      rw [i1]
      by_cases c1 : 1 < inner y.1
      · refine if_true_of (decide_eq_true c1) ?_
        refine ⟨_, rfl, .inl ⟨rfl, _, SqL.of upd_same⟩, l, _, _, rfl, rfl, upd_same, last_natV (by rw [List.length_dropLast]; omega), ?_⟩
        rw [drop_natV, upd_upd]
        have b2 : But [l] H (upd H l (.lst (W.dropLast.dropLast.map natV))) := But.upd (by simp)
        refine ⟨_, rfl, t, _, _, _, rfl, rfl, SqT.of (tup _ b2), (show atI [natV y.1, natV y.2] 0 = some _ from rfl), _, rfl, t, _, _, _, rfl, rfl, SqT.of (tup _ b2), (show atI [natV y.1, natV y.2] 1 = some _ from rfl), _, rfl, _, rfl, (by show 4 ≤ sizeLine; decide), ?_⟩
        exact fin _ W.dropLast.dropLast _ _ b2 upd_same (by simp [taken, c1]) (by simp [rowOf, c0, c1])
      · refine if_false_of (decide_eq_false c1) ?_
        refine ⟨_, rfl, t, _, _, _, rfl, rfl, SqT.of (tup _ b1), (show atI [natV y.1, natV y.2] 0 = some _ from rfl), _, rfl, t, _, _, _, rfl, rfl, SqT.of (tup _ b1), (show atI [natV y.1, natV y.2] 1 = some _ from rfl), _, rfl, _, rfl, (by show 4 ≤ sizeLine; decide), ?_⟩
        exact fin _ W.dropLast _ 0 b1 upd_same (by simp [taken, c0, c1]) (by simp [rowOf, c0, c1])
    · refine if_false_of (decide_eq_false c0) ?_
      refine ⟨_, rfl, _, _, rfl, rfl, _, rfl, ?_⟩
      rw [i1]
      refine if_false_of (decide_eq_false (by omega)) ?_
      refine ⟨_, rfl, t, _, _, _, rfl, rfl, SqT.of ht, (show atI [natV y.1, natV y.2] 0 = some _ from rfl), _, rfl, t, _, _, _, rfl, rfl, SqT.of ht, (show atI [natV y.1, natV y.2] 1 = some _ from rfl), _, rfl, _, rfl, (by show 4 ≤ sizeLine; decide), ?_⟩
      exact fin _ W 0 0 (But.refl _) hl (by have : ¬ 1 < inner y.1 := by omega
                                            simp [taken, c0, this]) (by have : ¬ 1 < inner y.1 := by omega
                                                                        simp [rowOf, c0, this])
end
end AX
namespace AX
open PySem PySem.Spec PyProof.Rows L2
/-! ### read_symbols -/
theorem drop_cons {α : Type} : ∀ {l : List α} {i : Nat} {x : α}, l[i]? = some x → l.drop i = x :: l.drop (i + 1)
  | [], i, x, h => by simp at h
  | a :: l, 0, x, h => by
    have e : a = x := Option.some.inj h
    subst e; rfl
  | a :: l, i + 1, x, h => drop_cons (l := l) (i := i) h
theorem nat_eq0 (n : Nat) : (V.int (n : Int) = V.int 0) ↔ n = 0 := by
  constructor
  · intro h; injection h with h; omega
  · rintro rfl; rfl
theorem natV_inj {m n : Nat} (h : natV m = natV n) : m = n := by
  have : ((m : Nat) : Int) = ((n : Nat) : Int) := V.int.inj h
  omega
theorem marks_le (h : Nat) : marks h ≤ 4 := by unfold marks; split <;> omega
theorem inner_le (h : Nat) : inner h ≤ 2 := by unfold inner; split <;> omega
def sp_read_symbols (K : PySem.W.Frag) : Sp := fun vs H Q _ => ∃ (a : Addr) (ns : List Nat) (m : Nat), vs = [.ref a, natV m] ∧ SqL K H a (ns.map natV) ∧ ns.length ≤ 1000 ∧
  (syms ns m [] = none → ∀ H' : Hp, Same H H' → Q .non H') ∧
  (∀ ys, syms ns m [] = some ys → ys.length ≤ ns.length → ∀ (H' : Hp) (q : Addr), Same H H' → H q = none → Refs pairO H' q ys → Q (.ref q) H')
section
variable {P : Program} {w : World} {K : PySem.W.Frag} {mg : Str → Option Value} {base : Heap}
theorem ok_read_symbols (T : Txt K mg) : FnOk P w K mg base CX0 1 T.f_read_symbols T.fd_read_symbols ["numbers", "wanted"] (sp_read_symbols K) := by
  refine T.F_read_symbols.ok sc_read_symbols (fun vs H Q E h => ?_) (fun cdv A outer s H vs Q E hr h => ⟨_, (pss_cons (ps_set (i := 2) sc_read_symbols.nd rfl (Or.inl rfl) (pe_lst pa_nil))
    (pss_cons (ps_set (i := 3) sc_read_symbols.nd rfl (Or.inl rfl) (pv 1))
    (pss_cons (ps_set (i := 4) sc_read_symbols.nd rfl (Or.inl rfl) pe_int)
    (pss_cons (ps_while PassesOwn.never (pt_cmpR op_lt (pv 4) (pe_callB call_len_seq (by rfl) T.no_len PySem.boot_len (pa_cons (pv 0) pa_nil)) (nomark _))
    (pss_cons (ps_set (i := 5) sc_read_symbols.nd rfl (Or.inl rfl) (pe_ix ix_list (pv 0) (pv 4) (fun _ _ => rfl)))
    (pss_cons (ps_if (PW.pt (pw_or (pt_cmpR op_eq (pv 3) pe_int (nomark _)) (pw_or1 (pt_cmpR op_gt (pv 5) (pe_globI rfl T.g_EVERY) (nomark _)))))
    (pss_one (ps_ret pe_non))
    pss_nil)
    (pss_cons (ps_set (i := 3) sc_read_symbols.nd rfl (Or.inl rfl) (pe_op op_add (pe_op op_sub (pv 3) pe_int) (pe_ix ix_tup (pe_globR rfl T.g_INNER) (pv 5) (fun _ _ => rfl))))
    (pss_cons (ps_set (i := 4) sc_read_symbols.nd rfl (Or.inl rfl) (pe_op op_add (pv 4) pe_int))
    (pss_cons (ps_set (i := 6) sc_read_symbols.nd rfl (Or.inl rfl) pe_int)
    (pss_cons (ps_if (pt_cmpR op_gt (pe_ix ix_tup (pe_globR rfl T.g_MARKS) (pv 5) (fun _ _ => rfl)) pe_int (nomark _))
    (pss_cons (ps_if (PW.pt (pw_or (pt_cmpR op_eq (pv 4) (pe_callB call_len_seq (by rfl) T.no_len PySem.boot_len (pa_cons (pv 0) pa_nil)) (nomark _)) (pw_or1 (pt_cmpR op_ge (pe_ix ix_list (pv 0) (pv 4) (fun _ _ => rfl)) (pe_ix ix_tup (pe_globR rfl T.g_MARKS) (pv 5) (fun _ _ => rfl)) (nomark _)))))
    (pss_one (ps_ret pe_non))
    pss_nil)
    (pss_cons (ps_set (i := 6) sc_read_symbols.nd rfl (Or.inl rfl) (pe_ix ix_list (pv 0) (pv 4) (fun _ _ => rfl)))
    (pss_one (ps_set (i := 4) sc_read_symbols.nd rfl (Or.inl rfl) (pe_op op_add (pv 4) pe_int)))))
    pss_nil)
    (pss_one (ps_expr (pe_bm PySem.F.plainAttrs_list PySem.F.slot_list_append PySem.F.type_list_append mt_append (pv 2) (pa_cons (pe_tup (pa_cons (pv 5) (pa_cons (pv 6) pa_nil))) pa_nil)))))))))))
    (pss_cons (ps_if (pt_cmpR op_gt (pv 3) pe_int (nomark _))
    (pss_one (ps_ret pe_non))
    pss_nil)
    (pss_one (ps_ret (pv 2)))))))), ?_⟩)
  · obtain ⟨a, ns, m, rfl, _⟩ := h; rfl
  · obtain ⟨a, ns, m, rfl, hS, hz, kN, kS⟩ := h
    refine ⟨Nat.zero_le _, fun ls hls => ?_⟩
    have s0 : Same H (upd H ls (.lst [])) := Same.upd hls
    refine ⟨_, rfl, fun n σ H' => ∃ (mi i : Nat) (acc : List (Nat × Nat)) (v5 v6 : Option V), n = ns.length - i ∧ i ≤ ns.length ∧ acc.length ≤ i ∧
        σ = [some (.ref a), some (natV m), some (.ref ls), some (natV mi), some (natV i), v5, v6] ∧ Same H H' ∧ Refs pairO H' ls acc ∧ syms (ns.drop i) mi acc = syms ns m [],
      ⟨_, m, 0, [], none, none, rfl, Nat.zero_le _, Nat.le_refl _, rfl, s0, ⟨[], upd_same, Each.nil⟩, rfl⟩, ?_⟩
    rintro n σ H' ⟨mi, i, acc, v5, v6, rfl, hi, hacc, rfl, s1, hR, he⟩
    have hS1 := s1.seq hS
    refine ⟨_, rfl, _, rfl, a, _, rfl, .inl hS1, _, _, rfl, rfl, _, rfl, ?_⟩
    rw [List.length_map]
    by_cases c : i < ns.length
    · refine if_true_of (decide_eq_true (by omega)) ?_
      have hx : ns[i]? = some ns[i] := List.getElem?_eq_getElem c
      have hxV : (ns.map natV)[i]? = some (natV ns[i]) := by rw [List.getElem?_map, hx]; rfl
      generalize hh : ns[i] = h at hx hxV
      rw [drop_cons hx, syms_cons] at he
      refine ⟨fun σ' H2 => ∃ (mi2 i2 : Nat) (acc2 : List (Nat × Nat)) (v5 v6 : Option V), i < i2 ∧ i2 ≤ ns.length ∧ acc2.length ≤ i2 ∧
        σ' = [some (.ref a), some (natV m), some (.ref ls), some (natV mi2), some (natV i2), v5, v6] ∧ Same H H2 ∧ Refs pairO H2 ls acc2 ∧ syms (ns.drop i2) mi2 acc2 = syms ns m [],
        fun σ' H2 ⟨mi2, i2, acc2, w5, w6, l1, l2, l3, q⟩ => ⟨ns.length - i2, by omega, mi2, i2, acc2, w5, w6, rfl, l2, l3, q⟩, ?_⟩
      refine ⟨_, rfl, _, rfl, a, _, _, _, rfl, rfl, hS1, atI_nat hxV, ?_⟩
      refine ⟨_, rfl, rfl, _, rfl, ?_⟩
      by_cases c0 : mi = 0
      · refine if_true_of (decide_eq_true ((nat_eq0 mi).mpr c0)) ?_
        rw [if_pos (.inl c0)] at he
        exact kN he.symm _ s1
      · refine if_false_of (decide_eq_false fun z => c0 ((nat_eq0 mi).mp z)) ?_
        refine ⟨_, rfl, _, _, rfl, rfl, _, rfl, ?_⟩
        by_cases c7 : 7 < h
        · refine if_true_of (decide_eq_true (by omega)) ?_
          rw [if_pos (.inr c7)] at he
          exact kN he.symm _ s1
        · refine if_false_of (decide_eq_false (by omega)) ?_
          rw [if_neg (by omega)] at he
          have c7' : h ≤ 7 := by omega
          refine ⟨_, rfl, _, _, rfl, rfl, _, rfl, T.a_INNER, _, _, _, rfl, rfl, T.q_INNER _, inner_at _ c7', _, _, rfl, rfl, ?_⟩
          refine ⟨_, rfl, _, _, rfl, rfl, ?_⟩
          have eM : ((mi : Nat) : Int) - 1 + ((inner h : Nat) : Int) = ((mi - 1 + inner h : Nat) : Int) := by omega
          have eI : ((i : Nat) : Int) + 1 = ((i + 1 : Nat) : Int) := by omega
          refine ⟨_, rfl, T.a_MARKS, _, _, _, rfl, rfl, T.q_MARKS _, marks_at _ c7', _, _, rfl, rfl, _, rfl, ?_⟩
          -- the last row: symbols.append((head, mark))
          have app : ∀ (i2 k : Nat) (v : Option V), i < i2 → i2 ≤ ns.length → syms (ns.drop i2) (mi - 1 + inner h) (acc ++ [(h, k)]) = syms ns m [] → ∀ (H2 : Hp), H2 = H' →
              ∀ q, H2 q = none → ∃ (mi2 i3 : Nat) (acc2 : List (Nat × Nat)) (v5 v6 : Option V), i < i3 ∧ i3 ≤ ns.length ∧ acc2.length ≤ i3 ∧
                ([some (.ref a), some (natV m), some (.ref ls), some (natV (mi - 1 + inner h)), some (natV i2), some (natV h), some (natV k)] : L2.St) = [some (.ref a), some (natV m), some (.ref ls), some (natV mi2), some (natV i3), v5, v6] ∧
                Same H (upd (upd H' q (pairO (h, k))) ls (.lst ((hR.choose.map V.ref) ++ [.ref q]))) ∧ Refs pairO (upd (upd H' q (pairO (h, k))) ls (.lst ((hR.choose.map V.ref) ++ [.ref q]))) ls acc2 ∧ syms (ns.drop i3) mi2 acc2 = syms ns m [] := by
            intro i2 k v h1 h2 h3 H2 e2 q hq
            subst e2
            obtain ⟨hL, hE⟩ := hR.choose_spec
            have nq : ls ≠ q := ne_of_none hL hq
            refine ⟨_, i2, acc ++ [(h, k)], _, _, h1, h2, by simp; omega, rfl, ?_, ⟨hR.choose ++ [q], ?_, ?_⟩, h3⟩
            · intro b o e
              have nbl : b ≠ ls := fun z => by rw [z, hls] at e; cases e
              have nbq : b ≠ q := ne_of_none (s1 _ _ e) hq
              rw [upd_ne nbl, upd_ne nbq]; exact s1 _ _ e
            · rw [upd_same, List.map_append]; rfl
            · refine Each.snoc (hE.keep fun t x e => ?_) ?_
              · have ntl : t ≠ ls := ne_of e hL (by intro z; cases z)
                rw [upd_ne ntl, upd_ne (ne_of_none e hq)]; exact e
              · rw [upd_ne nq.symm, upd_same]
          obtain ⟨hL, hE⟩ := hR.choose_spec
          have hlen : (hR.choose.map V.ref).length < sizeLine := by
            rw [List.length_map, hE.1]
            exact small1000 (by omega)
          by_cases cm : 0 < marks h
          · refine if_true_of (decide_eq_true (by show (0 : Int) < ((marks h : Nat) : Int); omega)) ?_
            rw [if_pos cm] at he
            refine ⟨_, rfl, _, rfl, a, _, rfl, .inl hS1, rfl, _, rfl, ?_⟩
            have hat : ∀ x, (ns.map natV)[i + 1]? = some x → atI (ns.map natV) ((i : Int) + 1) = some x := fun x q => by rw [eI]; exact atI_nat q
            by_cases ce : i + 1 = ns.length
            · refine if_true_of (decide_eq_true (by show V.int ((i : Int) + 1) = V.int (((ns.map natV).length : Nat) : Int); rw [List.length_map, eI, ce])) ?_
              rw [List.drop_eq_nil_of_le (by omega)] at he
              exact kN he.symm _ s1
            · refine if_false_of (decide_eq_false fun z => ce (by
                have z2 : (i : Int) + 1 = (((ns.map natV).length : Nat) : Int) := V.int.inj z
                rw [List.length_map] at z2; omega)) ?_
              have hx2 : ns[i + 1]? = some ns[i + 1] := List.getElem?_eq_getElem (by omega)
              have hx2V : (ns.map natV)[i + 1]? = some (natV ns[i + 1]) := by rw [List.getElem?_map, hx2]; rfl
              generalize hh2 : ns[i + 1] = k at hx2 hx2V
              rw [drop_cons hx2] at he
              refine ⟨_, rfl, _, rfl, a, _, _, _, rfl, rfl, hS1, hat _ hx2V, _, rfl, T.a_MARKS, _, _, _, rfl, rfl, T.q_MARKS _, marks_at _ c7', _, _, rfl, rfl, _, rfl, ?_⟩
              by_cases ck : marks h ≤ k
              · refine if_true_of (decide_eq_true (by show ((marks h : Nat) : Int) ≤ (k : Int); omega)) ?_
                simp only [if_pos ck] at he
                exact kN he.symm _ s1
              · refine if_false_of (decide_eq_false (by show ¬ ((marks h : Nat) : Int) ≤ (k : Int); omega)) ?_
                simp only [if_neg ck] at he
                refine ⟨_, rfl, _, rfl, a, _, _, _, rfl, rfl, hS1, hat _ hx2V, ?_⟩
                refine ⟨_, rfl, _, _, rfl, rfl, ?_⟩
                refine ⟨_, rfl, .inl ⟨rfl, _, SqL.of hL⟩, _, rfl, _, rfl, (by show 2 ≤ sizeLine; decide), fun q hq => ?_⟩
                have nq : ls ≠ q := ne_of_none hL hq
                refine ⟨ls, _, _, rfl, rfl, (by rw [upd_ne nq]; exact hL), hlen, ?_⟩
                have e2 : ((i + 1 : Nat) : Int) + 1 = ((i + 1 + 1 : Nat) : Int) := by omega
                obtain ⟨mi2, i3, acc2, w5, w6, g1, g2, g3, g4, g5⟩ := app (i + 1 + 1) k none (by omega) (by omega) he _ rfl q hq
                refine ⟨mi2, i3, acc2, w5, w6, g1, g2, g3, ?_, g5⟩
                rw [← g4]
                show ([some (V.ref a), some (natV m), some (V.ref ls), some (V.int (((mi : Nat) : Int) - 1 + ((inner h : Nat) : Int))), some (V.int ((i : Int) + 1 + 1)), some (natV h), some (natV k)] : L2.St) = _
                rw [eM, show (i : Int) + 1 + 1 = ((i + 1 + 1 : Nat) : Int) from by omega]
          · refine if_false_of (decide_eq_false (by show ¬ (0 : Int) < ((marks h : Nat) : Int); omega)) ?_
            rw [if_neg cm] at he
            refine ⟨_, rfl, .inl ⟨rfl, _, SqL.of hL⟩, _, rfl, _, rfl, (by show 2 ≤ sizeLine; decide), fun q hq => ?_⟩
            have nq : ls ≠ q := ne_of_none hL hq
            refine ⟨ls, _, _, rfl, rfl, (by rw [upd_ne nq]; exact hL), hlen, ?_⟩
            obtain ⟨mi2, i3, acc2, w5, w6, g1, g2, g3, g4, g5⟩ := app (i + 1) 0 none (by omega) (by omega) he _ rfl q hq
            refine ⟨mi2, i3, acc2, w5, w6, g1, g2, g3, ?_, g5⟩
            rw [← g4]
            show ([some (V.ref a), some (natV m), some (V.ref ls), some (V.int (((mi : Nat) : Int) - 1 + ((inner h : Nat) : Int))), some (V.int ((i : Int) + 1)), some (natV h), some (natV 0)] : L2.St) = _
            rw [eM, eI]
    · refine if_false_of (decide_eq_false (by omega)) ?_
      have ei : i = ns.length := by omega
      rw [List.drop_eq_nil_of_le (by omega)] at he
      refine ⟨_, rfl, _, _, rfl, rfl, _, rfl, ?_⟩
      by_cases cm : 0 < mi
      · refine if_true_of (decide_eq_true (by show (0 : Int) < ((mi : Nat) : Int); omega)) ?_
        rw [syms, if_pos cm] at he
        exact kN he.symm _ s1
      · refine if_false_of (decide_eq_false (by show ¬ (0 : Int) < ((mi : Nat) : Int); omega)) ?_
        rw [syms, if_neg cm] at he
        exact ⟨_, rfl, kS acc he.symm (by omega) _ ls s1 hls hR⟩
end
end AX
/-! list(reversed(a list)): a new list, by the library's own rules of iterators -/
namespace PySem
open PySem PySem.Spec PyProof.Rows
section
variable {prog : Program} {w : World} {A : Around} {E : Value → Shared → Prop} {s : Shared}
theorem ax_extend_rev {R : Result → Shared → Prop} {it l : Addr} {items : Array Value} (hh : A.handled = none) (hit : s.heap.IsRevIter it l ((items.size : Int) - 1)) (hl : s.heap.IsList l items) (hne : l ≠ it) (hn : items.size ≤ sizeLine)
    (S : Addr) (res : Value) (c₀ : Nat) (hSi : S ≠ it) (hSl : S ≠ l) (hS : s.heap.get? S = some { cls := .type "list", data := .seq #[] c₀ })
    (hR : ∀ h' tk acc' c', (∀ b o, b ≠ S → b ≠ it → s.heap.get? b = some o → h'.get? b = some o) → h'.get? S = some { cls := .type "list", dict := none, data := .seq acc' c', slots := #[] } →
      ItemsOf (fun i v => items[items.size - 1 - i]? = some v) acc' items.size → R (.ok (.ret res)) { s with heap := h', toks := tk }) :
    wpAny (model prog w) A.in1 (Builtin.List.listExtendWith (.ref S) (.ref it) res)
      (fun fin s' => match fin with | .done f => R (.ok f) s' | .again c' => c'.quiet = true ∧ codeAny (model prog w) A c' R s') (fun e s' => R (.error e) s') s := by
  have W := (Walks.listRev (prog := prog) (w := w) (A := A.in1) hh it l hne items).toS
  have hSf : S ∉ [it, l] := by simp only [List.mem_cons, List.not_mem_nil, or_false, not_or]; exact ⟨hSi, hSl⟩
  have hT : s.TypeIs (.ref it) "list_reverseiterator" := hit.typeIs
  have h1 : Builtin.List.listSameRef (.ref S) (.ref it) = false := by simp [Builtin.List.listSameRef, hSi]
  unfold Builtin.List.listExtendWith
  refine wpAny_bind (wpAny_typeOf hT ?_)
  rw [if_neg (by rw [h1]; decide)]
  refine wpAny_bind (wpAny_pyIter_revIter hit ?_)
  refine wpAny_bind (wpAny_holding ?_)
  unfold Builtin.List.listLengthHint
  refine wpAny_bind (wpAny_specialOf hT RT.nolen_lri ?_)
  show wpAny _ A.in1 (specialOf (Value.ref it) (Str.ofString "__length_hint__") >>= _) _ _ _
  refine wpAny_bind (wpAny_specialOf hT RT.hint_lri ?_)
  generalize hid : ("list_reverseiterator.__length_hint__" : String) = id0
  wp_delta
  rw [show splitId id0 = some ("list_reverseiterator", "__length_hint__") from by subst hid; decide +kernel]
  subst hid
  refine wpAny_bind (wpAny_isInstance (b := true) hT (by rw [isSubtype_type]; kernel_rfl) ?_)
  refine wpAny_pure ?_
  rw [if_neg (by decide)]
  have e0 : ((items.size : Nat) : Int) - 1 - ((0 : Nat) : Int) = (items.size : Int) - 1 := by omega
  refine wpAny_pure ⟨plainId_quiet F.plain_extend_loop _, codeAny_extend_loopS W hn _ hSf _ items.size 0 _ _ _ rfl (Nat.zero_le _) ⟨Nat.zero_le _, by rw [e0]; exact hit, hl⟩ hS (ItemsOf.nil _) fun s' acc' c' hm hS' hacc => ?_⟩
  rw [Moved.eq_with hm]
  refine hR s'.heap s'.toks acc' c' (fun b o hb hb2 e => hm.heap b o (fun hmem => ?_) e) hS' hacc
  rcases List.mem_cons.mp hmem with e' | hmem
  · exact hb e'
  · exact hb2 (List.mem_singleton.mp hmem)
theorem ax_init_rev {R : Result → Shared → Prop} {it l : Addr} {items : Array Value} (hh : A.handled = none) (hit : s.heap.IsRevIter it l ((items.size : Int) - 1)) (hl : s.heap.IsList l items) (hne : l ≠ it) (hn : items.size ≤ sizeLine)
    (S : Addr) (hSi : S ≠ it) (hSl : S ≠ l) (hS : s.heap.get? S = some { cls := .type "list", data := .seq #[] })
    (hR : ∀ h' tk acc' c', (∀ b o, b ≠ S → b ≠ it → s.heap.get? b = some o → h'.get? b = some o) → h'.get? S = some { cls := .type "list", dict := none, data := .seq acc' c', slots := #[] } →
      ItemsOf (fun i v => items[items.size - 1 - i]? = some v) acc' items.size → R (.ok (.ret .none)) { s with heap := h', toks := tk }) :
    wpAny (model prog w) A.in1 (Builtin.«list.__init__» ⟨[.ref S, .ref it], []⟩)
      (fun fin s' => match fin with | .done f => R (.ok f) s' | .again c' => c'.quiet = true ∧ codeAny (model prog w) A c' R s') (fun e s' => R (.error e) s') s := by
  show wpAny _ _ (do let old ← Builtin.List.listItems (.ref S); Builtin.List.listUpdate (.ref S) (fun _ => #[]); letGo old.toList.reverse; Builtin.List.listExtendWith (.ref S) (.ref it) .none) _ _ s
  refine wpAny_bind ?_
  unfold Builtin.List.listItems
  refine wpAny_bind (wpAny_seqItems hS rfl (wpAny_pure ?_))
  show wpAny _ _ (updateSeq S (fun _ => #[]) >>= fun _ => letGo (#[] : Array Value).toList.reverse >>= fun _ => Builtin.List.listExtendWith (.ref S) (.ref it) .none) _ _ s
  refine wpAny_bind (wpAny_updateSeq hS rfl ?_)
  have hS₂ := Heap.get?_update_self (Obj.mapSeq (fun _ => (#[] : Array Value))) hS rfl
  have oth : ∀ b o, b ≠ S → s.heap.get? b = some o → (s.heap.update S (Obj.mapSeq (fun _ => (#[] : Array Value)))).get? b = some o :=
    fun b o hb e => (Heap.get?_update_other _ _ (Ne.symm hb)).trans e
  refine wpAny_bind (wpAny_letGo ?_)
  obtain ⟨ol, hol, hlr⟩ := hl
  refine ax_extend_rev (s := { s with heap := s.heap.update S (Obj.mapSeq (fun _ => (#[] : Array Value))) }) hh (hit.at fun o e => oth it o (Ne.symm hSi) e) ⟨ol, oth l _ (Ne.symm hSl) hol, hlr⟩ hne hn S .none _ hSi hSl hS₂ fun h' tk acc' c' hk hS' hacc => ?_
  exact hR h' tk acc' c' (fun b o hb hb2 e => hk b o hb hb2 (oth b o hb e)) hS' hacc
theorem ax_list_rev {Q : Value → Shared → Prop} {it l : Addr} {items : Array Value} (hh : A.handled = none) (hit : s.heap.IsRevIter it l ((items.size : Int) - 1)) (hl : s.heap.IsList l items) (hne : l ≠ it) (hn : items.size ≤ sizeLine)
    (hQ : ∀ h' tk acc' c', (∀ b o, b ≠ it → s.heap.get? b = some o → h'.get? b = some o) →
      h'.get? s.heap.objs.size = some { cls := .type "list", dict := none, data := .seq acc' c', slots := #[] } → ItemsOf (fun i v => items[items.size - 1 - i]? = some v) acc' items.size → Q (.ref s.heap.objs.size) { s with heap := h', toks := tk }) :
    wpAny (model prog w) A (call (.type "list") [.ref it]) Q E s := by
  obtain ⟨oi, hoi, hri⟩ := id hit
  obtain ⟨ol, hol, hrl⟩ := id hl
  refine callType_codes (Q₁ := fun obj s₁ => obj = .ref s.heap.objs.size ∧ s₁ = { s with heap := s.heap.push { cls := .type "list", data := .seq #[] } }) F.called_list (F.typeCall_list_1 _) F.entry_list_init
    (code_list_new _ ⟨rfl, rfl⟩) fun obj s₁ h₁ => ?_
  obtain ⟨rfl, rfl⟩ := h₁
  have hS : (s.heap.push { cls := .type "list", data := .seq #[] }).get? s.heap.objs.size = some { cls := .type "list", data := .seq #[] } := Heap.get?_push_size _ rfl
  refine ⟨⟨_, hS, rfl⟩, F.args_list_init_2 _ _, ax_init_rev (A := A.in1) (it := it) (l := l) (items := items) hh (hit.at fun o e => Heap.get?_push_of_some _ e) (hl.push _) hne hn _ (Nat.ne_of_gt (Heap.lt_size hoi)) (Nat.ne_of_gt (Heap.lt_size hol)) hS fun h' tk acc' c' hk hS' hacc => ?_⟩
  exact ⟨rfl, hQ h' tk acc' c' (fun b o hb e => hk b o (Nat.ne_of_lt (Heap.lt_size e)) hb (Heap.get?_push_of_some _ e)) hS' hacc⟩
end
end PySem
namespace AX
open PySem PySem.Spec PyProof.Rows L2
/-- list(reversed(x)), x a list: a new list -/
def tListRev (K : PySem.W.Frag) (te : TE) : TE := fun σ H Q => te σ H fun v H1 => ∃ (a : Addr) (xs : List V), v = .ref a ∧ SqL K H1 a xs ∧ ∀ q, H1 q = none → Q (.ref q) (upd H1 q (.lst xs.reverse))
section
variable {X : Cx}
theorem pe_listRev {e : Expr} {te : TE} {p p2 pos pos2 : Pos} (hc : X.calm = true) (hg : Gl X "list") (hm : X.mg "list" = none) (hg2 : Gl X "reversed") (hm2 : X.mg "reversed" = none) (he : PE X e te)
    (hs : starEach [e] X.env = (false, eval e X.env) :: starEach [] X.env := by rfl)
    (hs2 : starEach [.Call (.Name "reversed" p2) [e] [] pos2] X.env = (false, eval (.Call (.Name "reversed" p2) [e] [] pos2) X.env) :: starEach [] X.env := by rfl) :
    PE X (.Call (.Name "list" p) [.Call (.Name "reversed" p2) [e] [] pos2] [] pos) (tListRev X.K te) := by
  refine ⟨fun pins s σ H Q I h => ?_⟩
  refine Call_ (ld_blt I hg hm (by decide +kernel : bootBuiltins "list" = some (.type "list")) (PyProof.Rows.callWith_type1 (args_cons (Call_ (ld_blt I hg2 hm2 PyProof.Rows.boot_reversed (PyProof.Rows.callWith_type1 (args_cons (thn (he.run pins s σ H _ I h) fun u s1 ⟨v, H1, I1, r1, q1⟩ => args_nil ?_) hs) hs rfl))) hs2) hs2 rfl))
  obtain ⟨a, xs, ev, hq, q⟩ := q1
  subst ev
  obtain rfl : u = Value.ref a := r1
  obtain ⟨its, rv, p', hz⟩ := I1.list hq
  refine call_reversed_list p'.isList (args_nil ?_)
  have k0 : ∀ b o, s1.heap.get? b = some o → (s1.heap.push (revObj a ((its.toArray.size : Int) - 1))).get? b = some o := fun b o e => Heap.get?_push_of_some _ e
  have I2 : Inv X pins σ H1 { s1 with heap := s1.heap.push (revObj a ((its.toArray.size : Int) - 1)) } := I1.kept (t' := s1.toks) k0
  have fp := I1.fpOk (H' := H1) (b := s1.heap.objs.size) (Nat.le_refl _) (I1.hok.fresh (Nat.le_refl _))
  have hl := p'.isList
  obtain ⟨ol, hol, _⟩ := id hl
  have hne : a ≠ s1.heap.objs.size := Nat.ne_of_lt (Heap.lt_size hol)
  have hn : its.toArray.size ≤ sizeLine := by rw [List.size_toArray, ← rv.length]; exact hz
  refine ax_list_rev (s := { s1 with heap := s1.heap.push (revObj a ((its.toArray.size : Int) - 1)) }) (I1.ok.hd hc) ⟨_, Heap.get?_push_size _ rfl, rfl, rfl⟩ (hl.push _) hne hn fun h' tk acc c' hk hS hi => ?_
  have hT : s1.heap.objs.size ≤ (s1.heap.push (revObj a ((its.toArray.size : Int) - 1))).objs.size := by
    unfold Heap.push; simp
  refine ⟨.ref (s1.heap.push (revObj a ((its.toArray.size : Int) - 1))).objs.size, _, I1.turnedNew (t' := tk) (ch := [s1.heap.objs.size]) (T := (s1.heap.push (revObj a ((its.toArray.size : Int) - 1))).objs.size) (ob := .lst xs.reverse) (fun b o hb e => hk b o (by simpa using hb) (k0 b o e)) (fun b hb => ?_) hT ?_, rfl, q _ (I1.hok.fresh hT)⟩
  · rw [List.mem_singleton] at hb; subst hb; exact fp
  · refine ⟨by rw [List.length_reverse]; exact hz, acc.toList, c', RT.vals_rev rv hi, ?_⟩
    rw [Array.toArray_toList]
    exact hS
end
end AX
namespace AX
open PySem PySem.Spec PyProof.Rows L2
/-! ### read_concepts -/
def rowKey (r : Row) : List Key := [.inl (r.1 : Nat), .inl (r.2.1 : Nat), .inl (r.2.2.1 : Nat), .inl (r.2.2.2 : Nat)]
theorem rowKey_inj {r s : Row} (h : rowKey r = rowKey s) : r = s := by
  obtain ⟨a, b, c, d⟩ := r
  obtain ⟨a', b', c', d'⟩ := s
  unfold rowKey at h
  simp only [List.cons.injEq, Sum.inl.injEq, and_true] at h
  obtain ⟨h1, h2, h3, h4⟩ := h
  have e1 : a = a' := by omega
  have e2 : b = b' := by omega
  have e3 : c = c' := by omega
  have e4 : d = d' := by omega
  subst e1 e2 e3 e4; rfl
theorem putK_length {κ : Type} [DecidableEq κ] (kvs : List (κ × V)) (k : κ) (v : V) : (putK kvs k v).length ≤ kvs.length + 1 := by
  unfold putK; split <;> simp
/-- what is new in H' -/
def nw (H H' : Hp) : Hp := fun b => match H b with
  | none => H' b
  | some _ => none
theorem nw_of {H H' : Hp} {b : Addr} {o : HO} (n : H b = none) (h : H' b = some o) : nw H H' b = some o := by
  unfold nw; rw [n]; exact h
theorem nw_some {H H' : Hp} {b : Addr} {o : HO} (h : nw H H' b = some o) : H b = none ∧ H' b = some o := by
  unfold nw at h
  cases e : H b with
  | none => rw [e] at h; exact ⟨rfl, h⟩
  | some u => rw [e] at h; cases h
theorem nw_in (H H' : Hp) : Same (nw H H') H' := fun b o e => (nw_some e).2
theorem nw_same {H G H' G' : Hp} (s : Same G H) (s' : Same H' G') : Same (nw H H') (nw G G') := fun b o e => nw_of (s.free (nw_some e).1) (s' _ _ (nw_some e).2)
/-- the dict of places -/
def PlAt (H : Hp) (d : Addr) (R : List Row) : Prop := ∃ kvs : List (List Key × V), H d = some (.dT kvs) ∧ kvs.length ≤ R.length ∧ ∀ r : Row, valV kvs (rowKey r) = if r ∈ R then some (natV (R.idxOf r)) else none
def sp_read_concepts (K : PySem.W.Frag) (C : Addr) : Sp := fun vs H Q _ => ∃ (a : Addr) (ns : List Nat) (m : Nat) (r : Option (List Oc.C)), vs = [.ref a, natV m] ∧ SqL K H a (ns.map natV) ∧ ns.length ≤ 300 ∧
  syms ns m [] = r.map (fun cs => cs.flatMap symsOf) ∧
  (r = none → ∀ H' : Hp, Same H H' → Q .non H') ∧
  (∀ cs, r = some cs → ∀ (H' : Hp) (q : Addr), Same H H' → H q = none → CoAt C (nw H H') q a (rowsOf (subsAll cs [])) (cs.map (plc (subsAll cs []))) → Q (.ref q) H')
section
variable {P : Program} {w : World} {K : PySem.W.Frag} {mg : Str → Option Value} {base : Heap}
theorem ok_read_concepts (T : Txt K mg) : FnOk P w K mg base CX0 3 T.f_read_concepts T.fd_read_concepts ["numbers", "wanted"] (sp_read_concepts K T.c_Concepts) := by
  refine T.F_read_concepts.ok sc_read_concepts (fun vs H Q E h => ?_) (fun cdv A outer s H vs Q E hr h => ⟨_, (pss_cons (ps_set (i := 2) sc_read_concepts.nd rfl (Or.inl rfl) (pe_call (ok_read_symbols T) (hr.mono (by decide)) rfl T.g_read_symbols T.F_read_symbols.kp T.b_read_symbols .nil pass0 (pa_cons (pv 0) (pa_cons (pv 1) pa_nil))))
    (pss_cons (ps_if (pt_cmpR op_isN (pv 2) pe_non (nomark _))
    (pss_one (ps_ret pe_non))
    pss_nil)
    (pss_cons (ps_set (i := 3) sc_read_concepts.nd rfl (Or.inl rfl) (pe_lst pa_nil))
    (pss_cons (ps_set (i := 4) sc_read_concepts.nd rfl (Or.inl rfl) pe_dnewT)
    (pss_cons (ps_set (i := 5) sc_read_concepts.nd rfl (Or.inl rfl) (pe_lst pa_nil))
    (pss_cons (ps_for PassesOwn.never rfl (pi_reversed (by rfl) T.no_reversed (pa_cons (pv 2) pa_nil)) (pg_name (i := 6) sc_read_concepts.nd rfl (Or.inl rfl))
    (pss_cons (ps_set (i := 7) sc_read_concepts.nd rfl (Or.inl rfl) (pe_call (ok_row_of T) (hr.mono (by decide)) rfl T.g_row_of T.F_row_of.kp T.b_row_of .nil pass0 (pa_cons (pv 6) (pa_cons (pv 5) pa_nil))))
    (pss_cons (ps_if (pt_cmp (pc_dnotin (hu_of hr) (pv 7) (pv 4)))
    (pss_cons (ps_dput (hu_of hr) (pv 4) (pv 7) (pe_callB call_len_seq (by rfl) T.no_len PySem.boot_len (pa_cons (pv 3) pa_nil)) rfl)
    (pss_one (ps_expr (pe_bm PySem.F.plainAttrs_list PySem.F.slot_list_append PySem.F.type_list_append mt_append (pv 3) (pa_cons (pv 7) pa_nil)))))
    pss_nil)
    (pss_one (ps_expr (pe_bm PySem.F.plainAttrs_list PySem.F.slot_list_append PySem.F.type_list_append mt_append (pv 5) (pa_cons (pe_dget (hu_of hr) (pv 4) (pv 7) (fun _ _ => rfl)) pa_nil)))))))
    (pss_one (ps_ret (pe_make T.mk_Concepts (ok_Concepts_init T) (hr.mono (by decide)) rfl T.g_Concepts T.b_Concepts_init .nil pass0 (pa_cons (pv 0) (pa_cons (pv 3) (pa_cons (pe_listRev rfl (by rfl) T.no_list (by rfl) T.no_reversed (pv 5)) pa_nil)))))))))))), ?_⟩)
  · obtain ⟨a, ns, m, r, rfl, _⟩ := h; rfl
  · obtain ⟨a, ns, m, r, rfl, hS, hz, hy, kN, kS⟩ := h
    refine ⟨_, rfl, _, rfl, a, ns, m, rfl, hS, by omega, ?_, ?_⟩
    · intro e H1 s1
      refine ⟨_, rfl, rfl, _, rfl, ?_⟩
      refine if_true_of rfl ?_
      rw [e] at hy
      cases r with
      | some cs => cases hy
      | none => exact kN rfl H1 s1
    · intro ys e hlen H1 q1 s1 hq1 hR
      cases r with
      | none => rw [e] at hy; cases hy
      | some cs =>
      have ey : ys = cs.flatMap symsOf := by rw [e] at hy; exact Option.some.inj hy
      have kS := kS cs rfl
      refine ⟨_, rfl, rfl, _, rfl, ?_⟩
      refine if_false_of rfl ?_
      refine ⟨Nat.zero_le _, fun lr hlr => ?_⟩
      intro dp hdp
      refine ⟨Nat.zero_le _, fun lw hlw => ?_⟩
      obtain ⟨ya, hL, hE⟩ := hR
      have s2 : Same H1 (upd (upd (upd H1 lr (.lst [])) dp (.dT [])) lw (.lst [])) := ((Same.upd hlr).trans (Same.upd hdp)).trans (Same.upd hlw)
      have nrd : lr ≠ dp := ne_of_none upd_same hdp
      have nrw : lr ≠ lw := ne_of_none (show (upd (upd H1 lr (.lst [])) dp (.dT [])) lr = some _ from (upd_ne nrd).trans upd_same) hlw
      have ndw : dp ≠ lw := ne_of_none upd_same hlw
      have n1r : H1 lr = none := hlr
      have n1d : H1 dp = none := (Same.upd hlr).free hdp
      have n1w : H1 lw = none := ((Same.upd hlr).trans (Same.upd hdp)).free hlw
      have hok : okL ys.reverse ([] : List Nat).length := by
        have := okL_all cs [] 0 trivial
        rw [List.append_nil, ← ey] at this; exact this
      refine ⟨_, rfl, q1, _, rfl, SqL.of (s2 _ _ hL), RT.for_Itv (K := K) (a := q1) (xs := ya.map V.ref) (fun i σ H' => ∃ (v6 v7 : Option V), i ≤ ys.length ∧
          σ = [some (.ref a), some (natV m), some (.ref q1), some (.ref lr), some (.ref dp), some (.ref lw), v6, v7] ∧ Same H1 H' ∧
          Refs rowO (nw H1 H') lr ((ys.reverse.take i).foldl stepR ([], [])).1 ∧ PlAt H' dp ((ys.reverse.take i).foldl stepR ([], [])).1 ∧ H' lw = some (.lst (((ys.reverse.take i).foldl stepR ([], [])).2.map natV)))
        ⟨none, none, Nat.zero_le _, rfl, s2, ⟨[], nw_of n1r ((upd_ne nrw).trans ((upd_ne nrd).trans upd_same)), Each.nil⟩, ⟨[], (upd_ne ndw).trans upd_same, Nat.zero_le _, fun r => rfl⟩, upd_same⟩
        (fun i σ H' ⟨_, _, _, _, sH, _⟩ => SqL.of (sH _ _ hL)) ?_ ?_⟩
      · rintro i x σ H' hi hx ⟨v6, v7, hiy, rfl, sH, hRr, hPl, hW⟩
        obtain ⟨t, y, rfl, hat, hyt, ht⟩ := hE.at hx
        rw [List.length_map] at hi hyt
        have hyr : ys.reverse[i]? = some y := by
          rw [List.getElem?_reverse (by rw [← hE.1]; exact hi), ← hE.1]; exact hyt
        have step := foldl_more (f := stepR) (b := (([], []) : List Row × List Nat)) hyr
        generalize hst : (ys.reverse.take i).foldl stepR ([], []) = st at hRr hPl hW step
        obtain ⟨hy7, hin⟩ := okL_at ys.reverse ([], []) i y hok hyr
        rw [hst] at hin
        have hRl : st.1.length ≤ i := by
          rw [← hst]
          refine Nat.le_trans (foldl_rows_length _ _) ?_
          rw [List.length_take]; simp only [List.length_nil]; omega
        have hWl : st.2.length ≤ i := by
          rw [← hst]
          refine Nat.le_trans (foldl_stack_length _ _) ?_
          rw [List.length_take]; simp only [List.length_nil]; omega
        have hi100 : i ≤ 300 := by have := hE.1; omega
        obtain ⟨ra, hraN, hrE⟩ := id hRr
        have hra := (nw_some hraN).2
        obtain ⟨kvs, hkv, hkl, hval⟩ := id hPl
        have nlr : lr ≠ lw := nrw
        refine ⟨_, rfl, _, rfl, t, lw, y, st.2, rfl, sH _ _ ht, hy7, hW, hin, ?_⟩
        intro H2 q hq b2 hw2 hq2
        have nqlr : q ≠ lr := fun z => by rw [z, hra] at hq; cases hq
        have nqdp : q ≠ dp := fun z => by rw [z, hkv] at hq; cases hq
        have nqlw : q ≠ lw := fun z => by rw [z, hW] at hq; cases hq
        have hra2 : H2 lr = some (.lst (ra.map V.ref)) := b2 _ _ hra (by simpa using nrw)
        have hkv2 : H2 dp = some (.dT kvs) := b2 _ _ hkv (by simpa using ndw)
        have hrE2 : Each rowO (nw H1 H2) ra st.1 := hrE.keep fun u x e => nw_of (nw_some e).1 (b2 _ _ (nw_some e).2 (by
          have e := (nw_some e).2
          simp only [List.mem_singleton]; intro z; rw [z, hW] at e; cases e))
        have s12 : Same H1 H2 := fun b o e => b2 _ _ (sH b o e) (by
          simp only [List.mem_singleton]; intro z; rw [z, n1w] at e; cases e)
        have hq2' : H2 q = some (.tup ((rowKey (rowOf y st.2)).map kV)) := hq2
        refine ⟨_, rfl, _, rfl, dp, _, rfl, DGet.t hkv2 hq2', _, rfl, ?_⟩
        rw [hval]
        by_cases c : rowOf y st.2 ∈ st.1
        · rw [if_pos c]
          refine if_false_of rfl ?_
          have e1 : stepR st y = (st.1, taken y st.2 ++ [st.1.idxOf (rowOf y st.2)]) := by unfold stepR; simp only [if_pos c]
          refine ⟨_, rfl, .inl ⟨rfl, _, SqL.of hw2⟩, _, rfl, _, rfl, dp, _, rfl, (by have := DGet.t hkv2 hq2'; rw [hval, if_pos c] at this; exact this), lw, _, _, rfl, rfl, hw2, ?_, ?_⟩
          · rw [List.length_map, taken_length y st.2 hin]
            exact small1000 (by omega)
          · rw [step, e1]
            refine ⟨some (.ref t), some (.ref q), by rw [← List.length_reverse]; exact (List.getElem?_eq_some_iff.mp hyr).1, rfl, ?_, ⟨ra, ?_, ?_⟩, ⟨kvs, ?_, hkl, hval⟩, ?_⟩
            · intro b o e
              rw [upd_ne (fun z => by rw [z, n1w] at e; cases e)]; exact s12 b o e
            · exact nw_of n1r ((upd_ne nrw).trans hra2)
            · exact hrE2.keep fun u x e => nw_of (nw_some e).1 (by
                have e := (nw_some e).2
                rw [upd_ne (fun z => by rw [z, hw2] at e; cases e)]; exact e)
            · rw [upd_ne ndw]; exact hkv2
            · rw [upd_same, List.map_append]; rfl
        · rw [if_neg c]
          refine if_true_of rfl ?_
          have e1 : stepR st y = (st.1 ++ [rowOf y st.2], taken y st.2 ++ [st.1.length]) := by
            unfold stepR; simp only [if_neg c]
            rw [List.idxOf_append, if_neg c]; simp
          have hlenR : ra.length = st.1.length := hrE.1
          refine ⟨_, rfl, lr, _, rfl, .inl (SqL.of hra2), _, rfl, _, rfl, dp, _, rfl, DPut.t hkv2 hq2' (small1000 (by omega)), ?_⟩
          have h3lr : upd H2 dp (.dT (putK kvs (rowKey (rowOf y st.2)) (.int ((ra.map V.ref).length : Nat)))) lr = some (.lst (ra.map V.ref)) := (upd_ne nrd).trans hra2
          refine ⟨_, rfl, .inl ⟨rfl, _, SqL.of h3lr⟩, _, rfl, lr, _, _, rfl, rfl, h3lr, (by rw [List.length_map, hlenR]; exact small1000 (by omega)), ?_⟩
          have h4w : ∀ o, upd (upd H2 dp (.dT (putK kvs (rowKey (rowOf y st.2)) (.int ((ra.map V.ref).length : Nat))))) lr o lw = some (.lst ((taken y st.2).map natV)) := fun o => (upd_ne nrw.symm).trans ((upd_ne ndw.symm).trans hw2)
          have h4d : ∀ o, upd (upd H2 dp (.dT (putK kvs (rowKey (rowOf y st.2)) (.int ((ra.map V.ref).length : Nat))))) lr o dp = some (.dT (putK kvs (rowKey (rowOf y st.2)) (.int ((ra.map V.ref).length : Nat)))) := fun o => (upd_ne nrd.symm).trans upd_same
          have h4q : ∀ o, upd (upd H2 dp (.dT (putK kvs (rowKey (rowOf y st.2)) (.int ((ra.map V.ref).length : Nat))))) lr o q = some (.tup ((rowKey (rowOf y st.2)).map kV)) := fun o => (upd_ne nqlr).trans ((upd_ne nqdp).trans hq2')
          refine ⟨_, rfl, .inl ⟨rfl, _, SqL.of (h4w _)⟩, _, rfl, _, rfl, dp, _, rfl, (by
              have := DGet.t (h4d (.lst (ra.map V.ref ++ [V.ref q]))) (h4q (.lst (ra.map V.ref ++ [V.ref q]))); rw [valV_put, if_pos rfl] at this; exact this), lw, _, _, rfl, rfl, h4w _, ?_, ?_⟩
          · rw [List.length_map, taken_length y st.2 hin]
            exact small1000 (by omega)
          · rw [step, e1]
            refine ⟨some (.ref t), some (.ref q), by rw [← List.length_reverse]; exact (List.getElem?_eq_some_iff.mp hyr).1, rfl, ?_, ⟨ra ++ [q], ?_, ?_⟩, ⟨_, (upd_ne ndw).trans (h4d _), ?_, ?_⟩, ?_⟩
            · intro b o e
              rw [upd_ne (fun z => by rw [z, n1w] at e; cases e), upd_ne (fun z => by rw [z, n1r] at e; cases e), upd_ne (fun z => by rw [z, n1d] at e; cases e)]; exact s12 b o e
            · exact nw_of n1r (by rw [upd_ne nrw, upd_same, List.map_append]; rfl)
            · refine Each.snoc (hrE2.keep fun u x e => nw_of (nw_some e).1 ?_) (nw_of (sH.free hq) ?_)
              · have e := (nw_some e).2
                rw [upd_ne (fun z => by rw [z, hw2] at e; cases e), upd_ne (fun z => by rw [z, hra2] at e; cases e), upd_ne (fun z => by rw [z, hkv2] at e; cases e)]; exact e
              · exact (upd_ne nqlw).trans (h4q _)
            · refine Nat.le_trans (putK_length _ _ _) ?_
              rw [List.length_append]; simp only [List.length_cons, List.length_nil]; omega
            · intro r
              rw [valV_put, hval, List.length_map, hlenR]
              by_cases er : r = rowOf y st.2
              · subst er
                rw [if_pos rfl, if_pos (by simp), List.idxOf_append, if_neg c]; simp
              · rw [if_neg (fun z => er (rowKey_inj z))]
                by_cases cr : r ∈ st.1
                · rw [if_pos cr, if_pos (by simp [cr]), List.idxOf_append, if_pos cr]
                · rw [if_neg cr, if_neg (by simp [cr, er])]
            · rw [upd_same, List.map_append, List.length_map, hlenR]; rfl
      · rintro σ H' ⟨v6, v7, hiy, rfl, sH, hRr, hPl, hW⟩
        rw [List.length_map, hE.1, ← List.length_reverse, List.take_length, ey, build_all] at hRr hPl hW
        refine ⟨_, rfl, _, rfl, _, rfl, lw, _, rfl, SqL.of hW, fun lt hlt => ?_⟩
        intro x dx nx nd ne
        have nwt : lw ≠ lt := ne_of_none hW hlt
        have s3 : Same H' (upd H' lt (.lst ((((cs.map (plc (subsAll cs []))).reverse).map natV).reverse))) := Same.upd hlt
        have s4 : Same H' (upd (upd (upd H' lt (.lst ((((cs.map (plc (subsAll cs []))).reverse).map natV).reverse))) dx (.own x)) x (.ins T.c_Concepts dx [])) := by
          intro b o e
          have e2 := s3 _ _ e
          rw [upd_ne (ne_of_none e2 nx), upd_ne (ne_of_none e2 nd)]; exact e2
        refine ⟨x, dx, a, lr, lt, rfl, upd_same, fun H2 hx b2 => ⟨rfl, ?_⟩⟩
        have s5 : Same H' H2 := fun b o e => b2 _ _ (s4 _ _ e) (by
          simp only [List.mem_singleton]; intro z; rw [z] at e; have e2 := s3 _ _ e; rw [nx] at e2; cases e2)
        have hlt2 : H2 lt = some (.lst ((((cs.map (plc (subsAll cs []))).reverse).map natV).reverse)) := by
          refine b2 _ _ ?_ ?_
          · have e2 : upd H' lt (.lst ((((cs.map (plc (subsAll cs []))).reverse).map natV).reverse)) lt = some _ := upd_same
            rw [upd_ne (ne_of_none e2 nx), upd_ne (ne_of_none e2 nd)]; exact e2
          · simp only [List.mem_singleton]; intro z; rw [← z, upd_same] at nx; cases nx
        obtain ⟨dx2, hx2⟩ := hx
        have nHx := (s1.trans (sH.trans s3)).free nx
        refine kS H2 x ((s1.trans sH).trans s5) nHx ⟨dx2, lr, lt, nw_of nHx hx2, hRr.same (nw_same s1 s5), nw_of ((s1.trans sH).free hlt) ?_⟩
        rw [hlt2, ← List.map_reverse, List.reverse_reverse]
end
end AX
namespace AX
open PySem PySem.Spec PyProof.Rows L2
/-! ### read_together -/
abbrev axD (ax : Oc.Axiom) : List Oc.C := subsAll [ax.1, ax.2] []
/-- an axiom of the program -/
def AxAt (C : Addr) (H : Hp) (a : Addr) (ax : Oc.Axiom) : Prop := ∃ (ln : Addr) (ns : List Nat), CoAt C H a ln (rowsOf (axD ax)) ([ax.1, ax.2].map (plc (axD ax))) ∧ H ln = some (.lst (ns.map natV)) ∧ Oc.two ns = some ax ∧ ns.length ≤ 30
theorem AxAt.same {C : Addr} {H H' : Hp} {a : Addr} {ax : Oc.Axiom} (h : AxAt C H a ax) (s : Same H H') : AxAt C H' a ax := by
  obtain ⟨ln, ns, h1, h2, h3, h4⟩ := h
  exact ⟨ln, ns, h1.same s, s _ _ h2, h3, h4⟩
theorem AxAt.stays (C : Addr) : Stays (AxAt C) := fun _ _ _ _ s h => h.same s
def sp_read_together (C : Addr) : Sp := fun vs H Q _ => ∃ (a : Addr) (L : List Oc.Axiom), vs = [.ref a] ∧ RefsP (AxAt C) H a L ∧ L.length ≤ 9 ∧
  ∀ (H' : Hp) (q ln : Addr), (subsAll (csOf L) []).length ≤ 300 → Same H H' → H q = none → CoAt C H' q ln (rowsOf (subsAll (csOf L) [])) ((csOf L).map (plc (subsAll (csOf L) []))) → Q (.ref q) H'
section
variable {P : Program} {w : World} {K : PySem.W.Frag} {mg : Str → Option Value} {base : Heap}
theorem ok_read_together (T : Txt K mg) : FnOk P w K mg base CX0 4 T.f_read_together T.fd_read_together ["parts"] (sp_read_together T.c_Concepts) := by
  refine T.F_read_together.ok sc_read_together (fun vs H Q E h => ?_) (fun cdv A outer s H vs Q E hr h => ⟨_, (pss_cons (ps_set (i := 1) sc_read_together.nd rfl (Or.inl rfl) (pe_lst pa_nil))
    (pss_cons (ps_set (i := 2) sc_read_together.nd rfl (Or.inl rfl) pe_int)
    (pss_cons (ps_for PassesOwn.never rfl (pi_list (pv 0)) (pg_name (i := 3) sc_read_together.nd rfl (Or.inl rfl))
    (pss_cons (ps_expr (pe_bm PySem.F.plainAttrs_list PySem.F.slot_list_extend PySem.F.type_list_extend mt_extend (pv 1) (pa_cons (pe_fld (pv 3) rfl) pa_nil)))
    (pss_one (ps_set (i := 2) sc_read_together.nd rfl (Or.inl rfl) (pe_op op_add (pv 2) (pe_callB call_len_seq (by rfl) T.no_len PySem.boot_len (pa_cons (pe_fld (pv 3) rfl) pa_nil)))))))
    (pss_one (ps_ret (pe_call (ok_read_concepts T) (hr.mono (by decide)) rfl T.g_read_concepts T.F_read_concepts.kp T.b_read_concepts .nil pass0 (pa_cons (pv 1) (pa_cons (pv 2) pa_nil)))))))), ?_⟩)
  · obtain ⟨a, L, rfl, _⟩ := h; rfl
  · obtain ⟨a, L, rfl, ⟨as, ha, e⟩, h9, k⟩ := h
    refine ⟨Nat.zero_le _, fun l hl => ?_⟩
    refine ⟨_, rfl, a, rfl, ⟨_, SqL.of ((Same.upd hl) _ _ ha)⟩, for_list (K := K) (a := a) (xs := as.map V.ref)
      (fun i σ H' => ∃ (v : Option V) (ns : List Nat), i ≤ L.length ∧ σ = [some (.ref a), some (.ref l), some (natV (2 * i)), v] ∧ Same H H' ∧ H' l = some (.lst (ns.map natV)) ∧ ns.length ≤ 30 * i ∧ syms ns (2 * i) [] = some ((csOf (L.take i)).flatMap symsOf))
      ⟨none, [], Nat.zero_le _, rfl, Same.upd hl, upd_same, Nat.le_refl _, rfl⟩ (fun i σ H' _ ⟨_, _, _, _, s, _⟩ => SqL.of (s _ _ ha)) ?_ ?_⟩
    · rintro i y σ H' hi ⟨v, ns, hiL, rfl, s1, hl1, hz1, hy1⟩
      obtain ⟨t, ax, rfl, hat, hx2, hP⟩ := e.at hi
      have hlt : i < L.length := (List.getElem?_eq_some_iff.mp hx2).1
      obtain ⟨ln, ns2, ⟨dx, lr, lt, ht, hR, hT⟩, hN, h2, hz2⟩ := hP.same s1
      have ntl : t ≠ l := ne_of ht hl1 (by intro z; cases z)
      have nT : ∀ b o, H b = some o → b ≠ l := fun b o q => ne_of_none q hl
      obtain ⟨ln0, ns0, ⟨dx0, lr0, lt0, ht0, hR0, hT0⟩, hN0, _, _⟩ := hP
      have e0 := s1 _ _ ht0
      rw [ht] at e0
      have eF : lt = lt0 := by
        have e1 : coF ln lr lt = coF ln0 lr0 lt0 := by injection e0 with e0; injection e0
        have e2 : (coF ln lr lt).lookup ("tops" : Str) = (coF ln0 lr0 lt0).lookup ("tops" : Str) := by rw [e1]
        rw [coF_tops, coF_tops] at e2
        injection e2 with e2; injection e2
      have nlt : lt ≠ l := by rw [eF]; exact nT _ _ hT0
      refine ⟨_, rfl, .inl ⟨rfl, _, SqL.of hl1⟩, _, rfl, t, T.c_Concepts, dx, _, _, rfl, ht, T.cl_Concepts, T.n_Concepts_numbers, coF_numbers ln lr lt, l, ln, _, _, rfl, rfl, hl1, hN, ?_, ?_⟩
      · rw [List.length_map, List.length_map]
        exact Nat.le_of_lt (small1000 (show ns.length + ns2.length ≤ 1000 by omega))
      refine ⟨_, rfl, _, rfl, t, T.c_Concepts, dx, _, _, rfl, (upd_ne ntl).trans ht, T.cl_Concepts, T.n_Concepts_tops, coF_tops ln lr lt, lt, _, rfl, .inl (SqL.of ((upd_ne nlt).trans hT)), _, _, rfl, rfl, ?_⟩
      refine ⟨some (.ref t), ns ++ ns2, hlt, ?_, ?_, ?_, ?_, ?_⟩
      · have e3 : ((2 * i : Nat) : Int) + ((([ax.1, ax.2].map (plc (axD ax))).map natV).length : Nat) = ((2 * (i + 1) : Nat) : Int) := by
          simp only [List.length_map, List.length_cons, List.length_nil]; omega
        show [some (V.ref a), some (V.ref l), some (V.int (((2 * i : Nat) : Int) + ((([ax.1, ax.2].map (plc (axD ax))).map natV).length : Nat))), some (V.ref t)] = _
        rw [e3]
      · intro b o q
        rw [upd_ne (nT b o q)]; exact s1 _ _ q
      · rw [upd_same, List.map_append]
      · rw [List.length_append]; omega
      · have h3 : syms ns2 2 [] = some ([ax.1, ax.2].flatMap symsOf) := by rw [syms_two, h2]; simp
        rw [take_more hx2, csOf_snoc, List.flatMap_append]
        exact syms_put hy1 h3
    · rintro σ H' ⟨v, ns, hiL, rfl, s1, hl1, hz1, hy1⟩
      rw [List.length_map, e.1] at hz1 hy1
      rw [List.take_length] at hy1
      refine ⟨_, rfl, _, rfl, l, ns, _, some (csOf L), rfl, SqL.of hl1, by omega, by rw [List.length_map, e.1]; exact hy1, (fun z => by cases z), ?_⟩
      intro cs ecs H2 q s2 hq hC
      have ecs := Option.some.inj ecs
      subst ecs
      have hl1 := subsAll_length (csOf L) []
      have hl2 := syms_length ns _ [] _ hy1
      simp only [List.length_nil] at hl1 hl2
      exact k H2 q l (by omega) (s1.trans s2) (s1.free hq) (hC.same (nw_in H' H2))
end
end AX
namespace AX
open PySem PySem.Spec PyProof.Rows L2
/-! ### what a row can be -/
theorem bits_at {p : List Bool} {i : Nat} (h : i < p.length) : atI (p.map V.bl) (i : Int) = some (V.bl (gb p i)) := by
  refine atI_nat ?_
  unfold gb
  rw [List.getElem?_map, List.getElem?_eq_getElem h, List.getD_eq_getElem?_getD, List.getElem?_eq_getElem h]; rfl
theorem int_is {a b : Nat} (h : a = b) : decide (V.int (a : Int) = V.int (b : Int)) = true := by rw [h]; exact decide_eq_true rfl
theorem int_not {a b : Nat} (h : ¬ a = b) : decide (V.int (a : Int) = V.int (b : Int)) = false := decide_eq_false fun z => h (by injection z with z; omega)
def sp_made_truth : Sp := fun vs H Q _ => ∃ (t u : Addr) (r : Row) (p : List Bool), vs = [.ref t, .ref u] ∧ H t = some (rowO r) ∧ H u = some (bitsO p) ∧ RowOk p.length r ∧ Q (.bl (madeTruth r p)) H
section
variable {P : Program} {w : World} {K : PySem.W.Frag} {mg : Str → Option Value} {base : Heap}
theorem ok_made_truth (T : Txt K mg) : FnOk P w K mg base CX0 1 T.f_made_truth T.fd_made_truth ["row", "truths"] sp_made_truth := by
  refine T.F_made_truth.ok sc_made_truth (fun vs H Q E h => ?_) (fun cdv A outer s H vs Q E hr h => ⟨_, (pss_cons (ps_set (i := 2) sc_made_truth.nd rfl (Or.inl rfl) (pe_ix ix_tup (pv 0) pe_int (fun _ _ => rfl)))
    (pss_cons (ps_if (pt_cmpR op_eq (pv 2) (pe_globI rfl T.g_BOTH) (nomark _))
    (pss_one (ps_ret (pe_and (pe_ix ix_list (pv 1) (pe_ix ix_tup (pv 0) pe_int (fun _ _ => rfl)) (fun _ _ => rfl)) (pe_one (pe_ix ix_list (pv 1) (pe_ix ix_tup (pv 0) pe_int (fun _ _ => rfl)) (fun _ _ => rfl))))))
    pss_nil)
    (pss_cons (ps_if (pt_cmpR op_eq (pv 2) (pe_globI rfl T.g_EITHER) (nomark _))
    (pss_one (ps_ret (pe_or (pe_ix ix_list (pv 1) (pe_ix ix_tup (pv 0) pe_int (fun _ _ => rfl)) (fun _ _ => rfl)) (pe_one (pe_ix ix_list (pv 1) (pe_ix ix_tup (pv 0) pe_int (fun _ _ => rfl)) (fun _ _ => rfl))))))
    pss_nil)
    (pss_cons (ps_if (pt_cmpR op_eq (pv 2) (pe_globI rfl T.g_LACK) (nomark _))
    (pss_one (ps_ret (pe_not (pe_ix ix_list (pv 1) (pe_ix ix_tup (pv 0) pe_int (fun _ _ => rfl)) (fun _ _ => rfl)))))
    pss_nil)
    (pss_one (ps_ret (pe_cmpR op_eq (pv 2) (pe_globI rfl T.g_ALL) (nomark _)))))))), ?_⟩)
  · obtain ⟨t, u, r, p, rfl, _⟩ := h; rfl
  · obtain ⟨t, u, r, p, rfl, ht, hu, ok, k⟩ := h
    refine ⟨_, rfl, t, rowV r, _, _, rfl, rfl, SqT.of ht, row_0 r, _, rfl, rfl, _, rfl, ?_⟩
    by_cases c3 : r.1 = 3
    · refine if_true_of (int_is c3) ?_
      have e : madeTruth r p = (gb p r.2.2.1 && gb p r.2.2.2) := by unfold madeTruth; rw [if_pos c3]
      rw [e] at k
      refine ⟨_, rfl, _, rfl, t, rowV r, _, _, rfl, rfl, SqT.of ht, row_2 r, u, _, _, _, rfl, rfl, SqL.of hu, bits_at (ok.fst (by omega)), _, rfl, ?_⟩
      cases b : gb p r.2.2.1 with
      | false => 
        rw [b] at k
        exact if_false_of rfl k
      | true =>
        rw [b] at k
        refine if_true_of rfl ?_
        exact ⟨_, rfl, _, rfl, t, rowV r, _, _, rfl, rfl, SqT.of ht, row_3 r, u, _, _, _, rfl, rfl, SqL.of hu, bits_at (ok.snd (.inl c3)), k⟩
    refine if_false_of (int_not c3) ?_
    refine ⟨_, rfl, rfl, _, rfl, ?_⟩
    by_cases c4 : r.1 = 4
    · refine if_true_of (int_is c4) ?_
      have e : madeTruth r p = (gb p r.2.2.1 || gb p r.2.2.2) := by unfold madeTruth; rw [if_neg c3, if_pos c4]
      rw [e] at k
      refine ⟨_, rfl, _, rfl, t, rowV r, _, _, rfl, rfl, SqT.of ht, row_2 r, u, _, _, _, rfl, rfl, SqL.of hu, bits_at (ok.fst (by omega)), _, rfl, ?_⟩
      cases b : gb p r.2.2.1 with
      | true => 
        rw [b] at k
        exact if_true_of rfl k
      | false =>
        rw [b] at k
        refine if_false_of rfl ?_
        exact ⟨_, rfl, _, rfl, t, rowV r, _, _, rfl, rfl, SqT.of ht, row_3 r, u, _, _, _, rfl, rfl, SqL.of hu, bits_at (ok.snd (.inr c4)), k⟩
    refine if_false_of (int_not c4) ?_
    refine ⟨_, rfl, rfl, _, rfl, ?_⟩
    by_cases c5 : r.1 = 5
    · refine if_true_of (int_is c5) ?_
      have e : madeTruth r p = !gb p r.2.2.1 := by unfold madeTruth; rw [if_neg c3, if_neg c4, if_pos c5]
      rw [e] at k
      exact ⟨_, rfl, _, rfl, t, rowV r, _, _, rfl, rfl, SqT.of ht, row_2 r, u, _, _, _, rfl, rfl, SqL.of hu, bits_at (ok.fst (by omega)), _, rfl, k⟩
    refine if_false_of (int_not c5) ?_
    have e : madeTruth r p = decide (r.1 = 0) := by unfold madeTruth; rw [if_neg c3, if_neg c4, if_neg c5]
    rw [e] at k
    refine ⟨_, rfl, rfl, ?_⟩
    by_cases c0 : r.1 = 0
    · have : decide (V.int (r.1 : Int) = V.int 0) = true := int_is (b := 0) c0
      rw [decide_eq_true c0] at k
      show Q (V.bl (decide (V.int (r.1 : Int) = V.int 0))) H
      rw [this]; exact k
    · have : decide (V.int (r.1 : Int) = V.int 0) = false := int_not (b := 0) c0
      rw [decide_eq_false c0] at k
      show Q (V.bl (decide (V.int (r.1 : Int) = V.int 0))) H
      rw [this]; exact k
end
end AX
namespace AX
open PySem PySem.Spec PyProof.Rows L2
theorem has_shr (k m : Nat) : (Oc06.has k m = true) ↔ (k >>> m) &&& 1 = 1 := by
  unfold Oc06.has Oc.bit
  rw [Nat.and_one_is_mod, Nat.shiftRight_eq_div_pow]; simp
theorem bit_test (k m : Nat) : decide (V.int (Builtin.bitAnd ((k : Int) / 2 ^ ((m : Nat) : Int).toNat) 1) = V.int 1) = Oc06.has k m := by
  have e : Builtin.bitAnd ((k : Int) / 2 ^ ((m : Nat) : Int).toNat) 1 = (((k >>> m) &&& 1 : Nat) : Int) := by
    have e1 : (k : Int) / 2 ^ ((m : Nat) : Int).toNat = ((k >>> m : Nat) : Int) := by
      rw [Int.toNat_natCast, Nat.shiftRight_eq_div_pow]; norm_cast
    rw [e1, bitAnd_m1, Nat.and_one_is_mod]; rfl
  rw [e]
  by_cases c : Oc06.has k m = true
  · rw [c]; exact int_is ((has_shr k m).mp c)
  · rw [Bool.not_eq_true] at c
    rw [c]; exact int_not (b := 1) fun z => by rw [(has_shr k m).mpr z] at c; cases c
def sp_choices : Sp := fun vs H Q _ => ∃ (t u : Addr) (r : Row) (p : List Bool) (n m : Nat), vs = [.ref t, .ref u, natV n, natV m] ∧ H t = some (rowO r) ∧ H u = some (bitsO p) ∧ RowOk p.length r ∧ n < 16 ∧ m < 16 ∧
  ∀ (H' : Hp) (q : Addr), Same H H' → H q = none → H' q = some (bitsO (choicesR r p n m)) → Q (.ref q) H'
section
variable {P : Program} {w : World} {K : PySem.W.Frag} {mg : Str → Option Value} {base : Heap}
theorem ok_choices (T : Txt K mg) : FnOk P w K mg base CX0 2 T.f_choices T.fd_choices ["row", "truths", "names", "roles"] sp_choices := by
  refine T.F_choices.ok sc_choices (fun vs H Q E h => ?_) (fun cdv A outer s H vs Q E hr h => ⟨_, (pss_cons (ps_set (i := 4) sc_choices.nd rfl (Or.inl rfl) (pe_ix ix_tup (pv 0) pe_int (fun _ _ => rfl)))
    (pss_cons (ps_if (pt_cmpR op_notIn_seq (pv 4) (pe_tup (pa_cons (pe_globI rfl T.g_NAME) (pa_cons (pe_globI rfl T.g_SOME) (pa_cons (pe_globI rfl T.g_EVERY) pa_nil)))) (by rfl))
    (pss_one (ps_ret (pe_lst (pa_cons (pe_call (ok_made_truth T) (hr.mono (by decide)) rfl T.g_made_truth T.F_made_truth.kp T.b_made_truth .nil pass0 (pa_cons (pv 0) (pa_cons (pv 1) pa_nil))) pa_nil))))
    pss_nil)
    (pss_cons (ps_set (i := 5) sc_choices.nd rfl (Or.inl rfl) (pe_ifExp (pt_cmpR op_eq (pv 4) (pe_globI rfl T.g_NAME) (nomark _)) (pv 2) (pv 3)))
    (pss_cons (ps_if (pt_cmpR op_eq (pe_op op_and (pe_op op_shr (pv 5) (pe_ix ix_tup (pv 0) pe_int (fun _ _ => rfl))) pe_int) pe_int (nomark _))
    (pss_one (ps_ret (pe_lst (pa_cons pe_bl (pa_cons pe_bl pa_nil)))))
    pss_nil)
    (pss_one (ps_ret (pe_lst (pa_cons (pe_cmpR op_eq (pv 4) (pe_globI rfl T.g_EVERY) (nomark _)) pa_nil)))))))), ?_⟩)
  · obtain ⟨t, u, r, p, n, m, rfl, _⟩ := h; rfl
  · obtain ⟨t, u, r, p, n, m, rfl, ht, hu, ok, hn, hm, k⟩ := h
    refine ⟨_, rfl, t, rowV r, _, _, rfl, rfl, SqT.of ht, row_0 r, ?_⟩
    refine ⟨_, rfl, (by show 3 ≤ sizeLine; decide), fun z hz => ?_⟩
    have sz : Same H (upd H z (.tup [V.int 2, V.int 6, V.int 7])) := Same.upd hz
    refine ⟨z, _, rfl, .inr (SqT.of upd_same), rfl, rfl, _, rfl, ?_⟩
    rw [if_pos rfl, show inV (V.int (r.1 : Int)) [V.int 2, V.int 6, V.int 7] = decide (r.1 ∈ [2, 6, 7]) from inV_ints [2, 6, 7]]
    have ht2 := sz _ _ ht
    have hu2 := sz _ _ hu
    have fin : ∀ (bs : List Bool), bs = choicesR r p n m → ∀ q, upd H z (.tup [V.int 2, V.int 6, V.int 7]) q = none → Q (.ref q) (upd (upd H z (.tup [V.int 2, V.int 6, V.int 7])) q (.lst (bs.map V.bl))) := by
      intro bs e q hq
      exact k _ q (sz.trans (Same.upd hq)) (sz.free hq) (by rw [upd_same, e])
    by_cases c : r.1 = 2 ∨ r.1 = 6 ∨ r.1 = 7
    · refine if_false_of (by simp [c]) ?_
      refine ⟨_, rfl, rfl, _, rfl, ?_⟩
      by_cases c2 : r.1 = 2
      · refine if_true_of (int_is c2) ?_
        refine ⟨_, rfl, _, rfl, _, rfl, t, rowV r, _, _, rfl, rfl, SqT.of ht2, row_1 r, _, _, rfl, rfl, (by omega), _, _, rfl, rfl, rfl, _, rfl, ?_⟩
        by_cases hb : Oc06.has n r.2.1 = true
        · refine if_true_of ((bit_test n r.2.1).trans hb) ?_
          refine ⟨(by show 2 ≤ sizeLine; decide), fun q hq => ?_⟩
          exact fin [false, true] (by unfold choicesR; rw [if_pos c, if_pos c2, if_pos hb]) q hq
        · refine if_false_of ((bit_test n r.2.1).trans (Bool.not_eq_true _ ▸ hb)) ?_
          refine ⟨_, rfl, rfl, (by show 1 ≤ sizeLine; decide), fun q hq => ?_⟩
          have e : choicesR r p n m = [decide (r.1 = 7)] := by unfold choicesR; rw [if_pos c, if_pos c2, if_neg hb]
          refine fin [decide (V.int (r.1 : Int) = V.int 7)] ?_ q hq
          rw [e]
          by_cases c7 : r.1 = 7
          · rw [decide_eq_true c7]; exact congrArg (fun x => [x]) (int_is (b := 7) c7)
          · rw [decide_eq_false c7]; exact congrArg (fun x => [x]) (int_not (b := 7) c7)
      · refine if_false_of (int_not c2) ?_
        refine ⟨_, rfl, _, rfl, _, rfl, t, rowV r, _, _, rfl, rfl, SqT.of ht2, row_1 r, _, _, rfl, rfl, (by omega), _, _, rfl, rfl, rfl, _, rfl, ?_⟩
        by_cases hb : Oc06.has m r.2.1 = true
        · refine if_true_of ((bit_test m r.2.1).trans hb) ?_
          refine ⟨(by show 2 ≤ sizeLine; decide), fun q hq => ?_⟩
          exact fin [false, true] (by unfold choicesR; rw [if_pos c, if_neg c2, if_pos hb]) q hq
        · refine if_false_of ((bit_test m r.2.1).trans (Bool.not_eq_true _ ▸ hb)) ?_
          refine ⟨_, rfl, rfl, (by show 1 ≤ sizeLine; decide), fun q hq => ?_⟩
          have e : choicesR r p n m = [decide (r.1 = 7)] := by unfold choicesR; rw [if_pos c, if_neg c2, if_neg hb]
          refine fin [decide (V.int (r.1 : Int) = V.int 7)] ?_ q hq
          rw [e]
          by_cases c7 : r.1 = 7
          · rw [decide_eq_true c7]; exact congrArg (fun x => [x]) (int_is (b := 7) c7)
          · rw [decide_eq_false c7]; exact congrArg (fun x => [x]) (int_not (b := 7) c7)
    · refine if_true_of (by simp [c]) ?_
      have e : choicesR r p n m = [madeTruth r p] := if_neg c
      refine ⟨_, rfl, _, rfl, t, u, r, p, rfl, ht2, hu2, ok, (by show 1 ≤ sizeLine; decide), fun q hq => ?_⟩
      exact fin [madeTruth r p] e.symm q hq
end
end AX
namespace AX
open PySem PySem.Spec PyProof.Rows L2
/-! ### restrictions -/
theorem Each.keepIn {α : Type} {f : α → HO} {H H' : Hp} {as : List Addr} {xs : List α} (e : Each f H as xs) (k : ∀ (t : Addr) (x : α), t ∈ as → H t = some (f x) → H' t = some (f x)) : Each f H' as xs :=
  ⟨e.1, fun i t x h1 h2 => k t x (List.mem_of_getElem? h1) (e.2 i t x h1 h2)⟩
def limV (l : Lim) : List V := [natV l.1, natV l.2.1, natV l.2.2.1, .bl l.2.2.2]
abbrev limO (l : Lim) : HO := .tup (limV l)
theorem limits_more {rows : List Row} {i : Nat} {r : Row} (h : rows[i]? = some r) : limits 0 (rows.take (i + 1)) = limits 0 (rows.take i) ++ (if isLim r = true then [limOf i r] else []) := by
  have hi : i < rows.length := (List.getElem?_eq_some_iff.mp h).1
  rw [take_more h, limits_app, List.length_take, Nat.zero_add, Nat.min_eq_left (Nat.le_of_lt hi)]
  simp only [limits]
def sp_restrictions : Sp := fun vs H Q _ => ∃ (a : Addr) (rows : List Row), vs = [.ref a] ∧ Refs rowO H a rows ∧ rows.length ≤ 1000 ∧
  ∀ (H' : Hp) (q : Addr), Same H H' → Refs limO H' q (limits 0 rows) → Q (.ref q) H'
section
variable {P : Program} {w : World} {K : PySem.W.Frag} {mg : Str → Option Value} {base : Heap}
theorem ok_restrictions (T : Txt K mg) : FnOk P w K mg base CX0 1 T.f_restrictions T.fd_restrictions ["rows"] sp_restrictions := by
  refine T.F_restrictions.ok sc_restrictions (fun vs H Q E h => ?_) (fun cdv A outer s H vs Q E hr h => ⟨_, (pss_cons (ps_set (i := 1) sc_restrictions.nd rfl (Or.inl rfl) (pe_lst pa_nil))
    (pss_cons (ps_for PassesOwn.never rfl (pi_enum (by rfl) T.no_enumerate (pa_cons (pv 0) pa_nil)) (pg_tup rfl (pgs_cons (pg_name (i := 2) sc_restrictions.nd rfl (Or.inl rfl)) (pgs_cons (pg_name (i := 3) sc_restrictions.nd rfl (Or.inl rfl)) pgs_nil)))
    (pss_one (ps_if (pt_cmpR op_in_seq (pe_ix ix_tup (pv 3) pe_int (fun _ _ => rfl)) (pe_tup (pa_cons (pe_globI rfl T.g_SOME) (pa_cons (pe_globI rfl T.g_EVERY) pa_nil))) (by rfl))
    (pss_one (ps_expr (pe_bm PySem.F.plainAttrs_list PySem.F.slot_list_append PySem.F.type_list_append mt_append (pv 1) (pa_cons (pe_tup (pa_cons (pv 2) (pa_cons (pe_ix ix_tup (pv 3) pe_int (fun _ _ => rfl)) (pa_cons (pe_ix ix_tup (pv 3) pe_int (fun _ _ => rfl)) (pa_cons (pe_cmpR op_eq (pe_ix ix_tup (pv 3) pe_int (fun _ _ => rfl)) (pe_globI rfl T.g_SOME) (nomark _)) pa_nil))))) pa_nil))))
    pss_nil)))
    (pss_one (ps_ret (pv 1))))), ?_⟩)
  · obtain ⟨a, rows, rfl, _⟩ := h; rfl
  · obtain ⟨a, rows, rfl, ⟨as, ha, e⟩, hz, k⟩ := h
    refine ⟨Nat.zero_le _, fun L hL => ?_⟩
    have nL : ∀ b o, H b = some o → b ≠ L := fun b o q => ne_of_none q hL
    refine ⟨_, rfl, a, _, rfl, SqL.of ((Same.upd hL) _ _ ha), for_it (walk_enum (K := K) (a := a) (xs := as.map V.ref))
      (fun i σ H' => ∃ (v2 v3 : Option V) (acc : List Addr), σ = [some (.ref a), some (.ref L), v2, v3] ∧ Same H H' ∧ H' L = some (.lst (acc.map V.ref)) ∧ L ∉ acc ∧ Each limO H' acc (limits 0 (rows.take i)))
      ⟨none, none, [], rfl, Same.upd hL, upd_same, by simp, Each.nil⟩ (fun i σ H' _ ⟨_, _, _, _, s, _⟩ => SqL.of (s _ _ ha)) ?_ ?_⟩
    · rintro i y σ H' H1 hi ⟨v2, v3, acc, rfl, s1, hL1, nacc, eacc⟩ ⟨T1, x1, x2, rfl, hT, rfl, hx1, hx2⟩
      have hx1 : V.int (i : Int) = x1 := Option.some.inj hx1
      subst hx1
      obtain ⟨t, r, rfl, hat, hr2, ht⟩ := e.at hx2
      have hlt : i < rows.length := (List.getElem?_eq_some_iff.mp hr2).1
      have s2 : Same H' (upd H' T1 (.tup [V.int (i : Int), V.ref t])) := Same.upd hT
      generalize hH2 : upd H' T1 (.tup [V.int (i : Int), V.ref t]) = H2 at s2
      have hT2 : H2 T1 = some (.tup [V.int (i : Int), V.ref t]) := by rw [← hH2]; exact upd_same
      have ht2 := s2 _ _ (s1 _ _ ht)
      have hL2 := s2 _ _ hL1
      refine ⟨T1, _, rfl, SqT.of hT2, rfl, _, _, rfl, _, _, rfl, rfl, ?_⟩
      refine ⟨_, rfl, t, rowV r, _, _, rfl, rfl, SqT.of ht2, row_0 r, (by show 2 ≤ sizeLine; decide), fun z hz2 => ⟨z, _, rfl, .inr (SqT.of upd_same), rfl, rfl, _, rfl, ?_⟩⟩
      rw [if_neg Bool.false_ne_true, show inV (V.int (r.1 : Int)) [V.int 6, V.int 7] = decide (r.1 ∈ [6, 7]) from inV_ints [6, 7]]
      have s3 : Same H2 (upd H2 z (.tup [V.int 6, V.int 7])) := Same.upd hz2
      have ht3 := s3 _ _ ht2
      have hL3 := s3 _ _ hL2
      generalize upd H2 z (.tup [V.int 6, V.int 7]) = H3 at s3 ht3 hL3
      have hll : (limits 0 (rows.take i)).length ≤ 1000 := Nat.le_trans (limits_length _ _) (by rw [List.length_take]; omega)
      rw [limits_more hr2]
      have s13 := s1.trans (s2.trans s3)
      have e3 := eacc.same (s2.trans s3)
      by_cases c : r.1 = 6 ∨ r.1 = 7
      · refine if_true_of (by simp [c]) ?_
        rw [if_pos (show isLim r = true from decide_eq_true c)]
        refine ⟨_, rfl, .inl ⟨rfl, _, SqL.of hL3⟩, _, rfl, _, rfl, t, rowV r, _, _, rfl, rfl, SqT.of ht3, row_1 r, _, rfl, t, rowV r, _, _, rfl, rfl, SqT.of ht3, row_2 r, _, rfl, t, rowV r, _, _, rfl, rfl, SqT.of ht3, row_0 r, rfl, (by show 4 ≤ sizeLine; decide), fun y hy => ?_⟩
        have nyL : y ≠ L := fun x => by rw [x, hL3] at hy; cases hy
        have s4 := Same.upd (o := .tup [V.int (i : Int), V.int (r.2.1 : Int), V.int (r.2.2.1 : Int), V.bl (decide (V.int (r.1 : Int) = V.int 6))]) hy
        refine ⟨L, _, _, rfl, rfl, s4 _ _ hL3, by rw [List.length_map, e3.1]; exact small1000 hll, ?_⟩
        refine ⟨_, _, acc ++ [y], rfl, ?_, ?_, ?_, ?_⟩
        · intro b o q
          rw [upd_ne (nL b o q)]; exact s4 _ _ (s13 _ _ q)
        · rw [upd_same, List.map_append]; rfl
        · rw [List.mem_append, List.mem_singleton]; exact fun x => x.elim nacc nyL.symm
        · refine Each.snoc (e3.keepIn fun b x hb h => ?_) ?_
          · have nbL : b ≠ L := fun q => nacc (by rw [← q]; exact hb)
            rw [upd_ne nbL]; exact s4 _ _ h
          · rw [upd_ne nyL, upd_same]
            have : decide (V.int (r.1 : Int) = V.int 6) = decide (r.1 = 6) := by
              by_cases c6 : r.1 = 6
              · rw [decide_eq_true c6]; exact int_is (b := 6) c6
              · rw [decide_eq_false c6]; exact int_not (b := 6) c6
            rw [this]; rfl
      · refine if_false_of (by simp [c]) ?_
        rw [if_neg (show ¬ isLim r = true from fun z => c (of_decide_eq_true z)), List.append_nil]
        exact ⟨_, _, acc, rfl, s13, hL3, nacc, e3⟩
    · rintro σ H' ⟨v2, v3, acc, rfl, s1, hL1, nacc, eacc⟩
      rw [List.length_map, e.1, List.take_length] at eacc
      exact ⟨_, rfl, k H' L s1 ⟨acc, hL1, eacc⟩⟩
end
end AX
namespace AX
open PySem PySem.Spec PyProof.Rows L2
/-! ### Profile -/
theorem bl_is {a b : Bool} (h : a = b) : decide (V.bl a = V.bl b) = true := by rw [h]; exact decide_eq_true rfl
theorem bl_not {a b : Bool} (h : ¬ a = b) : decide (V.bl a = V.bl b) = false := decide_eq_false fun z => h (by injection z)
def LimsOk (ls : List Lim) (k : Nat) : Prop := ∀ l ∈ ls, l.1 < k ∧ l.2.2.1 < k
/-- two numbers, by the role -/
def two (f : Nat → Nat) : List V := [natV (f 0), natV (f 1)]
theorem two_at {f : Nat → Nat} {r : Nat} (h : r < 2) : atI (two f) (r : Int) = some (natV (f r)) := by
  rcases (show r = 0 ∨ r = 1 by omega) with e | e <;> subst e <;> rfl
theorem two_ix {f : Nat → Nat} {r : Nat} (h : r < 2) : ixN (two f).length (r : Int) = some r := by
  rcases (show r = 0 ∨ r = 1 by omega) with e | e <;> subst e <;> rfl
theorem two_set {f g : Nat → Nat} {r : Nat} {v : V} (h : r < 2) (hv : v = natV (g r)) (hg : ∀ s, s ≠ r → g s = f s) : (two f).set r v = two g := by
  subst hv
  rcases (show r = 0 ∨ r = 1 by omega) with e | e
  · subst e; have := hg 1 (by decide); unfold two; rw [this]; rfl
  · subst e; have := hg 0 (by decide); unfold two; rw [this]; rfl
theorem needs_more {ls : List Lim} {i : Nat} {l : Lim} (b : List Bool) (r : Nat) (h : ls[i]? = some l) : needsOf (ls.take (i + 1)) b r = if l.2.1 = r ∧ gb b l.1 = l.2.2.2 then needsOf (ls.take i) b r ||| 2 ^ l.1 else needsOf (ls.take i) b r := by
  unfold needsOf; rw [foldl_more h]
theorem serves_more {ls : List Lim} {i : Nat} {l : Lim} (b : List Bool) (r : Nat) (h : ls[i]? = some l) : servesOf (ls.take (i + 1)) b r = if l.2.1 = r ∧ gb b l.2.2.1 = l.2.2.2 then servesOf (ls.take i) b r ||| 2 ^ l.1 else servesOf (ls.take i) b r := by
  unfold servesOf; rw [foldl_more h]
def prF (lt ln lv : Addr) : List (Str × V) := [("truths", .ref lt), ("needs", .ref ln), ("serves", .ref lv)]
theorem prF_truths (lt ln lv : Addr) : (prF lt ln lv).lookup ("truths" : Str) = some (.ref lt) := lk_here
theorem prF_needs (lt ln lv : Addr) : (prF lt ln lv).lookup ("needs" : Str) = some (.ref ln) := lk_2 (by decide +kernel)
theorem prF_serves (lt ln lv : Addr) : (prF lt ln lv).lookup ("serves" : Str) = some (.ref lv) := lk_3 (by decide +kernel) (by decide +kernel)
theorem prF_no {m : Str} (lt ln lv : Addr) (h0 : (m == ("truths" : Str)) = false) (h1 : (m == ("needs" : Str)) = false) (h2 : (m == ("serves" : Str)) = false) : (prF lt ln lv).lookup m = none := no_3 h0 h1 h2
theorem prF_made (lt ln lv : Addr) : putF "serves" (.ref lv) (putF "needs" (.ref ln) (putF "truths" (.ref lt) [])) = prF lt ln lv := put_3 (by decide +kernel) (by decide +kernel) (by decide +kernel)
/-- a profile of the program -/
def PrAt (C : Addr) (ls : List Lim) (H : Hp) (a : Addr) (b : List Bool) : Prop := ∃ dx lt ln lv, H a = some (.ins C dx (prF lt ln lv)) ∧ H lt = some (bitsO b) ∧ H ln = some (.lst (two (needsOf ls b))) ∧ H lv = some (.lst (two (servesOf ls b)))
theorem PrAt.same {C : Addr} {ls : List Lim} {H H' : Hp} {a : Addr} {b : List Bool} (h : PrAt C ls H a b) (s : Same H H') : PrAt C ls H' a b := by
  obtain ⟨dx, lt, ln, lv, h1, h2, h3, h4⟩ := h
  exact ⟨dx, lt, ln, lv, s _ _ h1, s _ _ h2, s _ _ h3, s _ _ h4⟩
theorem PrAt.stays (C : Addr) (ls : List Lim) : Stays (PrAt C ls) := fun _ _ _ _ s h => h.same s
def sp_Profile_init (C : Addr) : Sp := fun vs H Q _ => ∃ (p dx lt la : Addr) (ls : List Lim) (b : List Bool), vs = [.ref p, .ref lt, .ref la] ∧ H p = some (.ins C dx []) ∧ H lt = some (bitsO b) ∧ Refs limO H la ls ∧ LimsOk ls b.length ∧ (∀ l ∈ ls, l.2.1 < 2) ∧ b.length ≤ 1000 ∧
  ∀ (H' : Hp) (ln lv : Addr), (∃ dx, H' p = some (.ins C dx (prF lt ln lv))) → H ln = none → H lv = none → H' ln = some (.lst (two (needsOf ls b))) → H' lv = some (.lst (two (servesOf ls b))) → But [p] H H' → Q .non H'
def sp_Profile_keeps (C : Addr) : Sp := fun vs H Q _ => ∃ (p u : Addr) (ls : List Lim) (b : List Bool) (i j : Nat), vs = [.ref p, .ref u] ∧ PrAt C ls H p b ∧ H u = some (.tup [natV i, natV j]) ∧ i < b.length ∧ j < b.length ∧ Q (.bl (keepsB i j b)) H
section
variable {P : Program} {w : World} {K : PySem.W.Frag} {mg : Str → Option Value} {base : Heap}
theorem ok_Profile_init (T : Txt K mg) : FnOk P w K mg base CX0 1 T.f_Profile_init T.fd_Profile_init ["self", "truths", "limits"] (sp_Profile_init T.c_Profile) := by
  refine T.F_Profile_init.ok sc_Profile_init (fun vs H Q E h => ?_) (fun cdv A outer s H vs Q E hr h => ⟨_, (pss_cons (ps_fld (pv 0) (pv 1) rfl)
    (pss_cons (ps_fld (pv 0) (pe_lst (pa_cons pe_int (pa_cons pe_int pa_nil))) rfl)
    (pss_cons (ps_fld (pv 0) (pe_lst (pa_cons pe_int (pa_cons pe_int pa_nil))) rfl)
    (pss_one (ps_for PassesOwn.never rfl (pi_list (pv 2)) (pg_tup rfl (pgs_cons (pg_name (i := 3) sc_Profile_init.nd rfl (Or.inl rfl)) (pgs_cons (pg_name (i := 4) sc_Profile_init.nd rfl (Or.inl rfl)) (pgs_cons (pg_name (i := 5) sc_Profile_init.nd rfl (Or.inl rfl)) (pgs_cons (pg_name (i := 6) sc_Profile_init.nd rfl (Or.inl rfl)) pgs_nil)))))
    (pss_cons (ps_if (pt_cmpR op_eq (pe_ix ix_list (pv 1) (pv 3) (fun _ _ => rfl)) (pv 6) (nomark _))
    (pss_one (ps_asg (pe_op op_or (pe_ix ix_list (pe_fld (pv 0) rfl) (pv 4) (fun _ _ => rfl)) (pe_op op_shl pe_int (pv 3))) (pg_sub (pe_fld (pv 0) rfl) (pv 4) set_list)))
    pss_nil)
    (pss_one (ps_if (pt_cmpR op_eq (pe_ix ix_list (pv 1) (pv 5) (fun _ _ => rfl)) (pv 6) (nomark _))
    (pss_one (ps_asg (pe_op op_or (pe_ix ix_list (pe_fld (pv 0) rfl) (pv 4) (fun _ _ => rfl)) (pe_op op_shl pe_int (pv 3))) (pg_sub (pe_fld (pv 0) rfl) (pv 4) set_list)))
    pss_nil)))))))), ?_⟩)
  · obtain ⟨p, dx, lt, la, ls, b, rfl, _⟩ := h; rfl
  · obtain ⟨p, dx, lt, la, ls, b, rfl, hp, hlt, ⟨as, ha, e⟩, hok, hr2, hz, k⟩ := h
    have npl : p ≠ lt := ne_of hp hlt (by intro z; cases z)
    have npa : p ≠ la := ne_of hp ha (by intro z; cases z)
    refine ⟨_, rfl, _, rfl, p, T.c_Profile, dx, [], rfl, hp, T.cl_Profile, T.n_Profile_truths, (by show 0 < 1000; decide), ?_⟩
    refine ⟨(by show 2 ≤ sizeLine; decide), fun ln hln => ?_⟩
    have npn : p ≠ ln := fun z => by rw [← z, upd_same] at hln; cases hln
    have hln0 : H ln = none := by rw [upd_ne npn.symm] at hln; exact hln
    refine ⟨_, rfl, p, T.c_Profile, dx, _, rfl, (upd_ne npn).trans upd_same, T.cl_Profile, T.n_Profile_needs, (by show 1 < 1000; decide), ?_⟩
    refine ⟨(by show 2 ≤ sizeLine; decide), fun lv hlv => ?_⟩
    have npv : p ≠ lv := fun z => by rw [← z, upd_same] at hlv; cases hlv
    have nnv : ln ≠ lv := fun z => by rw [← z, upd_ne npn.symm, upd_same] at hlv; cases hlv
    have hlv0 : H lv = none := by rw [upd_ne npv.symm, upd_ne nnv.symm, upd_ne npv.symm] at hlv; exact hlv
    refine ⟨_, rfl, p, T.c_Profile, dx, _, rfl, (upd_ne npv).trans upd_same, T.cl_Profile, T.n_Profile_serves, (by show 2 < 1000; decide), ?_⟩
    refine ⟨_, rfl, la, rfl, ⟨as.map V.ref, SqL.of ?_⟩, for_list (K := K) (a := la) (xs := as.map V.ref)
      (fun i σ H' => ∃ (v3 v4 v5 v6 : Option V), σ = [some (.ref p), some (.ref lt), some (.ref la), v3, v4, v5, v6] ∧ H' p = some (.ins T.c_Profile dx (prF lt ln lv)) ∧ But [p] H H' ∧ H' ln = some (.lst (two (needsOf (ls.take i) b))) ∧ H' lv = some (.lst (two (servesOf (ls.take i) b))))
      ⟨none, none, none, none, rfl, ?_, ?_, ?_, ?_⟩ (fun i σ H' _ ⟨_, _, _, _, _, _, s, _⟩ => SqL.of (s _ _ ha (by simpa using npa.symm))) ?_ ?_⟩
    · rw [upd_ne npa.symm, upd_ne (ne_of_none ha hlv0), upd_ne npa.symm, upd_ne (ne_of_none ha hln0), upd_ne npa.symm]; exact ha
    · exact Eq.trans upd_same (congrArg (fun q => some (HO.ins T.c_Profile dx q)) (prF_made lt ln lv))
    · intro c o q n
      have ncp : c ≠ p := by simpa using n
      rw [upd_ne ncp, upd_ne (ne_of_none q hlv0), upd_ne ncp, upd_ne (ne_of_none q hln0), upd_ne ncp]; exact q
    · rw [upd_ne npn.symm, upd_ne nnv, upd_ne npn.symm, upd_same]; rfl
    · rw [upd_ne npv.symm, upd_same]; rfl
    · rintro i y σ H' hi ⟨v3, v4, v5, v6, rfl, hp1, s1, hn1, hv1⟩
      obtain ⟨t, l, rfl, hat, hl2, ht⟩ := e.at hi
      obtain ⟨l1, l2⟩ := hok l (List.mem_of_getElem? hl2)
      have lr := hr2 l (List.mem_of_getElem? hl2)
      have ntp : t ≠ p := ne_of ht hp (by intro z; cases z)
      have hlt1 := s1 _ _ hlt (by simpa using npl.symm)
      refine ⟨t, limV l, rfl, SqT.of (s1 _ _ ht (by simpa using ntp)), rfl, _, _, rfl, _, _, rfl, _, _, rfl, _, _, rfl, rfl, ?_⟩
      refine ⟨_, rfl, _, rfl, lt, _, _, _, rfl, rfl, SqL.of hlt1, bits_at l1, _, rfl, rfl, _, rfl, ?_⟩
      by_cases c1 : gb b l.1 = l.2.2.2
      · refine if_true_of (bl_is c1) ?_
        refine ⟨_, rfl, p, T.c_Profile, dx, _, _, rfl, hp1, T.cl_Profile, T.n_Profile_needs, prF_needs lt ln lv, _, rfl, ln, _, _, _, rfl, rfl, SqL.of hn1, two_at lr, _, rfl, _, _, rfl, rfl, ⟨by omega, by omega, by decide⟩, _, _, rfl, rfl, ?_⟩
        refine ⟨_, rfl, p, T.c_Profile, dx, _, _, rfl, hp1, T.cl_Profile, T.n_Profile_needs, prF_needs lt ln lv, _, rfl, ln, _, _, l.2.1, rfl, rfl, hn1, two_ix lr, ?_⟩
        have hp2 := (upd_ne (o := .lst ((two (needsOf (ls.take i) b)).set l.2.1 (V.int (Builtin.bitOr ((needsOf (ls.take i) b l.2.1 : Nat) : Int) (1 * 2 ^ ((l.1 : Nat) : Int).toNat))))) npn).trans hp1
        have hv2 := (upd_ne (o := .lst ((two (needsOf (ls.take i) b)).set l.2.1 (V.int (Builtin.bitOr ((needsOf (ls.take i) b l.2.1 : Nat) : Int) (1 * 2 ^ ((l.1 : Nat) : Int).toNat))))) nnv.symm).trans hv1
        have s2 : But [p] H (upd H' ln (.lst ((two (needsOf (ls.take i) b)).set l.2.1 (V.int (Builtin.bitOr ((needsOf (ls.take i) b l.2.1 : Nat) : Int) (1 * 2 ^ ((l.1 : Nat) : Int).toNat)))))) := by
          intro c o q n
          rw [upd_ne (ne_of_none q hln0)]; exact s1 c o q n
        have hn2 : upd H' ln (.lst ((two (needsOf (ls.take i) b)).set l.2.1 (V.int (Builtin.bitOr ((needsOf (ls.take i) b l.2.1 : Nat) : Int) (1 * 2 ^ ((l.1 : Nat) : Int).toNat))))) ln = some (.lst (two (needsOf (ls.take (i + 1)) b))) := by
          rw [upd_same]
          congr 2
          refine two_set lr ?_ ?_
          · rw [needs_more b l.2.1 hl2, if_pos ⟨rfl, c1⟩]; exact congrArg V.int (or_step _ _)
          · intro s hs
            rw [needs_more b s hl2, if_neg (fun z => hs z.1.symm)]
        generalize upd H' ln (.lst ((two (needsOf (ls.take i) b)).set l.2.1 (V.int (Builtin.bitOr ((needsOf (ls.take i) b l.2.1 : Nat) : Int) (1 * 2 ^ ((l.1 : Nat) : Int).toNat))))) = H2 at hp2 hv2 s2 hn2
        have hlt2 := s2 _ _ hlt (by simpa using npl.symm)
        refine ⟨_, rfl, _, rfl, lt, _, _, _, rfl, rfl, SqL.of hlt2, bits_at l2, _, rfl, rfl, _, rfl, ?_⟩
        by_cases c2 : gb b l.2.2.1 = l.2.2.2
        · refine if_true_of (bl_is c2) ?_
          refine ⟨_, rfl, p, T.c_Profile, dx, _, _, rfl, hp2, T.cl_Profile, T.n_Profile_serves, prF_serves lt ln lv, _, rfl, lv, _, _, _, rfl, rfl, SqL.of hv2, two_at lr, _, rfl, _, _, rfl, rfl, ⟨by omega, by omega, by decide⟩, _, _, rfl, rfl, ?_⟩
          refine ⟨_, rfl, p, T.c_Profile, dx, _, _, rfl, hp2, T.cl_Profile, T.n_Profile_serves, prF_serves lt ln lv, _, rfl, lv, _, _, l.2.1, rfl, rfl, hv2, two_ix lr, ?_⟩
          refine ⟨_, _, _, _, rfl, (upd_ne npv).trans hp2, ?_, (upd_ne nnv).trans hn2, ?_⟩
          · intro c o q n
            rw [upd_ne (ne_of_none q hlv0)]; exact s2 c o q n
          · rw [upd_same]
            congr 2
            refine two_set lr ?_ ?_
            · rw [serves_more b l.2.1 hl2, if_pos ⟨rfl, c2⟩]; exact congrArg V.int (or_step _ _)
            · intro s hs
              rw [serves_more b s hl2, if_neg (fun z => hs z.1.symm)]
        · refine if_false_of (bl_not c2) ?_
          refine ⟨_, _, _, _, rfl, hp2, s2, hn2, ?_⟩
          rw [hv2]
          congr 2
          unfold two
          rw [serves_more b 0 hl2, serves_more b 1 hl2, if_neg (fun z => c2 z.2), if_neg (fun z => c2 z.2)]
      · refine if_false_of (bl_not c1) ?_
        have hn2 : H' ln = some (.lst (two (needsOf (ls.take (i + 1)) b))) := by
          rw [hn1]
          congr 2
          unfold two
          rw [needs_more b 0 hl2, needs_more b 1 hl2, if_neg (fun z => c1 z.2), if_neg (fun z => c1 z.2)]
        have hp2 := hp1
        have s2 := s1
        have hv2 := hv1
        have hlt2 := s2 _ _ hlt (by simpa using npl.symm)
        refine ⟨_, rfl, _, rfl, lt, _, _, _, rfl, rfl, SqL.of hlt2, bits_at l2, _, rfl, rfl, _, rfl, ?_⟩
        by_cases c2 : gb b l.2.2.1 = l.2.2.2
        · refine if_true_of (bl_is c2) ?_
          refine ⟨_, rfl, p, T.c_Profile, dx, _, _, rfl, hp2, T.cl_Profile, T.n_Profile_serves, prF_serves lt ln lv, _, rfl, lv, _, _, _, rfl, rfl, SqL.of hv2, two_at lr, _, rfl, _, _, rfl, rfl, ⟨by omega, by omega, by decide⟩, _, _, rfl, rfl, ?_⟩
          refine ⟨_, rfl, p, T.c_Profile, dx, _, _, rfl, hp2, T.cl_Profile, T.n_Profile_serves, prF_serves lt ln lv, _, rfl, lv, _, _, l.2.1, rfl, rfl, hv2, two_ix lr, ?_⟩
          refine ⟨_, _, _, _, rfl, (upd_ne npv).trans hp2, ?_, (upd_ne nnv).trans hn2, ?_⟩
          · intro c o q n
            rw [upd_ne (ne_of_none q hlv0)]; exact s2 c o q n
          · rw [upd_same]
            congr 2
            refine two_set lr ?_ ?_
            · rw [serves_more b l.2.1 hl2, if_pos ⟨rfl, c2⟩]; exact congrArg V.int (or_step _ _)
            · intro s hs
              rw [serves_more b s hl2, if_neg (fun z => hs z.1.symm)]
        · refine if_false_of (bl_not c2) ?_
          refine ⟨_, _, _, _, rfl, hp2, s2, hn2, ?_⟩
          rw [hv2]
          congr 2
          unfold two
          rw [serves_more b 0 hl2, serves_more b 1 hl2, if_neg (fun z => c2 z.2), if_neg (fun z => c2 z.2)]
    · rintro σ H' ⟨v3, v4, v5, v6, rfl, hp1, s1, hn1, hv1⟩
      rw [List.length_map, e.1, List.take_length] at hn1 hv1
      exact k H' ln lv ⟨dx, hp1⟩ hln0 hlv0 hn1 hv1 s1
theorem ok_Profile_keeps (T : Txt K mg) : FnOk P w K mg base CX0 1 T.f_Profile_keeps T.fd_Profile_keeps ["self", "pair"] (sp_Profile_keeps T.c_Profile) := by
  refine T.F_Profile_keeps.ok sc_Profile_keeps (fun vs H Q E h => ?_) (fun cdv A outer s H vs Q E hr h => ⟨_, (pss_one (ps_ret (pe_or (pe_ix ix_list (pe_fld (pv 0) rfl) (pe_ix ix_tup (pv 1) pe_int (fun _ _ => rfl)) (fun _ _ => rfl)) (pe_one (pe_not (pe_ix ix_list (pe_fld (pv 0) rfl) (pe_ix ix_tup (pv 1) pe_int (fun _ _ => rfl)) (fun _ _ => rfl))))))), ?_⟩)
  · obtain ⟨p, u, ls, b, i, j, rfl, _⟩ := h; rfl
  · obtain ⟨p, u, ls, b, i, j, rfl, ⟨dx, lt, ln, lv, hp, hlt, _, _⟩, hu, hi, hj, k⟩ := h
    refine ⟨_, rfl, p, T.c_Profile, dx, _, _, rfl, hp, T.cl_Profile, T.n_Profile_truths, prF_truths lt ln lv, _, rfl, u, _, _, _, rfl, rfl, SqT.of hu, (show atI [natV i, natV j] 1 = some _ from rfl), lt, _, _, _, rfl, rfl, SqL.of hlt, bits_at hj, _, rfl, ?_⟩
    unfold keepsB at k
    cases c : gb b j with
    | true =>
      rw [c] at k
      exact if_true_of rfl k
    | false =>
      rw [c] at k
      refine if_false_of rfl ?_
      exact ⟨_, rfl, p, T.c_Profile, dx, _, _, rfl, hp, T.cl_Profile, T.n_Profile_truths, prF_truths lt ln lv, _, rfl, u, _, _, _, rfl, rfl, SqT.of hu, (show atI [natV i, natV j] 0 = some _ from rfl), lt, _, _, _, rfl, rfl, SqL.of hlt, bits_at hi, _, rfl, k⟩
end
end AX
namespace AX
open PySem PySem.Spec PyProof.Rows L2
/-! ### all_profiles -/
theorem flatMap_more {α β : Type} (f : α → List β) {l : List α} {i : Nat} {x : α} (h : l[i]? = some x) : (l.take (i + 1)).flatMap f = (l.take i).flatMap f ++ f x := by
  rw [take_more h, List.flatMap_append]; simp
theorem flatMap_room {α β : Type} (f : α → List β) {l : List α} {i : Nat} {x : α} (h : l[i]? = some x) : ((l.take i).flatMap f).length + (f x).length ≤ (l.flatMap f).length := by
  have e := flatMap_more f h
  have e2 := congrArg List.length e
  rw [List.length_append] at e2
  rw [← e2]
  have : l.flatMap f = (l.take (i + 1)).flatMap f ++ (l.drop (i + 1)).flatMap f := by rw [← List.flatMap_append, List.take_append_drop]
  rw [this, List.length_append]; omega
theorem allP_more {rows : List Row} {n m i : Nat} {r : Row} (h : rows[i]? = some r) : allP (rows.take (i + 1)) n m = longer n m (allP (rows.take i) n m) r := by
  unfold allP; exact foldl_more h
theorem allP_at_len {rows : List Row} {n m i : Nat} (hi : i ≤ rows.length) : ∀ p ∈ allP (rows.take i) n m, p.length = i := by
  intro p hp
  have := allP_len (rows.take i) [[]] 0 (by simp) p hp
  rw [this, List.length_take]; omega
theorem pow_9 {k : Nat} (h : k ≤ 9) : 2 ^ k ≤ 1000 := Nat.le_trans (Nat.pow_le_pow_right (by decide) h) (by decide)
theorem limsOk {rows : List Row} (h : RowsOk rows) : LimsOk (limits 0 rows) rows.length := by
  intro l hl
  obtain ⟨j, r, h1, h2, rfl⟩ := (mem_limits rows 0 l).mp hl
  have hj := (List.getElem?_eq_some_iff.mp h1).1
  have ok := h j r h1
  refine ⟨by show 0 + j < _; omega, ?_⟩
  show r.2.2.1 < _
  have h6 : r.1 = 6 ∨ r.1 = 7 := of_decide_eq_true h2
  have := ok.fst (by omega)
  omega
def sp_all_profiles (C : Addr) : Sp := fun vs H Q _ => ∃ (a : Addr) (rows : List Row) (n m : Nat), vs = [.ref a, natV n, natV m] ∧ Refs rowO H a rows ∧ RowsOk rows ∧ rows.length ≤ 1000 ∧ atomsIn rows ≤ 9 ∧ n < 16 ∧ m < 16 ∧ (∀ l ∈ limits 0 rows, l.2.1 < 2) ∧
  ∀ (H' : Hp) (q : Addr), Same H H' → RefsP (PrAt C (limits 0 rows)) H' q (allP rows n m) → Q (.ref q) H'
section
variable {P : Program} {w : World} {K : PySem.W.Frag} {mg : Str → Option Value} {base : Heap}
theorem ok_all_profiles (T : Txt K mg) : FnOk P w K mg base CX0 3 T.f_all_profiles T.fd_all_profiles ["rows", "names", "roles"] (sp_all_profiles T.c_Profile) := by
  refine T.F_all_profiles.ok sc_all_profiles (fun vs H Q E h => ?_) (fun cdv A outer s H vs Q E hr h => ⟨_, (pss_cons (ps_set (i := 3) sc_all_profiles.nd rfl (Or.inl rfl) (pe_lst (pa_cons (pe_lst pa_nil) pa_nil)))
    (pss_cons (ps_for PassesOwn.never rfl (pi_list (pv 0)) (pg_name (i := 4) sc_all_profiles.nd rfl (Or.inl rfl))
    (pss_cons (ps_set (i := 5) sc_all_profiles.nd rfl (Or.inl rfl) (pe_lst pa_nil))
    (pss_cons (ps_for PassesOwn.never rfl (pi_list (pv 3)) (pg_name (i := 6) sc_all_profiles.nd rfl (Or.inl rfl))
    (pss_one (ps_for PassesOwn.never rfl (pi_list (pe_call (ok_choices T) (hr.mono (by decide)) rfl T.g_choices T.F_choices.kp T.b_choices .nil pass0 (pa_cons (pv 4) (pa_cons (pv 6) (pa_cons (pv 1) (pa_cons (pv 2) pa_nil)))))) (pg_name (i := 7) sc_all_profiles.nd rfl (Or.inl rfl))
    (pss_one (ps_expr (pe_bm PySem.F.plainAttrs_list PySem.F.slot_list_append PySem.F.type_list_append mt_append (pv 5) (pa_cons (pe_op op_cat (pv 6) (pe_lst (pa_cons (pv 7) pa_nil))) pa_nil)))))))
    (pss_one (ps_set (i := 3) sc_all_profiles.nd rfl (Or.inl rfl) (pv 5))))))
    (pss_cons (ps_set (i := 8) sc_all_profiles.nd rfl (Or.inr rfl) (pe_call (ok_restrictions T) (hr.mono (by decide)) rfl T.g_restrictions T.F_restrictions.kp T.b_restrictions .nil pass0 (pa_cons (pv 0) pa_nil)))
    (pss_one (ps_ret (pe_lc (own := [("truths", 6)]) (g := (gName 6)) (tt := tYes) rfl sc_all_profiles.nd (pi_list (pv 3)) (blkOk_by (N := ["rows", "names", "roles", "begun", "row", "longer", "truths", "truth", "limits"]) (sc := defScope s_all_profiles) (by decide +kernel)) (fun _ _ _ _ _ => (pg_name (i := 6) sc_all_profiles.nd rfl (Or.inl rfl))) (fun _ _ _ _ _ => pts_nil) (fun _ _ _ _ _ => (pe_make T.mk_Profile (ok_Profile_init T) (hr.mono (by decide)) rfl T.g_Profile T.b_Profile_init .nil pass0 (pa_cons (pv 6) (pa_cons (pv 8) pa_nil)))))))))), ?_⟩)
  · obtain ⟨a, rows, n, m, rfl, _⟩ := h; rfl
  · obtain ⟨a, rows, n, m, rfl, ⟨as, ha, e⟩, ok, hz, h9, hn, hm, hr2, k⟩ := h
    refine ⟨Nat.zero_le _, fun l0 hl0 => ⟨(by show 1 ≤ sizeLine; decide), fun lp hlp => ?_⟩⟩
    have s0 : Same H (upd (upd H l0 (.lst [])) lp (.lst [V.ref l0])) := (Same.upd hl0).trans (Same.upd hlp)
    have nl0 : l0 ≠ lp := ne_of_none upd_same hlp
    refine ⟨_, rfl, a, rfl, ⟨_, SqL.of (s0 _ _ ha)⟩, for_list (K := K) (a := a) (xs := as.map V.ref)
      (fun i σ H' => ∃ (lp : Addr) (v4 v5 v6 v7 : Option V), σ = [some (.ref a), some (natV n), some (natV m), some (.ref lp), v4, v5, v6, v7, none] ∧ Same H H' ∧ Refs bitsO H' lp (allP (rows.take i) n m))
      ⟨lp, none, none, none, none, rfl, s0, [l0], upd_same, ⟨rfl, fun i t x h1 h2 => ?_⟩⟩ (fun i σ H' _ ⟨_, _, _, _, _, _, s, _⟩ => SqL.of (s _ _ ha)) ?_ ?_⟩
    · cases i with
      | succ i => simp at h1
      | zero =>
        have h1 : l0 = t := by simpa using h1
        have h2 : ([] : List Bool) = x := by simpa [allP] using h2
        subst h1 h2
        exact (upd_ne nl0).trans upd_same
    · rintro i y σ H' hi ⟨lp, v4, v5, v6, v7, rfl, s1, hR⟩
      obtain ⟨t, r, rfl, hat, hr2, ht⟩ := e.at hi
      have hlt : i < rows.length := (List.getElem?_eq_some_iff.mp hr2).1
      have rok := ok i r hr2
      have ht1 := s1 _ _ ht
      have hplen := allP_at_len (n := n) (m := m) (rows := rows) (Nat.le_of_lt hlt)
      have room : (longer n m (allP (rows.take i) n m) r).length ≤ 1000 := by
        rw [← allP_more hr2]
        exact Nat.le_trans (allP_length _ _ _) (pow_9 (Nat.le_trans (atomsIn_take rows (i + 1)) h9))
      rw [allP_more hr2]
      generalize hps : allP (rows.take i) n m = ps at hR hplen room
      obtain ⟨us, hlp1, eu⟩ := hR
      refine ⟨Nat.zero_le _, fun L hL => ?_⟩
      have nL : ∀ b o, H' b = some o → b ≠ L := fun b o q => ne_of_none q hL
      refine ⟨_, rfl, lp, rfl, ⟨_, SqL.of ((Same.upd hL) _ _ hlp1)⟩, for_list (K := K) (a := lp) (xs := us.map V.ref)
        (fun j σ H2 => ∃ (v6 v7 : Option V) (acc : List Addr), σ = [some (.ref a), some (natV n), some (natV m), some (.ref lp), some (.ref t), some (.ref L), v6, v7, none] ∧ Same H' H2 ∧ H2 L = some (.lst (acc.map V.ref)) ∧ L ∉ acc ∧
          Each bitsO H2 acc ((ps.take j).flatMap fun p => (choicesR r p n m).map fun b => p ++ [b]))
        ⟨v6, v7, [], rfl, Same.upd hL, upd_same, by simp, Each.nil⟩ (fun j σ H2 _ ⟨_, _, _, _, s, _⟩ => SqL.of (s _ _ hlp1)) ?_ ?_⟩
      · rintro j y σ H2 hj ⟨v6, v7, acc, rfl, s2, hL2, nacc, eacc⟩
        obtain ⟨u, p, rfl, hut, hp2, hu⟩ := eu.at hj
        have hpl : p.length = i := hplen p (List.mem_of_getElem? hp2)
        have hu2 := s2 _ _ hu
        have room2 := flatMap_room (fun p => (choicesR r p n m).map fun b => p ++ [b]) hp2
        refine ⟨_, rfl, _, rfl, _, rfl, _, rfl, t, u, r, p, n, m, rfl, s2 _ _ ht1, hu2, by rw [hpl]; exact rok, hn, hm, ?_⟩
        intro H3 q s3 hq e3
        have nqL : q ≠ L := fun z => by rw [z, hL2] at hq; cases hq
        refine ⟨q, rfl, ⟨_, SqL.of e3⟩, for_list (K := K) (a := q) (xs := (choicesR r p n m).map V.bl)
          (fun k σ H4 => ∃ (v7 : Option V) (acc : List Addr), σ = [some (.ref a), some (natV n), some (natV m), some (.ref lp), some (.ref t), some (.ref L), some (.ref u), v7, none] ∧ Same H' H4 ∧ H4 q = some (bitsO (choicesR r p n m)) ∧ H4 L = some (.lst (acc.map V.ref)) ∧ L ∉ acc ∧
            Each bitsO H4 acc (((ps.take j).flatMap fun p => (choicesR r p n m).map fun b => p ++ [b]) ++ ((choicesR r p n m).take k).map fun b => p ++ [b]))
          ⟨v7, acc, rfl, s2.trans s3, e3, s3 _ _ hL2, nacc, by simpa using eacc.same s3⟩ (fun k σ H4 _ ⟨_, _, _, _, h, _⟩ => SqL.of h) ?_ ?_⟩
        · rintro k y σ H4 hk ⟨v7, acc, rfl, s4, hq4, hL4, nacc, eacc⟩
          obtain ⟨b, hb, rfl⟩ : ∃ b, (choicesR r p n m)[k]? = some b ∧ y = V.bl b := by
            rw [List.getElem?_map] at hk
            cases z : (choicesR r p n m)[k]? with
            | none => rw [z] at hk; cases hk
            | some b => rw [z] at hk; exact ⟨b, rfl, (Option.some.inj hk).symm⟩
          have hu4 := s4 _ _ hu
          have hkl : k < (choicesR r p n m).length := (List.getElem?_eq_some_iff.mp hb).1
          have hal : acc.length ≤ 1000 := by
            rw [eacc.1, List.length_append, List.length_map, List.length_take]
            have : (longer n m ps r).length = (ps.flatMap fun p => (choicesR r p n m).map fun b => p ++ [b]).length := rfl
            rw [List.length_map] at room2
            omega
          refine ⟨_, rfl, .inl ⟨rfl, _, SqL.of hL4⟩, _, rfl, _, rfl, (by show 1 ≤ sizeLine; decide), fun z hz4 => ?_⟩
          have nqL4 : q ≠ L := nqL
          have nzL : z ≠ L := fun x => by rw [x, hL4] at hz4; cases hz4
          refine ⟨u, z, _, _, rfl, rfl, (Same.upd hz4) _ _ hu4, upd_same, ?_, fun y hy => ?_⟩
          · rw [List.length_map, hpl]
            exact Nat.le_of_lt (small1000 (show i + 1 ≤ 1000 by omega))
          · have nyL : y ≠ L := fun x => by rw [x, upd_ne nzL.symm, hL4] at hy; cases hy
            have s5 : Same H4 (upd (upd H4 z (.lst [V.bl b])) y (.lst (p.map V.bl ++ [V.bl b]))) := (Same.upd hz4).trans (Same.upd hy)
            refine ⟨L, _, _, rfl, rfl, s5 _ _ hL4, by rw [List.length_map]; exact small1000 hal, ?_⟩
            refine ⟨some (V.bl b), acc ++ [y], rfl, ?_, ?_, ?_, ?_, ?_⟩
            · intro c o q
              rw [upd_ne (nL c o q)]; exact s5 _ _ (s4 _ _ q)
            · rw [upd_ne nqL4]; exact s5 _ _ hq4
            · rw [upd_same, List.map_append]; rfl
            · rw [List.mem_append, List.mem_singleton]; exact fun x => x.elim nacc nyL.symm
            · rw [take_more hb, List.map_append, ← List.append_assoc]
              refine Each.snoc (eacc.keepIn fun c x hc h => ?_) ?_
              · have ncL : c ≠ L := fun q => nacc (by rw [← q]; exact hc)
                rw [upd_ne ncL]; exact s5 _ _ h
              · rw [upd_ne nyL, upd_same, bitsO, List.map_append]; rfl
        · rintro σ H4 ⟨v7, acc, rfl, s4, hq4, hL4, nacc, eacc⟩
          refine ⟨some (.ref u), v7, acc, rfl, s4, hL4, nacc, ?_⟩
          rw [List.length_map, List.take_length] at eacc
          rw [flatMap_more _ hp2]
          exact eacc
      · rintro σ H2 ⟨v6, v7, acc, rfl, s2, hL2, nacc, eacc⟩
        rw [List.length_map, eu.1, List.take_length] at eacc
        exact ⟨_, rfl, L, some (.ref t), some (.ref L), v6, v7, rfl, s1.trans s2, acc, hL2, eacc⟩
    · rintro σ H' ⟨lp, v4, v5, v6, v7, rfl, s1, hR⟩
      rw [List.length_map, e.1, List.take_length] at hR
      refine ⟨_, rfl, a, rows, rfl, ⟨as, s1 _ _ ha, e.same s1⟩, hz, ?_⟩
      intro H1 la s2 hla
      obtain ⟨us, hus, eu⟩ := hR
      have hus1 := s2 _ _ hus
      have eu1 := eu.same s2
      have lok := limsOk ok
      have hplen : ∀ p ∈ allP rows n m, p.length = rows.length := by
        intro p hp
        exact allP_at_len (n := n) (m := m) (rows := rows) (i := rows.length) (Nat.le_refl _) p (by rw [List.take_length]; exact hp)
      have hpz : (allP rows n m).length ≤ 1000 := Nat.le_trans (allP_length _ _ _) (pow_9 h9)
      generalize allP rows n m = ps at eu1 hplen hpz k
      generalize hls : limits 0 rows = ls at hla lok hr2 k
      refine ⟨_, rfl, lp, rfl, ⟨_, SqL.of hus1⟩, fun D hD => ?_⟩
      have nD : ∀ b o, H1 b = some o → b ≠ D := fun b o q => ne_of_none q hD
      refine lc_list (K := K) (a := lp) (xs := us.map V.ref) (fun i H2 => Same H1 H2 ∧ ∃ acc : List Addr, H2 D = some (.lst (acc.map V.ref)) ∧ EachP (PrAt T.c_Profile ls) (wo H2 [D]) acc (ps.take i))
        ⟨Same.upd hD, [], upd_same, EachP.nil⟩ (fun i H2 _ h => SqL.of (h.1 _ _ hus1)) ?_ ?_
      · rintro i y H2 hi ⟨s3, acc, hacc, eacc⟩
        obtain ⟨u, p, rfl, hut, hp2, hu⟩ := eu1.at hi
        have hpl := hplen p (List.mem_of_getElem? hp2)
        refine ⟨rfl, _, rfl, _, rfl, ?_⟩
        intro x dx nx nd ne
        have sm : Same H2 (upd (upd H2 dx (.own x)) x (.ins T.c_Profile dx [])) := Same.made nx nd fun b o e hb => e
        refine ⟨x, dx, u, la, ls, p, rfl, upd_same, sm _ _ (s3 _ _ hu), hla.same (fun b o e => sm _ _ (s3 _ _ e)), by rw [hpl]; exact lok, hr2, by rw [hpl]; exact hz, fun H3 ln lv hx3 nln nlv hln3 hlv3 b3 => ⟨rfl, ?_⟩⟩
        have s4 : Same H2 H3 := Same.made nx nd fun b o e hb => b3 b o e (by simpa using hb)
        have hD3 := s4 _ _ hacc
        have haz : acc.length ≤ 1000 := by
          rw [eacc.1, List.length_take]; omega
        refine ⟨acc.map V.ref, hD3, by rw [List.length_map]; exact small1000 haz, ?_, acc ++ [x], ?_, ?_⟩
        · exact fun b o q => by rw [upd_ne (nD b o q)]; exact s4 _ _ (s3 b o q)
        · rw [upd_same, List.map_append]; rfl
        · rw [take_more hp2]
          have sw : Same (wo H2 [D]) (wo (upd H3 D (.lst (acc.map V.ref ++ [V.ref x]))) [D]) := wo_same fun b o n e => ⟨n, by
            rw [upd_ne (by simpa using n)]; exact s4 b o e⟩
          refine EachP.snoc (eacc.same (PrAt.stays _ _) sw) ?_
          obtain ⟨dx3, hx3⟩ := hx3
          have put : ∀ (b : Addr) (o : HO), b ≠ D → H3 b = some o → wo (upd H3 D (.lst (acc.map V.ref ++ [V.ref x]))) [D] b = some o := fun b o n e => wo_of (by simpa using n) (by rw [upd_ne n]; exact e)
          have nxD : x ≠ D := fun z => by rw [z, hacc] at nx; cases nx
          have nlD : ∀ b : Addr, upd (upd H2 dx (.own x)) x (.ins T.c_Profile dx []) b = none → b ≠ D := fun b e z => by
            rw [z, sm _ _ hacc] at e; cases e
          exact ⟨dx3, u, ln, lv, put _ _ nxD hx3, put _ _ (nD _ _ hu) (s4 _ _ (s3 _ _ hu)), put _ _ (nlD _ nln) hln3, put _ _ (nlD _ nlv) hlv3⟩
      · rintro H2 ⟨s3, acc, hacc, eacc⟩
        rw [List.length_map, eu1.1, List.take_length] at eacc
        exact k H2 D (s1.trans (s2.trans s3)) ⟨acc, hacc, eacc.same (PrAt.stays _ _) wo_in⟩
end
end AX
namespace AX
open PySem PySem.Spec PyProof.Rows L2
/-! ### served, is_supported -/
theorem and_not (s n : Nat) : Builtin.bitAnd (s : Int) (Builtin.bitNot (n : Int)) = (s : Int) - ((s &&& n : Nat) : Int) := by
  have h1 : decide (0 ≤ (s : Int)) = true := decide_eq_true (Int.natCast_nonneg s)
  have h2 : decide (0 ≤ Builtin.bitNot (n : Int)) = false := decide_eq_false (by show ¬ 0 ≤ -(n : Int) - 1; omega)
  have h3 : Builtin.bitNot (Builtin.bitNot (n : Int)) = (n : Int) := by show -(-(n : Int) - 1) - 1 = _; omega
  unfold Builtin.bitAnd
  rw [h1, h2]
  simp only [h3, Int.toNat_natCast]
theorem sub_test (s n : Nat) : decide (V.int (Builtin.bitAnd (s : Int) (Builtin.bitNot (n : Int))) = V.int 0) = decide (s &&& n = s) := by
  rw [and_not]
  have hle : s &&& n ≤ s := Nat.and_le_left
  by_cases c : s &&& n = s
  · rw [decide_eq_true c, c]
    exact decide_eq_true (by rw [Int.sub_self])
  · rw [decide_eq_false c]
    refine decide_eq_false fun z => c ?_
    injection z with z
    omega
theorem or_nat (f s : Nat) : Builtin.bitOr (f : Int) (s : Int) = ((f ||| s : Nat) : Int) := by
  rw [bitOr_nn (Int.natCast_nonneg _) (Int.natCast_nonneg _), Int.toNat_natCast, Int.toNat_natCast]
theorem served_more {ls : List Lim} {n r i : Nat} {S : List (List Bool)} {q : List Bool} (h : S[i]? = some q) : servedM ls n r (S.take (i + 1)) = if servesOf ls q r &&& n = servesOf ls q r then servedM ls n r (S.take i) ||| servesOf ls q r else servedM ls n r (S.take i) := by
  unfold servedM; rw [foldl_more h]
def sp_served (C : Addr) : Sp := fun vs H Q _ => ∃ (c : Addr) (n r : Nat) (ls : List Lim) (ps : List (List Bool)), vs = [natV n, natV r, .ref c] ∧ RefsP (PrAt C ls) H c ps ∧ r < 2 ∧ Q (natV (servedM ls n r ps)) H
def sp_is_supported (C : Addr) : Sp := fun vs H Q _ => ∃ (x c : Addr) (ls : List Lim) (p : List Bool) (ps : List (List Bool)), vs = [.ref x, .ref c] ∧ PrAt C ls H x p ∧ RefsP (PrAt C ls) H c ps ∧
  ∀ H' : Hp, Same H H' → Q (.bl (isSupp2 ls p ps)) H'
section
variable {P : Program} {w : World} {K : PySem.W.Frag} {mg : Str → Option Value} {base : Heap}
theorem ok_served (T : Txt K mg) : FnOk P w K mg base CX0 1 T.f_served T.fd_served ["needs", "role", "profiles"] (sp_served T.c_Profile) := by
  refine T.F_served.ok sc_served (fun vs H Q E h => ?_) (fun cdv A outer s H vs Q E hr h => ⟨_, (pss_cons (ps_set (i := 3) sc_served.nd rfl (Or.inl rfl) pe_int)
    (pss_cons (ps_for PassesOwn.never rfl (pi_list (pv 2)) (pg_name (i := 4) sc_served.nd rfl (Or.inl rfl))
    (pss_cons (ps_set (i := 5) sc_served.nd rfl (Or.inl rfl) (pe_ix ix_list (pe_fld (pv 4) rfl) (pv 1) (fun _ _ => rfl)))
    (pss_one (ps_if (pt_cmpR op_eq (pe_op op_and (pv 5) (pe_un un_inv (pv 0))) pe_int (nomark _))
    (pss_one (ps_set (i := 3) sc_served.nd rfl (Or.inl rfl) (pe_op op_or (pv 3) (pv 5))))
    pss_nil))))
    (pss_one (ps_ret (pv 3))))), ?_⟩)
  · obtain ⟨c, n, r, ls, ps, rfl, _⟩ := h; rfl
  · obtain ⟨c, n, r, ls, ps, rfl, ⟨as, hc, e⟩, hr2, k⟩ := h
    refine ⟨_, rfl, c, rfl, ⟨_, SqL.of hc⟩, for_list (K := K) (a := c) (xs := as.map V.ref)
      (fun i σ H' => ∃ v4 v5 : Option V, H' = H ∧ σ = [some (natV n), some (natV r), some (.ref c), some (natV (servedM ls n r (ps.take i))), v4, v5])
      ⟨none, none, rfl, rfl⟩ (fun i σ H' _ ⟨_, _, z, _⟩ => by rw [z]; exact SqL.of hc) ?_ ?_⟩
    · rintro i y σ H' hi ⟨v4, v5, rfl, rfl⟩
      obtain ⟨t, q, rfl, hat, hq2, dx, lt, ln, lv, ht, _, _, hlv⟩ := e.at hi
      refine ⟨_, rfl, t, T.c_Profile, dx, _, _, rfl, ht, T.cl_Profile, T.n_Profile_serves, prF_serves lt ln lv, _, rfl, lv, _, _, _, rfl, rfl, SqL.of hlv, two_at hr2, ?_⟩
      refine ⟨_, rfl, _, rfl, _, rfl, _, _, rfl, rfl, rfl, _, rfl, ?_⟩
      by_cases c1 : servesOf ls q r &&& n = servesOf ls q r
      · refine if_true_of ((sub_test _ _).trans (decide_eq_true c1)) ?_
        refine ⟨_, rfl, _, rfl, _, _, rfl, rfl, some (.ref t), some (natV (servesOf ls q r)), rfl, ?_⟩
        rw [served_more hq2, if_pos c1]
        show [some (natV n), some (natV r), some (V.ref c), some (V.int (Builtin.bitOr ((servedM ls n r (ps.take i) : Nat) : Int) ((servesOf ls q r : Nat) : Int))), some (V.ref t), some (natV (servesOf ls q r))] = _
        rw [or_nat]
      · refine if_false_of ((sub_test _ _).trans (decide_eq_false c1)) ?_
        refine ⟨some (.ref t), some (natV (servesOf ls q r)), rfl, ?_⟩
        rw [served_more hq2, if_neg c1]; rfl
    · rintro σ H' ⟨v4, v5, rfl, rfl⟩
      rw [List.length_map, e.1, List.take_length]
      exact ⟨_, rfl, k⟩
theorem ok_is_supported (T : Txt K mg) : FnOk P w K mg base CX0 2 T.f_is_supported T.fd_is_supported ["source", "profiles"] (sp_is_supported T.c_Profile) := by
  refine T.F_is_supported.ok sc_is_supported (fun vs H Q E h => ?_) (fun cdv A outer s H vs Q E hr h => ⟨_, (pss_cons (ps_for PassesOwn.never rfl (pi_enum (by rfl) T.no_enumerate (pa_cons (pe_fld (pv 0) rfl) pa_nil)) (pg_tup rfl (pgs_cons (pg_name (i := 2) sc_is_supported.nd rfl (Or.inl rfl)) (pgs_cons (pg_name (i := 3) sc_is_supported.nd rfl (Or.inl rfl)) pgs_nil)))
    (pss_one (ps_if (pt_cmpR op_ne (pe_call (ok_served T) (hr.mono (by decide)) rfl T.g_served T.F_served.kp T.b_served .nil pass0 (pa_cons (pv 3) (pa_cons (pv 2) (pa_cons (pv 1) pa_nil)))) (pv 3) (nomark _))
    (pss_one (ps_ret pe_bl))
    pss_nil)))
    (pss_one (ps_ret pe_bl))), ?_⟩)
  · obtain ⟨x, c, ls, p, ps, rfl, _⟩ := h; rfl
  · obtain ⟨x, c, ls, p, ps, rfl, ⟨dx, lt, ln, lv, hx, _, hln, _⟩, hc, k⟩ := h
    refine ⟨_, rfl, x, T.c_Profile, dx, _, _, rfl, hx, T.cl_Profile, T.n_Profile_needs, prF_needs lt ln lv, ln, _, rfl, SqL.of hln, for_it (walk_enum (K := K) (a := ln) (xs := two (needsOf ls p)))
      (fun i σ H' => ∃ v2 v3 : Option V, σ = [some (.ref x), some (.ref c), v2, v3] ∧ Same H H' ∧ ∀ r, r < i → servedM ls (needsOf ls p r) r ps = needsOf ls p r)
      ⟨none, none, rfl, fun _ _ h => h, fun r h => by omega⟩ (fun i σ H' _ ⟨_, _, _, s, _⟩ => SqL.of (s _ _ hln)) ?_ ?_⟩
    · rintro i y σ H' H1 hi ⟨v2, v3, rfl, s1, hall⟩ ⟨T1, x1, x2, rfl, hT, rfl, hx1, hx2⟩
      have hx1 : V.int (i : Int) = x1 := Option.some.inj hx1
      subst hx1
      have hi2 : i < 2 := hi
      have hx2 : natV (needsOf ls p i) = x2 := by
        rcases (show i = 0 ∨ i = 1 by omega) with e | e <;> subst e <;> exact Option.some.inj hx2
      subst hx2
      have s2 : Same H (upd H' T1 (.tup [V.int (i : Int), natV (needsOf ls p i)])) := s1.trans (Same.upd hT)
      refine ⟨T1, _, rfl, SqT.of upd_same, rfl, _, _, rfl, _, _, rfl, rfl, ?_⟩
      refine ⟨_, rfl, _, rfl, _, rfl, c, _, i, ls, ps, rfl, hc.same (PrAt.stays _ _) s2, hi2, ?_⟩
      refine ⟨_, rfl, rfl, _, rfl, ?_⟩
      by_cases c1 : servedM ls (needsOf ls p i) i ps = needsOf ls p i
      · refine if_false_of (by rw [int_is c1]; rfl) ?_
        refine ⟨_, _, rfl, s2, fun r h => ?_⟩
        rcases (show r < i ∨ r = i by omega) with h | h
        · exact hall r h
        · subst h; exact c1
      · refine if_true_of (by rw [int_not c1]; rfl) ?_
        have : isSupp2 ls p ps = false := by
          unfold isSupp2
          rcases (show i = 0 ∨ i = 1 by omega) with e | e
          · subst e; rw [beq_eq_false_iff_ne.mpr c1]; rfl
          · subst e; rw [beq_eq_false_iff_ne.mpr c1, Bool.and_false]
        have kk := k _ s2
        rw [this] at kk
        exact kk
    · rintro σ H' ⟨v2, v3, rfl, s1, hall⟩
      have : isSupp2 ls p ps = true := by
        unfold isSupp2
        rw [hall 0 (show 0 < 2 by decide), hall 1 (show 1 < 2 by decide)]; simp
      have kk := k _ s1
      rw [this] at kk
      exact kk
end
end AX
namespace AX
open PySem PySem.Spec PyProof.Rows L2
/-! ### lasting_profiles, keep_all -/
def sp_lasting_profiles (C : Addr) : Sp := fun vs H Q _ => ∃ (b : Addr) (ls : List Lim) (ps : List (List Bool)), vs = [.ref b] ∧ RefsP (PrAt C ls) H b ps ∧ ps.length ≤ 1000 ∧ Apart ls ∧ (∀ l ∈ ls, l.2.1 < 2) ∧
  ∀ (H' : Hp) (q : Addr) (L : List (List Bool)), Same H H' → RefsP (PrAt C ls) H' q L → Keeps ls ps L → (L.filter fun p => isSupp ls p L).length = L.length → Q (.ref q) H'
def sp_keep_all (C : Addr) : Sp := fun vs H Q _ => ∃ (b u : Addr) (ls : List Lim) (ps : List (List Bool)) (i j : Nat), vs = [.ref b, .ref u] ∧ RefsP (PrAt C ls) H b ps ∧ H u = some (.tup [natV i, natV j]) ∧ ps.length ≤ 1000 ∧ (∀ p ∈ ps, i < p.length ∧ j < p.length) ∧
  ∀ (H' : Hp) (q : Addr), Same H H' → RefsP (PrAt C ls) H' q (ps.filter (keepsB i j)) → Q (.ref q) H'
section
variable {P : Program} {w : World} {K : PySem.W.Frag} {mg : Str → Option Value} {base : Heap}
theorem ok_lasting_profiles (T : Txt K mg) : FnOk P w K mg base CX0 3 T.f_lasting_profiles T.fd_lasting_profiles ["profiles"] (sp_lasting_profiles T.c_Profile) := by
  refine T.F_lasting_profiles.ok sc_lasting_profiles (fun vs H Q E h => ?_) (fun cdv A outer s H vs Q E hr h => ⟨_, (pss_cons (ps_set (i := 1) sc_lasting_profiles.nd rfl (Or.inr rfl) (pv 0))
    (pss_one (ps_while PassesOwn.never (pt_val pe_bl)
    (pss_cons (ps_setLc (i := 2) (own := [("source", 3)]) (g := (gName 3)) rfl sc_lasting_profiles.nd rfl rfl (sw_true rfl rfl rfl (by decide +kernel)) (pi_list (pv 1)) (blkOk_by (N := ["profiles", "lasting", "supported", "source"]) (sc := defScope s_lasting_profiles) (by decide +kernel)) (fun _ _ _ _ _ => (pg_name (i := 3) sc_lasting_profiles.nd rfl (Or.inl rfl))) (fun _ _ _ _ _ => (pts_one (pt_val (pe_call (ok_is_supported T) (hr.mono (by decide)) rfl T.g_is_supported T.F_is_supported.kp T.b_is_supported .nil pass0 (pa_cons (pv 3) (pa_cons (pv 1) pa_nil)))))) (fun _ _ _ _ _ => (pv 3)))
    (pss_cons (ps_if (pt_cmpR op_eq (pe_callB call_len_seq (by rfl) T.no_len PySem.boot_len (pa_cons (pv 2) pa_nil)) (pe_callB call_len_seq (by rfl) T.no_len PySem.boot_len (pa_cons (pv 1) pa_nil)) (nomark _))
    (pss_one (ps_ret (pv 1)))
    pss_nil)
    (pss_one (ps_set (i := 1) sc_lasting_profiles.nd rfl (Or.inr rfl) (pv 2)))))))), ?_⟩)
  · obtain ⟨b, ls, ps, rfl, _⟩ := h; rfl
  · obtain ⟨b, ls, ps, rfl, hP, hpz, hap, hr2, k⟩ := h
    have hss : ∀ (p : List Bool) (S : List (List Bool)), isSupp2 ls p S = isSupp ls p S := fun p S => isSupp2_is hap hr2 p S
    refine ⟨_, rfl, ?_⟩
    refine ⟨fun m σ H' => ∃ (lp : Addr) (v2 v3 : Option V) (L : List (List Bool)), σ = [some (.ref b), some (.ref lp), v2, v3] ∧ Same H H' ∧ RefsP (PrAt T.c_Profile ls) H' lp L ∧ Keeps ls ps L ∧ m = L.length,
      ⟨ps.length, b, none, none, ps, rfl, fun _ _ h => h, hP, Keeps.start ls ps, rfl⟩, ?_⟩
    rintro m σ H' ⟨lp, v2, v3, L, rfl, s2, hL, hk, rfl⟩
    obtain ⟨us, hus, e⟩ := id hL
    refine ⟨_, rfl, if_true_of rfl ⟨_, fun σ' H' h => h, ?_⟩⟩
    have hLz : L.length ≤ 1000 := Nat.le_trans hk.sub.length_le hpz
    refine ⟨_, rfl, lp, rfl, ⟨_, SqL.of hus⟩, fun D hD => ?_⟩
    refine lc_list (K := K) (a := lp) (xs := us.map V.ref) (fun i H2 => Same H' H2 ∧ ∃ acc : List Addr, H2 D = some (.lst (acc.map V.ref)) ∧ EachP (PrAt T.c_Profile ls) H' acc ((L.take i).filter fun p => isSupp ls p L))
      ⟨Same.upd hD, [], upd_same, EachP.nil⟩ (fun i H2 _ h => SqL.of (h.1 _ _ hus)) ?_ ?_
    · rintro i y H2 hi ⟨s3, acc, hacc, eacc⟩
      obtain ⟨u, p, rfl, hut, hp2, hu⟩ := e.at hi
      refine ⟨rfl, _, rfl, _, rfl, u, lp, ls, p, L, rfl, hu.same s3, hL.same (PrAt.stays _ _) s3, ?_⟩
      intro H3 s4
      refine ⟨_, rfl, ?_⟩
      have haz : acc.length ≤ 1000 := by
        rw [eacc.1]
        refine Nat.le_trans (List.length_filter_le _ _) ?_
        rw [List.length_take]; omega
      rw [take_more hp2, List.filter_append, hss]
      cases c : isSupp ls p L with
      | true =>
        refine if_true_of rfl ?_
        refine ⟨_, rfl, acc.map V.ref, s4 _ _ hacc, by rw [List.length_map]; exact small1000 haz, ?_, acc ++ [u], ?_, ?_⟩
        · exact fun b o q => by rw [upd_ne (ne_of_none q hD)]; exact s4 _ _ (s3 b o q)
        · rw [upd_same, List.map_append]; rfl
        · rw [List.filter_cons_of_pos (by exact c)]
          exact eacc.snoc hu
      | false =>
        refine if_false_of rfl ?_
        refine ⟨s3.trans s4, acc, s4 _ _ hacc, ?_⟩
        rw [List.filter_cons_of_neg (by rw [c]; decide)]
        simpa using eacc
    · rintro H2 ⟨s3, acc, hacc, eacc⟩
      rw [List.length_map, e.1, List.take_length] at eacc
      refine ⟨_, rfl, D, _, rfl, .inl (SqL.of hacc), _, rfl, lp, _, rfl, .inl (SqL.of (s3 _ _ hus)), rfl, _, rfl, ?_⟩
      rw [List.length_map, List.length_map, eacc.1, e.1]
      by_cases c : (L.filter fun p => isSupp ls p L).length = L.length
      · refine if_true_of (int_is c) ?_
        exact ⟨_, rfl, k H2 lp L (s2.trans s3) (hL.same (PrAt.stays _ _) s3) hk c⟩
      · refine if_false_of (int_not c) ?_
        refine ⟨_, rfl, (L.filter fun p => isSupp ls p L).length, ?_, D, _, _, _, rfl, s2.trans s3, ⟨acc, hacc, eacc.same (PrAt.stays _ _) s3⟩, hk.turn, rfl⟩
        have := List.length_filter_le (fun p => isSupp ls p L) L
        omega
theorem ok_keep_all (T : Txt K mg) : FnOk P w K mg base CX0 2 T.f_keep_all T.fd_keep_all ["profiles", "pair"] (sp_keep_all T.c_Profile) := by
  refine T.F_keep_all.ok sc_keep_all (fun vs H Q E h => ?_) (fun cdv A outer s H vs Q E hr h => ⟨_, (pss_one (ps_ret (pe_lc (own := [("profile", 2)]) (g := (gName 2)) rfl sc_keep_all.nd (pi_list (pv 0)) (blkOk_by (N := ["profiles", "pair", "profile"]) (sc := defScope s_keep_all) (by decide +kernel)) (fun _ _ _ _ _ => (pg_name (i := 2) sc_keep_all.nd rfl (Or.inl rfl))) (fun _ _ _ _ _ => (pts_one (pt_val (pe_meth (pv 2) T.cl_Profile T.m_Profile_keeps (ok_Profile_keeps T) (hr.mono (by decide)) T.b_Profile_keeps .nil pass0 (pa_cons (pv 1) pa_nil))))) (fun _ _ _ _ _ => (pv 2))))), ?_⟩)
  · obtain ⟨b, u, ls, ps, i, j, rfl, _⟩ := h; rfl
  · obtain ⟨b, u, ls, ps, i0, j0, rfl, ⟨us, hus, e⟩, hu, hpz, hin, k⟩ := h
    refine ⟨_, rfl, b, rfl, ⟨_, SqL.of hus⟩, fun D hD => ?_⟩
    refine lc_list (K := K) (a := b) (xs := us.map V.ref) (fun i H2 => Same H H2 ∧ ∃ acc : List Addr, H2 D = some (.lst (acc.map V.ref)) ∧ EachP (PrAt T.c_Profile ls) H acc ((ps.take i).filter (keepsB i0 j0)))
      ⟨Same.upd hD, [], upd_same, EachP.nil⟩ (fun i H2 _ h => SqL.of (h.1 _ _ hus)) ?_ ?_
    · rintro i y H2 hi ⟨s3, acc, hacc, eacc⟩
      obtain ⟨t, p, rfl, hut, hp2, ht⟩ := e.at hi
      obtain ⟨hi1, hj1⟩ := hin p (List.mem_of_getElem? hp2)
      have ht2 := ht.same s3
      obtain ⟨dx, lt, ln, lv, ht3, _⟩ := id ht2
      refine ⟨rfl, _, rfl, t, dx, _, rfl, ht3, prF_no lt ln lv (by decide +kernel) (by decide +kernel) (by decide +kernel), _, rfl, t, u, ls, p, i0, j0, rfl, ht2, s3 _ _ hu, hi1, hj1, ?_⟩
      refine ⟨_, rfl, ?_⟩
      have haz : acc.length ≤ 1000 := by
        rw [eacc.1]
        refine Nat.le_trans (List.length_filter_le _ _) ?_
        rw [List.length_take]; omega
      rw [take_more hp2, List.filter_append]
      cases c : keepsB i0 j0 p with
      | true =>
        refine if_true_of rfl ?_
        refine ⟨_, rfl, acc.map V.ref, hacc, by rw [List.length_map]; exact small1000 haz, ?_, acc ++ [t], ?_, ?_⟩
        · exact fun b o q => by rw [upd_ne (ne_of_none q hD)]; exact s3 b o q
        · rw [upd_same, List.map_append]; rfl
        · rw [List.filter_cons_of_pos (by exact c)]
          exact eacc.snoc ht
      | false =>
        refine if_false_of rfl ?_
        refine ⟨s3, acc, hacc, ?_⟩
        rw [List.filter_cons_of_neg (by rw [c]; decide)]
        simpa using eacc
    · rintro H2 ⟨s3, acc, hacc, eacc⟩
      rw [List.length_map, e.1, List.take_length] at eacc
      exact k H2 D s3 ⟨acc, hacc, eacc.same (PrAt.stays _ _) s3⟩
end
end AX
namespace AX
open PySem PySem.Spec PyProof.Rows L2
/-! ### follows, is_local, is_subsumed -/
theorem rg_two : ∀ k : Nat, k ≤ 9 → RgC 0 ((2 * k : Nat) : Int) 2 k
  | 0, _ => ⟨by decide, by decide, by decide, by decide⟩
  | 1, _ => ⟨by decide, by decide, by decide, by decide⟩
  | 2, _ => ⟨by decide, by decide, by decide, by decide⟩
  | 3, _ => ⟨by decide, by decide, by decide, by decide⟩
  | 4, _ => ⟨by decide, by decide, by decide, by decide⟩
  | 5, _ => ⟨by decide, by decide, by decide, by decide⟩
  | 6, _ => ⟨by decide, by decide, by decide, by decide⟩
  | 7, _ => ⟨by decide, by decide, by decide, by decide⟩
  | 8, _ => ⟨by decide, by decide, by decide, by decide⟩
  | 9, _ => ⟨by decide, by decide, by decide, by decide⟩
  | n + 10, h => by omega
theorem rowsOf_len (D : List Oc.C) : (rowsOf D).length = D.length := List.length_map _
def sp_follows (C : Addr) : Sp := fun vs H Q _ => ∃ (x ln : Addr) (D : List Oc.C) (axs : List Oc.Axiom) (c d : Oc.C) (n m : Nat), vs = [.ref x, natV n, natV m] ∧ CoAt C H x ln (rowsOf D) ((csOf axs ++ [c, d]).map (plc D)) ∧ Nice D ∧ (∀ x ∈ D, Fine x) ∧ (∀ a ∈ axs, a.1 ∈ D ∧ a.2 ∈ D) ∧ c ∈ D ∧ d ∈ D ∧
  D.length ≤ 1000 ∧ axs.length ≤ 9 ∧ atomsIn (rowsOf D) ≤ 9 ∧ n < 16 ∧ m < 16 ∧
  ∀ (H' : Hp) (b : Bool), Same H H' → (∃ L : List Bool → Prop, Last D ⟨n, m⟩ axs L ∧ (b = true ↔ ¬ ∃ p, L p ∧ at_ D p c = true ∧ at_ D p d = false)) → Q (.bl b) H'
def sp_is_local (C : Addr) : Sp := fun vs H Q _ => ∃ (x ln : Addr) (D : List Oc.C) (c d : Oc.C) (n m : Nat), vs = [.ref x, natV n, natV m] ∧ CoAt C H x ln (rowsOf D) ([c, d].map (plc D)) ∧ Nice D ∧ (∀ x ∈ D, Fine x) ∧ c ∈ D ∧ d ∈ D ∧ D.length ≤ 1000 ∧ atomsIn (rowsOf D) ≤ 9 ∧ n < 16 ∧ m < 16 ∧
  ∀ H' : Hp, Same H H' → Q (.bl (Oc06.quiet ⟨n, m⟩ (c, d))) H'
def sp_is_subsumed (C : Addr) : Sp := fun vs H Q _ => ∃ (x ln : Addr) (axs : List Oc.Axiom) (c d : Oc.C), vs = [.ref x] ∧ CoAt C H x ln (rowsOf (subsAll (csOf axs ++ [c, d]) [])) ((csOf axs ++ [c, d]).map (plc (subsAll (csOf axs ++ [c, d]) []))) ∧ (∀ e ∈ csOf axs ++ [c, d], Fine e) ∧
  (subsAll (csOf axs ++ [c, d]) []).length ≤ 1000 ∧ axs.length ≤ 9 ∧ atomsIn (rowsOf (subsAll (csOf axs ++ [c, d]) [])) ≤ 9 ∧
  ∀ H' : Hp, Same H H' → Q (.bl (Oc.under axs c d)) H'
section
variable {P : Program} {w : World} {K : PySem.W.Frag} {mg : Str → Option Value} {base : Heap}
theorem ok_follows (T : Txt K mg) : FnOk P w K mg base CX0 4 T.f_follows T.fd_follows ["concepts", "names", "roles"] (sp_follows T.c_Concepts) := by
  refine T.F_follows.ok sc_follows (fun vs H Q E h => ?_) (fun cdv A outer s H vs Q E hr h => ⟨_, (pss_cons (ps_set (i := 3) sc_follows.nd rfl (Or.inl rfl) (pe_fld (pv 0) rfl))
    (pss_cons (ps_set (i := 4) sc_follows.nd rfl (Or.inl rfl) (pe_call (ok_all_profiles T) (hr.mono (by decide)) rfl T.g_all_profiles T.F_all_profiles.kp T.b_all_profiles .nil pass0 (pa_cons (pe_fld (pv 0) rfl) (pa_cons (pv 1) (pa_cons (pv 2) pa_nil)))))
    (pss_cons (ps_set (i := 5) sc_follows.nd rfl (Or.inl rfl) (pe_op op_sub (pe_callB call_len_seq (by rfl) T.no_len PySem.boot_len (pa_cons (pv 3) pa_nil)) pe_int))
    (pss_cons (ps_for PassesOwn.never rfl (pi_range3 (by rfl) T.no_range (pa_cons pe_int (pa_cons (pv 5) (pa_cons pe_int pa_nil)))) (pg_name (i := 6) sc_follows.nd rfl (Or.inl rfl))
    (pss_one (ps_set (i := 4) sc_follows.nd rfl (Or.inl rfl) (pe_call (ok_keep_all T) (hr.mono (by decide)) rfl T.g_keep_all T.F_keep_all.kp T.b_keep_all .nil pass0 (pa_cons (pv 4) (pa_cons (pe_tup (pa_cons (pe_ix ix_list (pv 3) (pv 6) (fun _ _ => rfl)) (pa_cons (pe_ix ix_list (pv 3) (pe_op op_add (pv 6) pe_int) (fun _ _ => rfl)) pa_nil))) pa_nil))))))
    (pss_cons (ps_set (i := 7) sc_follows.nd rfl (Or.inl rfl) (pe_call (ok_lasting_profiles T) (hr.mono (by decide)) rfl T.g_lasting_profiles T.F_lasting_profiles.kp T.b_lasting_profiles .nil pass0 (pa_cons (pv 4) pa_nil)))
    (pss_one (ps_ret (pe_cmpR op_eq (pe_callB call_len_seq (by rfl) T.no_len PySem.boot_len (pa_cons (pe_call (ok_keep_all T) (hr.mono (by decide)) rfl T.g_keep_all T.F_keep_all.kp T.b_keep_all .nil pass0 (pa_cons (pv 7) (pa_cons (pe_tup (pa_cons (pe_ix ix_list (pv 3) (pv 5) (fun _ _ => rfl)) (pa_cons (pe_ix ix_list (pv 3) (pe_op op_add (pv 5) pe_int) (fun _ _ => rfl)) pa_nil))) pa_nil))) pa_nil)) (pe_callB call_len_seq (by rfl) T.no_len PySem.boot_len (pa_cons (pv 7) pa_nil)) (nomark _))))))))), ?_⟩)
  · obtain ⟨x, ln, D, axs, c, d, n, m, rfl, _⟩ := h; rfl
  · obtain ⟨x, ln, D, axs, c, d, n, m, rfl, ⟨dx, lr, lt, hx, hR, hT⟩, hD, hF, hA, hc, hd, hz, hk9, h9, hn, hm, k⟩ := h
    refine ⟨_, rfl, x, T.c_Concepts, dx, _, _, rfl, hx, T.cl_Concepts, T.n_Concepts_tops, coF_tops ln lr lt, ?_⟩
    refine ⟨_, rfl, x, T.c_Concepts, dx, _, _, rfl, hx, T.cl_Concepts, T.n_Concepts_rows, coF_rows ln lr lt, _, rfl, _, rfl,
      lr, rowsOf D, n, m, rfl, hR, rowsOk hD hF, by rw [rowsOf_len]; exact hz, h9, hn, hm, limits_roles hD.nodup hF, ?_⟩
    intro H1 q1 s1 hq1
    have hplen : ∀ p ∈ allP (rowsOf D) n m, p.length = D.length := by
      intro p hp
      have := allP_at_len (rows := rowsOf D) (n := n) (m := m) (i := (rowsOf D).length) (Nat.le_refl _) p (by rw [List.take_length]; exact hp)
      rw [this, rowsOf_len]
    have hpz : (allP (rowsOf D) n m).length ≤ 1000 := Nat.le_trans (allP_length _ _ _) (pow_9 h9)
    have tl : (((csOf axs ++ [c, d]).map (plc D)).map natV).length = 2 * axs.length + 2 := by
      rw [List.length_map, List.length_map, List.length_append, csOf_length]; rfl
    have top : ∀ (i : Nat) (e : Oc.C), (csOf axs ++ [c, d])[i]? = some e → (((csOf axs ++ [c, d]).map (plc D)).map natV)[i]? = some (natV (plc D e)) := by
      intro i e h
      rw [List.getElem?_map, List.getElem?_map, h]; rfl
    have topc := top (2 * axs.length) c (by rw [List.getElem?_append_right (by rw [csOf_length]; exact Nat.le_refl _), csOf_length, Nat.sub_self]; rfl)
    have topd := top (2 * axs.length + 1) d (by rw [List.getElem?_append_right (by rw [csOf_length]; omega), csOf_length, show 2 * axs.length + 1 - 2 * axs.length = 1 by omega]; rfl)
    have topa : ∀ (i : Nat) (a : Oc.Axiom), axs[i]? = some a → _ ∧ _ := fun i a h => ⟨top _ _ (csOf_at (cs := [c, d]) h).1, top _ _ (csOf_at (cs := [c, d]) h).2⟩
    generalize ((csOf axs ++ [c, d]).map (plc D)).map natV = tops at hT tl topc topd topa
    have hT1 := s1 _ _ hT
    have el : ((tops.length : Nat) : Int) - 2 = ((2 * axs.length : Nat) : Int) := by rw [tl]; omega
    refine ⟨_, rfl, lt, _, rfl, .inl (SqL.of hT1), _, _, rfl, rfl, ?_⟩
    have rg : RgC 0 (((tops.length : Nat) : Int) - 2) 2 axs.length := by rw [el]; exact rg_two _ hk9
    refine ⟨_, rfl, _, _, _, axs.length, rfl, rg, for_rangeC (lo := 0) (c := 2) (n := axs.length)
      (fun i σ H' => ∃ (q : Addr) (v6 : Option V), σ = [some (.ref x), some (natV n), some (natV m), some (.ref lt), some (.ref q), some (.int (((tops.length : Nat) : Int) - 2)), v6, none] ∧ Same H1 H' ∧ RefsP (PrAt T.c_Profile (limits 0 (rowsOf D))) H' q (heldP D (axs.take i) (allP (rowsOf D) n m)))
      ⟨q1, none, rfl, fun _ _ h => h, hq1⟩ ?_ ?_⟩
    · rintro i σ H' hi ⟨q, v6, rfl, s2, hq⟩
      have ha : axs[i]? = some axs[i] := List.getElem?_eq_getElem hi
      generalize axs[i] = a at ha
      obtain ⟨t1, t2⟩ := topa i a ha
      obtain ⟨a1, a2⟩ := hA a (List.mem_of_getElem? ha)
      have hT2 := s2 _ _ hT1
      have e1 : (0 : Int) + (i : Nat) * 2 = ((2 * i : Nat) : Int) := by omega
      have e2 : ((2 * i : Nat) : Int) + 1 = ((2 * i + 1 : Nat) : Int) := by omega
      rw [e1]
      refine ⟨_, rfl, _, rfl, _, rfl, lt, _, _, _, rfl, rfl, SqL.of hT2, atI_nat t1, _, rfl, _, rfl, _, _, rfl, rfl, lt, _, _, _, rfl, rfl, SqL.of hT2, (by rw [e2]; exact atI_nat t2), (by show 2 ≤ sizeLine; decide), fun u hu => ?_⟩
      have sub := heldP_sub D (axs.take i) (allP (rowsOf D) n m)
      refine ⟨q, u, limits 0 (rowsOf D), heldP D (axs.take i) (allP (rowsOf D) n m), plc D a.1, plc D a.2, rfl, hq.same (PrAt.stays _ _) (Same.upd hu), upd_same, Nat.le_trans sub.length_le hpz, fun p hp => ?_, ?_⟩
      · rw [hplen p (sub.subset hp)]
        exact ⟨plc_lt a1, plc_lt a2⟩
      intro H2 q2 s3 hq2
      refine ⟨q2, _, rfl, s2.trans ((Same.upd hu).trans s3), ?_⟩
      rw [heldP_more _ ha]
      exact hq2
    · rintro σ H' ⟨q, v6, rfl, s2, hq⟩
      rw [List.take_length] at hq
      have sub := heldP_sub D axs (allP (rowsOf D) n m)
      refine ⟨_, rfl, q, limits 0 (rowsOf D), heldP D axs (allP (rowsOf D) n m), rfl, hq, Nat.le_trans sub.length_le hpz, limits_apart _, limits_roles hD.nodup hF, ?_⟩
      intro H2 q2 L s3 hq2 hk he
      have last := hk.lastA hD he
      have hT2 := s3 _ _ (s2 _ _ hT1)
      have tc : atI tops (((tops.length : Nat) : Int) - 2) = some (natV (plc D c)) := by rw [el]; exact atI_nat topc
      have td : atI tops ((((tops.length : Nat) : Int) - 2) + 1) = some (natV (plc D d)) := by
        rw [el, show ((2 * axs.length : Nat) : Int) + 1 = ((2 * axs.length + 1 : Nat) : Int) by omega]; exact atI_nat topd
      refine ⟨_, rfl, _, rfl, _, rfl, lt, _, _, _, rfl, rfl, SqL.of hT2, tc, _, rfl, _, rfl, _, _, rfl, rfl, lt, _, _, _, rfl, rfl, SqL.of hT2, td, (by show 2 ≤ sizeLine; decide), fun u hu => ?_⟩
      have hq3 := hq2.same (PrAt.stays _ _) (Same.upd (o := .tup [natV (plc D c), natV (plc D d)]) hu)
      refine ⟨q2, u, limits 0 (rowsOf D), L, plc D c, plc D d, rfl, hq3, upd_same, Nat.le_trans (hk.sub.trans sub).length_le hpz, fun p hp => ?_, ?_⟩
      · rw [hplen p ((hk.sub.trans sub).subset hp)]
        exact ⟨plc_lt hc, plc_lt hd⟩
      intro H3 q3 s4 hq3b
      obtain ⟨us, hus, eu⟩ := hq3b
      obtain ⟨ws, hws, ew⟩ := hq3.same (PrAt.stays _ _) s4
      refine ⟨q3, _, rfl, .inl (SqL.of hus), _, rfl, q2, _, rfl, .inl (SqL.of hws), rfl, ?_⟩
      refine k H3 _ (s1.trans (s2.trans (s3.trans ((Same.upd hu).trans s4)))) ⟨_, last, ?_⟩
      rw [← all_keep (D := D) (L := L) (c := c) (d := d), List.length_map, List.length_map, eu.1, ew.1]
      constructor
      · intro h
        have h := of_decide_eq_true h
        injection h with h
        omega
      · intro h
        exact int_is h
theorem ok_is_local (T : Txt K mg) : FnOk P w K mg base CX0 5 T.f_is_local T.fd_is_local ["axiom", "names", "roles"] (sp_is_local T.c_Concepts) := by
  refine T.F_is_local.ok sc_is_local (fun vs H Q E h => ?_) (fun cdv A outer s H vs Q E hr h => ⟨_, (pss_one (ps_ret (pe_call (ok_follows T) (hr.mono (by decide)) rfl T.g_follows T.F_follows.kp T.b_follows .nil pass0 (pa_cons (pv 0) (pa_cons (pv 1) (pa_cons (pv 2) pa_nil)))))), ?_⟩)
  · obtain ⟨x, ln, D, c, d, n, m, rfl, _⟩ := h; rfl
  · obtain ⟨x, ln, D, c, d, n, m, rfl, hC, hD, hF, hc, hd, hz, h9, hn, hm, k⟩ := h
    refine ⟨_, rfl, _, rfl, _, rfl, x, ln, D, [], c, d, n, m, rfl, hC, hD, hF, by simp, hc, hd, hz, by decide, h9, hn, hm, ?_⟩
    rintro H' b s ⟨L, last, hb⟩
    have : b = Oc06.quiet ⟨n, m⟩ (c, d) := by rw [Bool.eq_iff_iff, hb, quiet_last last hD.kids hc hd]
    rw [this]
    exact k H' s
theorem ok_is_subsumed (T : Txt K mg) : FnOk P w K mg base CX0 5 T.f_is_subsumed T.fd_is_subsumed ["concepts"] (sp_is_subsumed T.c_Concepts) := by
  refine T.F_is_subsumed.ok sc_is_subsumed (fun vs H Q E h => ?_) (fun cdv A outer s H vs Q E hr h => ⟨_, (pss_one (ps_ret (pe_call (ok_follows T) (hr.mono (by decide)) rfl T.g_follows T.F_follows.kp T.b_follows .nil pass0 (pa_cons (pv 0) (pa_cons (pe_meth0 (pv 0) T.cl_Concepts T.m_Concepts_used_names (ok_Concepts_used_names T) (hr.mono (by decide)) T.b_Concepts_used_names .nil pass0) (pa_cons (pe_meth0 (pv 0) T.cl_Concepts T.m_Concepts_used_roles (ok_Concepts_used_roles T) (hr.mono (by decide)) T.b_Concepts_used_roles .nil pass0) pa_nil)))))), ?_⟩)
  · obtain ⟨x, ln, axs, c, d, rfl, _⟩ := h; rfl
  · obtain ⟨x, ln, axs, c, d, rfl, hC, hF, hz, hk9, h9, k⟩ := h
    have hD : Nice (subsAll (csOf axs ++ [c, d]) []) := subsAll_nice _ _ .nil
    have hFD := subsAll_fine (csOf axs ++ [c, d]) [] hF (by simp)
    have hmem : ∀ e ∈ csOf axs ++ [c, d], e ∈ subsAll (csOf axs ++ [c, d]) [] := fun e he => subsAll_mem _ _ he
    have hW := within_all (csOf axs ++ [c, d])
    have hmk := rows_mark hFD
    have hmk64 : ∀ r ∈ rowsOf (subsAll (csOf axs ++ [c, d]) []), r.2.1 ≤ 64 := fun r hr => by have := hmk r hr; omega
    have e1 : marksOf (rowsOf (subsAll (csOf axs ++ [c, d]) [])) [2] = (wordsAll (csOf axs ++ [c, d]) ⟨0, 0⟩).names := rows_names _
    have e2 : marksOf (rowsOf (subsAll (csOf axs ++ [c, d]) [])) [6, 7] = (wordsAll (csOf axs ++ [c, d]) ⟨0, 0⟩).roles := rows_roles _
    have l1 : marksOf (rowsOf (subsAll (csOf axs ++ [c, d]) [])) [2] < 16 := marks_lt _ hmk
    have l2 : marksOf (rowsOf (subsAll (csOf axs ++ [c, d]) [])) [6, 7] < 16 := marks_lt _ hmk
    have hA : ∀ a ∈ axs, a.1 ∈ subsAll (csOf axs ++ [c, d]) [] ∧ a.2 ∈ subsAll (csOf axs ++ [c, d]) [] := fun a ha =>
      ⟨hmem _ (List.mem_append.mpr (.inl (List.mem_flatMap.mpr ⟨a, ha, by simp⟩))), hmem _ (List.mem_append.mpr (.inl (List.mem_flatMap.mpr ⟨a, ha, by simp⟩)))⟩
    have hc := hmem c (by simp)
    have hd := hmem d (by simp)
    have hWe : wordsAll (csOf axs ++ [c, d]) ⟨0, 0⟩ = ⟨marksOf (rowsOf (subsAll (csOf axs ++ [c, d]) [])) [2], marksOf (rowsOf (subsAll (csOf axs ++ [c, d]) [])) [6, 7]⟩ := by rw [e1, e2]
    rw [hWe] at hW
    obtain ⟨dx, lr, lt, hx, _, _⟩ := id hC
    refine ⟨_, rfl, _, rfl, x, dx, _, rfl, hx, coF_no _ _ _ (by decide +kernel) (by decide +kernel) (by decide +kernel), x, ln, _, _, rfl, hC, hmk64, ?_⟩
    intro H1 s1
    refine ⟨_, rfl, x, dx, _, rfl, s1 _ _ hx, coF_no _ _ _ (by decide +kernel) (by decide +kernel) (by decide +kernel), x, ln, _, _, rfl, hC.same s1, hmk64, ?_⟩
    intro H2 s2
    refine ⟨x, ln, _, axs, c, d, _, _, rfl, (hC.same s1).same s2, hD, hFD, hA, hc, hd, hz, hk9, h9, l1, l2, ?_⟩
    rintro H' b s ⟨L, last, hb⟩
    have : b = Oc.under axs c d := by rw [Bool.eq_iff_iff, hb, under_last last hD.kids hA hW hc hd]
    rw [this]
    exact k H' (s1.trans (s2.trans s))
end
end AX
namespace AX
open PySem PySem.Spec PyProof.Rows L2
/-! ### Module, module_for -/
structure AxOk (ax : Oc.Axiom) : Prop where
  f1 : Fine ax.1
  f2 : Fine ax.2
  len : (axD ax).length ≤ 30
  few : (Oc.atomsOf [ax.1, ax.2]).length ≤ 4
theorem axD_nice (ax : Oc.Axiom) : Nice (axD ax) := subsAll_nice _ _ .nil
theorem axD_fine {ax : Oc.Axiom} (h : AxOk ax) : ∀ x ∈ axD ax, Fine x := subsAll_fine [ax.1, ax.2] [] (by
  intro c hc
  simp only [List.mem_cons, List.not_mem_nil, or_false] at hc
  rcases hc with rfl | rfl
  · exact h.f1
  · exact h.f2) (by simp)
theorem axD_few {ax : Oc.Axiom} (h : AxOk ax) : atomsIn (rowsOf (axD ax)) ≤ 9 := by
  have : atomsIn (rowsOf (axD ax)) = (Oc.atomsOf [ax.1, ax.2]).length := atoms_count [ax.1, ax.2]
  rw [this]; exact Nat.le_trans h.few (by decide)
theorem axD_mark {ax : Oc.Axiom} (h : AxOk ax) : ∀ r ∈ rowsOf (axD ax), r.2.1 ≤ 64 := fun r hr => by
  have := rows_mark (axD_fine h) r hr; omega
def moF (li : Addr) (n m : Nat) : List (Str × V) := [("indexes", .ref li), ("names", natV n), ("roles", natV m)]
theorem moF_indexes (li : Addr) (n m : Nat) : (moF li n m).lookup ("indexes" : Str) = some (.ref li) := lk_here
theorem moF_names (li : Addr) (n m : Nat) : (moF li n m).lookup ("names" : Str) = some (natV n) := lk_2 (by decide +kernel)
theorem moF_roles (li : Addr) (n m : Nat) : (moF li n m).lookup ("roles" : Str) = some (natV m) := lk_3 (by decide +kernel) (by decide +kernel)
theorem moF_no {k : Str} (li : Addr) (n m : Nat) (h0 : (k == ("indexes" : Str)) = false) (h1 : (k == ("names" : Str)) = false) (h2 : (k == ("roles" : Str)) = false) : (moF li n m).lookup k = none := no_3 h0 h1 h2
theorem moF_made (li : Addr) (n m : Nat) : putF "roles" (natV m) (putF "names" (natV n) (putF "indexes" (.ref li) [])) = moF li n m := put_3 (by decide +kernel) (by decide +kernel) (by decide +kernel)
/-- a module of the program -/
def ModAt (C : Addr) (H : Hp) (a : Addr) (x : List Nat × Oc06.Words) : Prop := ∃ dx li, H a = some (.ins C dx (moF li x.2.names x.2.roles)) ∧ H li = some (.lst (x.1.map natV))
theorem ModAt.same {C : Addr} {H H' : Hp} {a : Addr} {x : List Nat × Oc06.Words} (h : ModAt C H a x) (s : Same H H') : ModAt C H' a x := by
  obtain ⟨dx, li, h1, h2⟩ := h
  exact ⟨dx, li, s _ _ h1, s _ _ h2⟩
def sp_Module_init (C : Addr) : Sp := fun vs H Q _ => ∃ (p dx li : Addr) (n m : Nat), vs = [.ref p, .ref li, natV n, natV m] ∧ H p = some (.ins C dx []) ∧
  ∀ H' : Hp, (∃ dx, H' p = some (.ins C dx (moF li n m))) → But [p] H H' → Q .non H'
def sp_Module_listed (C : Addr) : Sp := fun vs H Q _ => ∃ (p : Addr) (x : List Nat × Oc06.Words), vs = [.ref p] ∧ ModAt C H p x ∧ x.1.length ≤ 900 ∧
  ∀ (H' : Hp) (q : Addr), Same H H' → H q = none → H' q = some (.lst (natV x.1.length :: x.1.map natV)) → Q (.ref q) H'
def sp_module_for (CC CM : Addr) : Sp := fun vs H Q _ => ∃ (la : Addr) (axs : List Oc.Axiom) (n m : Nat), vs = [.ref la, natV n, natV m] ∧ RefsP (AxAt CC) H la axs ∧ (∀ a ∈ axs, AxOk a) ∧ axs.length ≤ 8 ∧ n < 16 ∧ m < 16 ∧
  ∀ (H' : Hp) (q : Addr), Same H H' → H q = none → ModAt CM H' q (Oc06.part axs ⟨n, m⟩) → Q (.ref q) H'
theorem addW_more {ax : List Oc.Axiom} {new : List Nat} {w : Oc06.Words} {j i : Nat} {a : Oc.Axiom} (h : new[j]? = some i) (ha : ax[i]? = some a) : addW ax (new.take (j + 1)) w = Oc06.ofAxiom a (addW ax (new.take j) w) := by
  unfold addW; rw [foldl_more h, ha]
theorem range_more (f : Nat → Bool) (i : Nat) : (List.range (i + 1)).filter f = (List.range i).filter f ++ (if f i = true then [i] else []) := by
  rw [List.range_succ, List.filter_append]
  congr 1
  cases h : f i <;> simp [List.filter, h]
section
variable {P : Program} {w : World} {K : PySem.W.Frag} {mg : Str → Option Value} {base : Heap}
theorem ok_Module_init (T : Txt K mg) : FnOk P w K mg base CX0 1 T.f_Module_init T.fd_Module_init ["self", "indexes", "names", "roles"] (sp_Module_init T.c_Module) := by
  refine T.F_Module_init.ok sc_Module_init (fun vs H Q E h => ?_) (fun cdv A outer s H vs Q E hr h => ⟨_, (pss_cons (ps_fld (pv 0) (pv 1) rfl)
    (pss_cons (ps_fld (pv 0) (pv 2) rfl)
    (pss_one (ps_fld (pv 0) (pv 3) rfl)))), ?_⟩)
  · obtain ⟨p, dx, li, n, m, rfl, _⟩ := h; rfl
  · obtain ⟨p, dx, li, n, m, rfl, hp, k⟩ := h
    refine ⟨_, rfl, _, rfl, p, T.c_Module, dx, [], rfl, hp, T.cl_Module, T.n_Module_indexes, (by show 0 < 1000; decide), ?_⟩
    refine ⟨_, rfl, _, rfl, p, T.c_Module, dx, _, rfl, upd_same, T.cl_Module, T.n_Module_names, (by show 1 < 1000; decide), ?_⟩
    refine ⟨_, rfl, _, rfl, p, T.c_Module, dx, _, rfl, upd_same, T.cl_Module, T.n_Module_roles, (by show 2 < 1000; decide), ?_⟩
    refine k _ ⟨dx, Eq.trans upd_same (congrArg (fun q => some (HO.ins T.c_Module dx q)) (moF_made li n m))⟩ ?_
    exact ((But.upd (by simp)).trans (But.upd (by simp))).trans (But.upd (by simp))
theorem ok_Module_listed (T : Txt K mg) : FnOk P w K mg base CX0 1 T.f_Module_listed T.fd_Module_listed ["self"] (sp_Module_listed T.c_Module) := by
  refine T.F_Module_listed.ok sc_Module_listed (fun vs H Q E h => ?_) (fun cdv A outer s H vs Q E hr h => ⟨_, (pss_one (ps_ret (pe_op op_cat (pe_lst (pa_cons (pe_callB call_len_seq (by rfl) T.no_len PySem.boot_len (pa_cons (pe_fld (pv 0) rfl) pa_nil)) pa_nil)) (pe_fld (pv 0) rfl)))), ?_⟩)
  · obtain ⟨p, x, rfl, _⟩ := h; rfl
  · obtain ⟨p, x, rfl, ⟨dx, li, hp, hli⟩, hz, k⟩ := h
    refine ⟨_, rfl, p, T.c_Module, dx, _, _, rfl, hp, T.cl_Module, T.n_Module_indexes, moF_indexes li _ _, li, _, rfl, .inl (SqL.of hli), (by show 1 ≤ sizeLine; decide), fun z hz0 => ?_⟩
    have sz := Same.upd (o := .lst [V.int ((x.1.map natV).length : Nat)]) hz0
    refine ⟨_, rfl, p, T.c_Module, dx, _, _, rfl, sz _ _ hp, T.cl_Module, T.n_Module_indexes, moF_indexes li _ _, z, li, _, _, rfl, rfl, upd_same, sz _ _ hli, ?_, fun y hy => ?_⟩
    · rw [List.length_map]
      exact Nat.le_of_lt (small1000 (show 1 + x.1.length ≤ 1000 by omega))
    · refine k _ y (sz.trans (Same.upd hy)) (sz.free hy) ?_
      rw [upd_same, List.length_map]; rfl
theorem ok_module_for (T : Txt K mg) : FnOk P w K mg base CX0 6 T.f_module_for T.fd_module_for ["axioms", "names", "roles"] (sp_module_for T.c_Concepts T.c_Module) := by
  refine T.F_module_for.ok sc_module_for (fun vs H Q E h => ?_) (fun cdv A outer s H vs Q E hr h => ⟨_, (pss_cons (ps_set (i := 3) sc_module_for.nd rfl (Or.inr rfl) (pe_lst pa_nil))
    (pss_one (ps_while PassesOwn.never (pt_val pe_bl)
    (pss_cons (ps_setLc (i := 4) (own := [("index", 5), ("axiom", 6)]) (g := (gTup K 2 (gCons (gName 5) (gCons (gName 6) gNil)))) rfl sc_module_for.nd rfl rfl (sw_true rfl rfl rfl (by decide +kernel)) (pi_enum (by rfl) T.no_enumerate (pa_cons (pv 0) pa_nil)) (blkOk_by (N := ["axioms", "names", "roles", "inside", "added", "index", "axiom"]) (sc := defScope s_module_for) (by decide +kernel)) (fun _ _ _ _ _ => (pg_tup rfl (pgs_cons (pg_name (i := 5) sc_module_for.nd rfl (Or.inl rfl)) (pgs_cons (pg_name (i := 6) sc_module_for.nd rfl (Or.inl rfl)) pgs_nil)))) (fun _ _ _ _ _ => (pts_one (PW.pt (pw_and (pt_cmpR (r := rIn K true) op_notIn_seq (pv 5) (pv 3) (by rfl)) (pw_and1 (pt_not (pt_val (pe_call (ok_is_local T) (hr.mono (by decide)) rfl T.g_is_local T.F_is_local.kp T.b_is_local .nil pass0 (pa_cons (pv 6) (pa_cons (pv 1) (pa_cons (pv 2) pa_nil))))))))))) (fun _ _ _ _ _ => (pv 5)))
    (pss_cons (ps_if (pt_cmpR op_eq (pe_callB call_len_seq (by rfl) T.no_len PySem.boot_len (pa_cons (pv 4) pa_nil)) pe_int (nomark _))
    (pss_one (ps_ret (pe_make T.mk_Module (ok_Module_init T) (hr.mono (by decide)) rfl T.g_Module T.b_Module_init .nil pass0 (pa_cons (pe_callB cr_sorted (by rfl) T.no_sorted (by decide +kernel) (pa_cons (pv 3) pa_nil)) (pa_cons (pv 1) (pa_cons (pv 2) pa_nil))))))
    pss_nil)
    (pss_one (ps_for PassesOwn.never rfl (pi_list (pv 4)) (pg_name (i := 5) sc_module_for.nd rfl (Or.inl rfl))
    (pss_cons (ps_expr (pe_bm PySem.F.plainAttrs_list PySem.F.slot_list_append PySem.F.type_list_append mt_append (pv 3) (pa_cons (pv 5) pa_nil)))
    (pss_cons (ps_set (i := 1) sc_module_for.nd rfl (Or.inr rfl) (pe_op op_or (pv 1) (pe_meth0 (pe_ix ix_list (pv 0) (pv 5) (fun _ _ => rfl)) T.cl_Concepts T.m_Concepts_used_names (ok_Concepts_used_names T) (hr.mono (by decide)) T.b_Concepts_used_names .nil pass0)))
    (pss_one (ps_set (i := 2) sc_module_for.nd rfl (Or.inr rfl) (pe_op op_or (pv 2) (pe_meth0 (pe_ix ix_list (pv 0) (pv 5) (fun _ _ => rfl)) T.cl_Concepts T.m_Concepts_used_roles (ok_Concepts_used_roles T) (hr.mono (by decide)) T.b_Concepts_used_roles .nil pass0))))))))))))), ?_⟩)
  · obtain ⟨la, axs, n, m, rfl, _⟩ := h; rfl
  · obtain ⟨la, axs, n, m, rfl, hA, hok, h8, hn, hm, k⟩ := h
    obtain ⟨as, hla, eA⟩ := id hA
    refine ⟨Nat.zero_le _, fun li hli => ?_⟩
    have nli : ∀ b o, H b = some o → b ≠ li := fun b o q => ne_of_none q hli
    refine ⟨fun k σ H' => ∃ (l : List Nat) (w : Oc06.Words) (v4 v5 : Option V), σ = [some (.ref la), some (natV w.names), some (natV w.roles), some (.ref li), v4, v5, none] ∧ Same H H' ∧ H' li = some (.lst (l.map natV)) ∧ GrowAt axs ⟨n, m⟩ l w k ∧ w.names < 16 ∧ w.roles < 16,
      ⟨_, [], ⟨n, m⟩, none, none, rfl, Same.upd hli, upd_same, GrowAt.start axs ⟨n, m⟩, hn, hm⟩, ?_⟩
    rintro fuel σ H' ⟨l, w, v4, v5, rfl, s1, hl1, hg, hwn, hwr⟩
    refine ⟨_, rfl, if_true_of rfl ⟨_, fun σ' H' h => h, ?_⟩⟩
    have hlz := hg.len
    refine ⟨_, rfl, la, _, rfl, SqL.of (s1 _ _ hla), fun D hD => ?_⟩
    have nDl : li ≠ D := ne_of_none hl1 hD
    refine lc_it (walk_enum (K := K) (a := la) (xs := as.map V.ref)) (fun i H2 => Same H' H2 ∧ H2 D = some (.lst (((List.range i).filter (isNew axs l w)).map natV)))
      ⟨Same.upd hD, upd_same⟩ (fun i H2 _ h => SqL.of (h.1 _ _ (s1 _ _ hla))) ?_ ?_
    · rintro i y H2 H3 hi ⟨s2, hD2⟩ ⟨T1, x1, x2, rfl, hT, rfl, hx1, hx2⟩
      have hx1 : V.int (i : Int) = x1 := Option.some.inj hx1
      subst hx1
      obtain ⟨t, a, rfl, hat, ha2, hAt⟩ := eA.at hx2
      have hoka := hok a (List.mem_of_getElem? ha2)
      have s3 : Same H' (upd H2 T1 (.tup [V.int (i : Int), V.ref t])) := s2.trans (Same.upd hT)
      have hD3 := (Same.upd (o := .tup [V.int (i : Int), V.ref t]) hT) _ _ hD2
      have hT3 : upd H2 T1 (.tup [V.int (i : Int), V.ref t]) T1 = some (.tup [V.int (i : Int), V.ref t]) := upd_same
      generalize upd H2 T1 (.tup [V.int (i : Int), V.ref t]) = H3 at s3 hD3 hT3
      have hnew : isNew axs l w i = (!decide (i ∈ l) && !Oc06.quiet w a) := by
        unfold isNew; rw [ha2, List.contains_eq_mem]
      have hiz : i < axs.length := (List.getElem?_eq_some_iff.mp ha2).1
      have hfz : ((List.range i).filter (isNew axs l w)).length ≤ 1000 := Nat.le_trans (List.length_filter_le _ _) (by rw [List.length_range]; omega)
      refine ⟨T1, _, rfl, SqT.of hT3, rfl, _, _, rfl, _, _, rfl, rfl, rfl, ?_⟩
      refine ⟨_, rfl, _, rfl, li, _, rfl, .inl (SqL.of (s3 _ _ hl1)), rfl, flat_ints l, _, rfl, ?_⟩
      rw [if_pos rfl, show inV (V.int (i : Int)) (l.map natV) = decide (i ∈ l) from inV_ints l, range_more]
      by_cases c : i ∈ l
      · refine if_false_of (by rw [decide_eq_true c]; rfl) (if_false_of rfl ?_)
        rw [if_neg (by rw [hnew, decide_eq_true c, Bool.not_true, Bool.false_and]; decide), List.append_nil]
        exact ⟨s3, hD3⟩
      · refine if_true_of (by rw [decide_eq_false c]; rfl) ?_
        obtain ⟨ln, ns, hC, _⟩ := (hAt.same s1).same s3
        refine ⟨_, rfl, _, rfl, _, rfl, t, ln, axD a, a.1, a.2, w.names, w.roles, rfl, hC, axD_nice a, axD_fine hoka, subsAll_mem _ _ (by simp), subsAll_mem _ _ (by simp), Nat.le_trans hoka.len (by decide), axD_few hoka, hwn, hwr, ?_⟩
        intro H4 s4
        refine ⟨_, rfl, ?_⟩
        have hnew : isNew axs l w i = !Oc06.quiet w a := by rw [hnew, decide_eq_false c]; rfl
        show if (!Oc06.quiet w a) = true then _ else _
        cases b : Oc06.quiet w a with
        | true =>
          refine if_false_of rfl ?_
          rw [if_neg (by rw [hnew, b]; decide), List.append_nil]
          exact ⟨s3.trans s4, s4 _ _ hD3⟩
        | false =>
          refine if_true_of rfl ?_
          rw [if_pos (by rw [hnew, b]; rfl)]
          refine ⟨_, rfl, _, s4 _ _ hD3, by rw [List.length_map]; exact small1000 hfz, ?_, ?_⟩
          · exact fun b o q => by rw [upd_ne (ne_of_none q hD)]; exact s4 _ _ (s3 b o q)
          · rw [upd_same, List.map_append]; rfl
    · rintro H2 ⟨s2, hD2⟩
      rw [List.length_map, eA.1, show (List.range axs.length).filter (isNew axs l w) = newIn axs l w from rfl] at hD2
      have s12 := s1.trans s2
      have hl2 := s2 _ _ hl1
      refine ⟨_, rfl, D, _, rfl, .inl (SqL.of hD2), rfl, _, rfl, ?_⟩
      rw [List.length_map]
      by_cases c : newIn axs l w = []
      · refine if_true_of (by rw [c]; rfl) ?_
        have ep := hg.stop c
        refine ⟨_, rfl, li, l.map (fun i : Nat => (i : Int)), rfl, SqL.of (by rw [hl2, List.map_map]; rfl), by rw [List.length_map]; omega, fun ns' p hperm hsort hp => ?_⟩
        have es := sorted_part hg.nd hg.lt hperm hsort
        refine ⟨_, rfl, _, rfl, ?_⟩
        have sp : Same H2 (upd H2 p (.lst (ns'.map V.int))) := Same.upd hp
        have hp1 : upd H2 p (.lst (ns'.map V.int)) p = some (.lst (ns'.map V.int)) := upd_same
        generalize upd H2 p (.lst (ns'.map V.int)) = H3 at sp hp1
        intro x dx nx nd ne
        refine ⟨x, dx, p, w.names, w.roles, rfl, upd_same, fun H4 hx4 b4 => ⟨rfl, ?_⟩⟩
        have s4 : Same H3 H4 := Same.made nx nd fun b o e hb => b4 b o e (by simpa using hb)
        obtain ⟨dx4, hx4⟩ := hx4
        refine k H4 x (s12.trans (sp.trans s4)) ((s12.trans sp).free nx) ?_
        rw [ep]
        refine ⟨dx4, p, hx4, ?_⟩
        rw [s4 _ _ hp1, es, List.map_map]; rfl
      · refine if_false_of (decide_eq_false fun z => c ?_) ?_
        · injection z with z
          exact List.length_eq_zero_iff.mp (by omega)
        obtain ⟨j', hj', hg'⟩ := hg.turn c
        have hmem : ∀ i ∈ newIn axs l w, i < axs.length := fun i hi => (mem_newIn hi).1
        have hnz : (newIn axs l w).length ≤ 8 := by
          have := List.length_filter_le (isNew axs l w) (List.range axs.length)
          rw [List.length_range] at this
          exact Nat.le_trans this h8
        generalize newIn axs l w = new at hD2 hg' hmem hnz
        refine ⟨_, rfl, D, rfl, ⟨_, SqL.of hD2⟩, for_list (K := K) (a := D) (xs := new.map natV)
          (fun j σ H3 => ∃ v5 : Option V, σ = [some (.ref la), some (natV (addW axs (new.take j) w).names), some (natV (addW axs (new.take j) w).roles), some (.ref li), some (.ref D), v5, none] ∧ Same H H3 ∧ H3 D = some (.lst (new.map natV)) ∧ H3 li = some (.lst ((l ++ new.take j).map natV)) ∧ (addW axs (new.take j) w).names < 16 ∧ (addW axs (new.take j) w).roles < 16)
          ⟨_, rfl, s12, hD2, by rw [List.take_zero, List.append_nil]; exact hl2, hwn, hwr⟩ (fun j σ H3 _ ⟨_, _, _, h, _⟩ => SqL.of h) ?_ ?_⟩
        · rintro j y σ H3 hj ⟨v5, rfl, s3, hD3, hl3, hn3, hr3⟩
          rw [List.getElem?_map] at hj
          obtain ⟨i, hji, rfl⟩ : ∃ i, new[j]? = some i ∧ y = natV i := by
            cases z : new[j]? with
            | none => rw [z] at hj; cases hj
            | some i => rw [z] at hj; exact ⟨i, rfl, (Option.some.inj hj).symm⟩
          have hil := hmem i (List.mem_of_getElem? hji)
          have hjl : j < new.length := (List.getElem?_eq_some_iff.mp hji).1
          have ha2 : axs[i]? = some axs[i] := List.getElem?_eq_getElem hil
          generalize axs[i] = a at ha2
          have hoka := hok a (List.mem_of_getElem? ha2)
          obtain ⟨t, hat, hAt⟩ := eA.get ha2
          obtain ⟨ln, ns, hC, _⟩ := hAt
          obtain ⟨wn, wr⟩ := words_lt hoka.f1 hoka.f2
          have hs4 : Same H (upd H3 li (.lst ((l ++ new.take j).map natV ++ [natV i]))) := fun b o q => by rw [upd_ne (nli b o q)]; exact s3 b o q
          have hD4 : upd H3 li (.lst ((l ++ new.take j).map natV ++ [natV i])) D = some (.lst (new.map natV)) := (upd_ne nDl.symm).trans hD3
          have hl4 : upd H3 li (.lst ((l ++ new.take j).map natV ++ [natV i])) li = some (.lst ((l ++ new.take (j + 1)).map natV)) := by
            rw [upd_same, take_more hji, ← List.append_assoc, List.map_append (l₁ := l ++ new.take j)]; rfl
          refine ⟨_, rfl, .inl ⟨rfl, _, SqL.of hl3⟩, _, rfl, li, _, _, rfl, rfl, hl3, ?_, ?_⟩
          · rw [List.length_map, List.length_append, List.length_take]
            exact small1000 (by omega)
          generalize upd H3 li (.lst ((l ++ new.take j).map natV ++ [natV i])) = H4 at hs4 hD4 hl4
          obtain ⟨dxa, lr, lt, hta, hRa, hTa⟩ := id hC
          refine ⟨_, rfl, _, rfl, _, rfl, la, _, _, _, rfl, rfl, SqL.of (hs4 _ _ hla), atI_nat (by rw [List.getElem?_map, hat]; rfl), t, dxa, _, rfl, hs4 _ _ hta, coF_no _ _ _ (by decide +kernel) (by decide +kernel) (by decide +kernel), t, ln, _, _, rfl, hC.same hs4, axD_mark hoka, ?_⟩
          intro H5 s5
          refine ⟨_, _, rfl, rfl, ?_⟩
          have hs5 := hs4.trans s5
          refine ⟨_, rfl, _, rfl, _, rfl, la, _, _, _, rfl, rfl, SqL.of (hs5 _ _ hla), atI_nat (by rw [List.getElem?_map, hat]; rfl), t, dxa, _, rfl, hs5 _ _ hta, coF_no _ _ _ (by decide +kernel) (by decide +kernel) (by decide +kernel), t, ln, _, _, rfl, hC.same hs5, axD_mark hoka, ?_⟩
          intro H6 s6
          refine ⟨_, _, rfl, rfl, ?_⟩
          have en : marksOf (rowsOf (axD a)) [2] = (wordsAll [a.1, a.2] ⟨0, 0⟩).names := rows_names _
          have er : marksOf (rowsOf (axD a)) [6, 7] = (wordsAll [a.1, a.2] ⟨0, 0⟩).roles := rows_roles _
          have e1 : V.int (Builtin.bitOr (((addW axs (new.take j) w).names : Nat) : Int) ((marksOf (rowsOf (axD a)) [2] : Nat) : Int)) = natV (addW axs (new.take (j + 1)) w).names := by
            rw [or_nat, en, addW_more hji ha2, ofAxiom_names]
          have e2 : V.int (Builtin.bitOr (((addW axs (new.take j) w).roles : Nat) : Int) ((marksOf (rowsOf (axD a)) [6, 7] : Nat) : Int)) = natV (addW axs (new.take (j + 1)) w).roles := by
            rw [or_nat, er, addW_more hji ha2, ofAxiom_roles]
          refine ⟨some (natV i), ?_, hs5.trans s6, s6 _ _ (s5 _ _ hD4), s6 _ _ (s5 _ _ hl4), ?_, ?_⟩
          · rw [← e1, ← e2]; rfl
          · rw [addW_more hji ha2, ofAxiom_names]; exact or_lt16 hn3 wn
          · rw [addW_more hji ha2, ofAxiom_roles]; exact or_lt16 hr3 wr
        · rintro σ H3 ⟨v5, rfl, s3, hD3, hl3, hn3, hr3⟩
          rw [List.length_map, List.take_length] at *
          exact ⟨j', hj', _, _, _, _, rfl, s3, hl3, hg', hn3, hr3⟩
end
end AX
namespace AX
open PySem PySem.Spec PyProof.Rows L2
/-! ### the desk's state -/
def dkF (la : Addr) : List (Str × V) := [("axioms", .ref la)]
theorem dkF_axioms (la : Addr) : (dkF la).lookup ("axioms" : Str) = some (.ref la) := lk_here
theorem dkF_no {m : Str} (la : Addr) (h : (m == ("axioms" : Str)) = false) : (dkF la).lookup m = none := (lk_past h).trans rfl
theorem dkF_put (la lb : Addr) : putF "axioms" (.ref lb) (dkF la) = dkF lb := put_here
/-- the axioms at la -/
def AxsAt (CC : Addr) (H : Hp) (N : List Addr) (la : Addr) (axs : List Oc.Axiom) : Prop := ∃ as : List Addr, H la = some (.lst (as.map V.ref)) ∧ as.length = axs.length ∧ ∀ (i : Nat) (t : Addr) (ax : Oc.Axiom), as[i]? = some t → axs[i]? = some ax → AxAt CC (wo H N) t ax
/-- the desk at d with the axioms at la, beside others that change (M) -/
structure DeskAt (CD CC : Addr) (H : Hp) (M : List Addr) (d la : Addr) (axs : List Oc.Axiom) : Prop where
  hd : ∃ dx, H d = some (.ins CD dx (dkF la))
  ax : AxsAt CC H (d :: la :: M) la axs
  ndl : d ≠ la
  dM : d ∉ M
  lM : la ∉ M
  ok : ∀ a ∈ axs, AxOk a
  few : axs.length ≤ 8
  mM : ∀ m ∈ M, H m ≠ none
/-- what an operation of the desk does -/
def DeskDoes (CD CC : Addr) (H : Hp) (M : List Addr) (d la : Addr) (st : Oc06.House × Oc06.Ans) (Q : VK) : Prop := ∀ (H' : Hp) (la' p : Addr), DeskAt CD CC H' M d la' st.1.axioms → (la' = la ∨ H la' = none) → But [d, la] H H' → H p = none →
  H' p = some (.lst ((Oc06Neutral.out st.2).map V.int)) → Q (.ref p) H'
section
variable {CD CC : Addr} {H H' : Hp} {M : List Addr} {d la : Addr} {axs : List Oc.Axiom}
theorem AxsAt.move {N N' : List Addr} (h : AxsAt CC H N la axs) (hl : H' la = H la) (s : Same (wo H N) (wo H' N')) : AxsAt CC H' N' la axs := by
  obtain ⟨as, h1, h2, h3⟩ := h
  exact ⟨as, by rw [hl]; exact h1, h2, fun i t ax e1 e2 => (h3 i t ax e1 e2).same s⟩
/-- nothing of the desk has changed -/
theorem DeskAt.same (h : DeskAt CD CC H M d la axs) (s : Same H H') : DeskAt CD CC H' M d la axs := by
  obtain ⟨dx, hd⟩ := h.hd
  obtain ⟨as, h1, h2, h3⟩ := id h.ax
  refine ⟨⟨dx, s _ _ hd⟩, h.ax.move (by rw [s _ _ h1, h1]) (wo_same fun b o n e => ⟨n, s b o e⟩), h.ndl, h.dM, h.lM, h.ok, h.few, fun m hm z => ?_⟩
  cases e : H m with
  | none => exact h.mM m hm e
  | some o => rw [s m o e] at z; cases z
end
/-- a result of one number -/
theorem out_ok (v : Int) : (Oc06Neutral.out (Oc06.ok v)).map V.int = [.int v] := rfl
/-- nothing has changed: the answer alone is new -/
theorem DeskDoes.quiet {CD CC : Addr} {H H1 : Hp} {M : List Addr} {d la : Addr} {axs : List Oc.Axiom} {st : Oc06.House × Oc06.Ans} {Q : VK} (k : DeskDoes CD CC H M d la st Q) (h : DeskAt CD CC H M d la axs) (he : st.1.axioms = axs) (s : Same H H1)
    {p : Addr} (hp : H1 p = none) {xs : List V} (e : (Oc06Neutral.out st.2).map V.int = xs) : Q (.ref p) (upd H1 p (.lst xs)) := by
  have s2 : Same H (upd H1 p (.lst xs)) := s.trans (Same.upd hp)
  refine k _ la p (he ▸ h.same s2) (.inl rfl) (But.of s2) (s.free hp) ?_
  rw [upd_same, e]
/-! ### the desk's operations -/
def sp_Desk_init (CD : Addr) : Sp := fun vs H Q _ => ∃ (p dx : Addr), vs = [.ref p] ∧ H p = some (.ins CD dx []) ∧
  ∀ (H' : Hp) (la : Addr), (∃ dx, H' p = some (.ins CD dx (dkF la))) → H la = none → H' la = some (.lst []) → p ≠ la → But [p] H H' → Q .non H'
def sp_Desk_begins (CD CC : Addr) : Sp := fun vs H Q _ => ∃ (d la : Addr) (M : List Addr) (axs : List Oc.Axiom), vs = [.ref d] ∧ DeskAt CD CC H M d la axs ∧ DeskDoes CD CC H M d la (Oc06.step ⟨axs⟩ .begins) Q
def sp_Desk_line (CD CC : Addr) : Sp := fun vs H Q _ => ∃ (d la a : Addr) (M : List Addr) (axs : List Oc.Axiom) (ns : List Nat), vs = [.ref d, .ref a] ∧ DeskAt CD CC H M d la axs ∧ H a = some (.lst (ns.map natV)) ∧ a ∉ d :: la :: M ∧ ns.length ≤ 30 ∧ DeskDoes CD CC H M d la (Oc06.step ⟨axs⟩ (.line ns)) Q
def sp_Desk_drop (CD CC : Addr) : Sp := fun vs H Q _ => ∃ (d la : Addr) (M : List Addr) (axs : List Oc.Axiom) (i : Nat), vs = [.ref d, natV i] ∧ DeskAt CD CC H M d la axs ∧ i < 2 ^ 32 ∧ DeskDoes CD CC H M d la (Oc06.step ⟨axs⟩ (.drop i)) Q
def sp_Desk_words (K : PySem.W.Frag) (CD CC : Addr) : Sp := fun vs H Q _ => ∃ (d la a : Addr) (M : List Addr) (axs : List Oc.Axiom) (ns : List Nat), vs = [.ref d, .ref a] ∧ DeskAt CD CC H M d la axs ∧ SqL K H a (ns.map natV) ∧ ns.length ≤ 30 ∧ DeskDoes CD CC H M d la (Oc06.step ⟨axs⟩ (.words ns)) Q
/-- nothing has changed: the answer alone is new, wherever it comes from -/
theorem DeskDoes.give {CD CC : Addr} {H H1 : Hp} {M : List Addr} {d la : Addr} {axs : List Oc.Axiom} {st : Oc06.House × Oc06.Ans} {Q : VK} (k : DeskDoes CD CC H M d la st Q) (h : DeskAt CD CC H M d la axs) (he : st.1.axioms = axs) (s : Same H H1)
    {p : Addr} (hp : H p = none) (e : H1 p = some (.lst ((Oc06Neutral.out st.2).map V.int))) : Q (.ref p) H1 :=
  k _ la p (he ▸ h.same s) (.inl rfl) (But.of s) hp e
/-- the axioms as a list of objects -/
theorem DeskAt.refs {CD CC : Addr} {H : Hp} {M : List Addr} {d la : Addr} {axs : List Oc.Axiom} (h : DeskAt CD CC H M d la axs) : RefsP (AxAt CC) H la axs := by
  obtain ⟨as, h1, h2, h3⟩ := h.ax
  exact ⟨as, h1, h2, fun i t x e1 e2 => (h3 i t x e1 e2).same wo_in⟩
end AX
namespace AX
open PySem PySem.Spec PyProof.Rows L2
section
variable {P : Program} {w : World} {K : PySem.W.Frag} {mg : Str → Option Value} {base : Heap}
theorem ok_Desk_init (T : Txt K mg) : FnOk P w K mg base CX0 1 T.f_Desk_init T.fd_Desk_init ["self"] (sp_Desk_init T.c_Desk) := by
  refine T.F_Desk_init.ok sc_Desk_init (fun vs H Q E h => ?_) (fun cdv A outer s H vs Q E hr h => ⟨_, (pss_one (ps_fld (pv 0) (pe_lst pa_nil) rfl)), ?_⟩)
  · obtain ⟨p, dx, rfl, _⟩ := h; rfl
  · obtain ⟨p, dx, rfl, hp, k⟩ := h
    refine ⟨Nat.zero_le _, fun la hla => ?_⟩
    have npl : p ≠ la := ne_of_none hp hla
    refine ⟨_, rfl, p, T.c_Desk, dx, [], rfl, (upd_ne npl).trans hp, T.cl_Desk, T.n_Desk_axioms, (by show 0 < 1000; decide), ?_⟩
    refine k _ la ⟨dx, upd_same⟩ hla ((upd_ne npl.symm).trans upd_same) npl ?_
    exact (But.of (Same.upd hla)).trans (But.upd (by simp))
theorem ok_Desk_begins (T : Txt K mg) : FnOk P w K mg base CX0 1 T.f_Desk_begins T.fd_Desk_begins ["self"] (sp_Desk_begins T.c_Desk T.c_Concepts) := by
  refine T.F_Desk_begins.ok sc_Desk_begins (fun vs H Q E h => ?_) (fun cdv A outer s H vs Q E hr h => ⟨_, (pss_cons (ps_fld (pv 0) (pe_lst pa_nil) rfl)
    (pss_one (ps_ret (pe_lst (pa_cons pe_int pa_nil))))), ?_⟩)
  · obtain ⟨d, la, M, axs, rfl, _⟩ := h; rfl
  · obtain ⟨d, la, M, axs, rfl, h, k⟩ := h
    obtain ⟨dx, hd⟩ := h.hd
    refine ⟨Nat.zero_le _, fun lb hlb => ?_⟩
    have ndb : d ≠ lb := ne_of_none hd hlb
    have hd1 : upd H lb (.lst []) d = some (.ins T.c_Desk dx (dkF la)) := (upd_ne ndb).trans hd
    refine ⟨_, rfl, d, T.c_Desk, dx, _, rfl, hd1, T.cl_Desk, T.n_Desk_axioms, (by show 1 < 1000; decide), ?_⟩
    refine ⟨(by show 1 ≤ sizeLine; decide), fun p hp => ?_⟩
    have b1 : But [d, la] H (upd (upd H lb (.lst [])) d (.ins T.c_Desk dx (putF "axioms" (.ref lb) (dkF la)))) := (But.of (Same.upd hlb)).trans (But.upd (by simp))
    have ndp : d ≠ p := fun z => by rw [← z, upd_same] at hp; cases hp
    have nbp : lb ≠ p := fun z => by rw [← z, upd_ne ndb.symm, upd_same] at hp; cases hp
    have b2 := b1.trans (But.of (Same.upd (o := .lst [.int 0]) hp))
    have hpH : H p = none := by
      rw [upd_ne ndp.symm, upd_ne nbp.symm] at hp; exact hp
    have hlbM : lb ∉ M := fun hm => h.mM lb hm hlb
    refine k _ lb p ⟨⟨dx, ?_⟩, ⟨[], ?_, rfl, fun i t ax e1 _ => by simp at e1⟩, ndb, h.dM, hlbM, by simp [Oc06.step, Oc06.init], by simp [Oc06.step, Oc06.init], fun m hm z => ?_⟩ (.inr hlb) b2 hpH upd_same
    · rw [upd_ne ndp, upd_same, dkF_put]
    · rw [upd_ne nbp, upd_ne ndb.symm, upd_same]; rfl
    · cases e : H m with
      | none => exact h.mM m hm e
      | some o =>
        rw [b2 m o e (by
          simp only [List.mem_cons, List.not_mem_nil, or_false, not_or]
          exact ⟨fun q => h.dM (q ▸ hm), fun q => h.lM (q ▸ hm)⟩)] at z
        cases z
theorem two_le_mark {ax : Oc.Axiom} (h : AxOk ax) : ∀ r ∈ rowsOf (axD ax), r.2.1 < 4 :=
  rows_mark (subsAll_fine [ax.1, ax.2] [] (by
    intro c hc
    simp only [List.mem_cons, List.not_mem_nil, or_false] at hc
    rcases hc with rfl | rfl
    · exact h.f1
    · exact h.f2) (by simp))
theorem rowsOf_length (D : List Oc.C) : (rowsOf D).length = D.length := List.length_map _
theorem ok_Desk_line (T : Txt K mg) : FnOk P w K mg base CX0 4 T.f_Desk_line T.fd_Desk_line ["self", "concepts"] (sp_Desk_line T.c_Desk T.c_Concepts) := by
  refine T.F_Desk_line.ok sc_Desk_line (fun vs H Q E h => ?_) (fun cdv A outer s H vs Q E hr h => ⟨_, (pss_cons (ps_set (i := 2) sc_Desk_line.nd rfl (Or.inl rfl) (pe_call (ok_read_concepts T) (hr.mono (by decide)) rfl T.g_read_concepts T.F_read_concepts.kp T.b_read_concepts .nil pass0 (pa_cons (pv 1) (pa_cons pe_int pa_nil))))
    (pss_cons (ps_if (pt_cmpR op_isN (pv 2) pe_non (nomark _))
    (pss_one (ps_ret (pe_lst (pa_cons (pe_globI rfl T.g_MALFORMED) pa_nil))))
    pss_nil)
    (pss_cons (ps_if (PW.pt (pw_or (pt_cmpR op_ge (pe_callB call_len_seq (by rfl) T.no_len PySem.boot_len (pa_cons (pe_fld (pv 0) rfl) pa_nil)) (pe_globI rfl T.g_MOST_AXIOMS) (nomark _)) (pw_or1 (pt_cmpR op_gt (pe_meth0 (pv 2) T.cl_Concepts T.m_Concepts_atom_count (ok_Concepts_atom_count T) (hr.mono (by decide)) T.b_Concepts_atom_count .nil pass0) (pe_globI rfl T.g_MOST_ATOMS) (nomark _)))))
    (pss_one (ps_ret (pe_lst (pa_cons (pe_globI rfl T.g_TOO_MUCH) pa_nil))))
    pss_nil)
    (pss_cons (ps_expr (pe_bm PySem.F.plainAttrs_list PySem.F.slot_list_append PySem.F.type_list_append mt_append (pe_fld (pv 0) rfl) (pa_cons (pv 2) pa_nil)))
    (pss_one (ps_ret (pe_lst (pa_cons (pe_op op_sub (pe_callB call_len_seq (by rfl) T.no_len PySem.boot_len (pa_cons (pe_fld (pv 0) rfl) pa_nil)) pe_int) pa_nil)))))))), ?_⟩)
  · obtain ⟨d, la, a, M, axs, ns, rfl, _⟩ := h; rfl
  · obtain ⟨d, la, a, M, axs, ns, rfl, h, hSa, naM, hz, k⟩ := h
    have hS : SqL K H a (ns.map natV) := SqL.of hSa
    refine ⟨_, rfl, a, ns, 2, (Oc.two ns).map fun x => [x.1, x.2], rfl, hS, by omega, ?_, ?_, ?_⟩
    · rw [syms_two]; cases Oc.two ns with
      | none => rfl
      | some x => simp
    · intro e H1 s1
      have e2 : Oc.two ns = none := by cases q : Oc.two ns with
        | none => rfl
        | some x => rw [q] at e; cases e
      refine ⟨_, rfl, rfl, _, rfl, ?_⟩
      refine if_true_of rfl ?_
      refine ⟨(by show 1 ≤ sizeLine; decide), fun p hp => ?_⟩
      rw [step_line_none e2] at k
      exact DeskDoes.quiet k h rfl s1 hp (out_ok _)
    · intro cs e H1 q s1 hq hCN
      have hC := CoAt.same hCN (nw_in H H1)
      obtain ⟨ax, e2, ecs⟩ : ∃ ax, Oc.two ns = some ax ∧ cs = [ax.1, ax.2] := by
        cases q : Oc.two ns with
        | none => rw [q] at e; cases e
        | some x => rw [q] at e; exact ⟨x, rfl, (Option.some.inj e).symm⟩
      subst ecs
      obtain ⟨f1, f2⟩ := two_fine e2
      have hlen : (axD ax).length ≤ 30 := by
        have h1 := subsAll_length [ax.1, ax.2] []
        have h2 : syms ns 2 [] = some ([ax.1, ax.2].flatMap symsOf) := by rw [syms_two, e2]; simp
        have h3 := syms_length ns 2 [] _ h2
        simp only [List.length_nil] at h1 h3
        exact Nat.le_trans h1 (by omega)
      have D1 := h.same s1
      obtain ⟨dx, hd⟩ := D1.hd
      obtain ⟨as, hla, hl, hE⟩ := id D1.ax
      refine ⟨_, rfl, rfl, _, rfl, ?_⟩
      refine if_false_of rfl ?_
      refine ⟨_, rfl, d, T.c_Desk, dx, _, _, rfl, hd, T.cl_Desk, T.n_Desk_axioms, dkF_axioms la, la, _, rfl, .inl (SqL.of hla), _, _, rfl, rfl, _, rfl, ?_⟩
      rw [step_line_some e2] at k
      have few := h.few
      by_cases c8 : axs.length = 8
      · refine if_true_of (decide_eq_true (by rw [List.length_map, hl, c8]; decide)) ?_
        rw [if_pos (.inl c8)] at k
        refine ⟨(by show 1 ≤ sizeLine; decide), fun p hp => ?_⟩
        exact DeskDoes.quiet k h rfl s1 hp (out_ok _)
      · refine if_false_of (decide_eq_false (by rw [List.length_map, hl]; omega)) ?_
        obtain ⟨dxq, lr, lt, hq1, hR, hT⟩ := id hC
        refine ⟨_, rfl, q, dxq, _, rfl, hq1, coF_no _ _ _ (by decide +kernel) (by decide +kernel) (by decide +kernel), q, _, _, _, rfl, hC, rows_head _, (by rw [rowsOf_length]; exact Nat.le_trans hlen (by decide)), ?_⟩
        intro H2 s2
        refine ⟨_, _, rfl, rfl, _, rfl, ?_⟩
        have ecount : atomCount (rowsOf (axD ax)) = (Oc.atomsOf [ax.1, ax.2]).length := atoms_count [ax.1, ax.2]
        have D2 := D1.same s2
        by_cases c4 : 4 < (Oc.atomsOf [ax.1, ax.2]).length
        · refine if_true_of (decide_eq_true (by rw [ecount]; omega)) ?_
          rw [if_pos (.inr c4)] at k
          refine ⟨(by show 1 ≤ sizeLine; decide), fun p hp => ?_⟩
          exact DeskDoes.quiet k h rfl (s1.trans s2) hp (out_ok _)
        · refine if_false_of (decide_eq_false (by rw [ecount]; omega)) ?_
          rw [if_neg (by
            rintro (z | z)
            · exact c8 z
            · exact c4 z)] at k
          have hd2 := s2 _ _ hd
          have hla2 := s2 _ _ hla
          have nql : q ≠ la := ne_of hq1 hla (by intro z; cases z)
          refine ⟨_, rfl, d, T.c_Desk, dx, _, _, rfl, hd2, T.cl_Desk, T.n_Desk_axioms, dkF_axioms la, .inl ⟨rfl, _, SqL.of hla2⟩, _, rfl, la, _, _, rfl, rfl, hla2, small1000 (by rw [List.length_map]; omega), ?_⟩
          have hd3 : ∀ o, upd H2 la o d = some (.ins T.c_Desk dx (dkF la)) := fun o => (upd_ne h.ndl).trans hd2
          refine ⟨_, rfl, d, T.c_Desk, dx, _, _, rfl, hd3 _, T.cl_Desk, T.n_Desk_axioms, dkF_axioms la, la, _, rfl, .inl (SqL.of upd_same), _, _, rfl, rfl, (by show 1 ≤ sizeLine; decide), fun p hp => ?_⟩
          have npl : la ≠ p := fun z => by rw [← z, upd_same] at hp; cases hp
          have b1 : But [d, la] H (upd H2 la (.lst (as.map V.ref ++ [V.ref q]))) := (But.of (s1.trans s2)).trans (But.upd (by simp))
          have hpH : H p = none := none_of_but b1 hp (by
            simp only [List.mem_cons, List.not_mem_nil, or_false, not_or]
            exact ⟨(fun z => by rw [z, hd3] at hp; cases hp), npl.symm⟩)
          have b2 := b1.trans (But.of (Same.upd (o := .lst [.int (((as.map V.ref ++ [V.ref q]).length : Nat) - 1)]) hp))
          have hqd : q ≠ d := fun z => by
            obtain ⟨dx0, e0⟩ := h.hd
            rw [z, e0] at hq; cases hq
          have hqM : q ∉ d :: la :: M := by
            simp only [List.mem_cons, not_or]
            exact ⟨hqd, nql, fun hm => h.mM q hm hq⟩
          refine k _ la p ⟨⟨dx, ?_⟩, ⟨as ++ [q], ?_, ?_, ?_⟩, h.ndl, h.dM, h.lM, ?_, ?_, ?_⟩ (.inl rfl) b2 hpH ?_
          · exact (Same.upd hp) _ _ (hd3 _)
          · rw [(Same.upd hp) _ _ upd_same, List.map_append]; rfl
          · simp [hl]
          · intro i t x e3 e4
            have s4 : Same (wo H1 (d :: la :: M)) (wo (upd (upd H2 la (.lst (as.map V.ref ++ [V.ref q]))) p (.lst [.int (((as.map V.ref ++ [V.ref q]).length : Nat) - 1)])) (d :: la :: M)) := wo_same fun b o n e => ⟨n, (Same.upd hp) _ _ (by
              rw [upd_ne (fun z => n (by simp [z]))]; exact s2 _ _ e)⟩
            rcases Nat.lt_trichotomy i as.length with z | z | z
            · rw [List.getElem?_append_left z] at e3
              rw [List.getElem?_append_left (by rw [← hl]; exact z)] at e4
              exact (hE i t x e3 e4).same s4
            · subst z
              rw [List.getElem?_append_right (Nat.le_refl _)] at e3
              rw [hl, List.getElem?_append_right (Nat.le_refl _)] at e4
              simp only [Nat.sub_self, List.getElem?_cons_zero, Option.some.injEq] at e3 e4
              subst e3 e4
              refine ⟨a, ns, CoAt.same hCN ?_, s4 _ _ (wo_of naM (s1 _ _ hSa)), e2, hz⟩
              intro b o e
              obtain ⟨n1, e1⟩ := nw_some e
              have nb : b ∉ d :: la :: M := by
                simp only [List.mem_cons, not_or]
                refine ⟨fun z => ?_, fun z => ?_, fun hm => h.mM b hm n1⟩
                · obtain ⟨dx0, e0⟩ := h.hd
                  rw [z, e0] at n1; cases n1
                · obtain ⟨as0, e0, _⟩ := h.ax
                  rw [z, e0] at n1; cases n1
              exact s4 b o (wo_of nb e1)
            · rw [List.getElem?_eq_none (by simp; omega)] at e3; cases e3
          · intro x hx
            rcases List.mem_append.mp hx with hx | hx
            · exact h.ok x hx
            · rw [List.mem_singleton] at hx; subst hx
              exact ⟨f1, f2, hlen, by omega⟩
          · simp; omega
          · intro m hm z
            cases e : H m with
            | none => exact h.mM m hm e
            | some o =>
              rw [b2 m o e (by
                simp only [List.mem_cons, List.not_mem_nil, or_false, not_or]
                exact ⟨fun q => h.dM (q ▸ hm), fun q => h.lM (q ▸ hm)⟩)] at z
              cases z
          · rw [upd_same]
            show some (HO.lst [V.int (((as.map V.ref ++ [V.ref q]).length : Nat) - 1)]) = some (HO.lst [V.int (axs.length : Nat)])
            congr 4
            rw [List.length_append, List.length_map, hl]; simp
end
end AX
namespace AX
open PySem PySem.Spec PyProof.Rows L2
theorem seqIndex_nat {i n : Nat} (h : i < n) : seqIndex? (i : Int) n = some i := by
  have : ¬ (i : Int) < 0 := by omega
  unfold seqIndex?
  simp [this]
  omega
theorem op_ge_nat {a b : Nat} : decide ((b : Int) ≤ (a : Int)) = decide (b ≤ a) := by
  by_cases c : b ≤ a
  · rw [decide_eq_true c, decide_eq_true (by omega)]
  · rw [decide_eq_false c, decide_eq_false (by omega)]
/-- the list of axioms is another one -/
theorem DeskDoes.put {CD CC : Addr} {H : Hp} {M : List Addr} {d la : Addr} {axs : List Oc.Axiom} {st : Oc06.House × Oc06.Ans} {Q : VK} (k : DeskDoes CD CC H M d la st Q) (h : DeskAt CD CC H M d la axs) {as' : List Addr} {p : Addr} {xs : List V}
    (hp : upd H la (.lst (as'.map V.ref)) p = none) (hl : as'.length = st.1.axioms.length) (hE : ∀ (i : Nat) (t : Addr) (ax : Oc.Axiom), as'[i]? = some t → st.1.axioms[i]? = some ax → AxAt CC (wo H (d :: la :: M)) t ax)
    (hok : ∀ a ∈ st.1.axioms, AxOk a) (hfew : st.1.axioms.length ≤ 8) (hx : (Oc06Neutral.out st.2).map V.int = xs) : Q (.ref p) (upd (upd H la (.lst (as'.map V.ref))) p (.lst xs)) := by
  obtain ⟨dx, hd⟩ := h.hd
  have nlp : la ≠ p := fun z => by rw [← z, upd_same] at hp; cases hp
  have hpH : H p = none := by rw [upd_ne nlp.symm] at hp; exact hp
  have ndp : d ≠ p := ne_of_none hd hpH
  have b : But [d, la] H (upd (upd H la (.lst (as'.map V.ref))) p (.lst xs)) := (But.upd (by simp)).trans (But.of (Same.upd hp))
  refine k _ la p ⟨⟨dx, ?_⟩, ⟨as', ?_, hl, fun i t ax e1 e2 => (hE i t ax e1 e2).same (wo_same fun c o n e => ⟨n, ?_⟩)⟩, h.ndl, h.dM, h.lM, hok, hfew, fun m hm z => ?_⟩ (.inl rfl) b hpH ?_
  · rw [upd_ne ndp, upd_ne h.ndl, hd]
  · rw [upd_ne nlp, upd_same]
  · refine b c o e fun z => n ?_
    simp only [List.mem_cons, List.not_mem_nil, or_false] at z ⊢
    rcases z with z | z
    · exact .inl z
    · exact .inr (.inl z)
  · cases e : H m with
    | none => exact h.mM m hm e
    | some o =>
      rw [b m o e (by
        simp only [List.mem_cons, List.not_mem_nil, or_false, not_or]
        exact ⟨fun q => h.dM (q ▸ hm), fun q => h.lM (q ▸ hm)⟩)] at z
      cases z
  · rw [upd_same, hx]
section
variable {P : Program} {w : World} {K : PySem.W.Frag} {mg : Str → Option Value} {base : Heap}
theorem ok_Desk_drop (T : Txt K mg) : FnOk P w K mg base CX0 1 T.f_Desk_drop T.fd_Desk_drop ["self", "index"] (sp_Desk_drop T.c_Desk T.c_Concepts) := by
  refine T.F_Desk_drop.ok sc_Desk_drop (fun vs H Q E h => ?_) (fun cdv A outer s H vs Q E hr h => ⟨_, (pss_cons (ps_if (pt_cmpR op_ge (pv 1) (pe_callB call_len_seq (by rfl) T.no_len PySem.boot_len (pa_cons (pe_fld (pv 0) rfl) pa_nil)) (nomark _))
    (pss_one (ps_ret (pe_lst (pa_cons (pe_globI rfl T.g_NO_SUCH_AXIOM) pa_nil))))
    pss_nil)
    (pss_cons (ps_expr (pe_bm PySem.F.plainAttrs_list PySem.F.slot_list_pop PySem.F.type_list_pop mt_popAt (pe_fld (pv 0) rfl) (pa_cons (pv 1) pa_nil)))
    (pss_one (ps_ret (pe_lst (pa_cons (pe_callB call_len_seq (by rfl) T.no_len PySem.boot_len (pa_cons (pe_fld (pv 0) rfl) pa_nil)) pa_nil)))))), ?_⟩)
  · obtain ⟨d, la, M, axs, i, rfl, _⟩ := h; rfl
  · obtain ⟨d, la, M, axs, i, rfl, h, hi32, k⟩ := h
    obtain ⟨dx, hd⟩ := h.hd
    obtain ⟨as, hla, hl, hE⟩ := id h.ax
    refine ⟨_, rfl, _, rfl, d, T.c_Desk, dx, _, _, rfl, hd, T.cl_Desk, T.n_Desk_axioms, dkF_axioms la, la, _, rfl, .inl (SqL.of hla), _, _, rfl, rfl, _, rfl, ?_⟩
    rw [step_drop] at k
    by_cases c : axs.length ≤ i
    · refine if_true_of (decide_eq_true (by rw [List.length_map, hl]; omega)) ?_
      rw [if_pos c] at k
      refine ⟨(by show 1 ≤ sizeLine; decide), fun p hp => ?_⟩
      exact DeskDoes.quiet k h rfl (fun _ _ h => h) hp (out_ok _)
    · refine if_false_of (decide_eq_false (by rw [List.length_map, hl]; omega)) ?_
      rw [if_neg c] at k
      have hi : i < as.length := by rw [hl]; omega
      refine ⟨_, rfl, d, T.c_Desk, dx, _, _, rfl, hd, T.cl_Desk, T.n_Desk_axioms, dkF_axioms la, .inl ⟨rfl, _, SqL.of hla⟩, _, rfl, la, _, _, i, _, rfl, rfl, hla, by omega, by omega, seqIndex_nat (by rw [List.length_map]; exact hi), (by rw [List.getElem?_map, List.getElem?_eq_getElem hi]; rfl), ?_⟩
      have e1 : (as.map V.ref).eraseIdx i = (as.eraseIdx i).map V.ref := by
        refine List.ext_getElem? fun j => ?_
        rw [List.getElem?_eraseIdx, List.getElem?_map, List.getElem?_map, List.getElem?_map, List.getElem?_eraseIdx]
        split <;> rfl
      rw [e1]
      refine ⟨_, rfl, d, T.c_Desk, dx, _, _, rfl, (upd_ne h.ndl).trans hd, T.cl_Desk, T.n_Desk_axioms, dkF_axioms la, la, _, rfl, .inl (SqL.of upd_same), (by show 1 ≤ sizeLine; decide), fun p hp => ?_⟩
      have e2 : axs.take i ++ axs.drop (i + 1) = axs.eraseIdx i := (List.eraseIdx_eq_take_drop_succ axs i).symm
      refine DeskDoes.put k h hp ?_ ?_ ?_ ?_ ?_
      · show _ = (axs.take i ++ axs.drop (i + 1)).length
        rw [e2, List.length_eraseIdx, List.length_eraseIdx, hl]
      · intro j t ax e3 e4
        have e4 : (axs.take i ++ axs.drop (i + 1))[j]? = some ax := e4
        rw [e2] at e4
        rw [List.getElem?_eraseIdx] at e3 e4
        by_cases q : j < i
        · rw [if_pos q] at e3 e4; exact hE j t ax e3 e4
        · rw [if_neg q] at e3 e4; exact hE (j + 1) t ax e3 e4
      · intro a ha
        have ha : a ∈ axs.take i ++ axs.drop (i + 1) := ha
        rcases List.mem_append.mp ha with ha | ha
        · exact h.ok a (List.mem_of_mem_take ha)
        · exact h.ok a (List.mem_of_mem_drop ha)
      · show (axs.take i ++ axs.drop (i + 1)).length ≤ 8
        rw [e2, List.length_eraseIdx]
        have := h.few
        split <;> omega
      · rw [List.length_map, List.length_eraseIdx, if_pos hi, hl]
        rfl
end
end AX
namespace AX
open PySem PySem.Spec PyProof.Rows L2
def sp_Desk_quiet (CD CC : Addr) : Sp := fun vs H Q _ => ∃ (d la : Addr) (M : List Addr) (axs : List Oc.Axiom) (i n m : Nat), vs = [.ref d, natV i, natV n, natV m] ∧ DeskAt CD CC H M d la axs ∧ DeskDoes CD CC H M d la (Oc06.step ⟨axs⟩ (.quiet i n m)) Q
section
variable {P : Program} {w : World} {K : PySem.W.Frag} {mg : Str → Option Value} {base : Heap}
theorem ok_Desk_words (T : Txt K mg) : FnOk P w K mg base CX0 4 T.f_Desk_words T.fd_Desk_words ["self", "concept"] (sp_Desk_words K T.c_Desk T.c_Concepts) := by
  refine T.F_Desk_words.ok sc_Desk_words (fun vs H Q E h => ?_) (fun cdv A outer s H vs Q E hr h => ⟨_, (pss_cons (ps_set (i := 2) sc_Desk_words.nd rfl (Or.inl rfl) (pe_call (ok_read_concepts T) (hr.mono (by decide)) rfl T.g_read_concepts T.F_read_concepts.kp T.b_read_concepts .nil pass0 (pa_cons (pv 1) (pa_cons pe_int pa_nil))))
    (pss_cons (ps_if (pt_cmpR op_isN (pv 2) pe_non (nomark _))
    (pss_one (ps_ret (pe_lst (pa_cons (pe_globI rfl T.g_MALFORMED) pa_nil))))
    pss_nil)
    (pss_one (ps_ret (pe_lst (pa_cons pe_int (pa_cons (pe_meth0 (pv 2) T.cl_Concepts T.m_Concepts_used_names (ok_Concepts_used_names T) (hr.mono (by decide)) T.b_Concepts_used_names .nil pass0) (pa_cons (pe_meth0 (pv 2) T.cl_Concepts T.m_Concepts_used_roles (ok_Concepts_used_roles T) (hr.mono (by decide)) T.b_Concepts_used_roles .nil pass0) pa_nil)))))))), ?_⟩)
  · obtain ⟨d, la, a, M, axs, ns, rfl, _⟩ := h; rfl
  · obtain ⟨d, la, a, M, axs, ns, rfl, h, hS, hz, k⟩ := h
    refine ⟨_, rfl, a, ns, 1, (Oc.concept ns).map fun x => [x], rfl, hS, by omega, ?_, ?_, ?_⟩
    · rw [syms_one]; cases Oc.concept ns with
      | none => rfl
      | some x => simp
    · intro e H1 s1
      have e2 : Oc.concept ns = none := by cases q : Oc.concept ns with
        | none => rfl
        | some x => rw [q] at e; cases e
      refine ⟨_, rfl, rfl, _, rfl, ?_⟩
      refine if_true_of rfl ?_
      refine ⟨(by show 1 ≤ sizeLine; decide), fun p hp => ?_⟩
      rw [step_words_none e2] at k
      exact DeskDoes.quiet k h rfl s1 hp (out_ok _)
    · intro cs e H1 q s1 hq hCN
      have hC := CoAt.same hCN (nw_in H H1)
      obtain ⟨c, e2, ecs⟩ : ∃ c, Oc.concept ns = some c ∧ cs = [c] := by
        cases q : Oc.concept ns with
        | none => rw [q] at e; cases e
        | some x => rw [q] at e; exact ⟨x, rfl, (Option.some.inj e).symm⟩
      subst ecs
      have f1 := concept_fine e2
      have hmk : ∀ r ∈ rowsOf (subsAll [c] []), r.2.1 ≤ 64 := fun r hr => by
        have := rows_mark (subsAll_fine [c] [] (by
          intro x hx
          rw [List.mem_singleton] at hx; subst hx; exact f1) (by simp)) r hr
        omega
      refine ⟨_, rfl, rfl, _, rfl, ?_⟩
      refine if_false_of rfl ?_
      rw [step_words_some e2] at k
      obtain ⟨dxq, lr, lt, hq1, hR, hT⟩ := id hC
      refine ⟨_, rfl, q, dxq, _, rfl, hq1, coF_no _ _ _ (by decide +kernel) (by decide +kernel) (by decide +kernel), q, _, _, _, rfl, hC, hmk, ?_⟩
      intro H2 s2
      refine ⟨_, rfl, q, dxq, _, rfl, s2 _ _ hq1, coF_no _ _ _ (by decide +kernel) (by decide +kernel) (by decide +kernel), q, _, _, _, rfl, hC.same s2, hmk, ?_⟩
      intro H3 s3
      refine ⟨(by show 3 ≤ sizeLine; decide), fun p hp => ?_⟩
      refine DeskDoes.quiet k h rfl (s1.trans (s2.trans s3)) hp ?_
      have en : marksOf (rowsOf (subsAll [c] [])) [2] = (Oc06.wordsOf c ⟨0, 0⟩).names := rows_names [c]
      have er : marksOf (rowsOf (subsAll [c] [])) [6, 7] = (Oc06.wordsOf c ⟨0, 0⟩).roles := rows_roles [c]
      rw [en, er]; rfl
theorem ok_Desk_quiet (T : Txt K mg) : FnOk P w K mg base CX0 6 T.f_Desk_quiet T.fd_Desk_quiet ["self", "index", "names", "roles"] (sp_Desk_quiet T.c_Desk T.c_Concepts) := by
  refine T.F_Desk_quiet.ok sc_Desk_quiet (fun vs H Q E h => ?_) (fun cdv A outer s H vs Q E hr h => ⟨_, (pss_cons (ps_if (pt_cmpR op_ge (pv 1) (pe_callB call_len_seq (by rfl) T.no_len PySem.boot_len (pa_cons (pe_fld (pv 0) rfl) pa_nil)) (nomark _))
    (pss_one (ps_ret (pe_lst (pa_cons (pe_globI rfl T.g_NO_SUCH_AXIOM) pa_nil))))
    pss_nil)
    (pss_cons (ps_if (PW.pt (pw_or (pt_cmpR op_ge (pv 2) (pe_globI rfl T.g_NAME_SETS) (nomark _)) (pw_or1 (pt_cmpR op_ge (pv 3) (pe_globI rfl T.g_ROLE_SETS) (nomark _)))))
    (pss_one (ps_ret (pe_lst (pa_cons (pe_globI rfl T.g_MALFORMED) pa_nil))))
    pss_nil)
    (pss_one (ps_ret (pe_lst (pa_cons (pe_ifExp (pt_val (pe_call (ok_is_local T) (hr.mono (by decide)) rfl T.g_is_local T.F_is_local.kp T.b_is_local .nil pass0 (pa_cons (pe_ix ix_list (pe_fld (pv 0) rfl) (pv 1) (fun _ _ => rfl)) (pa_cons (pv 2) (pa_cons (pv 3) pa_nil))))) pe_int pe_int) pa_nil)))))), ?_⟩)
  · obtain ⟨d, la, M, axs, i, n, m, rfl, _⟩ := h; rfl
  · obtain ⟨d, la, M, axs, i, n, m, rfl, h, k⟩ := h
    obtain ⟨dx, hd⟩ := h.hd
    obtain ⟨as, hla, hl, hE⟩ := id h.ax
    refine ⟨_, rfl, _, rfl, d, T.c_Desk, dx, _, _, rfl, hd, T.cl_Desk, T.n_Desk_axioms, dkF_axioms la, la, _, rfl, .inl (SqL.of hla), _, _, rfl, rfl, _, rfl, ?_⟩
    by_cases c : axs.length ≤ i
    · refine if_true_of (decide_eq_true (by rw [List.length_map, hl]; omega)) ?_
      rw [step_quiet_none (List.getElem?_eq_none c)] at k
      refine ⟨(by show 1 ≤ sizeLine; decide), fun p hp => ?_⟩
      exact DeskDoes.quiet k h rfl (fun _ _ h => h) hp (out_ok _)
    · refine if_false_of (decide_eq_false (by rw [List.length_map, hl]; omega)) ?_
      have hi : i < axs.length := by omega
      have hia : i < as.length := by rw [hl]; omega
      have eax : axs[i]? = some axs[i] := List.getElem?_eq_getElem hi
      have eas : as[i]? = some as[i] := List.getElem?_eq_getElem hia
      have hAx := (hE i _ _ eas eax).same (wo_in (H := H) (M := d :: la :: M))
      have hok := h.ok _ (List.mem_of_getElem? eax)
      generalize axs[i] = ax at eax hAx hok
      generalize as[i] = ta at eas hAx
      rw [step_quiet_some eax] at k
      obtain ⟨lna, nsa, hAx, _⟩ := hAx
      refine ⟨_, rfl, _, _, rfl, rfl, _, rfl, ?_⟩
      by_cases c16 : 16 ≤ n
      · refine if_true_of (decide_eq_true (by omega)) ?_
        rw [if_pos ((isWords_false n m).mpr (.inl c16))] at k
        refine if_true_of rfl ⟨(by show 1 ≤ sizeLine; decide), fun p hp => ?_⟩
        exact DeskDoes.quiet k h rfl (fun _ _ h => h) hp (out_ok _)
      · refine if_false_of (decide_eq_false (by omega)) ?_
        refine ⟨_, rfl, _, _, rfl, rfl, _, rfl, ?_⟩
        by_cases c4 : 4 ≤ m
        · refine if_true_of (decide_eq_true (by omega)) ?_
          rw [if_pos ((isWords_false n m).mpr (.inr c4))] at k
          refine ⟨(by show 1 ≤ sizeLine; decide), fun p hp => ?_⟩
          exact DeskDoes.quiet k h rfl (fun _ _ h => h) hp (out_ok _)
        · refine if_false_of (decide_eq_false (by omega)) ?_
          rw [if_neg (by rw [isWords_false]; omega)] at k
          refine ⟨_, rfl, d, T.c_Desk, dx, _, _, rfl, hd, T.cl_Desk, T.n_Desk_axioms, dkF_axioms la, _, rfl, la, _, _, _, rfl, rfl, SqL.of hla, atI_nat (by rw [List.getElem?_map, eas]; rfl), _, rfl, _, rfl,
            ta, lna, axD ax, ax.1, ax.2, n, m, rfl, hAx, axD_nice ax, axD_fine hok, subsAll_mem _ _ (by simp), subsAll_mem _ _ (by simp), Nat.le_trans hok.len (by decide), ?_, by omega, by omega, ?_⟩
          · have : atomsIn (rowsOf (axD ax)) = (Oc.atomsOf [ax.1, ax.2]).length := atoms_count [ax.1, ax.2]
            rw [this]; exact Nat.le_trans hok.few (by decide)
          · intro H1 s1
            refine ⟨_, rfl, ?_⟩
            cases b : Oc06.quiet ⟨n, m⟩ ax with
            | true =>
              rw [b] at k
              refine if_true_of rfl ⟨(by show 1 ≤ sizeLine; decide), fun p hp => ?_⟩
              exact DeskDoes.quiet k h rfl s1 hp (out_ok _)
            | false =>
              rw [b] at k
              refine if_false_of rfl ⟨(by show 1 ≤ sizeLine; decide), fun p hp => ?_⟩
              exact DeskDoes.quiet k h rfl s1 hp (out_ok _)
end
end AX
namespace AX
open PySem PySem.Spec PyProof.Rows L2
/-! ### module_of, part, by, parts -/
theorem out_list (v : Int) (l : List Nat) : (Oc06Neutral.out ⟨v, l⟩).map V.int = V.int v :: l.map natV := by
  unfold Oc06Neutral.out
  rw [List.map_cons, List.map_map]; rfl
def sp_Desk_module_of (CD CC CM : Addr) : Sp := fun vs H Q _ => ∃ (d la x ln : Addr) (M : List Addr) (axs : List Oc.Axiom) (rows : List Row) (tops : List Nat), vs = [.ref d, .ref x] ∧ DeskAt CD CC H M d la axs ∧ CoAt CC H x ln rows tops ∧ (∀ r ∈ rows, r.2.1 < 4) ∧
  ∀ (H' : Hp) (q : Addr), Same H H' → H q = none → ModAt CM H' q (Oc06.part axs ⟨marksOf rows [2], marksOf rows [6, 7]⟩) → Q (.ref q) H'
def sp_Desk_part (CD CC : Addr) : Sp := fun vs H Q _ => ∃ (d la : Addr) (M : List Addr) (axs : List Oc.Axiom) (n m : Nat), vs = [.ref d, natV n, natV m] ∧ DeskAt CD CC H M d la axs ∧ DeskDoes CD CC H M d la (Oc06.step ⟨axs⟩ (.part n m)) Q
def sp_Desk_by (CD CC : Addr) : Sp := fun vs H Q _ => ∃ (d la a : Addr) (M : List Addr) (axs : List Oc.Axiom) (ns : List Nat), vs = [.ref d, .ref a] ∧ DeskAt CD CC H M d la axs ∧ H a = some (.lst (ns.map natV)) ∧ ns.length ≤ 30 ∧ DeskDoes CD CC H M d la (Oc06.step ⟨axs⟩ (.by_ ns)) Q
def sp_Desk_parts (CD CC : Addr) : Sp := fun vs H Q _ => ∃ (d la : Addr) (M : List Addr) (axs : List Oc.Axiom), vs = [.ref d] ∧ DeskAt CD CC H M d la axs ∧ DeskDoes CD CC H M d la (Oc06.step ⟨axs⟩ .parts) Q
theorem two_marks {ns : List Nat} {ax : Oc.Axiom} (e : Oc.two ns = some ax) : ∀ r ∈ rowsOf (axD ax), r.2.1 < 4 := by
  obtain ⟨f1, f2⟩ := two_fine e
  exact rows_mark (subsAll_fine [ax.1, ax.2] [] (by
    intro c hc
    simp only [List.mem_cons, List.not_mem_nil, or_false] at hc
    rcases hc with rfl | rfl
    · exact f1
    · exact f2) (by simp))
theorem words_of (ax : Oc.Axiom) : (⟨marksOf (rowsOf (axD ax)) [2], marksOf (rowsOf (axD ax)) [6, 7]⟩ : Oc06.Words) = Oc06.ofAxiom ax ⟨0, 0⟩ := by
  have en : marksOf (rowsOf (axD ax)) [2] = (wordsAll [ax.1, ax.2] ⟨0, 0⟩).names := rows_names _
  have er : marksOf (rowsOf (axD ax)) [6, 7] = (wordsAll [ax.1, ax.2] ⟨0, 0⟩).roles := rows_roles _
  rw [en, er]; rfl
theorem part_few {axs : List Oc.Axiom} (h : axs.length ≤ 8) (w : Oc06.Words) : (Oc06.part axs w).1.length ≤ 8 := Nat.le_trans (part_length axs w) h
theorem one_shl (k : Nat) : (1 : Int) * 2 ^ ((0 : Int) + (k : Nat)).toNat = ((2 ^ k : Nat) : Int) := by
  have e : ((2 : Int) ^ k) = ((2 ^ k : Nat) : Int) := by norm_cast
  rw [Int.one_mul, Int.zero_add, Int.toNat_natCast, e]
section
variable {P : Program} {w : World} {K : PySem.W.Frag} {mg : Str → Option Value} {base : Heap}
theorem ok_Desk_module_of (T : Txt K mg) : FnOk P w K mg base CX0 7 T.f_Desk_module_of T.fd_Desk_module_of ["self", "concepts"] (sp_Desk_module_of T.c_Desk T.c_Concepts T.c_Module) := by
  refine T.F_Desk_module_of.ok sc_Desk_module_of (fun vs H Q E h => ?_) (fun cdv A outer s H vs Q E hr h => ⟨_, (pss_one (ps_ret (pe_call (ok_module_for T) (hr.mono (by decide)) rfl T.g_module_for T.F_module_for.kp T.b_module_for .nil pass0 (pa_cons (pe_fld (pv 0) rfl) (pa_cons (pe_meth0 (pv 1) T.cl_Concepts T.m_Concepts_used_names (ok_Concepts_used_names T) (hr.mono (by decide)) T.b_Concepts_used_names .nil pass0) (pa_cons (pe_meth0 (pv 1) T.cl_Concepts T.m_Concepts_used_roles (ok_Concepts_used_roles T) (hr.mono (by decide)) T.b_Concepts_used_roles .nil pass0) pa_nil)))))), ?_⟩)
  · obtain ⟨d, la, x, ln, M, axs, rows, tops, rfl, _⟩ := h; rfl
  · obtain ⟨d, la, x, ln, M, axs, rows, tops, rfl, h, hC, hmk, k⟩ := h
    obtain ⟨dx, hd⟩ := h.hd
    obtain ⟨dxq, lr, lt, hq1, hR, hT⟩ := id hC
    have hmk64 : ∀ r ∈ rows, r.2.1 ≤ 64 := fun r hr => by have := hmk r hr; omega
    refine ⟨_, rfl, d, T.c_Desk, dx, _, _, rfl, hd, T.cl_Desk, T.n_Desk_axioms, dkF_axioms la, _, rfl, x, dxq, _, rfl, hq1, coF_no _ _ _ (by decide +kernel) (by decide +kernel) (by decide +kernel), x, ln, _, _, rfl, hC, hmk64, ?_⟩
    intro H1 s1
    refine ⟨_, rfl, x, dxq, _, rfl, s1 _ _ hq1, coF_no _ _ _ (by decide +kernel) (by decide +kernel) (by decide +kernel), x, ln, _, _, rfl, hC.same s1, hmk64, ?_⟩
    intro H2 s2
    refine ⟨la, axs, _, _, rfl, (h.refs.same (AxAt.stays _) s1).same (AxAt.stays _) s2, h.ok, h.few, marks_lt _ hmk, marks_lt _ hmk, ?_⟩
    intro H3 q s3 hq hM
    exact k H3 q (s1.trans (s2.trans s3)) ((s1.trans s2).free hq) hM
theorem ok_Desk_part (T : Txt K mg) : FnOk P w K mg base CX0 7 T.f_Desk_part T.fd_Desk_part ["self", "names", "roles"] (sp_Desk_part T.c_Desk T.c_Concepts) := by
  refine T.F_Desk_part.ok sc_Desk_part (fun vs H Q E h => ?_) (fun cdv A outer s H vs Q E hr h => ⟨_, (pss_cons (ps_if (PW.pt (pw_or (pt_cmpR op_ge (pv 1) (pe_globI rfl T.g_NAME_SETS) (nomark _)) (pw_or1 (pt_cmpR op_ge (pv 2) (pe_globI rfl T.g_ROLE_SETS) (nomark _)))))
    (pss_one (ps_ret (pe_lst (pa_cons (pe_globI rfl T.g_MALFORMED) pa_nil))))
    pss_nil)
    (pss_cons (ps_set (i := 3) sc_Desk_part.nd rfl (Or.inl rfl) (pe_call (ok_module_for T) (hr.mono (by decide)) rfl T.g_module_for T.F_module_for.kp T.b_module_for .nil pass0 (pa_cons (pe_fld (pv 0) rfl) (pa_cons (pv 1) (pa_cons (pv 2) pa_nil)))))
    (pss_one (ps_ret (pe_op op_cat (pe_lst (pa_cons (pe_callB call_len_seq (by rfl) T.no_len PySem.boot_len (pa_cons (pe_fld (pv 3) rfl) pa_nil)) (pa_cons (pe_fld (pv 3) rfl) (pa_cons (pe_fld (pv 3) rfl) pa_nil)))) (pe_fld (pv 3) rfl)))))), ?_⟩)
  · obtain ⟨d, la, M, axs, n, m, rfl, _⟩ := h; rfl
  · obtain ⟨d, la, M, axs, n, m, rfl, h, k⟩ := h
    obtain ⟨dx, hd⟩ := h.hd
    rw [step_part] at k
    refine ⟨_, rfl, _, _, rfl, rfl, _, rfl, ?_⟩
    by_cases c16 : 16 ≤ n
    · refine if_true_of (decide_eq_true (by omega)) ?_
      rw [if_pos ((isWords_false n m).mpr (.inl c16))] at k
      refine if_true_of rfl ⟨(by show 1 ≤ sizeLine; decide), fun p hp => ?_⟩
      exact DeskDoes.quiet k h rfl (fun _ _ h => h) hp (out_ok _)
    refine if_false_of (decide_eq_false (by omega)) ?_
    refine ⟨_, rfl, _, _, rfl, rfl, _, rfl, ?_⟩
    by_cases c4 : 4 ≤ m
    · refine if_true_of (decide_eq_true (by omega)) ?_
      rw [if_pos ((isWords_false n m).mpr (.inr c4))] at k
      refine ⟨(by show 1 ≤ sizeLine; decide), fun p hp => ?_⟩
      exact DeskDoes.quiet k h rfl (fun _ _ h => h) hp (out_ok _)
    refine if_false_of (decide_eq_false (by omega)) ?_
    rw [if_neg (by rw [isWords_false]; omega)] at k
    refine ⟨_, rfl, d, T.c_Desk, dx, _, _, rfl, hd, T.cl_Desk, T.n_Desk_axioms, dkF_axioms la, _, rfl, _, rfl, la, axs, n, m, rfl, h.refs, h.ok, h.few, by omega, by omega, ?_⟩
    intro H1 q s1 hq ⟨dxm, li, hq1, hli⟩
    have few := part_few h.few ⟨n, m⟩
    generalize Oc06.part axs ⟨n, m⟩ = x at k hq1 hli few
    refine ⟨_, rfl, q, T.c_Module, dxm, _, _, rfl, hq1, T.cl_Module, T.n_Module_indexes, moF_indexes li _ _, li, _, rfl, .inl (SqL.of hli), _, rfl, q, T.c_Module, dxm, _, _, rfl, hq1, T.cl_Module, T.n_Module_names, moF_names li _ _, _, rfl, q, T.c_Module, dxm, _, _, rfl, hq1, T.cl_Module, T.n_Module_roles, moF_roles li _ _, (by show 3 ≤ sizeLine; decide), fun z hz => ?_⟩
    have sz := Same.upd (o := .lst [V.int ((x.1.map natV).length : Nat), natV x.2.names, natV x.2.roles]) hz
    refine ⟨_, rfl, q, T.c_Module, dxm, _, _, rfl, sz _ _ hq1, T.cl_Module, T.n_Module_indexes, moF_indexes li _ _, z, li, _, _, rfl, rfl, upd_same, sz _ _ hli, ?_, fun y hy => ?_⟩
    · rw [List.length_map]
      exact Nat.le_of_lt (small1000 (show 3 + x.1.length ≤ 1000 by omega))
    · refine DeskDoes.give k h rfl (s1.trans (sz.trans (Same.upd hy))) (s1.free (sz.free hy)) ?_
      rw [upd_same, out_list, List.length_map, List.map_append]; rfl
theorem ok_Desk_by (T : Txt K mg) : FnOk P w K mg base CX0 8 T.f_Desk_by T.fd_Desk_by ["self", "concepts"] (sp_Desk_by T.c_Desk T.c_Concepts) := by
  refine T.F_Desk_by.ok sc_Desk_by (fun vs H Q E h => ?_) (fun cdv A outer s H vs Q E hr h => ⟨_, (pss_cons (ps_set (i := 2) sc_Desk_by.nd rfl (Or.inl rfl) (pe_call (ok_read_concepts T) (hr.mono (by decide)) rfl T.g_read_concepts T.F_read_concepts.kp T.b_read_concepts .nil pass0 (pa_cons (pv 1) (pa_cons pe_int pa_nil))))
    (pss_cons (ps_if (pt_cmpR op_isN (pv 2) pe_non (nomark _))
    (pss_one (ps_ret (pe_lst (pa_cons (pe_globI rfl T.g_MALFORMED) pa_nil))))
    pss_nil)
    (pss_one (ps_ret (pe_meth0 (pe_meth (pv 0) T.cl_Desk T.m_Desk_module_of (ok_Desk_module_of T) (hr.mono (by decide)) T.b_Desk_module_of .nil pass0 (pa_cons (pv 2) pa_nil)) T.cl_Module T.m_Module_listed (ok_Module_listed T) (hr.mono (by decide)) T.b_Module_listed .nil pass0))))), ?_⟩)
  · obtain ⟨d, la, a, M, axs, ns, rfl, _⟩ := h; rfl
  · obtain ⟨d, la, a, M, axs, ns, rfl, h, hSa, hz, k⟩ := h
    refine ⟨_, rfl, a, ns, 2, (Oc.two ns).map fun x => [x.1, x.2], rfl, SqL.of hSa, by omega, ?_, ?_, ?_⟩
    · rw [syms_two]; cases Oc.two ns with
      | none => rfl
      | some x => simp
    · intro e H1 s1
      have e2 : Oc.two ns = none := by cases q : Oc.two ns with
        | none => rfl
        | some x => rw [q] at e; cases e
      refine ⟨_, rfl, rfl, _, rfl, ?_⟩
      refine if_true_of rfl ?_
      refine ⟨(by show 1 ≤ sizeLine; decide), fun p hp => ?_⟩
      rw [step_by_none e2] at k
      exact DeskDoes.quiet k h rfl s1 hp (out_ok _)
    · intro cs e H1 q s1 hq hCN
      have hC := CoAt.same hCN (nw_in H H1)
      obtain ⟨ax, e2, ecs⟩ : ∃ ax, Oc.two ns = some ax ∧ cs = [ax.1, ax.2] := by
        cases q : Oc.two ns with
        | none => rw [q] at e; cases e
        | some x => rw [q] at e; exact ⟨x, rfl, (Option.some.inj e).symm⟩
      subst ecs
      rw [step_by_some e2] at k
      have D1 := h.same s1
      obtain ⟨dx, hd⟩ := D1.hd
      refine ⟨_, rfl, rfl, _, rfl, ?_⟩
      refine if_false_of rfl ?_
      refine ⟨_, rfl, d, dx, _, rfl, hd, dkF_no la (by decide +kernel), _, rfl, d, la, q, a, M, axs, _, _, rfl, D1, hC, two_marks e2, ?_⟩
      intro H2 m s2 hm hM
      have hM : ModAt T.c_Module H2 m (Oc06.part axs ⟨marksOf (rowsOf (axD ax)) [2], marksOf (rowsOf (axD ax)) [6, 7]⟩) := hM
      rw [words_of] at hM
      have few := part_few h.few (Oc06.ofAxiom ax ⟨0, 0⟩)
      generalize Oc06.part axs (Oc06.ofAxiom ax ⟨0, 0⟩) = x at k hM few
      obtain ⟨dxm, li, hm1, hli⟩ := id hM
      refine ⟨m, dxm, _, rfl, hm1, moF_no _ _ _ (by decide +kernel) (by decide +kernel) (by decide +kernel), m, x, rfl, hM, by omega, ?_⟩
      intro H3 y s3 hy ey
      refine DeskDoes.give k h rfl (s1.trans (s2.trans s3)) (s1.free (s2.free hy)) ?_
      rw [ey, out_list]
theorem ok_Desk_parts (T : Txt K mg) : FnOk P w K mg base CX0 7 T.f_Desk_parts T.fd_Desk_parts ["self"] (sp_Desk_parts T.c_Desk T.c_Concepts) := by
  refine T.F_Desk_parts.ok sc_Desk_parts (fun vs H Q E h => ?_) (fun cdv A outer s H vs Q E hr h => ⟨_, (pss_cons (ps_set (i := 1) sc_Desk_parts.nd rfl (Or.inl rfl) (pe_lst (pa_cons (pe_globI rfl T.g_NAMES) pa_nil)))
    (pss_cons (ps_for PassesOwn.never rfl (pi_range1 (by rfl) T.no_range (pa_cons (pe_globI rfl T.g_NAMES) pa_nil)) (pg_name (i := 2) sc_Desk_parts.nd rfl (Or.inl rfl))
    (pss_one (ps_expr (pe_bm PySem.F.plainAttrs_list PySem.F.slot_list_extend PySem.F.type_list_extend mt_extend (pv 1) (pa_cons (pe_meth0 (pe_call (ok_module_for T) (hr.mono (by decide)) rfl T.g_module_for T.F_module_for.kp T.b_module_for .nil pass0 (pa_cons (pe_fld (pv 0) rfl) (pa_cons (pe_op op_shl pe_int (pv 2)) (pa_cons pe_int pa_nil)))) T.cl_Module T.m_Module_listed (ok_Module_listed T) (hr.mono (by decide)) T.b_Module_listed .nil pass0) pa_nil)))))
    (pss_one (ps_ret (pv 1))))), ?_⟩)
  · obtain ⟨d, la, M, axs, rfl, _⟩ := h; rfl
  · obtain ⟨d, la, M, axs, rfl, h, k⟩ := h
    obtain ⟨dx, hd⟩ := h.hd
    rw [step_parts] at k
    refine ⟨(by show 1 ≤ sizeLine; decide), fun r hr0 => ?_⟩
    have nr : ∀ b o, H b = some o → b ≠ r := fun b o q => ne_of_none q hr0
    have flen : ∀ j : Nat, j ≤ 4 → ((List.range j).flatMap fun a => (Oc06.part axs ⟨2 ^ a, 0⟩).1.length :: (Oc06.part axs ⟨2 ^ a, 0⟩).1).length ≤ 9 * j := by
      intro j
      induction j with
      | zero => intro _; simp
      | succ j ih =>
        intro hj
        have := ih (by omega)
        have f := part_few h.few ⟨2 ^ j, 0⟩
        rw [List.range_succ, List.flatMap_append, List.length_append]
        simp only [List.flatMap_cons, List.flatMap_nil, List.append_nil, List.length_cons]
        omega
    refine ⟨4, rfl, by decide, by decide, for_range (lo := 0) (n := 4)
      (fun j σ H' => ∃ v : Option V, j ≤ 4 ∧ σ = [some (.ref d), some (.ref r), v] ∧ Same H H' ∧ H' r = some (.lst (natV 4 :: ((List.range j).flatMap fun a => (Oc06.part axs ⟨2 ^ a, 0⟩).1.length :: (Oc06.part axs ⟨2 ^ a, 0⟩).1).map natV)))
      ⟨none, Nat.zero_le _, rfl, Same.upd hr0, upd_same⟩ ?_ ?_⟩
    · rintro j σ H' hj ⟨v, hj4, rfl, s1, hr1⟩
      have hd1 := s1 _ _ hd
      have p2 : 2 ^ j < 16 := Nat.lt_of_lt_of_le (Nat.pow_lt_pow_right (by decide) hj) (by decide)
      have ev : [V.ref la, V.int ((1 : Int) * 2 ^ ((0 : Int) + (j : Nat)).toNat), V.int 0] = [V.ref la, natV (2 ^ j), natV 0] := by rw [one_shl]; rfl
      refine ⟨_, rfl, .inl ⟨rfl, _, SqL.of hr1⟩, _, rfl, d, T.c_Desk, dx, _, _, rfl, hd1, T.cl_Desk, T.n_Desk_axioms, dkF_axioms la, _, rfl, _, _, rfl, rfl, ⟨by omega, by omega, by decide⟩, la, axs, 2 ^ j, 0, ev, (h.same s1).refs, h.ok, h.few, p2, by decide, ?_⟩
      intro H2 m s2 hm hM
      have few := part_few h.few ⟨2 ^ j, 0⟩
      obtain ⟨dxm, li, hm1, hli⟩ := id hM
      refine ⟨m, dxm, _, rfl, hm1, moF_no _ _ _ (by decide +kernel) (by decide +kernel) (by decide +kernel), m, _, rfl, hM, by omega, ?_⟩
      intro H3 y s3 hy ey
      have s13 := s1.trans (s2.trans s3)
      have hr3 := s3 _ _ (s2 _ _ hr1)
      refine ⟨r, y, _, _, rfl, rfl, hr3, ey, ?_, ?_⟩
      · have f := flen j hj4
        simp only [List.length_cons, List.length_map]
        exact Nat.le_of_lt (small1000 (by omega))
      refine ⟨_, by omega, rfl, fun b o q => by rw [upd_ne (nr b o q)]; exact s13 _ _ q, ?_⟩
      rw [upd_same, List.range_succ, List.flatMap_append, List.map_append]
      simp
    · rintro σ H' ⟨v, _, rfl, s1, hr1⟩
      refine ⟨_, rfl, DeskDoes.give k h rfl s1 hr0 ?_⟩
      rw [hr1, out_list]; rfl
end
end AX
namespace AX
open PySem PySem.Spec PyProof.Rows L2
/-! ### under -/
theorem some_more {axs : List Oc.Axiom} {l : List Nat} {i j : Nat} {a : Oc.Axiom} (h : l[j]? = some i) (ha : axs[i]? = some a) : Oc06.some_ axs (l.take (j + 1)) = Oc06.some_ axs (l.take j) ++ [a] := by
  unfold Oc06.some_
  rw [take_more h, List.filterMap_append]
  simp [ha]
theorem some_length (axs : List Oc.Axiom) (l : List Nat) : (Oc06.some_ axs l).length ≤ l.length := List.length_filterMap_le _ _
theorem some_mem {axs : List Oc.Axiom} {l : List Nat} : ∀ a ∈ Oc06.some_ axs l, a ∈ axs := by
  intro a ha
  obtain ⟨i, _, e⟩ := List.mem_filterMap.mp ha
  exact List.mem_of_getElem? e
theorem much_iff (p : List Oc.Axiom) (ax : Oc.Axiom) : Oc06.much p [ax.1, ax.2] = decide (6 < (Oc.atomsOf (csOf (p ++ [ax]))).length) := by
  rw [csOf_snoc]; rfl
def sp_Desk_under (CD CC : Addr) : Sp := fun vs H Q _ => ∃ (d la a : Addr) (M : List Addr) (axs : List Oc.Axiom) (ns : List Nat), vs = [.ref d, .ref a] ∧ DeskAt CD CC H M d la axs ∧ H a = some (.lst (ns.map natV)) ∧ ns.length ≤ 30 ∧ DeskDoes CD CC H M d la (Oc06.step ⟨axs⟩ (.under ns)) Q
section
variable {P : Program} {w : World} {K : PySem.W.Frag} {mg : Str → Option Value} {base : Heap}
theorem ok_Desk_under (T : Txt K mg) : FnOk P w K mg base CX0 8 T.f_Desk_under T.fd_Desk_under ["self", "concepts"] (sp_Desk_under T.c_Desk T.c_Concepts) := by
  refine T.F_Desk_under.ok sc_Desk_under (fun vs H Q E h => ?_) (fun cdv A outer s H vs Q E hr h => ⟨_, (pss_cons (ps_set (i := 2) sc_Desk_under.nd rfl (Or.inl rfl) (pe_call (ok_read_concepts T) (hr.mono (by decide)) rfl T.g_read_concepts T.F_read_concepts.kp T.b_read_concepts .nil pass0 (pa_cons (pv 1) (pa_cons pe_int pa_nil))))
    (pss_cons (ps_if (pt_cmpR op_isN (pv 2) pe_non (nomark _))
    (pss_one (ps_ret (pe_lst (pa_cons (pe_globI rfl T.g_MALFORMED) pa_nil))))
    pss_nil)
    (pss_cons (ps_setLc (i := 3) (own := [("index", 5)]) (g := (gName 5)) (tt := tYes) rfl sc_Desk_under.nd rfl rfl (sw_true rfl rfl rfl (by decide +kernel)) (pi_list (pe_fld (pe_meth (pv 0) T.cl_Desk T.m_Desk_module_of (ok_Desk_module_of T) (hr.mono (by decide)) T.b_Desk_module_of .nil pass0 (pa_cons (pv 2) pa_nil)) rfl)) (blkOk_by (N := ["self", "concepts", "asked", "needed", "together", "index"]) (sc := defScope s_Desk_under) (by decide +kernel)) (fun _ _ _ _ _ => (pg_name (i := 5) sc_Desk_under.nd rfl (Or.inl rfl))) (fun _ _ _ _ _ => pts_nil) (fun _ _ _ _ _ => (pe_ix (r := rIxL K) ix_list (show PE _ _ (tFld K (tVar 0) "axioms") from pe_fld (pv 0) rfl) (pv 5) (fun _ _ => rfl))))
    (pss_cons (ps_set (i := 4) sc_Desk_under.nd rfl (Or.inl rfl) (pe_call (ok_read_together T) (hr.mono (by decide)) rfl T.g_read_together T.F_read_together.kp T.b_read_together .nil pass0 (pa_cons (pe_op op_cat (pv 3) (pe_lst (pa_cons (pv 2) pa_nil))) pa_nil)))
    (pss_cons (ps_if (pt_cmpR op_gt (pe_meth0 (pv 4) T.cl_Concepts T.m_Concepts_atom_count (ok_Concepts_atom_count T) (hr.mono (by decide)) T.b_Concepts_atom_count .nil pass0) (pe_globI rfl T.g_MOST_ATOMS_UNDER) (nomark _))
    (pss_one (ps_ret (pe_lst (pa_cons (pe_globI rfl T.g_TOO_MUCH) pa_nil))))
    pss_nil)
    (pss_one (ps_ret (pe_lst (pa_cons (pe_ifExp (pt_val (pe_call (ok_is_subsumed T) (hr.mono (by decide)) rfl T.g_is_subsumed T.F_is_subsumed.kp T.b_is_subsumed .nil pass0 (pa_cons (pv 4) pa_nil))) pe_int pe_int) pa_nil))))))))), ?_⟩)
  · obtain ⟨d, la, a, M, axs, ns, rfl, _⟩ := h; rfl
  · obtain ⟨d, la, a, M, axs, ns, rfl, h, hSa, hz, k⟩ := h
    refine ⟨_, rfl, a, ns, 2, (Oc.two ns).map fun x => [x.1, x.2], rfl, SqL.of hSa, by omega, ?_, ?_, ?_⟩
    · rw [syms_two]; cases Oc.two ns with
      | none => rfl
      | some x => simp
    · intro e H1 s1
      have e2 : Oc.two ns = none := by cases q : Oc.two ns with
        | none => rfl
        | some x => rw [q] at e; cases e
      refine ⟨_, rfl, rfl, _, rfl, ?_⟩
      refine if_true_of rfl ?_
      refine ⟨(by show 1 ≤ sizeLine; decide), fun p hp => ?_⟩
      rw [step_under_none e2] at k
      exact DeskDoes.quiet k h rfl s1 hp (out_ok _)
    · intro cs e H1 q s1 hq hCN
      have hC := CoAt.same hCN (nw_in H H1)
      obtain ⟨ax, e2, ecs⟩ : ∃ ax, Oc.two ns = some ax ∧ cs = [ax.1, ax.2] := by
        cases q : Oc.two ns with
        | none => rw [q] at e; cases e
        | some x => rw [q] at e; exact ⟨x, rfl, (Option.some.inj e).symm⟩
      subst ecs
      obtain ⟨f1, f2⟩ := two_fine e2
      rw [step_under_some e2] at k
      have D1 := h.same s1
      have hAx : AxAt T.c_Concepts H1 q ax := ⟨a, ns, hC, s1 _ _ hSa, e2, hz⟩
      obtain ⟨dx, hd⟩ := D1.hd
      refine ⟨_, rfl, rfl, _, rfl, ?_⟩
      refine if_false_of rfl ?_
      refine ⟨_, rfl, d, dx, _, rfl, hd, dkF_no la (by decide +kernel), _, rfl, d, la, q, a, M, axs, _, _, rfl, D1, hC, two_marks e2, ?_⟩
      intro H2 m s2 hm hM
      have hM : ModAt T.c_Module H2 m (Oc06.part axs ⟨marksOf (rowsOf (axD ax)) [2], marksOf (rowsOf (axD ax)) [6, 7]⟩) := hM
      rw [words_of] at hM
      have few := part_few h.few (Oc06.ofAxiom ax ⟨0, 0⟩)
      have plt := part_lt axs (Oc06.ofAxiom ax ⟨0, 0⟩)
      generalize Oc06.part axs (Oc06.ofAxiom ax ⟨0, 0⟩) = x at k hM few plt
      obtain ⟨dxm, li, hm1, hli⟩ := hM
      have D2 := D1.same s2
      have hd2 := s2 _ _ hd
      obtain ⟨as, hla2, eA⟩ := D2.refs
      refine ⟨m, T.c_Module, dxm, _, _, rfl, hm1, T.cl_Module, T.n_Module_indexes, moF_indexes li _ _, li, rfl, ⟨_, SqL.of hli⟩, fun D hD => ?_⟩
      refine lc_list (K := K) (a := li) (xs := x.1.map natV) (fun i H3 => Same H2 H3 ∧ ∃ acc : List Addr, H3 D = some (.lst (acc.map V.ref)) ∧ EachP (AxAt T.c_Concepts) H2 acc (Oc06.some_ axs (x.1.take i)))
        ⟨Same.upd hD, [], upd_same, EachP.nil⟩ (fun i H3 _ h => SqL.of (h.1 _ _ hli)) ?_ ?_
      · rintro j y H3 hj ⟨s3, acc, hacc, eacc⟩
        rw [List.getElem?_map] at hj
        obtain ⟨i, hji, rfl⟩ : ∃ i, x.1[j]? = some i ∧ y = natV i := by
          cases z : x.1[j]? with
          | none => rw [z] at hj; cases hj
          | some i => rw [z] at hj; exact ⟨i, rfl, (Option.some.inj hj).symm⟩
        have hil := plt i (List.mem_of_getElem? hji)
        have ha2 : axs[i]? = some axs[i] := List.getElem?_eq_getElem hil
        generalize axs[i] = b at ha2
        obtain ⟨t, hat, hAt⟩ := eA.get ha2
        have haz : acc.length ≤ 1000 := by
          rw [eacc.1]
          refine Nat.le_trans (some_length _ _) ?_
          rw [List.length_take]; omega
        refine ⟨rfl, _, rfl, d, T.c_Desk, dx, _, _, rfl, s3 _ _ hd2, T.cl_Desk, T.n_Desk_axioms, dkF_axioms la, _, rfl, la, _, _, _, rfl, rfl, SqL.of (s3 _ _ hla2), atI_nat (by rw [List.getElem?_map, hat]; rfl), acc.map V.ref, hacc, by rw [List.length_map]; exact small1000 haz, ?_, acc ++ [t], ?_, ?_⟩
        · exact fun b o q => by rw [upd_ne (ne_of_none q hD)]; exact s3 b o q
        · rw [upd_same, List.map_append]; rfl
        · rw [some_more hji ha2]
          exact eacc.snoc hAt
      · rintro H3 ⟨s3, acc, hacc, eacc⟩
        rw [List.length_map, List.take_length] at eacc
        have pz := some_length axs x.1
        have pm : ∀ b ∈ Oc06.some_ axs x.1, b ∈ axs := some_mem
        generalize Oc06.some_ axs x.1 = p at k eacc pz pm
        have s13 := s1.trans (s2.trans s3)
        refine ⟨_, rfl, _, rfl, (by show 1 ≤ sizeLine; decide), fun z hz0 => ?_⟩
        have sz := Same.upd (o := .lst [V.ref q]) hz0
        refine ⟨D, z, _, _, rfl, rfl, sz _ _ hacc, upd_same, ?_, fun y hy => ?_⟩
        · rw [List.length_map, eacc.1]
          exact Nat.le_of_lt (small1000 (show p.length + 1 ≤ 1000 by omega))
        have s4 := sz.trans (Same.upd (o := .lst (acc.map V.ref ++ [V.ref q])) hy)
        have hy4 : upd (upd H3 z (.lst [V.ref q])) y (.lst (acc.map V.ref ++ [V.ref q])) y = some (.lst ((acc ++ [q]).map V.ref)) := by rw [upd_same, List.map_append]; rfl
        generalize upd (upd H3 z (.lst [V.ref q])) y (.lst (acc.map V.ref ++ [V.ref q])) = H4 at s4 hy4
        refine ⟨y, p ++ [ax], rfl, ⟨acc ++ [q], hy4, EachP.snoc ((eacc.same (AxAt.stays _) s3).same (AxAt.stays _) s4) (((hAx.same s2).same s3).same s4)⟩, by rw [List.length_append]; simp only [List.length_cons, List.length_nil]; omega, ?_⟩
        intro H5 t lnt hD3 s5 ht hCt
        have hF : ∀ e ∈ csOf (p ++ [ax]), Fine e := by
          intro e he
          obtain ⟨b, hb, he⟩ := List.mem_flatMap.mp he
          have hb2 : Fine b.1 ∧ Fine b.2 := by
            rcases List.mem_append.mp hb with hb | hb
            · exact ⟨(h.ok b (pm b hb)).f1, (h.ok b (pm b hb)).f2⟩
            · rw [List.mem_singleton] at hb; rw [hb]; exact ⟨f1, f2⟩
          simp only [List.mem_cons, List.not_mem_nil, or_false] at he
          rcases he with he | he
          · rw [he]; exact hb2.1
          · rw [he]; exact hb2.2
        obtain ⟨dxt, lr, lt, htt, hRt, hTt⟩ := id hCt
        have s15 := (s13.trans s4).trans s5
        refine ⟨_, rfl, t, dxt, _, rfl, htt, coF_no _ _ _ (by decide +kernel) (by decide +kernel) (by decide +kernel), t, lnt, _, _, rfl, hCt, rows_head _, (by rw [rowsOf_length]; exact Nat.le_trans hD3 (by decide)), ?_⟩
        intro H6 s6
        refine ⟨_, _, rfl, rfl, _, rfl, ?_⟩
        have ecount : atomCount (rowsOf (subsAll (csOf (p ++ [ax])) [])) = (Oc.atomsOf (csOf (p ++ [ax]))).length := atoms_count _
        rw [much_iff] at k
        by_cases c6 : 6 < (Oc.atomsOf (csOf (p ++ [ax]))).length
        · refine if_true_of (decide_eq_true (by rw [ecount]; omega)) ?_
          rw [decide_eq_true c6, if_pos rfl] at k
          refine ⟨(by show 1 ≤ sizeLine; decide), fun p hp => ?_⟩
          exact DeskDoes.quiet k h rfl (s15.trans s6) hp (out_ok _)
        · refine if_false_of (decide_eq_false (by rw [ecount]; omega)) ?_
          rw [decide_eq_false c6, if_neg Bool.false_ne_true] at k
          have h9 : atomsIn (rowsOf (subsAll (csOf (p ++ [ax])) [])) ≤ 9 := by
            have : atomsIn (rowsOf (subsAll (csOf (p ++ [ax])) [])) = (Oc.atomsOf (csOf (p ++ [ax]))).length := atoms_count _
            omega
          have hCs := hCt.same s6
          rw [csOf_snoc] at hCs hF h9 hD3
          refine ⟨_, rfl, t, lnt, p, ax.1, ax.2, rfl, hCs, hF, Nat.le_trans hD3 (by decide), by omega, h9, ?_⟩
          intro H7 s7
          refine ⟨_, rfl, ?_⟩
          have s17 := (s15.trans s6).trans s7
          cases b : Oc.under p ax.1 ax.2 with
          | true =>
            rw [b] at k
            refine if_true_of rfl ⟨(by show 1 ≤ sizeLine; decide), fun p hp => ?_⟩
            exact DeskDoes.quiet k h rfl s17 hp (out_ok _)
          | false =>
            rw [b] at k
            refine if_false_of rfl ⟨(by show 1 ≤ sizeLine; decide), fun p hp => ?_⟩
            exact DeskDoes.quiet k h rfl s17 hp (out_ok _)
end
end AX
namespace AX
open PySem PySem.Spec PyProof.Rows L2
/-! ### a call is read and answered -/
/-- the state ahead of a reading: the place is i -/
structure Ask (K : PySem.W.Frag) (CD CC CR : Addr) (H0 H : Hp) (M : List Addr) (d la rd a : Addr) (axs : List Oc.Axiom) (i : Nat) (xs : List V) : Prop where
  desk : DeskAt CD CC H M d la axs
  inM : rd ∈ M
  rdr : RdAt CR H rd a (i : Int)
  s0 : Same H0 H
  n0 : H0 rd = none
  hS : SqL K H0 a xs
def AskDoes (CD CC CR : Addr) (H : Hp) (M : List Addr) (d la rd a : Addr) (j : Nat) (st : Oc06.House × Oc06.Ans) (Q : VK) : Prop := ∀ (H' : Hp) (la' p : Addr), DeskAt CD CC H' M d la' st.1.axioms → (la' = la ∨ H la' = none) → But [d, la, rd] H H' →
  RdAt CR H' rd a (j : Int) → H p = none → H' p = some (.lst ((Oc06Neutral.out st.2).map V.int)) → Q (.ref p) H'
theorem DeskAt.move {CD CC : Addr} {H H1 : Hp} {M : List Addr} {d la : Addr} {axs : List Oc.Axiom} (h : DeskAt CD CC H M d la axs) {N : List Addr} (b : But N H H1) (hN : ∀ n ∈ N, n ∈ M) (hm : ∀ n ∈ N, H1 n ≠ none) : DeskAt CD CC H1 M d la axs := by
  obtain ⟨dx, hd⟩ := h.hd
  obtain ⟨as, h1, h2, h3⟩ := id h.ax
  have nd : d ∉ N := fun z => h.dM (hN d z)
  have nl : la ∉ N := fun z => h.lM (hN la z)
  refine ⟨⟨dx, b _ _ hd nd⟩, h.ax.move (by rw [b _ _ h1 nl, h1]) (wo_same fun c o n e => ⟨n, b c o e fun z => n ?_⟩), h.ndl, h.dM, h.lM, h.ok, h.few, fun m hmM z => ?_⟩
  · simp only [List.mem_cons]
    exact .inr (.inr (hN c z))
  · by_cases q : m ∈ N
    · exact hm m q z
    · cases e : H m with
      | none => exact h.mM m hmM e
      | some o => rw [b m o e q] at z; cases z
section
variable {K : PySem.W.Frag} {CD CC CR : Addr} {H0 H H1 : Hp} {M : List Addr} {d la rd a : Addr} {axs : List Oc.Axiom} {i j : Nat} {xs : List V}
theorem Ask.now (h : Ask K CD CC CR H0 H M d la rd a axs i xs) : SqL K H a xs := h.s0.seq h.hS
theorem Ask.keeps (h : Ask K CD CC CR H0 H M d la rd a axs i xs) : ∀ H' : Hp, But [rd] H H' → SqL K H' a xs := fun H' b =>
  Same.seq (fun c o e => b c o (h.s0 c o e) (by
    simp only [List.mem_singleton]; intro z; rw [z, h.n0] at e; cases e)) h.hS
theorem Ask.read (h : Ask K CD CC CR H0 H M d la rd a axs i xs) (r : RdAt CR H1 rd a (j : Int)) (b : But [rd] H H1) : Ask K CD CC CR H0 H1 M d la rd a axs j xs := by
  refine ⟨h.desk.move b ?_ ?_, h.inM, r, fun c o e => b c o (h.s0 c o e) ?_, h.n0, h.hS⟩
  · intro n hn; rw [List.mem_singleton] at hn; subst hn; exact h.inM
  · intro n hn z; rw [List.mem_singleton] at hn; subst hn
    obtain ⟨dx, e⟩ := r
    rw [e] at z; cases z
  · simp only [List.mem_singleton]; intro z; rw [z, h.n0] at e; cases e
theorem Ask.same (h : Ask K CD CC CR H0 H M d la rd a axs i xs) (s : Same H H1) : Ask K CD CC CR H0 H1 M d la rd a axs i xs := by
  obtain ⟨dx, e⟩ := h.rdr
  exact h.read ⟨dx, s _ _ e⟩ (But.of s)
theorem AskDoes.desk {st : Oc06.House × Oc06.Ans} {Q : VK} (k : AskDoes CD CC CR H M d la rd a j st Q) (b : But [rd] H H1) (h1 : Ask K CD CC CR H0 H1 M d la rd a axs j xs) : DeskDoes CD CC H1 M d la st Q := by
  intro H' la' p hD hla b2 hp hpv
  obtain ⟨dx, hr⟩ := h1.rdr
  have nrd : rd ∉ [d, la] := by
    simp only [List.mem_cons, List.not_mem_nil, or_false, not_or]
    exact ⟨fun z => h1.desk.dM (z ▸ h1.inM), fun z => h1.desk.lM (z ▸ h1.inM)⟩
  have nn : ∀ x : Addr, H1 x = none → H x = none := fun x hx => none_of_but b hx (by
    simp only [List.mem_singleton]; intro z; rw [z, hr] at hx; cases hx)
  refine k H' la' p hD (hla.elim .inl fun z => .inr (nn _ z)) ?_ ⟨dx, b2 _ _ hr nrd⟩ (nn _ hp) hpv
  exact (b.mono (by simp)).trans (b2.mono (by simp))
end
end AX
namespace AX
open PySem PySem.Spec PyProof.Rows L2
def sp_answer_quiet (K : PySem.W.Frag) (CD CC CR : Addr) : Sp := fun vs H Q _ => ∃ (d la rd a : Addr) (M : List Addr) (axs : List Oc.Axiom) (H0 : Hp) (i : Nat) (xs : List V) (x n m : Nat), vs = [.ref d, .ref rd] ∧ Ask K CD CC CR H0 H M d la rd a axs i xs ∧
  xs[i]? = some (natV x) ∧ xs[i + 1]? = some (natV n) ∧ xs[i + 2]? = some (natV m) ∧ AskDoes CD CC CR H M d la rd a (i + 3) (Oc06.step ⟨axs⟩ (.quiet x n m)) Q
def sp_answer_part (K : PySem.W.Frag) (CD CC CR : Addr) : Sp := fun vs H Q _ => ∃ (d la rd a : Addr) (M : List Addr) (axs : List Oc.Axiom) (H0 : Hp) (i : Nat) (xs : List V) (n m : Nat), vs = [.ref d, .ref rd] ∧ Ask K CD CC CR H0 H M d la rd a axs i xs ∧
  xs[i]? = some (natV n) ∧ xs[i + 1]? = some (natV m) ∧ AskDoes CD CC CR H M d la rd a (i + 2) (Oc06.step ⟨axs⟩ (.part n m)) Q
section
variable {P : Program} {w : World} {K : PySem.W.Frag} {mg : Str → Option Value} {base : Heap}
theorem ok_answer_quiet (T : Txt K mg) : FnOk P w K mg base CX0 7 T.f_answer_quiet T.fd_answer_quiet ["desk", "reader"] (sp_answer_quiet K T.c_Desk T.c_Concepts T.c_Reader) := by
  refine T.F_answer_quiet.ok sc_answer_quiet (fun vs H Q E h => ?_) (fun cdv A outer s H vs Q E hr h => ⟨_, (pss_cons (ps_set (i := 2) sc_answer_quiet.nd rfl (Or.inl rfl) (pe_meth0 (pv 1) T.cl_Reader T.m_Reader_take_number (ok_Reader_take_number T) (hr.mono (by decide)) T.b_Reader_take_number .nil pass0))
    (pss_cons (ps_set (i := 3) sc_answer_quiet.nd rfl (Or.inl rfl) (pe_meth0 (pv 1) T.cl_Reader T.m_Reader_take_number (ok_Reader_take_number T) (hr.mono (by decide)) T.b_Reader_take_number .nil pass0))
    (pss_cons (ps_set (i := 4) sc_answer_quiet.nd rfl (Or.inl rfl) (pe_meth0 (pv 1) T.cl_Reader T.m_Reader_take_number (ok_Reader_take_number T) (hr.mono (by decide)) T.b_Reader_take_number .nil pass0))
    (pss_one (ps_ret (pe_meth (pv 0) T.cl_Desk T.m_Desk_quiet (ok_Desk_quiet T) (hr.mono (by decide)) T.b_Desk_quiet .nil pass0 (pa_cons (pv 2) (pa_cons (pv 3) (pa_cons (pv 4) pa_nil))))))))), ?_⟩)
  · obtain ⟨d, la, rd, a, M, axs, H0, i, xs, x, n, m, rfl, _⟩ := h; rfl
  · obtain ⟨d, la, rd, a, M, axs, H0, i, xs, x, n, m, rfl, A0, hx, hn, hm, k⟩ := h
    obtain ⟨dx, hrd⟩ := A0.rdr
    refine ⟨_, rfl, rd, dx, _, rfl, hrd, rdF_no a i (by decide +kernel) (by decide +kernel), rd, a, i, xs, _, rfl, A0.rdr, A0.now, hx, ?_⟩
    intro H1 r1 b1
    have A1 := A0.read r1 b1
    obtain ⟨dx1, hrd1⟩ := r1
    refine ⟨_, rfl, rd, dx1, _, rfl, hrd1, rdF_no a _ (by decide +kernel) (by decide +kernel), rd, a, i + 1, xs, _, rfl, A1.rdr, A1.now, hn, ?_⟩
    intro H2 r2 b2
    have A2 := A1.read r2 b2
    obtain ⟨dx2, hrd2⟩ := r2
    refine ⟨_, rfl, rd, dx2, _, rfl, hrd2, rdF_no a _ (by decide +kernel) (by decide +kernel), rd, a, i + 2, xs, _, rfl, A2.rdr, A2.now, hm, ?_⟩
    intro H3 r3 b3
    have A3 := A2.read r3 b3
    obtain ⟨dxd, hd⟩ := A3.desk.hd
    refine ⟨_, rfl, d, dxd, _, rfl, hd, dkF_no la (by decide +kernel), _, rfl, _, rfl, _, rfl, d, la, M, axs, x, n, m, rfl, A3.desk, k.desk ((b1.trans b2).trans b3) A3⟩
theorem ok_answer_part (T : Txt K mg) : FnOk P w K mg base CX0 8 T.f_answer_part T.fd_answer_part ["desk", "reader"] (sp_answer_part K T.c_Desk T.c_Concepts T.c_Reader) := by
  refine T.F_answer_part.ok sc_answer_part (fun vs H Q E h => ?_) (fun cdv A outer s H vs Q E hr h => ⟨_, (pss_cons (ps_set (i := 2) sc_answer_part.nd rfl (Or.inl rfl) (pe_meth0 (pv 1) T.cl_Reader T.m_Reader_take_number (ok_Reader_take_number T) (hr.mono (by decide)) T.b_Reader_take_number .nil pass0))
    (pss_cons (ps_set (i := 3) sc_answer_part.nd rfl (Or.inl rfl) (pe_meth0 (pv 1) T.cl_Reader T.m_Reader_take_number (ok_Reader_take_number T) (hr.mono (by decide)) T.b_Reader_take_number .nil pass0))
    (pss_one (ps_ret (pe_meth (pv 0) T.cl_Desk T.m_Desk_part (ok_Desk_part T) (hr.mono (by decide)) T.b_Desk_part .nil pass0 (pa_cons (pv 2) (pa_cons (pv 3) pa_nil))))))), ?_⟩)
  · obtain ⟨d, la, rd, a, M, axs, H0, i, xs, n, m, rfl, _⟩ := h; rfl
  · obtain ⟨d, la, rd, a, M, axs, H0, i, xs, n, m, rfl, A0, hn, hm, k⟩ := h
    obtain ⟨dx, hrd⟩ := A0.rdr
    refine ⟨_, rfl, rd, dx, _, rfl, hrd, rdF_no a i (by decide +kernel) (by decide +kernel), rd, a, i, xs, _, rfl, A0.rdr, A0.now, hn, ?_⟩
    intro H1 r1 b1
    have A1 := A0.read r1 b1
    obtain ⟨dx1, hrd1⟩ := r1
    refine ⟨_, rfl, rd, dx1, _, rfl, hrd1, rdF_no a _ (by decide +kernel) (by decide +kernel), rd, a, i + 1, xs, _, rfl, A1.rdr, A1.now, hm, ?_⟩
    intro H2 r2 b2
    have A2 := A1.read r2 b2
    obtain ⟨dxd, hd⟩ := A2.desk.hd
    refine ⟨_, rfl, d, dxd, _, rfl, hd, dkF_no la (by decide +kernel), _, rfl, _, rfl, d, la, M, axs, n, m, rfl, A2.desk, k.desk (b1.trans b2) A2⟩
end
end AX
namespace AX
open PySem PySem.Spec PyProof.Rows L2
def rowI (l : List Nat) : List Int := (l.length : Int) :: intsOf l
theorem enc_begins : enc .begins = [0] := rfl
theorem enc_parts : enc .parts = [8] := rfl
theorem enc_drop (i : Nat) : enc (.drop i) = [2, (i : Int)] := rfl
theorem enc_quiet (i n r : Nat) : enc (.quiet i n r) = [4, (i : Int), (n : Int), (r : Int)] := rfl
theorem enc_part (n r : Nat) : enc (.part n r) = [5, (n : Int), (r : Int)] := rfl
theorem intsOf_length (l : List Nat) : (intsOf l).length = l.length := List.length_map _
theorem enc_line (l : List Nat) : enc (.line l) = 1 :: rowI l := by simp [enc, rawOf, PyFlat.put1, PyFlat.putRows, PyFlat.putRow, rowI, intsOf_length]
theorem enc_words (l : List Nat) : enc (.words l) = 3 :: rowI l := by simp [enc, rawOf, PyFlat.put1, PyFlat.putRows, PyFlat.putRow, rowI, intsOf_length]
theorem enc_under (l : List Nat) : enc (.under l) = 6 :: rowI l := by simp [enc, rawOf, PyFlat.put1, PyFlat.putRows, PyFlat.putRow, rowI, intsOf_length]
theorem enc_by (l : List Nat) : enc (.by_ l) = 7 :: rowI l := by simp [enc, rawOf, PyFlat.put1, PyFlat.putRows, PyFlat.putRow, rowI, intsOf_length]
theorem rowI_length (l : List Nat) : (rowI l).length = l.length + 1 := by show (intsOf l).length + 1 = _; rw [intsOf_length]
/-- what stands at i and behind it -/
theorem drop_at {xs : List V} {i : Nat} {L : List Int} (h : xs.drop i = L.map V.int) (k : Nat) : xs[i + k]? = (L.map V.int)[k]? := by rw [← h, List.getElem?_drop]
theorem row_at {xs : List V} {i : Nat} {p : Int} {l : List Nat} {rest : List Int} (h : xs.drop i = ((p :: rowI l) ++ rest).map V.int) : xs[i + 1]? = some (V.int (l.length : Nat)) ∧ i + 1 + 1 + l.length ≤ xs.length ∧ (xs.drop (i + 1 + 1)).take l.length = l.map natV := by
  have h1 := drop_at h 1
  have hl := congrArg List.length h
  rw [List.length_drop, List.length_map, List.length_append, List.length_cons, rowI_length] at hl
  refine ⟨h1, by omega, ?_⟩
  have h2 : xs.drop (i + 1 + 1) = (xs.drop i).drop 2 := by rw [List.drop_drop]
  rw [h2, h]
  show ((intsOf l ++ rest).map V.int).take l.length = _
  rw [List.map_append, List.take_append_of_le_length (by rw [List.length_map, intsOf_length]; exact Nat.le_refl _), List.take_of_length_le (by rw [List.length_map, intsOf_length]; exact Nat.le_refl _)]
  unfold intsOf; rw [List.map_map]; rfl
def sp_answer_next (K : PySem.W.Frag) (CD CC CR : Addr) : Sp := fun vs H Q _ => ∃ (d la rd a : Addr) (M : List Addr) (axs : List Oc.Axiom) (H0 : Hp) (i : Nat) (xs : List V) (c : Oc06.Call) (rest : List Int), vs = [.ref d, .ref rd] ∧ Ask K CD CC CR H0 H M d la rd a axs i xs ∧
  xs.drop i = (enc c ++ rest).map V.int ∧ InCall c ∧ AskDoes CD CC CR H M d la rd a (i + (enc c).length) (Oc06.step ⟨axs⟩ c) Q
section
variable {P : Program} {w : World} {K : PySem.W.Frag} {mg : Str → Option Value} {base : Heap}
theorem ok_answer_next (T : Txt K mg) : FnOk P w K mg base CX0 9 T.f_answer_next T.fd_answer_next ["desk", "reader"] (sp_answer_next K T.c_Desk T.c_Concepts T.c_Reader) := by
  refine T.F_answer_next.ok sc_answer_next (fun vs H Q E h => ?_) (fun cdv A outer s H vs Q E hr h => ⟨_, (pss_cons (ps_set (i := 2) sc_answer_next.nd rfl (Or.inl rfl) (pe_meth0 (pv 1) T.cl_Reader T.m_Reader_take_number (ok_Reader_take_number T) (hr.mono (by decide)) T.b_Reader_take_number .nil pass0))
    (pss_cons (ps_if (pt_cmpR op_eq (pv 2) (pe_globI rfl T.g_BEGINS) (nomark _))
    (pss_one (ps_ret (pe_meth0 (pv 0) T.cl_Desk T.m_Desk_begins (ok_Desk_begins T) (hr.mono (by decide)) T.b_Desk_begins .nil pass0)))
    pss_nil)
    (pss_cons (ps_if (pt_cmpR op_eq (pv 2) (pe_globI rfl T.g_LINE) (nomark _))
    (pss_one (ps_ret (pe_meth (pv 0) T.cl_Desk T.m_Desk_line (ok_Desk_line T) (hr.mono (by decide)) T.b_Desk_line .nil pass0 (pa_cons (pe_meth0 (pv 1) T.cl_Reader T.m_Reader_take_list (ok_Reader_take_list T) (hr.mono (by decide)) T.b_Reader_take_list .nil pass0) pa_nil))))
    pss_nil)
    (pss_cons (ps_if (pt_cmpR op_eq (pv 2) (pe_globI rfl T.g_DROP) (nomark _))
    (pss_one (ps_ret (pe_meth (pv 0) T.cl_Desk T.m_Desk_drop (ok_Desk_drop T) (hr.mono (by decide)) T.b_Desk_drop .nil pass0 (pa_cons (pe_meth0 (pv 1) T.cl_Reader T.m_Reader_take_number (ok_Reader_take_number T) (hr.mono (by decide)) T.b_Reader_take_number .nil pass0) pa_nil))))
    pss_nil)
    (pss_cons (ps_if (pt_cmpR op_eq (pv 2) (pe_globI rfl T.g_WORDS) (nomark _))
    (pss_one (ps_ret (pe_meth (pv 0) T.cl_Desk T.m_Desk_words (ok_Desk_words T) (hr.mono (by decide)) T.b_Desk_words .nil pass0 (pa_cons (pe_meth0 (pv 1) T.cl_Reader T.m_Reader_take_list (ok_Reader_take_list T) (hr.mono (by decide)) T.b_Reader_take_list .nil pass0) pa_nil))))
    pss_nil)
    (pss_cons (ps_if (pt_cmpR op_eq (pv 2) (pe_globI rfl T.g_QUIET) (nomark _))
    (pss_one (ps_ret (pe_call (ok_answer_quiet T) (hr.mono (by decide)) rfl T.g_answer_quiet T.F_answer_quiet.kp T.b_answer_quiet .nil pass0 (pa_cons (pv 0) (pa_cons (pv 1) pa_nil)))))
    pss_nil)
    (pss_cons (ps_if (pt_cmpR op_eq (pv 2) (pe_globI rfl T.g_PART) (nomark _))
    (pss_one (ps_ret (pe_call (ok_answer_part T) (hr.mono (by decide)) rfl T.g_answer_part T.F_answer_part.kp T.b_answer_part .nil pass0 (pa_cons (pv 0) (pa_cons (pv 1) pa_nil)))))
    pss_nil)
    (pss_cons (ps_if (pt_cmpR op_eq (pv 2) (pe_globI rfl T.g_UNDER) (nomark _))
    (pss_one (ps_ret (pe_meth (pv 0) T.cl_Desk T.m_Desk_under (ok_Desk_under T) (hr.mono (by decide)) T.b_Desk_under .nil pass0 (pa_cons (pe_meth0 (pv 1) T.cl_Reader T.m_Reader_take_list (ok_Reader_take_list T) (hr.mono (by decide)) T.b_Reader_take_list .nil pass0) pa_nil))))
    pss_nil)
    (pss_cons (ps_if (pt_cmpR op_eq (pv 2) (pe_globI rfl T.g_BY) (nomark _))
    (pss_one (ps_ret (pe_meth (pv 0) T.cl_Desk T.m_Desk_by (ok_Desk_by T) (hr.mono (by decide)) T.b_Desk_by .nil pass0 (pa_cons (pe_meth0 (pv 1) T.cl_Reader T.m_Reader_take_list (ok_Reader_take_list T) (hr.mono (by decide)) T.b_Reader_take_list .nil pass0) pa_nil))))
    pss_nil)
    (pss_one (ps_ret (pe_meth0 (pv 0) T.cl_Desk T.m_Desk_parts (ok_Desk_parts T) (hr.mono (by decide)) T.b_Desk_parts .nil pass0)))))))))))), ?_⟩)
  · obtain ⟨d, la, rd, a, M, axs, H0, i, xs, c, rest, rfl, _⟩ := h; rfl
  · obtain ⟨d, la, rd, a, M, axs, H0, i, xs, c, rest, rfl, A0, hx, hc, k⟩ := h
    obtain ⟨dx, hrd⟩ := A0.rdr
    have at0 := drop_at hx 0
    rw [Nat.add_zero] at at0
    cases c with
    | begins =>
      refine ⟨_, rfl, rd, dx, _, rfl, hrd, rdF_no a i (by decide +kernel) (by decide +kernel), rd, a, i, xs, _, rfl, A0.rdr, A0.now, at0, ?_⟩
      intro H1 r1 b1
      have A1 := A0.read r1 b1
      obtain ⟨dxd, hd⟩ := A1.desk.hd
      refine ⟨_, rfl, rfl, _, rfl, if_true_of rfl ?_⟩
      exact ⟨_, rfl, d, dxd, _, rfl, hd, dkF_no la (by decide +kernel), d, la, M, axs, rfl, A1.desk, k.desk b1 A1⟩
    | line l =>
      rw [enc_line] at hx at0 k
      obtain ⟨h1, h2, h3⟩ := row_at hx
      have ej : i + (1 :: rowI l).length = i + 1 + 1 + l.length := by rw [List.length_cons, rowI_length]; omega
      rw [ej] at k
      refine ⟨_, rfl, rd, dx, _, rfl, hrd, rdF_no a i (by decide +kernel) (by decide +kernel), rd, a, i, xs, _, rfl, A0.rdr, A0.now, at0, ?_⟩
      intro H1 r1 b1
      have A1 := A0.read r1 b1
      obtain ⟨dx1, hrd1⟩ := r1
      obtain ⟨dxd, hd⟩ := A1.desk.hd
      refine ⟨_, rfl, rfl, _, rfl, if_false_of rfl ?_⟩
      refine ⟨_, rfl, rfl, _, rfl, if_true_of rfl ?_⟩
      refine ⟨_, rfl, d, dxd, _, rfl, hd, dkF_no la (by decide +kernel), _, rfl, rd, dx1, _, rfl, hrd1, rdF_no a _ (by decide +kernel) (by decide +kernel), rd, a, i + 1, l.length, xs, rfl, A1.rdr, A1.now, A1.keeps, h1, h2, ?_⟩
      intro H2 q r2 b2 hq e2
      have A2 := A1.read r2 b2
      rw [h3] at e2
      have naM : q ∉ d :: la :: M := by
        simp only [List.mem_cons, not_or]
        refine ⟨fun z => ?_, fun z => ?_, fun hm => A1.desk.mM q hm hq⟩
        · rw [z, hd] at hq; cases hq
        · obtain ⟨as0, e0, _⟩ := A1.desk.ax
          rw [z, e0] at hq; cases hq
      exact ⟨d, la, q, M, axs, l, rfl, A2.desk, e2, naM, hc, k.desk (b1.trans b2) A2⟩
    | drop x =>
      have at1 := drop_at hx 1
      refine ⟨_, rfl, rd, dx, _, rfl, hrd, rdF_no a i (by decide +kernel) (by decide +kernel), rd, a, i, xs, _, rfl, A0.rdr, A0.now, at0, ?_⟩
      intro H1 r1 b1
      have A1 := A0.read r1 b1
      obtain ⟨dx1, hrd1⟩ := r1
      obtain ⟨dxd, hd⟩ := A1.desk.hd
      refine ⟨_, rfl, rfl, _, rfl, if_false_of rfl ?_⟩
      refine ⟨_, rfl, rfl, _, rfl, if_false_of rfl ?_⟩
      refine ⟨_, rfl, rfl, _, rfl, if_true_of rfl ?_⟩
      refine ⟨_, rfl, d, dxd, _, rfl, hd, dkF_no la (by decide +kernel), _, rfl, rd, dx1, _, rfl, hrd1, rdF_no a _ (by decide +kernel) (by decide +kernel), rd, a, i + 1, xs, _, rfl, A1.rdr, A1.now, at1, ?_⟩
      intro H2 r2 b2
      have A2 := A1.read r2 b2
      exact ⟨d, la, M, axs, x, rfl, A2.desk, hc, k.desk (b1.trans b2) A2⟩
    | words l =>
      rw [enc_words] at hx at0 k
      obtain ⟨h1, h2, h3⟩ := row_at hx
      have ej : i + (3 :: rowI l).length = i + 1 + 1 + l.length := by rw [List.length_cons, rowI_length]; omega
      rw [ej] at k
      refine ⟨_, rfl, rd, dx, _, rfl, hrd, rdF_no a i (by decide +kernel) (by decide +kernel), rd, a, i, xs, _, rfl, A0.rdr, A0.now, at0, ?_⟩
      intro H1 r1 b1
      have A1 := A0.read r1 b1
      obtain ⟨dx1, hrd1⟩ := r1
      obtain ⟨dxd, hd⟩ := A1.desk.hd
      refine ⟨_, rfl, rfl, _, rfl, if_false_of rfl ?_⟩
      refine ⟨_, rfl, rfl, _, rfl, if_false_of rfl ?_⟩
      refine ⟨_, rfl, rfl, _, rfl, if_false_of rfl ?_⟩
      refine ⟨_, rfl, rfl, _, rfl, if_true_of rfl ?_⟩
      refine ⟨_, rfl, d, dxd, _, rfl, hd, dkF_no la (by decide +kernel), _, rfl, rd, dx1, _, rfl, hrd1, rdF_no a _ (by decide +kernel) (by decide +kernel), rd, a, i + 1, l.length, xs, rfl, A1.rdr, A1.now, A1.keeps, h1, h2, ?_⟩
      intro H2 q r2 b2 hq e2
      have A2 := A1.read r2 b2
      rw [h3] at e2
      exact ⟨d, la, q, M, axs, l, rfl, A2.desk, SqL.of e2, hc, k.desk (b1.trans b2) A2⟩
    | quiet x n m =>
      have at1 := drop_at hx 1
      have at2 := drop_at hx 2
      have at3 := drop_at hx 3
      refine ⟨_, rfl, rd, dx, _, rfl, hrd, rdF_no a i (by decide +kernel) (by decide +kernel), rd, a, i, xs, _, rfl, A0.rdr, A0.now, at0, ?_⟩
      intro H1 r1 b1
      have A1 := A0.read r1 b1
      obtain ⟨dx1, hrd1⟩ := r1
      obtain ⟨dxd, hd⟩ := A1.desk.hd
      refine ⟨_, rfl, rfl, _, rfl, if_false_of rfl ?_⟩
      refine ⟨_, rfl, rfl, _, rfl, if_false_of rfl ?_⟩
      refine ⟨_, rfl, rfl, _, rfl, if_false_of rfl ?_⟩
      refine ⟨_, rfl, rfl, _, rfl, if_false_of rfl ?_⟩
      refine ⟨_, rfl, rfl, _, rfl, if_true_of rfl ?_⟩
      refine ⟨_, rfl, _, rfl, d, la, rd, a, M, axs, H0, i + 1, xs, x, n, m, rfl, A1, at1, at2, at3, ?_⟩
      intro H' la' p hD hla b2 hr hp hpv
      refine k H' la' p hD (hla.elim .inl fun z => .inr (none_of_but b1 z ?_)) ?_ ?_ (none_of_but b1 hp ?_) hpv
      · simp only [List.mem_singleton]; intro q; rw [q, hrd1] at z; cases z
      · exact (b1.mono (by simp)).trans b2
      · exact hr
      · simp only [List.mem_singleton]; intro q; rw [q, hrd1] at hp; cases hp
    | part n m =>
      have at1 := drop_at hx 1
      have at2 := drop_at hx 2
      refine ⟨_, rfl, rd, dx, _, rfl, hrd, rdF_no a i (by decide +kernel) (by decide +kernel), rd, a, i, xs, _, rfl, A0.rdr, A0.now, at0, ?_⟩
      intro H1 r1 b1
      have A1 := A0.read r1 b1
      obtain ⟨dx1, hrd1⟩ := r1
      obtain ⟨dxd, hd⟩ := A1.desk.hd
      refine ⟨_, rfl, rfl, _, rfl, if_false_of rfl ?_⟩
      refine ⟨_, rfl, rfl, _, rfl, if_false_of rfl ?_⟩
      refine ⟨_, rfl, rfl, _, rfl, if_false_of rfl ?_⟩
      refine ⟨_, rfl, rfl, _, rfl, if_false_of rfl ?_⟩
      refine ⟨_, rfl, rfl, _, rfl, if_false_of rfl ?_⟩
      refine ⟨_, rfl, rfl, _, rfl, if_true_of rfl ?_⟩
      refine ⟨_, rfl, _, rfl, d, la, rd, a, M, axs, H0, i + 1, xs, n, m, rfl, A1, at1, at2, ?_⟩
      intro H' la' p hD hla b2 hr hp hpv
      refine k H' la' p hD (hla.elim .inl fun z => .inr (none_of_but b1 z ?_)) ?_ ?_ (none_of_but b1 hp ?_) hpv
      · simp only [List.mem_singleton]; intro q; rw [q, hrd1] at z; cases z
      · exact (b1.mono (by simp)).trans b2
      · exact hr
      · simp only [List.mem_singleton]; intro q; rw [q, hrd1] at hp; cases hp
    | under l =>
      rw [enc_under] at hx at0 k
      obtain ⟨h1, h2, h3⟩ := row_at hx
      have ej : i + (6 :: rowI l).length = i + 1 + 1 + l.length := by rw [List.length_cons, rowI_length]; omega
      rw [ej] at k
      refine ⟨_, rfl, rd, dx, _, rfl, hrd, rdF_no a i (by decide +kernel) (by decide +kernel), rd, a, i, xs, _, rfl, A0.rdr, A0.now, at0, ?_⟩
      intro H1 r1 b1
      have A1 := A0.read r1 b1
      obtain ⟨dx1, hrd1⟩ := r1
      obtain ⟨dxd, hd⟩ := A1.desk.hd
      refine ⟨_, rfl, rfl, _, rfl, if_false_of rfl ?_⟩
      refine ⟨_, rfl, rfl, _, rfl, if_false_of rfl ?_⟩
      refine ⟨_, rfl, rfl, _, rfl, if_false_of rfl ?_⟩
      refine ⟨_, rfl, rfl, _, rfl, if_false_of rfl ?_⟩
      refine ⟨_, rfl, rfl, _, rfl, if_false_of rfl ?_⟩
      refine ⟨_, rfl, rfl, _, rfl, if_false_of rfl ?_⟩
      refine ⟨_, rfl, rfl, _, rfl, if_true_of rfl ?_⟩
      refine ⟨_, rfl, d, dxd, _, rfl, hd, dkF_no la (by decide +kernel), _, rfl, rd, dx1, _, rfl, hrd1, rdF_no a _ (by decide +kernel) (by decide +kernel), rd, a, i + 1, l.length, xs, rfl, A1.rdr, A1.now, A1.keeps, h1, h2, ?_⟩
      intro H2 q r2 b2 hq e2
      have A2 := A1.read r2 b2
      rw [h3] at e2
      exact ⟨d, la, q, M, axs, l, rfl, A2.desk, e2, hc, k.desk (b1.trans b2) A2⟩
    | by_ l =>
      rw [enc_by] at hx at0 k
      obtain ⟨h1, h2, h3⟩ := row_at hx
      have ej : i + (7 :: rowI l).length = i + 1 + 1 + l.length := by rw [List.length_cons, rowI_length]; omega
      rw [ej] at k
      refine ⟨_, rfl, rd, dx, _, rfl, hrd, rdF_no a i (by decide +kernel) (by decide +kernel), rd, a, i, xs, _, rfl, A0.rdr, A0.now, at0, ?_⟩
      intro H1 r1 b1
      have A1 := A0.read r1 b1
      obtain ⟨dx1, hrd1⟩ := r1
      obtain ⟨dxd, hd⟩ := A1.desk.hd
      refine ⟨_, rfl, rfl, _, rfl, if_false_of rfl ?_⟩
      refine ⟨_, rfl, rfl, _, rfl, if_false_of rfl ?_⟩
      refine ⟨_, rfl, rfl, _, rfl, if_false_of rfl ?_⟩
      refine ⟨_, rfl, rfl, _, rfl, if_false_of rfl ?_⟩
      refine ⟨_, rfl, rfl, _, rfl, if_false_of rfl ?_⟩
      refine ⟨_, rfl, rfl, _, rfl, if_false_of rfl ?_⟩
      refine ⟨_, rfl, rfl, _, rfl, if_false_of rfl ?_⟩
      refine ⟨_, rfl, rfl, _, rfl, if_true_of rfl ?_⟩
      refine ⟨_, rfl, d, dxd, _, rfl, hd, dkF_no la (by decide +kernel), _, rfl, rd, dx1, _, rfl, hrd1, rdF_no a _ (by decide +kernel) (by decide +kernel), rd, a, i + 1, l.length, xs, rfl, A1.rdr, A1.now, A1.keeps, h1, h2, ?_⟩
      intro H2 q r2 b2 hq e2
      have A2 := A1.read r2 b2
      rw [h3] at e2
      exact ⟨d, la, q, M, axs, l, rfl, A2.desk, e2, hc, k.desk (b1.trans b2) A2⟩
    | parts =>
      refine ⟨_, rfl, rd, dx, _, rfl, hrd, rdF_no a i (by decide +kernel) (by decide +kernel), rd, a, i, xs, _, rfl, A0.rdr, A0.now, at0, ?_⟩
      intro H1 r1 b1
      have A1 := A0.read r1 b1
      obtain ⟨dxd, hd⟩ := A1.desk.hd
      refine ⟨_, rfl, rfl, _, rfl, if_false_of rfl ?_⟩
      refine ⟨_, rfl, rfl, _, rfl, if_false_of rfl ?_⟩
      refine ⟨_, rfl, rfl, _, rfl, if_false_of rfl ?_⟩
      refine ⟨_, rfl, rfl, _, rfl, if_false_of rfl ?_⟩
      refine ⟨_, rfl, rfl, _, rfl, if_false_of rfl ?_⟩
      refine ⟨_, rfl, rfl, _, rfl, if_false_of rfl ?_⟩
      refine ⟨_, rfl, rfl, _, rfl, if_false_of rfl ?_⟩
      refine ⟨_, rfl, rfl, _, rfl, if_false_of rfl ?_⟩
      exact ⟨_, rfl, d, dxd, _, rfl, hd, dkF_no la (by decide +kernel), d, la, M, axs, rfl, A1.desk, k.desk b1 A1⟩
end
end AX
namespace AX
open PySem PySem.Spec PyProof.Rows L2
theorem encs_split {cs : List Oc06.Call} {j : Nat} {c : Oc06.Call} (h : cs[j]? = some c) : encs cs = encs (cs.take j) ++ (enc c ++ encs (cs.drop (j + 1))) := by
  have e : cs = cs.take j ++ c :: cs.drop (j + 1) := by
    obtain ⟨hj, e⟩ := List.getElem?_eq_some_iff.mp h
    rw [← e, ← List.drop_eq_getElem_cons hj, List.take_append_drop]
  conv => lhs; rw [e]
  unfold encs
  rw [List.flatMap_append, List.flatMap_cons]
theorem encs_more {cs : List Oc06.Call} {j : Nat} {c : Oc06.Call} (h : cs[j]? = some c) : (encs (cs.take (j + 1))).length = (encs (cs.take j)).length + (enc c).length := by
  unfold encs
  rw [take_snoc h, List.flatMap_append, List.length_append]; simp
theorem enc_pos (c : Oc06.Call) : 0 < (enc c).length := by
  cases c <;> simp [enc, rawOf, PyFlat.put1]
theorem told_more (l : List (List Int)) (a : List Int) : PyFlat.told (l ++ [a]) = PyFlat.told l ++ [(a.length : Int)] ++ a := by
  unfold PyFlat.told
  rw [List.flatMap_append]; simp
theorem outs_sum (cs : List Oc06.Call) (s : Oc06.House) (j : Nat) : ((outs s (cs.take j)).map List.length).sum ≤ ((outs s cs).map List.length).sum := by
  induction cs generalizing s j with
  | nil => simp [outs]
  | cons c cs ih =>
    cases j with
    | zero => simp [outs]
    | succ j =>
      show _ + ((outs _ (cs.take j)).map List.length).sum ≤ _ + ((outs _ cs).map List.length).sum
      exact Nat.add_le_add_left (ih _ j) _
def sp_answers (K : PySem.W.Frag) : Sp := fun vs H Q _ => ∃ (a : Addr) (cs : List Oc06.Call), vs = [.ref a] ∧ SqL K H a ((encs cs).map V.int) ∧ (∀ c ∈ cs, InCall c) ∧ cs.length ≤ 60 ∧ ((outs Oc06.init cs).map List.length).sum ≤ 1000000 ∧
  ∀ (H' : Hp) (p : Addr), H' p = some (.lst ((PyFlat.told (outs Oc06.init cs)).map V.int)) → Q (.ref p) H'
section
variable {P : Program} {w : World} {K : PySem.W.Frag} {mg : Str → Option Value} {base : Heap}
theorem ok_answers (T : Txt K mg) : FnOk P w K mg base CX0 10 T.f_answers T.fd_answers ["calls"] (sp_answers K) := by
  refine T.F_answers.ok sc_answers (fun vs H Q E h => ?_) (fun cdv A outer s H vs Q E hr h => ⟨_, (pss_cons (ps_set (i := 1) sc_answers.nd rfl (Or.inl rfl) (pe_make0 T.mk_Desk (ok_Desk_init T) (hr.mono (by decide)) rfl T.g_Desk T.b_Desk_init .nil pass0))
    (pss_cons (ps_set (i := 2) sc_answers.nd rfl (Or.inl rfl) (pe_make T.mk_Reader (ok_Reader_init T) (hr.mono (by decide)) rfl T.g_Reader T.b_Reader_init .nil pass0 (pa_cons (pv 0) pa_nil)))
    (pss_cons (ps_set (i := 3) sc_answers.nd rfl (Or.inl rfl) (pe_lst pa_nil))
    (pss_cons (ps_while PassesOwn.never (pt_val (pe_meth0 (pv 2) T.cl_Reader T.m_Reader_has_more (ok_Reader_has_more T) (hr.mono (by decide)) T.b_Reader_has_more .nil pass0))
    (pss_cons (ps_set (i := 4) sc_answers.nd rfl (Or.inl rfl) (pe_call (ok_answer_next T) (hr.mono (by decide)) rfl T.g_answer_next T.F_answer_next.kp T.b_answer_next .nil pass0 (pa_cons (pv 1) (pa_cons (pv 2) pa_nil))))
    (pss_cons (ps_expr (pe_bm PySem.F.plainAttrs_list PySem.F.slot_list_append PySem.F.type_list_append mt_append (pv 3) (pa_cons (pe_callB call_len_seq (by rfl) T.no_len PySem.boot_len (pa_cons (pv 4) pa_nil)) pa_nil)))
    (pss_one (ps_expr (pe_bm PySem.F.plainAttrs_list PySem.F.slot_list_extend PySem.F.type_list_extend mt_extend (pv 3) (pa_cons (pv 4) pa_nil)))))))
    (pss_one (ps_ret (pv 3))))))), ?_⟩)
  · obtain ⟨a, cs, rfl, _⟩ := h; rfl
  · obtain ⟨a, cs, rfl, hS, hin, h60, hsum, k⟩ := h
    intro d dxd nd0 ndd ned
    refine ⟨d, dxd, rfl, upd_same, fun H1 la hd1 hla0 hla1 ndl b1 => ⟨rfl, ?_⟩⟩
    have s1 : Same H H1 := Same.made nd0 ndd fun b o e hb => b1 b o e (by simpa using hb)
    have nla : H la = none := by
      cases e : H la with
      | none => rfl
      | some o => rw [upd_ne ndl.symm, upd_ne (fun z => by rw [z, ndd] at e; cases e)] at hla0; rw [hla0] at e; cases e
    refine ⟨_, rfl, ?_⟩
    intro rd dxr nrd nrr ner
    refine ⟨rd, dxr, a, rfl, upd_same, fun H2 hr2 b2 => ⟨rfl, ?_⟩⟩
    have s2 : Same H1 H2 := Same.made nrd nrr fun b o e hb => b2 b o e (by simpa using hb)
    obtain ⟨dxd1, hd1⟩ := hd1
    have hd2 := s2 _ _ hd1
    have hl2 := s2 _ _ hla1
    refine ⟨Nat.zero_le _, fun g hg => ?_⟩
    have s3 : Same H2 (upd H2 g (.lst [])) := Same.upd hg
    obtain ⟨dxr2, hr2⟩ := hr2
    have ndr : d ≠ rd := fun z => by rw [← z, hd1] at nrd; cases nrd
    have nlr : la ≠ rd := fun z => by rw [← z, hla1] at nrd; cases nrd
    have ndg : d ≠ g := fun z => by rw [← z, hd2] at hg; cases hg
    have nlg : la ≠ g := fun z => by rw [← z, hl2] at hg; cases hg
    have nrg : rd ≠ g := fun z => by rw [← z, hr2] at hg; cases hg
    have s03 : Same H (upd H2 g (.lst [])) := (s1.trans s2).trans s3
    have nrd0 : H rd = none := s1.free nrd
    have ng0 : H g = none := (s1.trans s2).free hg
    refine ⟨fun m σ H' => ∃ (la : Addr) (v4 : Option V) (j : Nat), σ = [some (.ref a), some (.ref d), some (.ref rd), some (.ref g), v4] ∧ m = cs.length - j ∧ j ≤ cs.length ∧
        Ask K T.c_Desk T.c_Concepts T.c_Reader H H' [rd, g] d la rd a (after Oc06.init (cs.take j)).axioms (encs (cs.take j)).length ((encs cs).map V.int) ∧ H la = none ∧
        H' g = some (.lst ((PyFlat.told (outs Oc06.init (cs.take j))).map V.int)),
      ⟨_, la, none, 0, rfl, rfl, Nat.zero_le _, ⟨⟨⟨dxd1, s3 _ _ hd2⟩, ⟨[], s3 _ _ hl2, rfl, fun i t ax e => by simp at e⟩, ndl, ?_, ?_, ?_, ?_, ?_⟩, by simp, ⟨dxr2, s3 _ _ hr2⟩, s03, nrd0, hS⟩, nla, upd_same⟩, ?_⟩
    · simp only [List.mem_cons, List.not_mem_nil, or_false, not_or]; exact ⟨ndr, ndg⟩
    · simp only [List.mem_cons, List.not_mem_nil, or_false, not_or]; exact ⟨nlr, nlg⟩
    · intro x hx; simp [after, Oc06.init] at hx
    · simp [after, Oc06.init]
    · intro m hm z
      simp only [List.mem_cons, List.not_mem_nil, or_false] at hm
      rcases hm with rfl | rfl
      · rw [s3 _ _ hr2] at z; cases z
      · rw [upd_same] at z; cases z
    · rintro m σ H' ⟨la, v4, j, rfl, rfl, hj, A0, nla, hg'⟩
      obtain ⟨dx, hrd⟩ := A0.rdr
      refine ⟨_, rfl, rd, dx, _, rfl, hrd, rdF_no a _ (by decide +kernel) (by decide +kernel), rd, a, _, _, rfl, A0.rdr, A0.now, _, rfl, ?_⟩
      rw [List.length_map]
      by_cases c : j < cs.length
      · have hc : cs[j]? = some cs[j] := List.getElem?_eq_getElem c
        generalize cs[j] = x at hc
        have hs := encs_split hc
        have lt : (encs (cs.take j)).length < (encs cs).length := by
          rw [hs, List.length_append, List.length_append]
          have := enc_pos x
          omega
        refine if_true_of (decide_eq_true (by omega)) ⟨_, fun σ' H' h => h, ?_⟩
        have hx : ((encs cs).map V.int).drop (encs (cs.take j)).length = (enc x ++ encs (cs.drop (j + 1))).map V.int := by
          rw [← List.map_drop, hs, List.drop_left]
        refine ⟨_, rfl, _, rfl, d, la, rd, a, [rd, g], _, H, _, _, x, _, rfl, A0, hx, hin x (List.mem_of_getElem? hc), ?_⟩
        intro H4 la4 p hD hla4 b4 hr4 hp hpv
        have ngm : g ∉ [d, la, rd] := by
          simp only [List.mem_cons, List.not_mem_nil, or_false, not_or]
          exact ⟨fun z => A0.desk.dM (by simp [z]), fun z => A0.desk.lM (by simp [z]), nrg.symm⟩
        have hg4 := b4 _ _ hg' ngm
        have npg : p ≠ g := fun z => by rw [z, hg'] at hp; cases hp
        have s4 : Same H H4 := fun b o e => b4 b o (A0.s0 b o e) (by
          simp only [List.mem_cons, List.not_mem_nil, or_false, not_or]
          refine ⟨fun z => ?_, fun z => ?_, fun z => ?_⟩
          · rw [z, nd0] at e; cases e
          · rw [z, nla] at e; cases e
          · rw [z, nrd0] at e; cases e)
        have A4 : Ask K T.c_Desk T.c_Concepts T.c_Reader H H4 [rd, g] d la4 rd a (after Oc06.init (cs.take (j + 1))).axioms (encs (cs.take (j + 1))).length ((encs cs).map V.int) := by
          rw [after_more _ hc, encs_more hc]
          exact ⟨hD, by simp, hr4, s4, nrd0, hS⟩
        have more : PyFlat.told (outs Oc06.init (cs.take (j + 1))) = PyFlat.told (outs Oc06.init (cs.take j)) ++ [((Oc06Neutral.out (Oc06.step (after Oc06.init (cs.take j)) x).2).length : Int)] ++ Oc06Neutral.out (Oc06.step (after Oc06.init (cs.take j)) x).2 := by
          rw [outs_more _ hc, told_more]
        have size : (PyFlat.told (outs Oc06.init (cs.take (j + 1)))).length ≤ 1000060 := by
          rw [told_length, outs_length, List.length_take]
          have := outs_sum cs Oc06.init (j + 1)
          omega
        have hpv : H4 p = some (.lst ((Oc06Neutral.out (Oc06.step (after Oc06.init (cs.take j)) x).2).map V.int)) := hpv
        generalize Oc06Neutral.out (Oc06.step (after Oc06.init (cs.take j)) x).2 = ans at hpv more
        rw [more] at size
        generalize PyFlat.told (outs Oc06.init (cs.take j)) = told at hg4 more size
        rw [List.length_append, List.length_append] at size
        simp only [List.length_cons, List.length_nil] at size
        refine ⟨_, rfl, .inl ⟨rfl, _, SqL.of hg4⟩, _, rfl, p, _, rfl, .inl (SqL.of hpv), g, _, _, rfl, rfl, hg4, ?_, ?_⟩
        · rw [List.length_map]; exact Nat.lt_of_le_of_lt (show told.length ≤ 1000060 by omega) (by decide)
        refine ⟨_, rfl, .inl ⟨rfl, _, SqL.of upd_same⟩, _, rfl, g, p, _, _, rfl, rfl, upd_same, (upd_ne npg).trans hpv, ?_, ?_⟩
        · simp only [List.length_append, List.length_map]
          simp only [List.length_cons, List.length_nil]
          exact Nat.le_trans (show told.length + (0 + 1) + ans.length ≤ 1000060 by omega) (by decide)
        rw [upd_upd]
        obtain ⟨dx4, hr4⟩ := hr4
        have bg : But [g] H4 (upd H4 g (.lst (told.map V.int ++ [V.int ((ans.map V.int).length : Nat)] ++ ans.map V.int))) := But.upd (by simp)
        refine ⟨cs.length - (j + 1), by omega, la4, _, j + 1, rfl, rfl, c, ⟨A4.desk.move bg (by simp) ?_, A4.inM, ⟨dx4, ?_⟩, fun b o e => ?_, A4.n0, hS⟩, ?_, ?_⟩
        · intro n hn z
          rw [List.mem_singleton] at hn; subst hn
          rw [upd_same] at z; cases z
        · rw [upd_ne nrg, hr4, encs_more hc]
        · rw [upd_ne (fun z => by rw [z, ng0] at e; cases e)]; exact s4 b o e
        · rcases hla4 with z | z
          · rw [z]; exact nla
          · exact A0.s0.free z
        · rw [upd_same, more]
          simp [List.length_map]
      · have ej : j = cs.length := by omega
        subst ej
        rw [List.take_length] at *
        refine if_false_of (decide_eq_false (by omega)) ?_
        exact ⟨_, rfl, k H' g hg'⟩
end
end AX
namespace AX
open PySem PySem.Spec PyProof.Rows L2
theorem sqT_lit {K : PySem.W.Frag} {H : Hp} {a : Addr} {od : Option Addr} {its : Array Value} {n : Nat} {sl : Array (Option Value)} {xs : List V} (l : K.lookup a = some ⟨.type "tuple", od, .seq its n, sl⟩) (hz : its.size ≤ sizeLine) (hv : Vals xs its.toList) : SqT K H a xs := .inr ⟨_, its, n, l, rfl, rfl, hz, hv⟩
theorem all_mk {P : Program} {w : World} {K : PySem.W.Frag} {h : Heap} {mg : Str → Option Value} {fa : Addr} (X : K.In h) (G : h.Ns mainGlobals mg) (hfa : mg "answers" = some (.ref fa))
    {C_Concepts C_Profile C_Module C_Reader C_Desk f_Concepts_init f_Concepts_atom_count f_Concepts_used_names f_Concepts_used_roles f_marks_of f_read_symbols f_row_of f_read_concepts f_read_together f_Profile_init f_Profile_keeps f_restrictions f_made_truth f_choices f_all_profiles f_served f_is_supported f_lasting_profiles f_keep_all f_follows f_is_local f_is_subsumed f_Module_init f_Module_listed f_module_for f_Reader_init f_Reader_has_more f_Reader_take_number f_Reader_take_list f_Desk_init f_Desk_module_of f_Desk_begins f_Desk_line f_Desk_drop f_Desk_words f_Desk_quiet f_Desk_part f_Desk_under f_Desk_by f_Desk_parts f_answer_quiet f_answer_part f_answer_next f_answers a_MARKS a_INNER : Addr}
    {od0 an0 od1 an1 od2 an2 od3 an3 od4 an4 od5 an5 od6 an6 od7 an7 od8 an8 od9 an9 od10 an10 od11 an11 od12 an12 od13 an13 od14 an14 od15 an15 od16 an16 od17 an17 od18 an18 od19 an19 od20 an20 od21 an21 od22 an22 od23 an23 od24 an24 od25 an25 od26 an26 od27 an27 od28 an28 od29 an29 od30 an30 od31 an31 od32 an32 od33 an33 od34 an34 od35 an35 od36 an36 od37 an37 od38 an38 od39 an39 od40 an40 od41 an41 od42 an42 od43 an43 td_MARKS td_INNER : Option Addr} {sl0 sl1 sl2 sl3 sl4 sl5 sl6 sl7 sl8 sl9 sl10 sl11 sl12 sl13 sl14 sl15 sl16 sl17 sl18 sl19 sl20 sl21 sl22 sl23 sl24 sl25 sl26 sl27 sl28 sl29 sl30 sl31 sl32 sl33 sl34 sl35 sl36 sl37 sl38 sl39 sl40 sl41 sl42 sl43 ts_MARKS ts_INNER : Array (Option Value)}
    {oc0 kV0 dc0 pm0 cd0 ct0 oc1 kV1 dc1 pm1 cd1 ct1 oc2 kV2 dc2 pm2 cd2 ct2 oc3 kV3 dc3 pm3 cd3 ct3 oc4 kV4 dc4 pm4 cd4 ct4 oc5 kV5 dc5 pm5 cd5 ct5 oc6 kV6 dc6 pm6 cd6 ct6 oc7 kV7 dc7 pm7 cd7 ct7 oc8 kV8 dc8 pm8 cd8 ct8 oc9 kV9 dc9 pm9 cd9 ct9 oc10 kV10 dc10 pm10 cd10 ct10 oc11 kV11 dc11 pm11 cd11 ct11 oc12 kV12 dc12 pm12 cd12 ct12 oc13 kV13 dc13 pm13 cd13 ct13 oc14 kV14 dc14 pm14 cd14 ct14 oc15 kV15 dc15 pm15 cd15 ct15 oc16 kV16 dc16 pm16 cd16 ct16 oc17 kV17 dc17 pm17 cd17 ct17 oc18 kV18 dc18 pm18 cd18 ct18 oc19 kV19 dc19 pm19 cd19 ct19 oc20 kV20 dc20 pm20 cd20 ct20 oc21 kV21 dc21 pm21 cd21 ct21 oc22 kV22 dc22 pm22 cd22 ct22 oc23 kV23 dc23 pm23 cd23 ct23 oc24 kV24 dc24 pm24 cd24 ct24 oc25 kV25 dc25 pm25 cd25 ct25 oc26 kV26 dc26 pm26 cd26 ct26 oc27 kV27 dc27 pm27 cd27 ct27 oc28 kV28 dc28 pm28 cd28 ct28 oc29 kV29 dc29 pm29 cd29 ct29 oc30 kV30 dc30 pm30 cd30 ct30 oc31 kV31 dc31 pm31 cd31 ct31 oc32 kV32 dc32 pm32 cd32 ct32 oc33 kV33 dc33 pm33 cd33 ct33 oc34 kV34 dc34 pm34 cd34 ct34 oc35 kV35 dc35 pm35 cd35 ct35 oc36 kV36 dc36 pm36 cd36 ct36 oc37 kV37 dc37 pm37 cd37 ct37 oc38 kV38 dc38 pm38 cd38 ct38 oc39 kV39 dc39 pm39 cd39 ct39 oc40 kV40 dc40 pm40 cd40 ct40 oc41 kV41 dc41 pm41 cd41 ct41 oc42 kV42 dc42 pm42 cd42 ct42 oc43 kV43 dc43 pm43 cd43 ct43 : Value}
    {t_ALL t_NAME t_BOTH t_EITHER t_LACK t_SOME t_EVERY t_MARKS_0 t_MARKS_1 t_MARKS_2 t_MARKS_3 t_MARKS_4 t_MARKS_5 t_MARKS_6 t_MARKS_7 t_INNER_0 t_INNER_1 t_INNER_2 t_INNER_3 t_INNER_4 t_INNER_5 t_INNER_6 t_INNER_7 t_BEGINS t_LINE t_DROP t_WORDS t_QUIET t_PART t_UNDER t_BY t_MALFORMED t_NO_SUCH_AXIOM t_TOO_MUCH t_MOST_AXIOMS t_MOST_ATOMS t_MOST_ATOMS_UNDER t_NAMES t_NAME_SETS t_ROLE_SETS : Tok} {tn_MARKS tn_INNER : Nat}
    (g_Concepts : PySem.W.nsIn K mainGlobals "Concepts" = some (some (.ref C_Concepts)))
    (pg_Concepts : PySem.W.plainGet K C_Concepts Str.empty = true)
    (hd_Concepts : PySem.W.hasDictIn K C_Concepts = true)
    (po_Concepts : PySem.W.plainOver K C_Concepts = true)
    (sa_Concepts : PySem.W.findIn K (.ref C_Concepts) "__setattr__" = some (some (.builtin "object.__setattr__")))
    (mk_Concepts : PySem.W.makesIn K C_Concepts = true)
    (kc_Concepts : PySem.W.keepIn K (.ref C_Concepts) = true)
    (n_Concepts_numbers : PySem.W.findIn K (.ref C_Concepts) "numbers" = some none)
    (n_Concepts_rows : PySem.W.findIn K (.ref C_Concepts) "rows" = some none)
    (n_Concepts_tops : PySem.W.findIn K (.ref C_Concepts) "tops" = some none)
    (g_Profile : PySem.W.nsIn K mainGlobals "Profile" = some (some (.ref C_Profile)))
    (pg_Profile : PySem.W.plainGet K C_Profile Str.empty = true)
    (hd_Profile : PySem.W.hasDictIn K C_Profile = true)
    (po_Profile : PySem.W.plainOver K C_Profile = true)
    (sa_Profile : PySem.W.findIn K (.ref C_Profile) "__setattr__" = some (some (.builtin "object.__setattr__")))
    (mk_Profile : PySem.W.makesIn K C_Profile = true)
    (kc_Profile : PySem.W.keepIn K (.ref C_Profile) = true)
    (n_Profile_truths : PySem.W.findIn K (.ref C_Profile) "truths" = some none)
    (n_Profile_needs : PySem.W.findIn K (.ref C_Profile) "needs" = some none)
    (n_Profile_serves : PySem.W.findIn K (.ref C_Profile) "serves" = some none)
    (g_Module : PySem.W.nsIn K mainGlobals "Module" = some (some (.ref C_Module)))
    (pg_Module : PySem.W.plainGet K C_Module Str.empty = true)
    (hd_Module : PySem.W.hasDictIn K C_Module = true)
    (po_Module : PySem.W.plainOver K C_Module = true)
    (sa_Module : PySem.W.findIn K (.ref C_Module) "__setattr__" = some (some (.builtin "object.__setattr__")))
    (mk_Module : PySem.W.makesIn K C_Module = true)
    (kc_Module : PySem.W.keepIn K (.ref C_Module) = true)
    (n_Module_indexes : PySem.W.findIn K (.ref C_Module) "indexes" = some none)
    (n_Module_names : PySem.W.findIn K (.ref C_Module) "names" = some none)
    (n_Module_roles : PySem.W.findIn K (.ref C_Module) "roles" = some none)
    (g_Reader : PySem.W.nsIn K mainGlobals "Reader" = some (some (.ref C_Reader)))
    (pg_Reader : PySem.W.plainGet K C_Reader Str.empty = true)
    (hd_Reader : PySem.W.hasDictIn K C_Reader = true)
    (po_Reader : PySem.W.plainOver K C_Reader = true)
    (sa_Reader : PySem.W.findIn K (.ref C_Reader) "__setattr__" = some (some (.builtin "object.__setattr__")))
    (mk_Reader : PySem.W.makesIn K C_Reader = true)
    (kc_Reader : PySem.W.keepIn K (.ref C_Reader) = true)
    (n_Reader_numbers : PySem.W.findIn K (.ref C_Reader) "numbers" = some none)
    (n_Reader_at : PySem.W.findIn K (.ref C_Reader) "at" = some none)
    (g_Desk : PySem.W.nsIn K mainGlobals "Desk" = some (some (.ref C_Desk)))
    (pg_Desk : PySem.W.plainGet K C_Desk Str.empty = true)
    (hd_Desk : PySem.W.hasDictIn K C_Desk = true)
    (po_Desk : PySem.W.plainOver K C_Desk = true)
    (sa_Desk : PySem.W.findIn K (.ref C_Desk) "__setattr__" = some (some (.builtin "object.__setattr__")))
    (mk_Desk : PySem.W.makesIn K C_Desk = true)
    (kc_Desk : PySem.W.keepIn K (.ref C_Desk) = true)
    (n_Desk_axioms : PySem.W.findIn K (.ref C_Desk) "axioms" = some none)
    (i1_Concepts_init : PySem.W.findIn K (.ref C_Concepts) "__init__" = some (some (.ref f_Concepts_init)))
    (i2_Concepts_init : PySem.W.isFn K (.ref f_Concepts_init) = true)
    (l_Concepts_init : K.lookup f_Concepts_init = some ⟨oc0, od0, .func (PySem.W.fnOf "__init__" "Concepts.__init__" (defArgs s_Concepts_init) (defBody s_Concepts_init) (defScope s_Concepts_init) .none kV0 dc0 pm0 an0 cd0 ct0), sl0⟩)
    (c_Concepts_init : PySem.W.codeIn K cd0 "Concepts.__init__" = true)
    (k_Concepts_init : PySem.W.keepIn K (.ref f_Concepts_init) = true)
    (i1_Concepts_atom_count : PySem.W.findIn K (.ref C_Concepts) "atom_count" = some (some (.ref f_Concepts_atom_count)))
    (i2_Concepts_atom_count : PySem.W.isFn K (.ref f_Concepts_atom_count) = true)
    (l_Concepts_atom_count : K.lookup f_Concepts_atom_count = some ⟨oc1, od1, .func (PySem.W.fnOf "atom_count" "Concepts.atom_count" (defArgs s_Concepts_atom_count) (defBody s_Concepts_atom_count) (defScope s_Concepts_atom_count) .none kV1 dc1 pm1 an1 cd1 ct1), sl1⟩)
    (c_Concepts_atom_count : PySem.W.codeIn K cd1 "Concepts.atom_count" = true)
    (k_Concepts_atom_count : PySem.W.keepIn K (.ref f_Concepts_atom_count) = true)
    (i1_Concepts_used_names : PySem.W.findIn K (.ref C_Concepts) "used_names" = some (some (.ref f_Concepts_used_names)))
    (i2_Concepts_used_names : PySem.W.isFn K (.ref f_Concepts_used_names) = true)
    (l_Concepts_used_names : K.lookup f_Concepts_used_names = some ⟨oc2, od2, .func (PySem.W.fnOf "used_names" "Concepts.used_names" (defArgs s_Concepts_used_names) (defBody s_Concepts_used_names) (defScope s_Concepts_used_names) .none kV2 dc2 pm2 an2 cd2 ct2), sl2⟩)
    (c_Concepts_used_names : PySem.W.codeIn K cd2 "Concepts.used_names" = true)
    (k_Concepts_used_names : PySem.W.keepIn K (.ref f_Concepts_used_names) = true)
    (i1_Concepts_used_roles : PySem.W.findIn K (.ref C_Concepts) "used_roles" = some (some (.ref f_Concepts_used_roles)))
    (i2_Concepts_used_roles : PySem.W.isFn K (.ref f_Concepts_used_roles) = true)
    (l_Concepts_used_roles : K.lookup f_Concepts_used_roles = some ⟨oc3, od3, .func (PySem.W.fnOf "used_roles" "Concepts.used_roles" (defArgs s_Concepts_used_roles) (defBody s_Concepts_used_roles) (defScope s_Concepts_used_roles) .none kV3 dc3 pm3 an3 cd3 ct3), sl3⟩)
    (c_Concepts_used_roles : PySem.W.codeIn K cd3 "Concepts.used_roles" = true)
    (k_Concepts_used_roles : PySem.W.keepIn K (.ref f_Concepts_used_roles) = true)
    (g_marks_of : PySem.W.nsIn K mainGlobals "marks_of" = some (some (.ref f_marks_of)))
    (l_marks_of : K.lookup f_marks_of = some ⟨oc4, od4, .func (PySem.W.fnOf "marks_of" "marks_of" (defArgs s_marks_of) (defBody s_marks_of) (defScope s_marks_of) .none kV4 dc4 pm4 an4 cd4 ct4), sl4⟩)
    (c_marks_of : PySem.W.codeIn K cd4 "marks_of" = true)
    (k_marks_of : PySem.W.keepIn K (.ref f_marks_of) = true)
    (g_read_symbols : PySem.W.nsIn K mainGlobals "read_symbols" = some (some (.ref f_read_symbols)))
    (l_read_symbols : K.lookup f_read_symbols = some ⟨oc5, od5, .func (PySem.W.fnOf "read_symbols" "read_symbols" (defArgs s_read_symbols) (defBody s_read_symbols) (defScope s_read_symbols) .none kV5 dc5 pm5 an5 cd5 ct5), sl5⟩)
    (c_read_symbols : PySem.W.codeIn K cd5 "read_symbols" = true)
    (k_read_symbols : PySem.W.keepIn K (.ref f_read_symbols) = true)
    (g_row_of : PySem.W.nsIn K mainGlobals "row_of" = some (some (.ref f_row_of)))
    (l_row_of : K.lookup f_row_of = some ⟨oc6, od6, .func (PySem.W.fnOf "row_of" "row_of" (defArgs s_row_of) (defBody s_row_of) (defScope s_row_of) .none kV6 dc6 pm6 an6 cd6 ct6), sl6⟩)
    (c_row_of : PySem.W.codeIn K cd6 "row_of" = true)
    (k_row_of : PySem.W.keepIn K (.ref f_row_of) = true)
    (g_read_concepts : PySem.W.nsIn K mainGlobals "read_concepts" = some (some (.ref f_read_concepts)))
    (l_read_concepts : K.lookup f_read_concepts = some ⟨oc7, od7, .func (PySem.W.fnOf "read_concepts" "read_concepts" (defArgs s_read_concepts) (defBody s_read_concepts) (defScope s_read_concepts) .none kV7 dc7 pm7 an7 cd7 ct7), sl7⟩)
    (c_read_concepts : PySem.W.codeIn K cd7 "read_concepts" = true)
    (k_read_concepts : PySem.W.keepIn K (.ref f_read_concepts) = true)
    (g_read_together : PySem.W.nsIn K mainGlobals "read_together" = some (some (.ref f_read_together)))
    (l_read_together : K.lookup f_read_together = some ⟨oc8, od8, .func (PySem.W.fnOf "read_together" "read_together" (defArgs s_read_together) (defBody s_read_together) (defScope s_read_together) .none kV8 dc8 pm8 an8 cd8 ct8), sl8⟩)
    (c_read_together : PySem.W.codeIn K cd8 "read_together" = true)
    (k_read_together : PySem.W.keepIn K (.ref f_read_together) = true)
    (i1_Profile_init : PySem.W.findIn K (.ref C_Profile) "__init__" = some (some (.ref f_Profile_init)))
    (i2_Profile_init : PySem.W.isFn K (.ref f_Profile_init) = true)
    (l_Profile_init : K.lookup f_Profile_init = some ⟨oc9, od9, .func (PySem.W.fnOf "__init__" "Profile.__init__" (defArgs s_Profile_init) (defBody s_Profile_init) (defScope s_Profile_init) .none kV9 dc9 pm9 an9 cd9 ct9), sl9⟩)
    (c_Profile_init : PySem.W.codeIn K cd9 "Profile.__init__" = true)
    (k_Profile_init : PySem.W.keepIn K (.ref f_Profile_init) = true)
    (i1_Profile_keeps : PySem.W.findIn K (.ref C_Profile) "keeps" = some (some (.ref f_Profile_keeps)))
    (i2_Profile_keeps : PySem.W.isFn K (.ref f_Profile_keeps) = true)
    (l_Profile_keeps : K.lookup f_Profile_keeps = some ⟨oc10, od10, .func (PySem.W.fnOf "keeps" "Profile.keeps" (defArgs s_Profile_keeps) (defBody s_Profile_keeps) (defScope s_Profile_keeps) .none kV10 dc10 pm10 an10 cd10 ct10), sl10⟩)
    (c_Profile_keeps : PySem.W.codeIn K cd10 "Profile.keeps" = true)
    (k_Profile_keeps : PySem.W.keepIn K (.ref f_Profile_keeps) = true)
    (g_restrictions : PySem.W.nsIn K mainGlobals "restrictions" = some (some (.ref f_restrictions)))
    (l_restrictions : K.lookup f_restrictions = some ⟨oc11, od11, .func (PySem.W.fnOf "restrictions" "restrictions" (defArgs s_restrictions) (defBody s_restrictions) (defScope s_restrictions) .none kV11 dc11 pm11 an11 cd11 ct11), sl11⟩)
    (c_restrictions : PySem.W.codeIn K cd11 "restrictions" = true)
    (k_restrictions : PySem.W.keepIn K (.ref f_restrictions) = true)
    (g_made_truth : PySem.W.nsIn K mainGlobals "made_truth" = some (some (.ref f_made_truth)))
    (l_made_truth : K.lookup f_made_truth = some ⟨oc12, od12, .func (PySem.W.fnOf "made_truth" "made_truth" (defArgs s_made_truth) (defBody s_made_truth) (defScope s_made_truth) .none kV12 dc12 pm12 an12 cd12 ct12), sl12⟩)
    (c_made_truth : PySem.W.codeIn K cd12 "made_truth" = true)
    (k_made_truth : PySem.W.keepIn K (.ref f_made_truth) = true)
    (g_choices : PySem.W.nsIn K mainGlobals "choices" = some (some (.ref f_choices)))
    (l_choices : K.lookup f_choices = some ⟨oc13, od13, .func (PySem.W.fnOf "choices" "choices" (defArgs s_choices) (defBody s_choices) (defScope s_choices) .none kV13 dc13 pm13 an13 cd13 ct13), sl13⟩)
    (c_choices : PySem.W.codeIn K cd13 "choices" = true)
    (k_choices : PySem.W.keepIn K (.ref f_choices) = true)
    (g_all_profiles : PySem.W.nsIn K mainGlobals "all_profiles" = some (some (.ref f_all_profiles)))
    (l_all_profiles : K.lookup f_all_profiles = some ⟨oc14, od14, .func (PySem.W.fnOf "all_profiles" "all_profiles" (defArgs s_all_profiles) (defBody s_all_profiles) (defScope s_all_profiles) .none kV14 dc14 pm14 an14 cd14 ct14), sl14⟩)
    (c_all_profiles : PySem.W.codeIn K cd14 "all_profiles" = true)
    (k_all_profiles : PySem.W.keepIn K (.ref f_all_profiles) = true)
    (g_served : PySem.W.nsIn K mainGlobals "served" = some (some (.ref f_served)))
    (l_served : K.lookup f_served = some ⟨oc15, od15, .func (PySem.W.fnOf "served" "served" (defArgs s_served) (defBody s_served) (defScope s_served) .none kV15 dc15 pm15 an15 cd15 ct15), sl15⟩)
    (c_served : PySem.W.codeIn K cd15 "served" = true)
    (k_served : PySem.W.keepIn K (.ref f_served) = true)
    (g_is_supported : PySem.W.nsIn K mainGlobals "is_supported" = some (some (.ref f_is_supported)))
    (l_is_supported : K.lookup f_is_supported = some ⟨oc16, od16, .func (PySem.W.fnOf "is_supported" "is_supported" (defArgs s_is_supported) (defBody s_is_supported) (defScope s_is_supported) .none kV16 dc16 pm16 an16 cd16 ct16), sl16⟩)
    (c_is_supported : PySem.W.codeIn K cd16 "is_supported" = true)
    (k_is_supported : PySem.W.keepIn K (.ref f_is_supported) = true)
    (g_lasting_profiles : PySem.W.nsIn K mainGlobals "lasting_profiles" = some (some (.ref f_lasting_profiles)))
    (l_lasting_profiles : K.lookup f_lasting_profiles = some ⟨oc17, od17, .func (PySem.W.fnOf "lasting_profiles" "lasting_profiles" (defArgs s_lasting_profiles) (defBody s_lasting_profiles) (defScope s_lasting_profiles) .none kV17 dc17 pm17 an17 cd17 ct17), sl17⟩)
    (c_lasting_profiles : PySem.W.codeIn K cd17 "lasting_profiles" = true)
    (k_lasting_profiles : PySem.W.keepIn K (.ref f_lasting_profiles) = true)
    (g_keep_all : PySem.W.nsIn K mainGlobals "keep_all" = some (some (.ref f_keep_all)))
    (l_keep_all : K.lookup f_keep_all = some ⟨oc18, od18, .func (PySem.W.fnOf "keep_all" "keep_all" (defArgs s_keep_all) (defBody s_keep_all) (defScope s_keep_all) .none kV18 dc18 pm18 an18 cd18 ct18), sl18⟩)
    (c_keep_all : PySem.W.codeIn K cd18 "keep_all" = true)
    (k_keep_all : PySem.W.keepIn K (.ref f_keep_all) = true)
    (g_follows : PySem.W.nsIn K mainGlobals "follows" = some (some (.ref f_follows)))
    (l_follows : K.lookup f_follows = some ⟨oc19, od19, .func (PySem.W.fnOf "follows" "follows" (defArgs s_follows) (defBody s_follows) (defScope s_follows) .none kV19 dc19 pm19 an19 cd19 ct19), sl19⟩)
    (c_follows : PySem.W.codeIn K cd19 "follows" = true)
    (k_follows : PySem.W.keepIn K (.ref f_follows) = true)
    (g_is_local : PySem.W.nsIn K mainGlobals "is_local" = some (some (.ref f_is_local)))
    (l_is_local : K.lookup f_is_local = some ⟨oc20, od20, .func (PySem.W.fnOf "is_local" "is_local" (defArgs s_is_local) (defBody s_is_local) (defScope s_is_local) .none kV20 dc20 pm20 an20 cd20 ct20), sl20⟩)
    (c_is_local : PySem.W.codeIn K cd20 "is_local" = true)
    (k_is_local : PySem.W.keepIn K (.ref f_is_local) = true)
    (g_is_subsumed : PySem.W.nsIn K mainGlobals "is_subsumed" = some (some (.ref f_is_subsumed)))
    (l_is_subsumed : K.lookup f_is_subsumed = some ⟨oc21, od21, .func (PySem.W.fnOf "is_subsumed" "is_subsumed" (defArgs s_is_subsumed) (defBody s_is_subsumed) (defScope s_is_subsumed) .none kV21 dc21 pm21 an21 cd21 ct21), sl21⟩)
    (c_is_subsumed : PySem.W.codeIn K cd21 "is_subsumed" = true)
    (k_is_subsumed : PySem.W.keepIn K (.ref f_is_subsumed) = true)
    (i1_Module_init : PySem.W.findIn K (.ref C_Module) "__init__" = some (some (.ref f_Module_init)))
    (i2_Module_init : PySem.W.isFn K (.ref f_Module_init) = true)
    (l_Module_init : K.lookup f_Module_init = some ⟨oc22, od22, .func (PySem.W.fnOf "__init__" "Module.__init__" (defArgs s_Module_init) (defBody s_Module_init) (defScope s_Module_init) .none kV22 dc22 pm22 an22 cd22 ct22), sl22⟩)
    (c_Module_init : PySem.W.codeIn K cd22 "Module.__init__" = true)
    (k_Module_init : PySem.W.keepIn K (.ref f_Module_init) = true)
    (i1_Module_listed : PySem.W.findIn K (.ref C_Module) "listed" = some (some (.ref f_Module_listed)))
    (i2_Module_listed : PySem.W.isFn K (.ref f_Module_listed) = true)
    (l_Module_listed : K.lookup f_Module_listed = some ⟨oc23, od23, .func (PySem.W.fnOf "listed" "Module.listed" (defArgs s_Module_listed) (defBody s_Module_listed) (defScope s_Module_listed) .none kV23 dc23 pm23 an23 cd23 ct23), sl23⟩)
    (c_Module_listed : PySem.W.codeIn K cd23 "Module.listed" = true)
    (k_Module_listed : PySem.W.keepIn K (.ref f_Module_listed) = true)
    (g_module_for : PySem.W.nsIn K mainGlobals "module_for" = some (some (.ref f_module_for)))
    (l_module_for : K.lookup f_module_for = some ⟨oc24, od24, .func (PySem.W.fnOf "module_for" "module_for" (defArgs s_module_for) (defBody s_module_for) (defScope s_module_for) .none kV24 dc24 pm24 an24 cd24 ct24), sl24⟩)
    (c_module_for : PySem.W.codeIn K cd24 "module_for" = true)
    (k_module_for : PySem.W.keepIn K (.ref f_module_for) = true)
    (i1_Reader_init : PySem.W.findIn K (.ref C_Reader) "__init__" = some (some (.ref f_Reader_init)))
    (i2_Reader_init : PySem.W.isFn K (.ref f_Reader_init) = true)
    (l_Reader_init : K.lookup f_Reader_init = some ⟨oc25, od25, .func (PySem.W.fnOf "__init__" "Reader.__init__" (defArgs s_Reader_init) (defBody s_Reader_init) (defScope s_Reader_init) .none kV25 dc25 pm25 an25 cd25 ct25), sl25⟩)
    (c_Reader_init : PySem.W.codeIn K cd25 "Reader.__init__" = true)
    (k_Reader_init : PySem.W.keepIn K (.ref f_Reader_init) = true)
    (i1_Reader_has_more : PySem.W.findIn K (.ref C_Reader) "has_more" = some (some (.ref f_Reader_has_more)))
    (i2_Reader_has_more : PySem.W.isFn K (.ref f_Reader_has_more) = true)
    (l_Reader_has_more : K.lookup f_Reader_has_more = some ⟨oc26, od26, .func (PySem.W.fnOf "has_more" "Reader.has_more" (defArgs s_Reader_has_more) (defBody s_Reader_has_more) (defScope s_Reader_has_more) .none kV26 dc26 pm26 an26 cd26 ct26), sl26⟩)
    (c_Reader_has_more : PySem.W.codeIn K cd26 "Reader.has_more" = true)
    (k_Reader_has_more : PySem.W.keepIn K (.ref f_Reader_has_more) = true)
    (i1_Reader_take_number : PySem.W.findIn K (.ref C_Reader) "take_number" = some (some (.ref f_Reader_take_number)))
    (i2_Reader_take_number : PySem.W.isFn K (.ref f_Reader_take_number) = true)
    (l_Reader_take_number : K.lookup f_Reader_take_number = some ⟨oc27, od27, .func (PySem.W.fnOf "take_number" "Reader.take_number" (defArgs s_Reader_take_number) (defBody s_Reader_take_number) (defScope s_Reader_take_number) .none kV27 dc27 pm27 an27 cd27 ct27), sl27⟩)
    (c_Reader_take_number : PySem.W.codeIn K cd27 "Reader.take_number" = true)
    (k_Reader_take_number : PySem.W.keepIn K (.ref f_Reader_take_number) = true)
    (i1_Reader_take_list : PySem.W.findIn K (.ref C_Reader) "take_list" = some (some (.ref f_Reader_take_list)))
    (i2_Reader_take_list : PySem.W.isFn K (.ref f_Reader_take_list) = true)
    (l_Reader_take_list : K.lookup f_Reader_take_list = some ⟨oc28, od28, .func (PySem.W.fnOf "take_list" "Reader.take_list" (defArgs s_Reader_take_list) (defBody s_Reader_take_list) (defScope s_Reader_take_list) .none kV28 dc28 pm28 an28 cd28 ct28), sl28⟩)
    (c_Reader_take_list : PySem.W.codeIn K cd28 "Reader.take_list" = true)
    (k_Reader_take_list : PySem.W.keepIn K (.ref f_Reader_take_list) = true)
    (i1_Desk_init : PySem.W.findIn K (.ref C_Desk) "__init__" = some (some (.ref f_Desk_init)))
    (i2_Desk_init : PySem.W.isFn K (.ref f_Desk_init) = true)
    (l_Desk_init : K.lookup f_Desk_init = some ⟨oc29, od29, .func (PySem.W.fnOf "__init__" "Desk.__init__" (defArgs s_Desk_init) (defBody s_Desk_init) (defScope s_Desk_init) .none kV29 dc29 pm29 an29 cd29 ct29), sl29⟩)
    (c_Desk_init : PySem.W.codeIn K cd29 "Desk.__init__" = true)
    (k_Desk_init : PySem.W.keepIn K (.ref f_Desk_init) = true)
    (i1_Desk_module_of : PySem.W.findIn K (.ref C_Desk) "module_of" = some (some (.ref f_Desk_module_of)))
    (i2_Desk_module_of : PySem.W.isFn K (.ref f_Desk_module_of) = true)
    (l_Desk_module_of : K.lookup f_Desk_module_of = some ⟨oc30, od30, .func (PySem.W.fnOf "module_of" "Desk.module_of" (defArgs s_Desk_module_of) (defBody s_Desk_module_of) (defScope s_Desk_module_of) .none kV30 dc30 pm30 an30 cd30 ct30), sl30⟩)
    (c_Desk_module_of : PySem.W.codeIn K cd30 "Desk.module_of" = true)
    (k_Desk_module_of : PySem.W.keepIn K (.ref f_Desk_module_of) = true)
    (i1_Desk_begins : PySem.W.findIn K (.ref C_Desk) "begins" = some (some (.ref f_Desk_begins)))
    (i2_Desk_begins : PySem.W.isFn K (.ref f_Desk_begins) = true)
    (l_Desk_begins : K.lookup f_Desk_begins = some ⟨oc31, od31, .func (PySem.W.fnOf "begins" "Desk.begins" (defArgs s_Desk_begins) (defBody s_Desk_begins) (defScope s_Desk_begins) .none kV31 dc31 pm31 an31 cd31 ct31), sl31⟩)
    (c_Desk_begins : PySem.W.codeIn K cd31 "Desk.begins" = true)
    (k_Desk_begins : PySem.W.keepIn K (.ref f_Desk_begins) = true)
    (i1_Desk_line : PySem.W.findIn K (.ref C_Desk) "line" = some (some (.ref f_Desk_line)))
    (i2_Desk_line : PySem.W.isFn K (.ref f_Desk_line) = true)
    (l_Desk_line : K.lookup f_Desk_line = some ⟨oc32, od32, .func (PySem.W.fnOf "line" "Desk.line" (defArgs s_Desk_line) (defBody s_Desk_line) (defScope s_Desk_line) .none kV32 dc32 pm32 an32 cd32 ct32), sl32⟩)
    (c_Desk_line : PySem.W.codeIn K cd32 "Desk.line" = true)
    (k_Desk_line : PySem.W.keepIn K (.ref f_Desk_line) = true)
    (i1_Desk_drop : PySem.W.findIn K (.ref C_Desk) "drop" = some (some (.ref f_Desk_drop)))
    (i2_Desk_drop : PySem.W.isFn K (.ref f_Desk_drop) = true)
    (l_Desk_drop : K.lookup f_Desk_drop = some ⟨oc33, od33, .func (PySem.W.fnOf "drop" "Desk.drop" (defArgs s_Desk_drop) (defBody s_Desk_drop) (defScope s_Desk_drop) .none kV33 dc33 pm33 an33 cd33 ct33), sl33⟩)
    (c_Desk_drop : PySem.W.codeIn K cd33 "Desk.drop" = true)
    (k_Desk_drop : PySem.W.keepIn K (.ref f_Desk_drop) = true)
    (i1_Desk_words : PySem.W.findIn K (.ref C_Desk) "words" = some (some (.ref f_Desk_words)))
    (i2_Desk_words : PySem.W.isFn K (.ref f_Desk_words) = true)
    (l_Desk_words : K.lookup f_Desk_words = some ⟨oc34, od34, .func (PySem.W.fnOf "words" "Desk.words" (defArgs s_Desk_words) (defBody s_Desk_words) (defScope s_Desk_words) .none kV34 dc34 pm34 an34 cd34 ct34), sl34⟩)
    (c_Desk_words : PySem.W.codeIn K cd34 "Desk.words" = true)
    (k_Desk_words : PySem.W.keepIn K (.ref f_Desk_words) = true)
    (i1_Desk_quiet : PySem.W.findIn K (.ref C_Desk) "quiet" = some (some (.ref f_Desk_quiet)))
    (i2_Desk_quiet : PySem.W.isFn K (.ref f_Desk_quiet) = true)
    (l_Desk_quiet : K.lookup f_Desk_quiet = some ⟨oc35, od35, .func (PySem.W.fnOf "quiet" "Desk.quiet" (defArgs s_Desk_quiet) (defBody s_Desk_quiet) (defScope s_Desk_quiet) .none kV35 dc35 pm35 an35 cd35 ct35), sl35⟩)
    (c_Desk_quiet : PySem.W.codeIn K cd35 "Desk.quiet" = true)
    (k_Desk_quiet : PySem.W.keepIn K (.ref f_Desk_quiet) = true)
    (i1_Desk_part : PySem.W.findIn K (.ref C_Desk) "part" = some (some (.ref f_Desk_part)))
    (i2_Desk_part : PySem.W.isFn K (.ref f_Desk_part) = true)
    (l_Desk_part : K.lookup f_Desk_part = some ⟨oc36, od36, .func (PySem.W.fnOf "part" "Desk.part" (defArgs s_Desk_part) (defBody s_Desk_part) (defScope s_Desk_part) .none kV36 dc36 pm36 an36 cd36 ct36), sl36⟩)
    (c_Desk_part : PySem.W.codeIn K cd36 "Desk.part" = true)
    (k_Desk_part : PySem.W.keepIn K (.ref f_Desk_part) = true)
    (i1_Desk_under : PySem.W.findIn K (.ref C_Desk) "under" = some (some (.ref f_Desk_under)))
    (i2_Desk_under : PySem.W.isFn K (.ref f_Desk_under) = true)
    (l_Desk_under : K.lookup f_Desk_under = some ⟨oc37, od37, .func (PySem.W.fnOf "under" "Desk.under" (defArgs s_Desk_under) (defBody s_Desk_under) (defScope s_Desk_under) .none kV37 dc37 pm37 an37 cd37 ct37), sl37⟩)
    (c_Desk_under : PySem.W.codeIn K cd37 "Desk.under" = true)
    (k_Desk_under : PySem.W.keepIn K (.ref f_Desk_under) = true)
    (i1_Desk_by : PySem.W.findIn K (.ref C_Desk) "by" = some (some (.ref f_Desk_by)))
    (i2_Desk_by : PySem.W.isFn K (.ref f_Desk_by) = true)
    (l_Desk_by : K.lookup f_Desk_by = some ⟨oc38, od38, .func (PySem.W.fnOf "by" "Desk.by" (defArgs s_Desk_by) (defBody s_Desk_by) (defScope s_Desk_by) .none kV38 dc38 pm38 an38 cd38 ct38), sl38⟩)
    (c_Desk_by : PySem.W.codeIn K cd38 "Desk.by" = true)
    (k_Desk_by : PySem.W.keepIn K (.ref f_Desk_by) = true)
    (i1_Desk_parts : PySem.W.findIn K (.ref C_Desk) "parts" = some (some (.ref f_Desk_parts)))
    (i2_Desk_parts : PySem.W.isFn K (.ref f_Desk_parts) = true)
    (l_Desk_parts : K.lookup f_Desk_parts = some ⟨oc39, od39, .func (PySem.W.fnOf "parts" "Desk.parts" (defArgs s_Desk_parts) (defBody s_Desk_parts) (defScope s_Desk_parts) .none kV39 dc39 pm39 an39 cd39 ct39), sl39⟩)
    (c_Desk_parts : PySem.W.codeIn K cd39 "Desk.parts" = true)
    (k_Desk_parts : PySem.W.keepIn K (.ref f_Desk_parts) = true)
    (g_answer_quiet : PySem.W.nsIn K mainGlobals "answer_quiet" = some (some (.ref f_answer_quiet)))
    (l_answer_quiet : K.lookup f_answer_quiet = some ⟨oc40, od40, .func (PySem.W.fnOf "answer_quiet" "answer_quiet" (defArgs s_answer_quiet) (defBody s_answer_quiet) (defScope s_answer_quiet) .none kV40 dc40 pm40 an40 cd40 ct40), sl40⟩)
    (c_answer_quiet : PySem.W.codeIn K cd40 "answer_quiet" = true)
    (k_answer_quiet : PySem.W.keepIn K (.ref f_answer_quiet) = true)
    (g_answer_part : PySem.W.nsIn K mainGlobals "answer_part" = some (some (.ref f_answer_part)))
    (l_answer_part : K.lookup f_answer_part = some ⟨oc41, od41, .func (PySem.W.fnOf "answer_part" "answer_part" (defArgs s_answer_part) (defBody s_answer_part) (defScope s_answer_part) .none kV41 dc41 pm41 an41 cd41 ct41), sl41⟩)
    (c_answer_part : PySem.W.codeIn K cd41 "answer_part" = true)
    (k_answer_part : PySem.W.keepIn K (.ref f_answer_part) = true)
    (g_answer_next : PySem.W.nsIn K mainGlobals "answer_next" = some (some (.ref f_answer_next)))
    (l_answer_next : K.lookup f_answer_next = some ⟨oc42, od42, .func (PySem.W.fnOf "answer_next" "answer_next" (defArgs s_answer_next) (defBody s_answer_next) (defScope s_answer_next) .none kV42 dc42 pm42 an42 cd42 ct42), sl42⟩)
    (c_answer_next : PySem.W.codeIn K cd42 "answer_next" = true)
    (k_answer_next : PySem.W.keepIn K (.ref f_answer_next) = true)
    (g_answers : PySem.W.nsIn K mainGlobals "answers" = some (some (.ref f_answers)))
    (l_answers : K.lookup f_answers = some ⟨oc43, od43, .func (PySem.W.fnOf "answers" "answers" (defArgs s_answers) (defBody s_answers) (defScope s_answers) .none kV43 dc43 pm43 an43 cd43 ct43), sl43⟩)
    (c_answers : PySem.W.codeIn K cd43 "answers" = true)
    (k_answers : PySem.W.keepIn K (.ref f_answers) = true)
    (g_ALL : PySem.W.nsIn K mainGlobals "ALL" = some (some (.int (0) t_ALL)))
    (g_NAME : PySem.W.nsIn K mainGlobals "NAME" = some (some (.int (2) t_NAME)))
    (g_BOTH : PySem.W.nsIn K mainGlobals "BOTH" = some (some (.int (3) t_BOTH)))
    (g_EITHER : PySem.W.nsIn K mainGlobals "EITHER" = some (some (.int (4) t_EITHER)))
    (g_LACK : PySem.W.nsIn K mainGlobals "LACK" = some (some (.int (5) t_LACK)))
    (g_SOME : PySem.W.nsIn K mainGlobals "SOME" = some (some (.int (6) t_SOME)))
    (g_EVERY : PySem.W.nsIn K mainGlobals "EVERY" = some (some (.int (7) t_EVERY)))
    (g_MARKS : PySem.W.nsIn K mainGlobals "MARKS" = some (some (.ref a_MARKS)))
    (l_MARKS : K.lookup a_MARKS = some ⟨.type "tuple", td_MARKS, .seq #[.int 0 t_MARKS_0, .int 0 t_MARKS_1, .int 4 t_MARKS_2, .int 0 t_MARKS_3, .int 0 t_MARKS_4, .int 0 t_MARKS_5, .int 2 t_MARKS_6, .int 2 t_MARKS_7] tn_MARKS, ts_MARKS⟩)
    (g_INNER : PySem.W.nsIn K mainGlobals "INNER" = some (some (.ref a_INNER)))
    (l_INNER : K.lookup a_INNER = some ⟨.type "tuple", td_INNER, .seq #[.int 0 t_INNER_0, .int 0 t_INNER_1, .int 0 t_INNER_2, .int 2 t_INNER_3, .int 2 t_INNER_4, .int 1 t_INNER_5, .int 1 t_INNER_6, .int 1 t_INNER_7] tn_INNER, ts_INNER⟩)
    (g_BEGINS : PySem.W.nsIn K mainGlobals "BEGINS" = some (some (.int (0) t_BEGINS)))
    (g_LINE : PySem.W.nsIn K mainGlobals "LINE" = some (some (.int (1) t_LINE)))
    (g_DROP : PySem.W.nsIn K mainGlobals "DROP" = some (some (.int (2) t_DROP)))
    (g_WORDS : PySem.W.nsIn K mainGlobals "WORDS" = some (some (.int (3) t_WORDS)))
    (g_QUIET : PySem.W.nsIn K mainGlobals "QUIET" = some (some (.int (4) t_QUIET)))
    (g_PART : PySem.W.nsIn K mainGlobals "PART" = some (some (.int (5) t_PART)))
    (g_UNDER : PySem.W.nsIn K mainGlobals "UNDER" = some (some (.int (6) t_UNDER)))
    (g_BY : PySem.W.nsIn K mainGlobals "BY" = some (some (.int (7) t_BY)))
    (g_MALFORMED : PySem.W.nsIn K mainGlobals "MALFORMED" = some (some (.int (-1) t_MALFORMED)))
    (g_NO_SUCH_AXIOM : PySem.W.nsIn K mainGlobals "NO_SUCH_AXIOM" = some (some (.int (-2) t_NO_SUCH_AXIOM)))
    (g_TOO_MUCH : PySem.W.nsIn K mainGlobals "TOO_MUCH" = some (some (.int (-7) t_TOO_MUCH)))
    (g_MOST_AXIOMS : PySem.W.nsIn K mainGlobals "MOST_AXIOMS" = some (some (.int (8) t_MOST_AXIOMS)))
    (g_MOST_ATOMS : PySem.W.nsIn K mainGlobals "MOST_ATOMS" = some (some (.int (4) t_MOST_ATOMS)))
    (g_MOST_ATOMS_UNDER : PySem.W.nsIn K mainGlobals "MOST_ATOMS_UNDER" = some (some (.int (6) t_MOST_ATOMS_UNDER)))
    (g_NAMES : PySem.W.nsIn K mainGlobals "NAMES" = some (some (.int (4) t_NAMES)))
    (g_NAME_SETS : PySem.W.nsIn K mainGlobals "NAME_SETS" = some (some (.int (16) t_NAME_SETS)))
    (g_ROLE_SETS : PySem.W.nsIn K mainGlobals "ROLE_SETS" = some (some (.int (4) t_ROLE_SETS)))
    (no_enumerate : PySem.W.nsIn K mainGlobals "enumerate" = some none)
    (no_len : PySem.W.nsIn K mainGlobals "len" = some none)
    (no_list : PySem.W.nsIn K mainGlobals "list" = some none)
    (no_range : PySem.W.nsIn K mainGlobals "range" = some none)
    (no_reversed : PySem.W.nsIn K mainGlobals "reversed" = some none)
    (no_sorted : PySem.W.nsIn K mainGlobals "sorted" = some none)
    : ∃ fd : FuncData, (∀ (s : Shared) (us : List Value), us.length = (["calls"] : List Str).length → BindsTo s fd ⟨us, []⟩ ((["calls"] : List Str).zip us)) ∧ ∀ base : Heap, K.In base → base.Ns mainGlobals mg → FnOk P w K mg base CX0 10 fa fd ["calls"] (sp_answers K) := by
  have e : f_answers = fa := by have e := hfa.symm.trans (PySem.W.mg_of X G g_answers); injection e with e; injection e with e; exact e.symm
  subst e
  have F_Concepts_init := fun_mk (st := s_Concepts_init) l_Concepts_init c_Concepts_init k_Concepts_init
  have b_Concepts_init := F_Concepts_init.binds (ps := ["self", "numbers", "rows", "tops"]) fun _ _ _ _ _ _ us hl => match us, hl with | [_, _, _, _], _ => rfl
  have F_Concepts_atom_count := fun_mk (st := s_Concepts_atom_count) l_Concepts_atom_count c_Concepts_atom_count k_Concepts_atom_count
  have b_Concepts_atom_count := F_Concepts_atom_count.binds (ps := ["self"]) fun _ _ _ _ _ _ us hl => match us, hl with | [_], _ => rfl
  have F_Concepts_used_names := fun_mk (st := s_Concepts_used_names) l_Concepts_used_names c_Concepts_used_names k_Concepts_used_names
  have b_Concepts_used_names := F_Concepts_used_names.binds (ps := ["self"]) fun _ _ _ _ _ _ us hl => match us, hl with | [_], _ => rfl
  have F_Concepts_used_roles := fun_mk (st := s_Concepts_used_roles) l_Concepts_used_roles c_Concepts_used_roles k_Concepts_used_roles
  have b_Concepts_used_roles := F_Concepts_used_roles.binds (ps := ["self"]) fun _ _ _ _ _ _ us hl => match us, hl with | [_], _ => rfl
  have F_marks_of := fun_mk (st := s_marks_of) l_marks_of c_marks_of k_marks_of
  have b_marks_of := F_marks_of.binds (ps := ["rows", "heads"]) fun _ _ _ _ _ _ us hl => match us, hl with | [_, _], _ => rfl
  have F_read_symbols := fun_mk (st := s_read_symbols) l_read_symbols c_read_symbols k_read_symbols
  have b_read_symbols := F_read_symbols.binds (ps := ["numbers", "wanted"]) fun _ _ _ _ _ _ us hl => match us, hl with | [_, _], _ => rfl
  have F_row_of := fun_mk (st := s_row_of) l_row_of c_row_of k_row_of
  have b_row_of := F_row_of.binds (ps := ["symbol", "waiting"]) fun _ _ _ _ _ _ us hl => match us, hl with | [_, _], _ => rfl
  have F_read_concepts := fun_mk (st := s_read_concepts) l_read_concepts c_read_concepts k_read_concepts
  have b_read_concepts := F_read_concepts.binds (ps := ["numbers", "wanted"]) fun _ _ _ _ _ _ us hl => match us, hl with | [_, _], _ => rfl
  have F_read_together := fun_mk (st := s_read_together) l_read_together c_read_together k_read_together
  have b_read_together := F_read_together.binds (ps := ["parts"]) fun _ _ _ _ _ _ us hl => match us, hl with | [_], _ => rfl
  have F_Profile_init := fun_mk (st := s_Profile_init) l_Profile_init c_Profile_init k_Profile_init
  have b_Profile_init := F_Profile_init.binds (ps := ["self", "truths", "limits"]) fun _ _ _ _ _ _ us hl => match us, hl with | [_, _, _], _ => rfl
  have F_Profile_keeps := fun_mk (st := s_Profile_keeps) l_Profile_keeps c_Profile_keeps k_Profile_keeps
  have b_Profile_keeps := F_Profile_keeps.binds (ps := ["self", "pair"]) fun _ _ _ _ _ _ us hl => match us, hl with | [_, _], _ => rfl
  have F_restrictions := fun_mk (st := s_restrictions) l_restrictions c_restrictions k_restrictions
  have b_restrictions := F_restrictions.binds (ps := ["rows"]) fun _ _ _ _ _ _ us hl => match us, hl with | [_], _ => rfl
  have F_made_truth := fun_mk (st := s_made_truth) l_made_truth c_made_truth k_made_truth
  have b_made_truth := F_made_truth.binds (ps := ["row", "truths"]) fun _ _ _ _ _ _ us hl => match us, hl with | [_, _], _ => rfl
  have F_choices := fun_mk (st := s_choices) l_choices c_choices k_choices
  have b_choices := F_choices.binds (ps := ["row", "truths", "names", "roles"]) fun _ _ _ _ _ _ us hl => match us, hl with | [_, _, _, _], _ => rfl
  have F_all_profiles := fun_mk (st := s_all_profiles) l_all_profiles c_all_profiles k_all_profiles
  have b_all_profiles := F_all_profiles.binds (ps := ["rows", "names", "roles"]) fun _ _ _ _ _ _ us hl => match us, hl with | [_, _, _], _ => rfl
  have F_served := fun_mk (st := s_served) l_served c_served k_served
  have b_served := F_served.binds (ps := ["needs", "role", "profiles"]) fun _ _ _ _ _ _ us hl => match us, hl with | [_, _, _], _ => rfl
  have F_is_supported := fun_mk (st := s_is_supported) l_is_supported c_is_supported k_is_supported
  have b_is_supported := F_is_supported.binds (ps := ["source", "profiles"]) fun _ _ _ _ _ _ us hl => match us, hl with | [_, _], _ => rfl
  have F_lasting_profiles := fun_mk (st := s_lasting_profiles) l_lasting_profiles c_lasting_profiles k_lasting_profiles
  have b_lasting_profiles := F_lasting_profiles.binds (ps := ["profiles"]) fun _ _ _ _ _ _ us hl => match us, hl with | [_], _ => rfl
  have F_keep_all := fun_mk (st := s_keep_all) l_keep_all c_keep_all k_keep_all
  have b_keep_all := F_keep_all.binds (ps := ["profiles", "pair"]) fun _ _ _ _ _ _ us hl => match us, hl with | [_, _], _ => rfl
  have F_follows := fun_mk (st := s_follows) l_follows c_follows k_follows
  have b_follows := F_follows.binds (ps := ["concepts", "names", "roles"]) fun _ _ _ _ _ _ us hl => match us, hl with | [_, _, _], _ => rfl
  have F_is_local := fun_mk (st := s_is_local) l_is_local c_is_local k_is_local
  have b_is_local := F_is_local.binds (ps := ["axiom", "names", "roles"]) fun _ _ _ _ _ _ us hl => match us, hl with | [_, _, _], _ => rfl
  have F_is_subsumed := fun_mk (st := s_is_subsumed) l_is_subsumed c_is_subsumed k_is_subsumed
  have b_is_subsumed := F_is_subsumed.binds (ps := ["concepts"]) fun _ _ _ _ _ _ us hl => match us, hl with | [_], _ => rfl
  have F_Module_init := fun_mk (st := s_Module_init) l_Module_init c_Module_init k_Module_init
  have b_Module_init := F_Module_init.binds (ps := ["self", "indexes", "names", "roles"]) fun _ _ _ _ _ _ us hl => match us, hl with | [_, _, _, _], _ => rfl
  have F_Module_listed := fun_mk (st := s_Module_listed) l_Module_listed c_Module_listed k_Module_listed
  have b_Module_listed := F_Module_listed.binds (ps := ["self"]) fun _ _ _ _ _ _ us hl => match us, hl with | [_], _ => rfl
  have F_module_for := fun_mk (st := s_module_for) l_module_for c_module_for k_module_for
  have b_module_for := F_module_for.binds (ps := ["axioms", "names", "roles"]) fun _ _ _ _ _ _ us hl => match us, hl with | [_, _, _], _ => rfl
  have F_Reader_init := fun_mk (st := s_Reader_init) l_Reader_init c_Reader_init k_Reader_init
  have b_Reader_init := F_Reader_init.binds (ps := ["self", "numbers"]) fun _ _ _ _ _ _ us hl => match us, hl with | [_, _], _ => rfl
  have F_Reader_has_more := fun_mk (st := s_Reader_has_more) l_Reader_has_more c_Reader_has_more k_Reader_has_more
  have b_Reader_has_more := F_Reader_has_more.binds (ps := ["self"]) fun _ _ _ _ _ _ us hl => match us, hl with | [_], _ => rfl
  have F_Reader_take_number := fun_mk (st := s_Reader_take_number) l_Reader_take_number c_Reader_take_number k_Reader_take_number
  have b_Reader_take_number := F_Reader_take_number.binds (ps := ["self"]) fun _ _ _ _ _ _ us hl => match us, hl with | [_], _ => rfl
  have F_Reader_take_list := fun_mk (st := s_Reader_take_list) l_Reader_take_list c_Reader_take_list k_Reader_take_list
  have b_Reader_take_list := F_Reader_take_list.binds (ps := ["self"]) fun _ _ _ _ _ _ us hl => match us, hl with | [_], _ => rfl
  have F_Desk_init := fun_mk (st := s_Desk_init) l_Desk_init c_Desk_init k_Desk_init
  have b_Desk_init := F_Desk_init.binds (ps := ["self"]) fun _ _ _ _ _ _ us hl => match us, hl with | [_], _ => rfl
  have F_Desk_module_of := fun_mk (st := s_Desk_module_of) l_Desk_module_of c_Desk_module_of k_Desk_module_of
  have b_Desk_module_of := F_Desk_module_of.binds (ps := ["self", "concepts"]) fun _ _ _ _ _ _ us hl => match us, hl with | [_, _], _ => rfl
  have F_Desk_begins := fun_mk (st := s_Desk_begins) l_Desk_begins c_Desk_begins k_Desk_begins
  have b_Desk_begins := F_Desk_begins.binds (ps := ["self"]) fun _ _ _ _ _ _ us hl => match us, hl with | [_], _ => rfl
  have F_Desk_line := fun_mk (st := s_Desk_line) l_Desk_line c_Desk_line k_Desk_line
  have b_Desk_line := F_Desk_line.binds (ps := ["self", "concepts"]) fun _ _ _ _ _ _ us hl => match us, hl with | [_, _], _ => rfl
  have F_Desk_drop := fun_mk (st := s_Desk_drop) l_Desk_drop c_Desk_drop k_Desk_drop
  have b_Desk_drop := F_Desk_drop.binds (ps := ["self", "index"]) fun _ _ _ _ _ _ us hl => match us, hl with | [_, _], _ => rfl
  have F_Desk_words := fun_mk (st := s_Desk_words) l_Desk_words c_Desk_words k_Desk_words
  have b_Desk_words := F_Desk_words.binds (ps := ["self", "concept"]) fun _ _ _ _ _ _ us hl => match us, hl with | [_, _], _ => rfl
  have F_Desk_quiet := fun_mk (st := s_Desk_quiet) l_Desk_quiet c_Desk_quiet k_Desk_quiet
  have b_Desk_quiet := F_Desk_quiet.binds (ps := ["self", "index", "names", "roles"]) fun _ _ _ _ _ _ us hl => match us, hl with | [_, _, _, _], _ => rfl
  have F_Desk_part := fun_mk (st := s_Desk_part) l_Desk_part c_Desk_part k_Desk_part
  have b_Desk_part := F_Desk_part.binds (ps := ["self", "names", "roles"]) fun _ _ _ _ _ _ us hl => match us, hl with | [_, _, _], _ => rfl
  have F_Desk_under := fun_mk (st := s_Desk_under) l_Desk_under c_Desk_under k_Desk_under
  have b_Desk_under := F_Desk_under.binds (ps := ["self", "concepts"]) fun _ _ _ _ _ _ us hl => match us, hl with | [_, _], _ => rfl
  have F_Desk_by := fun_mk (st := s_Desk_by) l_Desk_by c_Desk_by k_Desk_by
  have b_Desk_by := F_Desk_by.binds (ps := ["self", "concepts"]) fun _ _ _ _ _ _ us hl => match us, hl with | [_, _], _ => rfl
  have F_Desk_parts := fun_mk (st := s_Desk_parts) l_Desk_parts c_Desk_parts k_Desk_parts
  have b_Desk_parts := F_Desk_parts.binds (ps := ["self"]) fun _ _ _ _ _ _ us hl => match us, hl with | [_], _ => rfl
  have F_answer_quiet := fun_mk (st := s_answer_quiet) l_answer_quiet c_answer_quiet k_answer_quiet
  have b_answer_quiet := F_answer_quiet.binds (ps := ["desk", "reader"]) fun _ _ _ _ _ _ us hl => match us, hl with | [_, _], _ => rfl
  have F_answer_part := fun_mk (st := s_answer_part) l_answer_part c_answer_part k_answer_part
  have b_answer_part := F_answer_part.binds (ps := ["desk", "reader"]) fun _ _ _ _ _ _ us hl => match us, hl with | [_, _], _ => rfl
  have F_answer_next := fun_mk (st := s_answer_next) l_answer_next c_answer_next k_answer_next
  have b_answer_next := F_answer_next.binds (ps := ["desk", "reader"]) fun _ _ _ _ _ _ us hl => match us, hl with | [_, _], _ => rfl
  have F_answers := fun_mk (st := s_answers) l_answers c_answers k_answers
  have b_answers := F_answers.binds (ps := ["calls"]) fun _ _ _ _ _ _ us hl => match us, hl with | [_], _ => rfl
  let T : Txt K mg := {
    c_Concepts := C_Concepts,
    g_Concepts := PySem.W.mg_of X G g_Concepts,
    cl_Concepts := ⟨pg_Concepts, hd_Concepts, po_Concepts, sa_Concepts⟩,
    n_Concepts_numbers := n_Concepts_numbers,
    n_Concepts_rows := n_Concepts_rows,
    n_Concepts_tops := n_Concepts_tops,
    c_Profile := C_Profile,
    g_Profile := PySem.W.mg_of X G g_Profile,
    cl_Profile := ⟨pg_Profile, hd_Profile, po_Profile, sa_Profile⟩,
    n_Profile_truths := n_Profile_truths,
    n_Profile_needs := n_Profile_needs,
    n_Profile_serves := n_Profile_serves,
    c_Module := C_Module,
    g_Module := PySem.W.mg_of X G g_Module,
    cl_Module := ⟨pg_Module, hd_Module, po_Module, sa_Module⟩,
    n_Module_indexes := n_Module_indexes,
    n_Module_names := n_Module_names,
    n_Module_roles := n_Module_roles,
    c_Reader := C_Reader,
    g_Reader := PySem.W.mg_of X G g_Reader,
    cl_Reader := ⟨pg_Reader, hd_Reader, po_Reader, sa_Reader⟩,
    n_Reader_numbers := n_Reader_numbers,
    n_Reader_at := n_Reader_at,
    c_Desk := C_Desk,
    g_Desk := PySem.W.mg_of X G g_Desk,
    cl_Desk := ⟨pg_Desk, hd_Desk, po_Desk, sa_Desk⟩,
    n_Desk_axioms := n_Desk_axioms,
    f_Concepts_init := f_Concepts_init,
    fd_Concepts_init := _,
    F_Concepts_init := F_Concepts_init,
    b_Concepts_init := b_Concepts_init,
    mk_Concepts := ⟨mk_Concepts, i1_Concepts_init, i2_Concepts_init, kc_Concepts⟩,
    f_Concepts_atom_count := f_Concepts_atom_count,
    fd_Concepts_atom_count := _,
    F_Concepts_atom_count := F_Concepts_atom_count,
    b_Concepts_atom_count := b_Concepts_atom_count,
    m_Concepts_atom_count := ⟨i1_Concepts_atom_count, i2_Concepts_atom_count, k_Concepts_atom_count⟩,
    f_Concepts_used_names := f_Concepts_used_names,
    fd_Concepts_used_names := _,
    F_Concepts_used_names := F_Concepts_used_names,
    b_Concepts_used_names := b_Concepts_used_names,
    m_Concepts_used_names := ⟨i1_Concepts_used_names, i2_Concepts_used_names, k_Concepts_used_names⟩,
    f_Concepts_used_roles := f_Concepts_used_roles,
    fd_Concepts_used_roles := _,
    F_Concepts_used_roles := F_Concepts_used_roles,
    b_Concepts_used_roles := b_Concepts_used_roles,
    m_Concepts_used_roles := ⟨i1_Concepts_used_roles, i2_Concepts_used_roles, k_Concepts_used_roles⟩,
    f_marks_of := f_marks_of,
    fd_marks_of := _,
    F_marks_of := F_marks_of,
    b_marks_of := b_marks_of,
    g_marks_of := PySem.W.mg_of X G g_marks_of,
    f_read_symbols := f_read_symbols,
    fd_read_symbols := _,
    F_read_symbols := F_read_symbols,
    b_read_symbols := b_read_symbols,
    g_read_symbols := PySem.W.mg_of X G g_read_symbols,
    f_row_of := f_row_of,
    fd_row_of := _,
    F_row_of := F_row_of,
    b_row_of := b_row_of,
    g_row_of := PySem.W.mg_of X G g_row_of,
    f_read_concepts := f_read_concepts,
    fd_read_concepts := _,
    F_read_concepts := F_read_concepts,
    b_read_concepts := b_read_concepts,
    g_read_concepts := PySem.W.mg_of X G g_read_concepts,
    f_read_together := f_read_together,
    fd_read_together := _,
    F_read_together := F_read_together,
    b_read_together := b_read_together,
    g_read_together := PySem.W.mg_of X G g_read_together,
    f_Profile_init := f_Profile_init,
    fd_Profile_init := _,
    F_Profile_init := F_Profile_init,
    b_Profile_init := b_Profile_init,
    mk_Profile := ⟨mk_Profile, i1_Profile_init, i2_Profile_init, kc_Profile⟩,
    f_Profile_keeps := f_Profile_keeps,
    fd_Profile_keeps := _,
    F_Profile_keeps := F_Profile_keeps,
    b_Profile_keeps := b_Profile_keeps,
    m_Profile_keeps := ⟨i1_Profile_keeps, i2_Profile_keeps, k_Profile_keeps⟩,
    f_restrictions := f_restrictions,
    fd_restrictions := _,
    F_restrictions := F_restrictions,
    b_restrictions := b_restrictions,
    g_restrictions := PySem.W.mg_of X G g_restrictions,
    f_made_truth := f_made_truth,
    fd_made_truth := _,
    F_made_truth := F_made_truth,
    b_made_truth := b_made_truth,
    g_made_truth := PySem.W.mg_of X G g_made_truth,
    f_choices := f_choices,
    fd_choices := _,
    F_choices := F_choices,
    b_choices := b_choices,
    g_choices := PySem.W.mg_of X G g_choices,
    f_all_profiles := f_all_profiles,
    fd_all_profiles := _,
    F_all_profiles := F_all_profiles,
    b_all_profiles := b_all_profiles,
    g_all_profiles := PySem.W.mg_of X G g_all_profiles,
    f_served := f_served,
    fd_served := _,
    F_served := F_served,
    b_served := b_served,
    g_served := PySem.W.mg_of X G g_served,
    f_is_supported := f_is_supported,
    fd_is_supported := _,
    F_is_supported := F_is_supported,
    b_is_supported := b_is_supported,
    g_is_supported := PySem.W.mg_of X G g_is_supported,
    f_lasting_profiles := f_lasting_profiles,
    fd_lasting_profiles := _,
    F_lasting_profiles := F_lasting_profiles,
    b_lasting_profiles := b_lasting_profiles,
    g_lasting_profiles := PySem.W.mg_of X G g_lasting_profiles,
    f_keep_all := f_keep_all,
    fd_keep_all := _,
    F_keep_all := F_keep_all,
    b_keep_all := b_keep_all,
    g_keep_all := PySem.W.mg_of X G g_keep_all,
    f_follows := f_follows,
    fd_follows := _,
    F_follows := F_follows,
    b_follows := b_follows,
    g_follows := PySem.W.mg_of X G g_follows,
    f_is_local := f_is_local,
    fd_is_local := _,
    F_is_local := F_is_local,
    b_is_local := b_is_local,
    g_is_local := PySem.W.mg_of X G g_is_local,
    f_is_subsumed := f_is_subsumed,
    fd_is_subsumed := _,
    F_is_subsumed := F_is_subsumed,
    b_is_subsumed := b_is_subsumed,
    g_is_subsumed := PySem.W.mg_of X G g_is_subsumed,
    f_Module_init := f_Module_init,
    fd_Module_init := _,
    F_Module_init := F_Module_init,
    b_Module_init := b_Module_init,
    mk_Module := ⟨mk_Module, i1_Module_init, i2_Module_init, kc_Module⟩,
    f_Module_listed := f_Module_listed,
    fd_Module_listed := _,
    F_Module_listed := F_Module_listed,
    b_Module_listed := b_Module_listed,
    m_Module_listed := ⟨i1_Module_listed, i2_Module_listed, k_Module_listed⟩,
    f_module_for := f_module_for,
    fd_module_for := _,
    F_module_for := F_module_for,
    b_module_for := b_module_for,
    g_module_for := PySem.W.mg_of X G g_module_for,
    f_Reader_init := f_Reader_init,
    fd_Reader_init := _,
    F_Reader_init := F_Reader_init,
    b_Reader_init := b_Reader_init,
    mk_Reader := ⟨mk_Reader, i1_Reader_init, i2_Reader_init, kc_Reader⟩,
    f_Reader_has_more := f_Reader_has_more,
    fd_Reader_has_more := _,
    F_Reader_has_more := F_Reader_has_more,
    b_Reader_has_more := b_Reader_has_more,
    m_Reader_has_more := ⟨i1_Reader_has_more, i2_Reader_has_more, k_Reader_has_more⟩,
    f_Reader_take_number := f_Reader_take_number,
    fd_Reader_take_number := _,
    F_Reader_take_number := F_Reader_take_number,
    b_Reader_take_number := b_Reader_take_number,
    m_Reader_take_number := ⟨i1_Reader_take_number, i2_Reader_take_number, k_Reader_take_number⟩,
    f_Reader_take_list := f_Reader_take_list,
    fd_Reader_take_list := _,
    F_Reader_take_list := F_Reader_take_list,
    b_Reader_take_list := b_Reader_take_list,
    m_Reader_take_list := ⟨i1_Reader_take_list, i2_Reader_take_list, k_Reader_take_list⟩,
    f_Desk_init := f_Desk_init,
    fd_Desk_init := _,
    F_Desk_init := F_Desk_init,
    b_Desk_init := b_Desk_init,
    mk_Desk := ⟨mk_Desk, i1_Desk_init, i2_Desk_init, kc_Desk⟩,
    f_Desk_module_of := f_Desk_module_of,
    fd_Desk_module_of := _,
    F_Desk_module_of := F_Desk_module_of,
    b_Desk_module_of := b_Desk_module_of,
    m_Desk_module_of := ⟨i1_Desk_module_of, i2_Desk_module_of, k_Desk_module_of⟩,
    f_Desk_begins := f_Desk_begins,
    fd_Desk_begins := _,
    F_Desk_begins := F_Desk_begins,
    b_Desk_begins := b_Desk_begins,
    m_Desk_begins := ⟨i1_Desk_begins, i2_Desk_begins, k_Desk_begins⟩,
    f_Desk_line := f_Desk_line,
    fd_Desk_line := _,
    F_Desk_line := F_Desk_line,
    b_Desk_line := b_Desk_line,
    m_Desk_line := ⟨i1_Desk_line, i2_Desk_line, k_Desk_line⟩,
    f_Desk_drop := f_Desk_drop,
    fd_Desk_drop := _,
    F_Desk_drop := F_Desk_drop,
    b_Desk_drop := b_Desk_drop,
    m_Desk_drop := ⟨i1_Desk_drop, i2_Desk_drop, k_Desk_drop⟩,
    f_Desk_words := f_Desk_words,
    fd_Desk_words := _,
    F_Desk_words := F_Desk_words,
    b_Desk_words := b_Desk_words,
    m_Desk_words := ⟨i1_Desk_words, i2_Desk_words, k_Desk_words⟩,
    f_Desk_quiet := f_Desk_quiet,
    fd_Desk_quiet := _,
    F_Desk_quiet := F_Desk_quiet,
    b_Desk_quiet := b_Desk_quiet,
    m_Desk_quiet := ⟨i1_Desk_quiet, i2_Desk_quiet, k_Desk_quiet⟩,
    f_Desk_part := f_Desk_part,
    fd_Desk_part := _,
    F_Desk_part := F_Desk_part,
    b_Desk_part := b_Desk_part,
    m_Desk_part := ⟨i1_Desk_part, i2_Desk_part, k_Desk_part⟩,
    f_Desk_under := f_Desk_under,
    fd_Desk_under := _,
    F_Desk_under := F_Desk_under,
    b_Desk_under := b_Desk_under,
    m_Desk_under := ⟨i1_Desk_under, i2_Desk_under, k_Desk_under⟩,
    f_Desk_by := f_Desk_by,
    fd_Desk_by := _,
    F_Desk_by := F_Desk_by,
    b_Desk_by := b_Desk_by,
    m_Desk_by := ⟨i1_Desk_by, i2_Desk_by, k_Desk_by⟩,
    f_Desk_parts := f_Desk_parts,
    fd_Desk_parts := _,
    F_Desk_parts := F_Desk_parts,
    b_Desk_parts := b_Desk_parts,
    m_Desk_parts := ⟨i1_Desk_parts, i2_Desk_parts, k_Desk_parts⟩,
    f_answer_quiet := f_answer_quiet,
    fd_answer_quiet := _,
    F_answer_quiet := F_answer_quiet,
    b_answer_quiet := b_answer_quiet,
    g_answer_quiet := PySem.W.mg_of X G g_answer_quiet,
    f_answer_part := f_answer_part,
    fd_answer_part := _,
    F_answer_part := F_answer_part,
    b_answer_part := b_answer_part,
    g_answer_part := PySem.W.mg_of X G g_answer_part,
    f_answer_next := f_answer_next,
    fd_answer_next := _,
    F_answer_next := F_answer_next,
    b_answer_next := b_answer_next,
    g_answer_next := PySem.W.mg_of X G g_answer_next,
    f_answers := f_answers,
    fd_answers := _,
    F_answers := F_answers,
    b_answers := b_answers,
    g_answers := PySem.W.mg_of X G g_answers,
    g_ALL := ⟨_, PySem.W.mg_of X G g_ALL⟩,
    g_NAME := ⟨_, PySem.W.mg_of X G g_NAME⟩,
    g_BOTH := ⟨_, PySem.W.mg_of X G g_BOTH⟩,
    g_EITHER := ⟨_, PySem.W.mg_of X G g_EITHER⟩,
    g_LACK := ⟨_, PySem.W.mg_of X G g_LACK⟩,
    g_SOME := ⟨_, PySem.W.mg_of X G g_SOME⟩,
    g_EVERY := ⟨_, PySem.W.mg_of X G g_EVERY⟩,
    a_MARKS := a_MARKS,
    g_MARKS := PySem.W.mg_of X G g_MARKS,
    q_MARKS := fun H => sqT_lit l_MARKS (show 8 ≤ sizeLine by decide) (.cons ⟨_, rfl⟩ (.cons ⟨_, rfl⟩ (.cons ⟨_, rfl⟩ (.cons ⟨_, rfl⟩ (.cons ⟨_, rfl⟩ (.cons ⟨_, rfl⟩ (.cons ⟨_, rfl⟩ (.cons ⟨_, rfl⟩ (.nil))))))))),
    a_INNER := a_INNER,
    g_INNER := PySem.W.mg_of X G g_INNER,
    q_INNER := fun H => sqT_lit l_INNER (show 8 ≤ sizeLine by decide) (.cons ⟨_, rfl⟩ (.cons ⟨_, rfl⟩ (.cons ⟨_, rfl⟩ (.cons ⟨_, rfl⟩ (.cons ⟨_, rfl⟩ (.cons ⟨_, rfl⟩ (.cons ⟨_, rfl⟩ (.cons ⟨_, rfl⟩ (.nil))))))))),
    g_BEGINS := ⟨_, PySem.W.mg_of X G g_BEGINS⟩,
    g_LINE := ⟨_, PySem.W.mg_of X G g_LINE⟩,
    g_DROP := ⟨_, PySem.W.mg_of X G g_DROP⟩,
    g_WORDS := ⟨_, PySem.W.mg_of X G g_WORDS⟩,
    g_QUIET := ⟨_, PySem.W.mg_of X G g_QUIET⟩,
    g_PART := ⟨_, PySem.W.mg_of X G g_PART⟩,
    g_UNDER := ⟨_, PySem.W.mg_of X G g_UNDER⟩,
    g_BY := ⟨_, PySem.W.mg_of X G g_BY⟩,
    g_MALFORMED := ⟨_, PySem.W.mg_of X G g_MALFORMED⟩,
    g_NO_SUCH_AXIOM := ⟨_, PySem.W.mg_of X G g_NO_SUCH_AXIOM⟩,
    g_TOO_MUCH := ⟨_, PySem.W.mg_of X G g_TOO_MUCH⟩,
    g_MOST_AXIOMS := ⟨_, PySem.W.mg_of X G g_MOST_AXIOMS⟩,
    g_MOST_ATOMS := ⟨_, PySem.W.mg_of X G g_MOST_ATOMS⟩,
    g_MOST_ATOMS_UNDER := ⟨_, PySem.W.mg_of X G g_MOST_ATOMS_UNDER⟩,
    g_NAMES := ⟨_, PySem.W.mg_of X G g_NAMES⟩,
    g_NAME_SETS := ⟨_, PySem.W.mg_of X G g_NAME_SETS⟩,
    g_ROLE_SETS := ⟨_, PySem.W.mg_of X G g_ROLE_SETS⟩,
    no_enumerate := PySem.W.mg_none_of X G no_enumerate,
    no_len := PySem.W.mg_none_of X G no_len,
    no_list := PySem.W.mg_none_of X G no_list,
    no_range := PySem.W.mg_none_of X G no_range,
    no_reversed := PySem.W.mg_none_of X G no_reversed,
    no_sorted := PySem.W.mg_none_of X G no_sorted }
  exact ⟨T.fd_answers, fun s us hu => match us, hu with | [_], _ => .of_eq rfl, fun base _ _ => ok_answers T⟩
end AX

open PySem PySem.W PyProof.Rows
set_option maxRecDepth 100000 in
set_option maxHeartbeats 8000000 in
theorem PySem.Challenge.cw_axiomparts_s01_answers_holds : PySem.Challenge.rw_axiomparts_s01_answers.Holds := by
  w_on; k_headS; (case hw => exact ⟨[.list [.int 0]], by decide +kernel, by decide +kernel⟩)
  k_fillS
  refine L2.walk_specK (r := PySem.Challenge.rw_axiomparts_s01_answers) (k := 10) (CX := L2.CX0) (ps := ["calls"]) (sp := AX.sp_answers) (by decide +kernel) rfl rfl ⟨rfl, by decide, by decide⟩ (fun w h Y => PySem.W.kIn_of Y) ?F ?S (fun _ _ _ _ z => z)
  case F =>
    intro w mg fa h Y KX G hmg
    refine' AX.all_mk KX G hmg ?g_Concepts ?pg_Concepts ?hd_Concepts ?po_Concepts ?sa_Concepts ?mk_Concepts ?kc_Concepts ?n_Concepts_numbers ?n_Concepts_rows ?n_Concepts_tops ?g_Profile ?pg_Profile ?hd_Profile ?po_Profile ?sa_Profile ?mk_Profile ?kc_Profile ?n_Profile_truths ?n_Profile_needs ?n_Profile_serves ?g_Module ?pg_Module ?hd_Module ?po_Module ?sa_Module ?mk_Module ?kc_Module ?n_Module_indexes ?n_Module_names ?n_Module_roles ?g_Reader ?pg_Reader ?hd_Reader ?po_Reader ?sa_Reader ?mk_Reader ?kc_Reader ?n_Reader_numbers ?n_Reader_at ?g_Desk ?pg_Desk ?hd_Desk ?po_Desk ?sa_Desk ?mk_Desk ?kc_Desk ?n_Desk_axioms ?i1_Concepts_init ?i2_Concepts_init ?l_Concepts_init ?c_Concepts_init ?k_Concepts_init ?i1_Concepts_atom_count ?i2_Concepts_atom_count ?l_Concepts_atom_count ?c_Concepts_atom_count ?k_Concepts_atom_count ?i1_Concepts_used_names ?i2_Concepts_used_names ?l_Concepts_used_names ?c_Concepts_used_names ?k_Concepts_used_names ?i1_Concepts_used_roles ?i2_Concepts_used_roles ?l_Concepts_used_roles ?c_Concepts_used_roles ?k_Concepts_used_roles ?g_marks_of ?l_marks_of ?c_marks_of ?k_marks_of ?g_read_symbols ?l_read_symbols ?c_read_symbols ?k_read_symbols ?g_row_of ?l_row_of ?c_row_of ?k_row_of ?g_read_concepts ?l_read_concepts ?c_read_concepts ?k_read_concepts ?g_read_together ?l_read_together ?c_read_together ?k_read_together ?i1_Profile_init ?i2_Profile_init ?l_Profile_init ?c_Profile_init ?k_Profile_init ?i1_Profile_keeps ?i2_Profile_keeps ?l_Profile_keeps ?c_Profile_keeps ?k_Profile_keeps ?g_restrictions ?l_restrictions ?c_restrictions ?k_restrictions ?g_made_truth ?l_made_truth ?c_made_truth ?k_made_truth ?g_choices ?l_choices ?c_choices ?k_choices ?g_all_profiles ?l_all_profiles ?c_all_profiles ?k_all_profiles ?g_served ?l_served ?c_served ?k_served ?g_is_supported ?l_is_supported ?c_is_supported ?k_is_supported ?g_lasting_profiles ?l_lasting_profiles ?c_lasting_profiles ?k_lasting_profiles ?g_keep_all ?l_keep_all ?c_keep_all ?k_keep_all ?g_follows ?l_follows ?c_follows ?k_follows ?g_is_local ?l_is_local ?c_is_local ?k_is_local ?g_is_subsumed ?l_is_subsumed ?c_is_subsumed ?k_is_subsumed ?i1_Module_init ?i2_Module_init ?l_Module_init ?c_Module_init ?k_Module_init ?i1_Module_listed ?i2_Module_listed ?l_Module_listed ?c_Module_listed ?k_Module_listed ?g_module_for ?l_module_for ?c_module_for ?k_module_for ?i1_Reader_init ?i2_Reader_init ?l_Reader_init ?c_Reader_init ?k_Reader_init ?i1_Reader_has_more ?i2_Reader_has_more ?l_Reader_has_more ?c_Reader_has_more ?k_Reader_has_more ?i1_Reader_take_number ?i2_Reader_take_number ?l_Reader_take_number ?c_Reader_take_number ?k_Reader_take_number ?i1_Reader_take_list ?i2_Reader_take_list ?l_Reader_take_list ?c_Reader_take_list ?k_Reader_take_list ?i1_Desk_init ?i2_Desk_init ?l_Desk_init ?c_Desk_init ?k_Desk_init ?i1_Desk_module_of ?i2_Desk_module_of ?l_Desk_module_of ?c_Desk_module_of ?k_Desk_module_of ?i1_Desk_begins ?i2_Desk_begins ?l_Desk_begins ?c_Desk_begins ?k_Desk_begins ?i1_Desk_line ?i2_Desk_line ?l_Desk_line ?c_Desk_line ?k_Desk_line ?i1_Desk_drop ?i2_Desk_drop ?l_Desk_drop ?c_Desk_drop ?k_Desk_drop ?i1_Desk_words ?i2_Desk_words ?l_Desk_words ?c_Desk_words ?k_Desk_words ?i1_Desk_quiet ?i2_Desk_quiet ?l_Desk_quiet ?c_Desk_quiet ?k_Desk_quiet ?i1_Desk_part ?i2_Desk_part ?l_Desk_part ?c_Desk_part ?k_Desk_part ?i1_Desk_under ?i2_Desk_under ?l_Desk_under ?c_Desk_under ?k_Desk_under ?i1_Desk_by ?i2_Desk_by ?l_Desk_by ?c_Desk_by ?k_Desk_by ?i1_Desk_parts ?i2_Desk_parts ?l_Desk_parts ?c_Desk_parts ?k_Desk_parts ?g_answer_quiet ?l_answer_quiet ?c_answer_quiet ?k_answer_quiet ?g_answer_part ?l_answer_part ?c_answer_part ?k_answer_part ?g_answer_next ?l_answer_next ?c_answer_next ?k_answer_next ?g_answers ?l_answers ?c_answers ?k_answers ?g_ALL ?g_NAME ?g_BOTH ?g_EITHER ?g_LACK ?g_SOME ?g_EVERY ?g_MARKS ?l_MARKS ?g_INNER ?l_INNER ?g_BEGINS ?g_LINE ?g_DROP ?g_WORDS ?g_QUIET ?g_PART ?g_UNDER ?g_BY ?g_MALFORMED ?g_NO_SUCH_AXIOM ?g_TOO_MUCH ?g_MOST_AXIOMS ?g_MOST_ATOMS ?g_MOST_ATOMS_UNDER ?g_NAMES ?g_NAME_SETS ?g_ROLE_SETS ?no_enumerate ?no_len ?no_list ?no_range ?no_reversed ?no_sorted
    (case g_Concepts => k_is)
    (case pg_Concepts => k_is)
    (case hd_Concepts => k_is)
    (case po_Concepts => k_is)
    (case sa_Concepts => k_is)
    (case mk_Concepts => k_is)
    (case kc_Concepts => k_is)
    (case n_Concepts_numbers => k_is)
    (case n_Concepts_rows => k_is)
    (case n_Concepts_tops => k_is)
    (case g_Profile => k_is)
    (case pg_Profile => k_is)
    (case hd_Profile => k_is)
    (case po_Profile => k_is)
    (case sa_Profile => k_is)
    (case mk_Profile => k_is)
    (case kc_Profile => k_is)
    (case n_Profile_truths => k_is)
    (case n_Profile_needs => k_is)
    (case n_Profile_serves => k_is)
    (case g_Module => k_is)
    (case pg_Module => k_is)
    (case hd_Module => k_is)
    (case po_Module => k_is)
    (case sa_Module => k_is)
    (case mk_Module => k_is)
    (case kc_Module => k_is)
    (case n_Module_indexes => k_is)
    (case n_Module_names => k_is)
    (case n_Module_roles => k_is)
    (case g_Reader => k_is)
    (case pg_Reader => k_is)
    (case hd_Reader => k_is)
    (case po_Reader => k_is)
    (case sa_Reader => k_is)
    (case mk_Reader => k_is)
    (case kc_Reader => k_is)
    (case n_Reader_numbers => k_is)
    (case n_Reader_at => k_is)
    (case g_Desk => k_is)
    (case pg_Desk => k_is)
    (case hd_Desk => k_is)
    (case po_Desk => k_is)
    (case sa_Desk => k_is)
    (case mk_Desk => k_is)
    (case kc_Desk => k_is)
    (case n_Desk_axioms => k_is)
    (case i1_Concepts_init => k_is)
    (case i2_Concepts_init => k_is)
    (case l_Concepts_init => k_is)
    (case c_Concepts_init => k_is)
    (case k_Concepts_init => k_is)
    (case i1_Concepts_atom_count => k_is)
    (case i2_Concepts_atom_count => k_is)
    (case l_Concepts_atom_count => k_is)
    (case c_Concepts_atom_count => k_is)
    (case k_Concepts_atom_count => k_is)
    (case i1_Concepts_used_names => k_is)
    (case i2_Concepts_used_names => k_is)
    (case l_Concepts_used_names => k_is)
    (case c_Concepts_used_names => k_is)
    (case k_Concepts_used_names => k_is)
    (case i1_Concepts_used_roles => k_is)
    (case i2_Concepts_used_roles => k_is)
    (case l_Concepts_used_roles => k_is)
    (case c_Concepts_used_roles => k_is)
    (case k_Concepts_used_roles => k_is)
    (case g_marks_of => k_is)
    (case l_marks_of => k_is)
    (case c_marks_of => k_is)
    (case k_marks_of => k_is)
    (case g_read_symbols => k_is)
    (case l_read_symbols => k_is)
    (case c_read_symbols => k_is)
    (case k_read_symbols => k_is)
    (case g_row_of => k_is)
    (case l_row_of => k_is)
    (case c_row_of => k_is)
    (case k_row_of => k_is)
    (case g_read_concepts => k_is)
    (case l_read_concepts => k_is)
    (case c_read_concepts => k_is)
    (case k_read_concepts => k_is)
    (case g_read_together => k_is)
    (case l_read_together => k_is)
    (case c_read_together => k_is)
    (case k_read_together => k_is)
    (case i1_Profile_init => k_is)
    (case i2_Profile_init => k_is)
    (case l_Profile_init => k_is)
    (case c_Profile_init => k_is)
    (case k_Profile_init => k_is)
    (case i1_Profile_keeps => k_is)
    (case i2_Profile_keeps => k_is)
    (case l_Profile_keeps => k_is)
    (case c_Profile_keeps => k_is)
    (case k_Profile_keeps => k_is)
    (case g_restrictions => k_is)
    (case l_restrictions => k_is)
    (case c_restrictions => k_is)
    (case k_restrictions => k_is)
    (case g_made_truth => k_is)
    (case l_made_truth => k_is)
    (case c_made_truth => k_is)
    (case k_made_truth => k_is)
    (case g_choices => k_is)
    (case l_choices => k_is)
    (case c_choices => k_is)
    (case k_choices => k_is)
    (case g_all_profiles => k_is)
    (case l_all_profiles => k_is)
    (case c_all_profiles => k_is)
    (case k_all_profiles => k_is)
    (case g_served => k_is)
    (case l_served => k_is)
    (case c_served => k_is)
    (case k_served => k_is)
    (case g_is_supported => k_is)
    (case l_is_supported => k_is)
    (case c_is_supported => k_is)
    (case k_is_supported => k_is)
    (case g_lasting_profiles => k_is)
    (case l_lasting_profiles => k_is)
    (case c_lasting_profiles => k_is)
    (case k_lasting_profiles => k_is)
    (case g_keep_all => k_is)
    (case l_keep_all => k_is)
    (case c_keep_all => k_is)
    (case k_keep_all => k_is)
    (case g_follows => k_is)
    (case l_follows => k_is)
    (case c_follows => k_is)
    (case k_follows => k_is)
    (case g_is_local => k_is)
    (case l_is_local => k_is)
    (case c_is_local => k_is)
    (case k_is_local => k_is)
    (case g_is_subsumed => k_is)
    (case l_is_subsumed => k_is)
    (case c_is_subsumed => k_is)
    (case k_is_subsumed => k_is)
    (case i1_Module_init => k_is)
    (case i2_Module_init => k_is)
    (case l_Module_init => k_is)
    (case c_Module_init => k_is)
    (case k_Module_init => k_is)
    (case i1_Module_listed => k_is)
    (case i2_Module_listed => k_is)
    (case l_Module_listed => k_is)
    (case c_Module_listed => k_is)
    (case k_Module_listed => k_is)
    (case g_module_for => k_is)
    (case l_module_for => k_is)
    (case c_module_for => k_is)
    (case k_module_for => k_is)
    (case i1_Reader_init => k_is)
    (case i2_Reader_init => k_is)
    (case l_Reader_init => k_is)
    (case c_Reader_init => k_is)
    (case k_Reader_init => k_is)
    (case i1_Reader_has_more => k_is)
    (case i2_Reader_has_more => k_is)
    (case l_Reader_has_more => k_is)
    (case c_Reader_has_more => k_is)
    (case k_Reader_has_more => k_is)
    (case i1_Reader_take_number => k_is)
    (case i2_Reader_take_number => k_is)
    (case l_Reader_take_number => k_is)
    (case c_Reader_take_number => k_is)
    (case k_Reader_take_number => k_is)
    (case i1_Reader_take_list => k_is)
    (case i2_Reader_take_list => k_is)
    (case l_Reader_take_list => k_is)
    (case c_Reader_take_list => k_is)
    (case k_Reader_take_list => k_is)
    (case i1_Desk_init => k_is)
    (case i2_Desk_init => k_is)
    (case l_Desk_init => k_is)
    (case c_Desk_init => k_is)
    (case k_Desk_init => k_is)
    (case i1_Desk_module_of => k_is)
    (case i2_Desk_module_of => k_is)
    (case l_Desk_module_of => k_is)
    (case c_Desk_module_of => k_is)
    (case k_Desk_module_of => k_is)
    (case i1_Desk_begins => k_is)
    (case i2_Desk_begins => k_is)
    (case l_Desk_begins => k_is)
    (case c_Desk_begins => k_is)
    (case k_Desk_begins => k_is)
    (case i1_Desk_line => k_is)
    (case i2_Desk_line => k_is)
    (case l_Desk_line => k_is)
    (case c_Desk_line => k_is)
    (case k_Desk_line => k_is)
    (case i1_Desk_drop => k_is)
    (case i2_Desk_drop => k_is)
    (case l_Desk_drop => k_is)
    (case c_Desk_drop => k_is)
    (case k_Desk_drop => k_is)
    (case i1_Desk_words => k_is)
    (case i2_Desk_words => k_is)
    (case l_Desk_words => k_is)
    (case c_Desk_words => k_is)
    (case k_Desk_words => k_is)
    (case i1_Desk_quiet => k_is)
    (case i2_Desk_quiet => k_is)
    (case l_Desk_quiet => k_is)
    (case c_Desk_quiet => k_is)
    (case k_Desk_quiet => k_is)
    (case i1_Desk_part => k_is)
    (case i2_Desk_part => k_is)
    (case l_Desk_part => k_is)
    (case c_Desk_part => k_is)
    (case k_Desk_part => k_is)
    (case i1_Desk_under => k_is)
    (case i2_Desk_under => k_is)
    (case l_Desk_under => k_is)
    (case c_Desk_under => k_is)
    (case k_Desk_under => k_is)
    (case i1_Desk_by => k_is)
    (case i2_Desk_by => k_is)
    (case l_Desk_by => k_is)
    (case c_Desk_by => k_is)
    (case k_Desk_by => k_is)
    (case i1_Desk_parts => k_is)
    (case i2_Desk_parts => k_is)
    (case l_Desk_parts => k_is)
    (case c_Desk_parts => k_is)
    (case k_Desk_parts => k_is)
    (case g_answer_quiet => k_is)
    (case l_answer_quiet => k_is)
    (case c_answer_quiet => k_is)
    (case k_answer_quiet => k_is)
    (case g_answer_part => k_is)
    (case l_answer_part => k_is)
    (case c_answer_part => k_is)
    (case k_answer_part => k_is)
    (case g_answer_next => k_is)
    (case l_answer_next => k_is)
    (case c_answer_next => k_is)
    (case k_answer_next => k_is)
    (case g_answers => k_is)
    (case l_answers => k_is)
    (case c_answers => k_is)
    (case k_answers => k_is)
    (case g_ALL => k_is)
    (case g_NAME => k_is)
    (case g_BOTH => k_is)
    (case g_EITHER => k_is)
    (case g_LACK => k_is)
    (case g_SOME => k_is)
    (case g_EVERY => k_is)
    (case g_MARKS => k_is)
    (case l_MARKS => k_is)
    (case g_INNER => k_is)
    (case l_INNER => k_is)
    (case g_BEGINS => k_is)
    (case g_LINE => k_is)
    (case g_DROP => k_is)
    (case g_WORDS => k_is)
    (case g_QUIET => k_is)
    (case g_PART => k_is)
    (case g_UNDER => k_is)
    (case g_BY => k_is)
    (case g_MALFORMED => k_is)
    (case g_NO_SUCH_AXIOM => k_is)
    (case g_TOO_MUCH => k_is)
    (case g_MOST_AXIOMS => k_is)
    (case g_MOST_ATOMS => k_is)
    (case g_MOST_ATOMS_UNDER => k_is)
    (case g_NAMES => k_is)
    (case g_NAME_SETS => k_is)
    (case g_ROLE_SETS => k_is)
    (case no_enumerate => k_is)
    (case no_len => k_is)
    (case no_list => k_is)
    (case no_range => k_is)
    (case no_reversed => k_is)
    (case no_sorted => k_is)
  case S =>
    intro K H xs a hO hwi hask hx
    cases hx with
    | cons h1 h2 =>
      cases h2
      cases h1 with
      | lst hs ha =>
        have e := L2.ints_dw a.1 _ ha
        subst e
        obtain ⟨cs, e1, e2, e3, e4, e5⟩ := AX.asked_calls (l := a.1) hask
        refine ⟨_, cs, rfl, ?_, e2, e3, e5, fun H' p hp => ?_⟩
        · rw [← e1]; exact hs
        · have e6 : PyOc06.answers a.1 = PyFlat.told (AX.outs Oc06.init cs) := e4
          show L2.Dw K H' _ (WData.list ((PyOc06.answers a.1).map WData.int))
          rw [e6]
          exact .lst (L2.SqL.of hp) (L2.dw_ints _)
#print axioms PySem.Challenge.cw_axiomparts_s01_answers_holds
