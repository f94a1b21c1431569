import PyProof.Rows.All
import Wide.All
import OpenK.AllK
import Wide.FinOn
import PyProof.EqAt
import PyProof.EqKinds
import PyProof.TupleCall
import KE.BitLaws
import Open.SpecLaws
import KE.OsHead
import KE.OsGo
import PySz31
import KE.KDictList
import PyProof.WalkInts
import KE.KLam
import KE.KNestM
import KE.KSortKeyAny
import KE.KDictSum
import PySem.Challenge.RW_kinwordsdesk_s01_answers
/-! Lines, levels, heights: plain mathematics about the specification's words. -/
namespace KM
open Sz31
/-! ### lines along any links -/
def reach (L : Nat → List Nat) : Nat → Nat → List Nat
  | 0, i => [i]
  | k + 1, i => (L i).flatMap fun p => reach L k p
def tall (L : Nat → List Nat) : Nat → Nat → Nat
  | 0, _ => 0
  | k + 1, i => (L i).foldl (fun m p => max m (tall L k p + 1)) 0
theorem up_eq (s : St) : ∀ k i, up s k i = reach (fun i => (s.get i).parents) k i
  | 0, _ => rfl
  | k + 1, i => by
    show (s.get i).parents.flatMap (fun p => up s k p) = (s.get i).parents.flatMap fun p => reach _ k p
    exact congrArg (fun f => List.flatMap f _) (funext fun p => up_eq s k p)
theorem height_eq (s : St) : ∀ k i, height s k i = tall (fun i => (s.get i).parents) k i
  | 0, _ => rfl
  | k + 1, i => by
    show (s.get i).parents.foldl (fun m p => max m (height s k p + 1)) 0 = (s.get i).parents.foldl (fun m p => max m (tall _ k p + 1)) 0
    exact congrArg (fun f => List.foldl f 0 (s.get i).parents) (funext fun m => funext fun p => by rw [height_eq s k p])
theorem fall_eq (s : St) : ∀ k i, fall s k i = tall (children s) k i
  | 0, _ => rfl
  | k + 1, i => by
    show (children s i).foldl (fun m p => max m (fall s k p + 1)) 0 = (children s i).foldl (fun m p => max m (tall _ k p + 1)) 0
    exact congrArg (fun f => List.foldl f 0 (children s i)) (funext fun m => funext fun p => by rw [fall_eq s k p])
section
variable {L : Nat → List Nat}
theorem mem_zero {i a : Nat} : a ∈ reach L 0 i ↔ a = i := by simp [reach]
theorem mem_succ {k i a : Nat} : a ∈ reach L (k + 1) i ↔ ∃ p, p ∈ L i ∧ a ∈ reach L k p := by simp [reach]
theorem mem_add : ∀ {k l i a : Nat}, a ∈ reach L (k + l) i ↔ ∃ c, c ∈ reach L k i ∧ a ∈ reach L l c
  | 0, l, i, a => by simp [mem_zero]
  | k + 1, l, i, a => by
    rw [show k + 1 + l = (k + l) + 1 by omega, mem_succ]
    constructor
    · rintro ⟨p, hp, h⟩
      obtain ⟨c, h1, h2⟩ := mem_add.mp h
      exact ⟨c, mem_succ.mpr ⟨p, hp, h1⟩, h2⟩
    · rintro ⟨c, h1, h2⟩
      obtain ⟨p, hp, h3⟩ := mem_succ.mp h1
      exact ⟨p, hp, mem_add.mpr ⟨c, h3, h2⟩⟩
theorem mem_one {i a : Nat} : a ∈ reach L 1 i ↔ a ∈ L i := by
  rw [mem_succ]
  constructor
  · rintro ⟨p, hp, h⟩; rw [mem_zero.mp h]; exact hp
  · intro h; exact ⟨a, h, mem_zero.mpr rfl⟩
theorem mem_snoc {k i a : Nat} : a ∈ reach L (k + 1) i ↔ ∃ c, c ∈ reach L k i ∧ a ∈ L c := by
  rw [mem_add]
  constructor
  · rintro ⟨c, h1, h2⟩; exact ⟨c, h1, mem_one.mp h2⟩
  · rintro ⟨c, h1, h2⟩; exact ⟨c, h1, mem_one.mpr h2⟩
theorem nil_iff {k i : Nat} : reach L k i = [] ↔ ∀ a, a ∉ reach L k i := by
  rw [List.eq_nil_iff_forall_not_mem]
theorem nil_succ {k i : Nat} (h : reach L k i = []) : reach L (k + 1) i = [] := by
  rw [nil_iff] at *
  intro a ha
  obtain ⟨c, hc, _⟩ := mem_snoc.mp ha
  exact h c hc
theorem nil_le {k l i : Nat} (h : reach L k i = []) (hl : k ≤ l) : reach L l i = [] := by
  obtain ⟨d, rfl⟩ := Nat.le.dest hl
  induction d with
  | zero => exact h
  | succ d ih => exact nil_succ (ih (Nat.le_add_right _ _))
theorem ne_nil_le {k l i : Nat} (h : reach L l i ≠ []) (hl : k ≤ l) : reach L k i ≠ [] := fun e => h (nil_le e hl)
/-- a running greatest -/
theorem foldl_max_ge {f : Nat → Nat} : ∀ (l : List Nat) (m : Nat), m ≤ l.foldl (fun m p => max m (f p)) m
  | [], _ => Nat.le_refl _
  | x :: l, m => by
    rw [List.foldl_cons]
    exact Nat.le_trans (Nat.le_max_left _ _) (foldl_max_ge l _)
theorem foldl_max_mem {f : Nat → Nat} : ∀ (l : List Nat) (m x : Nat), x ∈ l → f x ≤ l.foldl (fun m p => max m (f p)) m
  | y :: l, m, x, h => by
    rw [List.foldl_cons]
    rcases List.mem_cons.mp h with rfl | h
    · exact Nat.le_trans (Nat.le_max_right _ _) (foldl_max_ge l _)
    · exact foldl_max_mem l _ x h
theorem foldl_max_is {f : Nat → Nat} : ∀ (l : List Nat) (m : Nat), l.foldl (fun m p => max m (f p)) m = m ∨ ∃ x, x ∈ l ∧ l.foldl (fun m p => max m (f p)) m = f x
  | [], _ => .inl rfl
  | y :: l, m => by
    rw [List.foldl_cons]
    rcases foldl_max_is l (max m (f y)) with h | ⟨x, hx, h⟩
    · by_cases hm : f y ≤ m
      · left; rw [h]; omega
      · right; exact ⟨y, List.mem_cons_self, by rw [h]; omega⟩
    · right; exact ⟨x, List.mem_cons_of_mem _ hx, h⟩
theorem tall_le : ∀ {f i : Nat}, tall L f i ≤ f
  | 0, _ => Nat.le_refl _
  | f + 1, i => by
    show (L i).foldl (fun m p => max m (tall L f p + 1)) 0 ≤ f + 1
    rcases foldl_max_is (f := fun p => tall L f p + 1) (L i) 0 with h | ⟨x, _, h⟩
    · rw [h]; omega
    · rw [h]
      have := tall_le (f := f) (i := x)
      omega
theorem tall_reach : ∀ {f i : Nat}, reach L (tall L f i) i ≠ []
  | 0, i => by simp [tall, reach]
  | f + 1, i => by
    show reach L ((L i).foldl (fun m p => max m (tall L f p + 1)) 0) i ≠ []
    rcases foldl_max_is (f := fun p => tall L f p + 1) (L i) 0 with h | ⟨x, hx, h⟩
    · rw [h]; simp [reach]
    · rw [h]
      intro e
      have h2 := tall_reach (f := f) (i := x)
      obtain ⟨a, ha⟩ := List.exists_mem_of_ne_nil _ h2
      exact nil_iff.mp e a (mem_succ.mpr ⟨x, hx, ha⟩)
theorem le_tall : ∀ {f k i : Nat}, reach L k i ≠ [] → k ≤ f → k ≤ tall L f i
  | 0, k, i, _, hk => by omega
  | f + 1, 0, i, _, _ => Nat.zero_le _
  | f + 1, k + 1, i, h, hk => by
    obtain ⟨a, ha⟩ := List.exists_mem_of_ne_nil _ h
    obtain ⟨p, hp, hap⟩ := mem_succ.mp ha
    have h1 : k ≤ tall L f p := le_tall (List.ne_nil_of_mem hap) (by omega)
    have h2 := foldl_max_mem (f := fun p => tall L f p + 1) (L i) 0 p hp
    show k + 1 ≤ (L i).foldl (fun m p => max m (tall L f p + 1)) 0
    exact Nat.le_trans (by omega) h2
/-- the longest line, told by its levels -/
theorem tall_is {f k i : Nat} (h1 : reach L k i ≠ []) (h2 : reach L (k + 1) i = []) (hk : k ≤ f) : tall L f i = k := by
  have h3 := le_tall h1 hk
  by_cases h4 : tall L f i = k
  · exact h4
  · exact absurd (nil_le h2 (show k + 1 ≤ tall L f i by omega)) tall_reach
end
/-! ### levels: each once, in the order met -/
theorem once_go (l : List Nat) : ∀ (r : List Nat), (∀ x, x ∈ l.foldl (fun r x => if r.contains x = true then r else r ++ [x]) r ↔ x ∈ r ∨ x ∈ l) ∧ (r.Nodup → (l.foldl (fun r x => if r.contains x = true then r else r ++ [x]) r).Nodup) := by
  induction l with
  | nil => intro r; simp
  | cons y l ih =>
    intro r
    rw [List.foldl_cons]
    by_cases h : r.contains y = true
    · rw [if_pos h]
      have hy : y ∈ r := List.contains_iff_mem.mp h
      refine ⟨fun x => ?_, (ih r).2⟩
      rw [(ih r).1 x, List.mem_cons]
      constructor
      · rintro (h | h)
        · exact .inl h
        · exact .inr (.inr h)
      · rintro (h | rfl | h)
        · exact .inl h
        · exact .inl hy
        · exact .inr h
    · rw [if_neg h]
      have hy : y ∉ r := fun q => h (List.contains_iff_mem.mpr q)
      refine ⟨fun x => ?_, fun hr => (ih _).2 ?_⟩
      · rw [(ih _).1 x, List.mem_append, List.mem_singleton, List.mem_cons, or_assoc]
      · rw [List.nodup_append]
        refine ⟨hr, by simp, fun a ha b hb => ?_⟩
        rw [List.mem_singleton] at hb
        subst hb
        intro e; subst e; exact hy ha
theorem mem_once {l : List Nat} {x : Nat} : x ∈ once l ↔ x ∈ l := by
  rw [once, (once_go l []).1 x]; simp
theorem nodup_once {l : List Nat} : (once l).Nodup := (once_go l []).2 List.nodup_nil
theorem nodup_len_le : ∀ {l m : List Nat}, l.Nodup → (∀ x, x ∈ l → x ∈ m) → l.length ≤ m.length
  | [], _, _, _ => Nat.zero_le _
  | a :: l, m, hl, h => by
    obtain ⟨h1, h2⟩ := List.nodup_cons.mp hl
    have ha : a ∈ m := h a List.mem_cons_self
    have h3 : l.length ≤ (m.erase a).length := nodup_len_le h2 fun x hx => by
      have hne : x ≠ a := fun e => h1 (e ▸ hx)
      exact (List.mem_erase_of_ne hne).mpr (h x (List.mem_cons_of_mem _ hx))
    rw [List.length_erase_of_mem ha] at h3
    have : 0 < m.length := List.length_pos_of_mem ha
    simp only [List.length_cons]
    omega
theorem nodup_len_eq {l m : List Nat} (hl : l.Nodup) (hm : m.Nodup) (h : ∀ x, x ∈ l ↔ x ∈ m) : l.length = m.length :=
  Nat.le_antisymm (nodup_len_le hl fun x hx => (h x).mp hx) (nodup_len_le hm fun x hx => (h x).mpr hx)
theorem once_len {l m : List Nat} (hm : m.Nodup) (h : ∀ x, x ∈ m ↔ x ∈ l) : (once l).length = m.length :=
  nodup_len_eq nodup_once hm fun x => by rw [mem_once, h]
/-- the levels that the program holds: level k from the start -/
def lv (L : Nat → List Nat) (i : Nat) : Nat → List Nat
  | 0 => [i]
  | k + 1 => once ((lv L i k).flatMap L)
theorem mem_lv {L : Nat → List Nat} {i : Nat} : ∀ {k a : Nat}, a ∈ lv L i k ↔ a ∈ reach L k i
  | 0, a => by simp [lv, reach]
  | k + 1, a => by
    show a ∈ once ((lv L i k).flatMap L) ↔ _
    rw [mem_once, List.mem_flatMap, mem_snoc]
    constructor
    · rintro ⟨c, h1, h2⟩; exact ⟨c, mem_lv.mp h1, h2⟩
    · rintro ⟨c, h1, h2⟩; exact ⟨c, mem_lv.mpr h1, h2⟩
theorem nodup_lv {L : Nat → List Nat} {i : Nat} : ∀ {k : Nat}, (lv L i k).Nodup
  | 0 => by simp [lv]
  | k + 1 => nodup_once
theorem lv_nil {L : Nat → List Nat} {i k : Nat} : lv L i k = [] ↔ reach L k i = [] := by
  rw [List.eq_nil_iff_forall_not_mem, nil_iff]
  exact ⟨fun h a ha => h a (mem_lv.mpr ha), fun h a ha => h a (mem_lv.mp ha)⟩
theorem lv_once {L : Nat → List Nat} {i k : Nat} : (once (reach L k i)).length = (lv L i k).length :=
  once_len nodup_lv fun _ => mem_lv
/-! ### a state as it may be -/
abbrev par (s : St) (i : Nat) : List Nat := (s.get i).parents
structure WF (s : St) : Prop where
  few : s.persons.length ≤ 1024
  sex : ∀ i, (s.get i).sex ≤ 2
  two : ∀ i, (par s i).length ≤ 2
  nodup : ∀ i, (par s i).Nodup
  lt : ∀ i p, p ∈ par s i → p < s.persons.length
  deep : ∀ i, reach (par s) 29 i = []
  plt : ∀ p, p ∈ s.partners → p.1 < s.persons.length ∧ p.2 < s.persons.length ∧ p.1 ≠ p.2
  pnodup : (s.partners.map fun p => (min p.1 p.2, max p.1 p.2)).Nodup
  pfew : s.partners.length ≤ 4096
theorem get_out {s : St} {i : Nat} (h : s.persons.length ≤ i) : s.get i = ⟨0, []⟩ := by
  unfold St.get
  rw [List.getD_eq_getElem?_getD, List.getElem?_eq_none h]
  rfl
theorem par_out {s : St} {i : Nat} (h : s.persons.length ≤ i) : par s i = [] := by
  show (s.get i).parents = []
  rw [get_out h]
theorem lt_of_par {s : St} {i p : Nat} (h : p ∈ par s i) : i < s.persons.length := by
  by_cases q : i < s.persons.length
  · exact q
  · rw [par_out (by omega)] at h; cases h
theorem mem_children {s : St} {i c : Nat} : c ∈ children s i ↔ i ∈ par s c := by
  unfold children
  rw [List.mem_filter, List.mem_range]
  constructor
  · rintro ⟨_, h⟩; exact List.contains_iff_mem.mp h
  · intro h; exact ⟨lt_of_par h, List.contains_iff_mem.mpr h⟩
/-- down is up, the other way -/
theorem mem_down {s : St} : ∀ {k a c : Nat}, c ∈ reach (children s) k a ↔ a ∈ reach (par s) k c
  | 0, a, c => by rw [mem_zero, mem_zero]; exact eq_comm
  | k + 1, a, c => by
    rw [mem_succ, mem_snoc]
    constructor
    · rintro ⟨d, h1, h2⟩; exact ⟨d, mem_down.mp h2, mem_children.mp h1⟩
    · rintro ⟨d, h1, h2⟩; exact ⟨d, mem_children.mpr h2, mem_down.mpr h1⟩
theorem isAbove_iff {s : St} {i a : Nat} : isAbove s i a = true ↔ ∃ k, k ≤ 28 ∧ a ∈ reach (par s) k i := by
  unfold isAbove above
  rw [Bool.not_eq_true', ← Bool.not_eq_true, List.isEmpty_iff]
  constructor
  · intro h
    obtain ⟨k, hk⟩ := List.exists_mem_of_ne_nil _ h
    rw [List.mem_filter, List.mem_range, List.contains_iff_mem, up_eq] at hk
    exact ⟨k, by have := hk.1; simp only [DEPTH] at this; omega, hk.2⟩
  · rintro ⟨k, hk, h⟩
    have : k ∈ (List.range (DEPTH + 1)).filter fun k => (up s k i).contains a := by
      rw [List.mem_filter, List.mem_range, List.contains_iff_mem, up_eq]
      exact ⟨by simp only [DEPTH]; omega, h⟩
    exact List.ne_nil_of_mem this
theorem WF.shallow {s : St} (W : WF s) {k i a : Nat} (h : a ∈ reach (par s) k i) : k ≤ 28 := by
  by_cases q : k ≤ 28
  · exact q
  · rw [nil_le (W.deep i) (show 29 ≤ k by omega)] at h; cases h
theorem WF.isAbove {s : St} (W : WF s) {i a : Nat} : isAbove s i a = true ↔ ∃ k, a ∈ reach (par s) k i := by
  rw [isAbove_iff]
  exact ⟨fun ⟨k, _, h⟩ => ⟨k, h⟩, fun ⟨k, h⟩ => ⟨k, W.shallow h, h⟩⟩
/-- no one stands above oneself but by no step -/
theorem WF.no_loop {s : St} (W : WF s) {k i : Nat} (h : i ∈ reach (par s) k i) : k = 0 := by
  cases k with
  | zero => rfl
  | succ k =>
    exfalso
    have : ∀ n, i ∈ reach (par s) (n * (k + 1)) i := by
      intro n
      induction n with
      | zero => rw [Nat.zero_mul]; exact mem_zero.mpr rfl
      | succ n ih => rw [Nat.succ_mul]; exact mem_add.mpr ⟨i, ih, h⟩
    have h29 := W.shallow (this 29)
    have : 29 * 1 ≤ 29 * (k + 1) := Nat.mul_le_mul_left 29 (by omega)
    omega
/-! ### a parent more -/
def addPar (s : St) (i j : Nat) : St := { s with persons := s.persons.set i { s.get i with parents := (s.get i).parents ++ [j] } }
theorem get_add {s : St} {i j x : Nat} (hi : i < s.persons.length) : (addPar s i j).get x = if x = i then { s.get i with parents := (s.get i).parents ++ [j] } else s.get x := by
  unfold addPar St.get
  dsimp only
  rw [List.getD_eq_getElem?_getD, List.getElem?_set]
  by_cases h : x = i
  · subst h; simp [hi]
  · rw [if_neg (fun e => h e.symm), if_neg h, List.getD_eq_getElem?_getD]
theorem par_add {s : St} {i j x : Nat} (hi : i < s.persons.length) : par (addPar s i j) x = if x = i then par s i ++ [j] else par s x := by
  show ((addPar s i j).get x).parents = _
  rw [get_add hi]
  by_cases h : x = i
  · rw [if_pos h, if_pos h]
  · rw [if_neg h, if_neg h]
theorem len_add {s : St} {i j : Nat} : (addPar s i j).persons.length = s.persons.length := by simp [addPar]
/-- a line of the new state: an old one, or an old one to the child, the new step, and on -/
theorem mem_add_par {s : St} {i j : Nat} (hi : i < s.persons.length) : ∀ {k x a : Nat}, a ∈ reach (par (addPar s i j)) k x → a ∈ reach (par s) k x ∨ ∃ k1 k2, k = k1 + 1 + k2 ∧ i ∈ reach (par s) k1 x ∧ a ∈ reach (par (addPar s i j)) k2 j
  | 0, x, a, h => .inl (mem_zero.mpr (mem_zero.mp h))
  | k + 1, x, a, h => by
    obtain ⟨p, hp, h2⟩ := mem_succ.mp h
    rw [par_add hi] at hp
    by_cases hx : x = i
    · rw [if_pos hx] at hp
      rcases List.mem_append.mp hp with hp | hp
      · rcases mem_add_par hi h2 with h3 | ⟨k1, k2, e, h3, h4⟩
        · exact .inl (mem_succ.mpr ⟨p, by rw [hx]; exact hp, h3⟩)
        · exact .inr ⟨k1 + 1, k2, by omega, mem_succ.mpr ⟨p, by rw [hx]; exact hp, h3⟩, h4⟩
      · rw [List.mem_singleton] at hp
        subst hp
        exact .inr ⟨0, k, by omega, by rw [hx]; exact mem_zero.mpr rfl, h2⟩
    · rw [if_neg hx] at hp
      rcases mem_add_par hi h2 with h3 | ⟨k1, k2, e, h3, h4⟩
      · exact .inl (mem_succ.mpr ⟨p, hp, h3⟩)
      · exact .inr ⟨k1 + 1, k2, by omega, mem_succ.mpr ⟨p, hp, h3⟩, h4⟩
theorem WF.addPar {s : St} (W : WF s) {i j : Nat} (hi : i < s.persons.length) (hj : j < s.persons.length) (h1 : j ∉ par s i) (h2 : (par s i).length < 2)
    (h3 : ¬ ∃ k, i ∈ reach (par s) k j) {u d : Nat} (hu : ∀ k, reach (par s) k j ≠ [] → k ≤ u) (hd : ∀ k, reach (children s) k i ≠ [] → k ≤ d) (h4 : u + 1 + d ≤ 28) : WF (addPar s i j) where
  few := by rw [len_add]; exact W.few
  sex := fun x => by
    rw [get_add hi]
    by_cases h : x = i
    · rw [if_pos h]; exact W.sex i
    · rw [if_neg h]; exact W.sex x
  two := fun x => by
    rw [par_add hi]
    by_cases h : x = i
    · rw [if_pos h, List.length_append]; simp only [List.length_cons, List.length_nil]; omega
    · rw [if_neg h]; exact W.two x
  nodup := fun x => by
    rw [par_add hi]
    by_cases h : x = i
    · rw [if_pos h, List.nodup_append]
      exact ⟨W.nodup i, by simp, fun a ha b hb e => h1 (by rw [List.mem_singleton] at hb; subst hb; subst e; exact ha)⟩
    · rw [if_neg h]; exact W.nodup x
  lt := fun x p hp => by
    rw [len_add]
    rw [par_add hi] at hp
    by_cases h : x = i
    · rw [if_pos h] at hp
      rcases List.mem_append.mp hp with hp | hp
      · exact W.lt i p hp
      · rw [List.mem_singleton] at hp; rw [hp]; exact hj
    · rw [if_neg h] at hp; exact W.lt x p hp
  deep := fun x => by
    rw [nil_iff]
    intro a ha
    rcases mem_add_par hi ha with h | ⟨k1, k2, e, h5, h6⟩
    · rw [W.deep x] at h; cases h
    · have h7 : a ∈ reach (par s) k2 j := by
        rcases mem_add_par hi h6 with h | ⟨k3, _, _, h8, _⟩
        · exact h
        · exact absurd ⟨k3, h8⟩ h3
      have := hu k2 (List.ne_nil_of_mem h7)
      have := hd k1 (List.ne_nil_of_mem (mem_down.mpr h5))
      omega
  plt := fun p hp => by rw [len_add]; exact W.plt p hp
  pnodup := W.pnodup
  pfew := W.pfew
end KM
/-! The nearest common ones; how likely; how long a word is. -/
namespace KM
open Sz31
theorem mem_above {s : St} {i a k : Nat} : k ∈ above s i a ↔ k ≤ 28 ∧ a ∈ reach (par s) k i := by
  unfold above
  rw [List.mem_filter, List.mem_range, List.contains_iff_mem, up_eq]
  simp only [DEPTH]
  constructor
  · rintro ⟨h1, h2⟩; exact ⟨by omega, h2⟩
  · rintro ⟨h1, h2⟩; exact ⟨by omega, h2⟩
theorem nodup_above {s : St} {i a : Nat} : (above s i a).Nodup := List.Nodup.sublist List.filter_sublist List.nodup_range
theorem mem_pairs {s : St} {a b m n c : Nat} : (m, n, c) ∈ pairs s a b ↔ c < s.persons.length ∧ m ∈ above s a c ∧ n ∈ above s b c := by
  unfold pairs
  simp only [List.mem_flatMap, List.mem_range, List.mem_map, Prod.mk.injEq]
  constructor
  · rintro ⟨c', hc, m', hm, n', hn, e1, e2, e3⟩
    subst e1 e2 e3
    exact ⟨hc, hm, hn⟩
  · rintro ⟨hc, hm, hn⟩
    exact ⟨c, hc, m, hm, n, hn, rfl, rfl, rfl⟩
/-- c is common to a and b: m steps up from a, n from b -/
def Com (s : St) (a b m n c : Nat) : Prop := c ∈ reach (par s) m a ∧ c ∈ reach (par s) n b
theorem reach_lt {s : St} (W : WF s) {k i c : Nat} (hi : i < s.persons.length) (h : c ∈ reach (par s) k i) : c < s.persons.length := by
  cases k with
  | zero => rw [mem_zero.mp h]; exact hi
  | succ k =>
    obtain ⟨d, _, hd⟩ := mem_snoc.mp h
    exact W.lt d c hd
theorem pairs_iff {s : St} (W : WF s) {a b m n c : Nat} (ha : a < s.persons.length) : (m, n, c) ∈ pairs s a b ↔ Com s a b m n c := by
  rw [mem_pairs, mem_above, mem_above]
  constructor
  · rintro ⟨_, ⟨_, h1⟩, _, h2⟩; exact ⟨h1, h2⟩
  · rintro ⟨h1, h2⟩; exact ⟨reach_lt W ha h1, ⟨W.shallow h1, h1⟩, W.shallow h2, h2⟩
theorem less_iff {x y : Nat × Nat × Nat} : less x y = true ↔ x.1 + x.2.1 < y.1 + y.2.1 ∨ (x.1 + x.2.1 = y.1 + y.2.1 ∧ x.1 < y.1) := by
  unfold less
  simp only [Bool.or_eq_true, Bool.and_eq_true, decide_eq_true_eq, beq_iff_eq]
theorem fold_least : ∀ (l : List (Nat × Nat × Nat)) (x : Nat × Nat × Nat), let z := l.foldl (fun m y => if less y m = true then y else m) x; (z = x ∨ z ∈ l) ∧ ¬ less x z = true ∧ ∀ y, y ∈ l → ¬ less y z = true
  | [], x => ⟨.inl rfl, by rw [less_iff]; intro h; rw [show ([] : List (Nat × Nat × Nat)).foldl (fun m y => if less y m = true then y else m) x = x from rfl] at h; omega, by simp⟩
  | y :: l, x => by
    intro z
    by_cases h : less y x = true
    · have ih := fold_least l y
      have e : z = l.foldl (fun m y => if less y m = true then y else m) y := by
        show (y :: l).foldl _ x = _
        rw [List.foldl_cons, if_pos h]
      dsimp only at ih
      rw [← e] at ih
      obtain ⟨h1, h2, h3⟩ := ih
      refine ⟨?_, ?_, ?_⟩
      · rcases h1 with q | q
        · exact .inr (by rw [q]; exact List.mem_cons_self)
        · exact .inr (List.mem_cons_of_mem _ q)
      · rw [less_iff] at h h2 ⊢; omega
      · intro u hu
        rcases List.mem_cons.mp hu with rfl | hu
        · exact h2
        · exact h3 u hu
    · have ih := fold_least l x
      have e : z = l.foldl (fun m y => if less y m = true then y else m) x := by
        show (y :: l).foldl _ x = _
        rw [List.foldl_cons, if_neg h]
      dsimp only at ih
      rw [← e] at ih
      obtain ⟨h1, h2, h3⟩ := ih
      refine ⟨?_, h2, ?_⟩
      · rcases h1 with q | q
        · exact .inl q
        · exact .inr (List.mem_cons_of_mem _ q)
      · intro u hu
        rcases List.mem_cons.mp hu with rfl | hu
        · rw [less_iff] at h h2 ⊢; omega
        · exact h3 u hu
theorem flatMap_one {α : Type} {m : Nat} {g : List α} : ∀ (l : List Nat), l.Nodup → (l.flatMap fun x => if x = m then g else []) = if m ∈ l then g else []
  | [], _ => by simp
  | a :: l, h => by
    obtain ⟨h1, h2⟩ := List.nodup_cons.mp h
    rw [List.flatMap_cons, flatMap_one l h2]
    by_cases e : a = m
    · subst e
      rw [if_pos rfl, if_neg h1, if_pos List.mem_cons_self, List.append_nil]
    · rw [if_neg e, List.nil_append]
      by_cases q : m ∈ l
      · rw [if_pos q, if_pos (List.mem_cons_of_mem _ q)]
      · rw [if_neg q, if_neg (fun z => by rcases List.mem_cons.mp z with z | z; exact e z.symm; exact q z)]
theorem filter_flat {α β : Type} (p : β → Bool) (f : α → List β) : ∀ l : List α, (l.flatMap f).filter p = l.flatMap fun x => (f x).filter p
  | [] => rfl
  | a :: l => by rw [List.flatMap_cons, List.filter_append, filter_flat p f l, List.flatMap_cons]
theorem map_flat {α β γ : Type} (g : β → γ) (f : α → List β) : ∀ l : List α, (l.flatMap f).map g = l.flatMap fun x => (f x).map g
  | [] => rfl
  | a :: l => by rw [List.flatMap_cons, List.map_append, map_flat g f l, List.flatMap_cons]
theorem flat_if {p : Nat → Prop} [DecidablePred p] : ∀ l : List Nat, (l.flatMap fun c => if p c then [c] else []) = l.filter fun c => decide (p c)
  | [] => rfl
  | a :: l => by
    rw [List.flatMap_cons, flat_if l, List.filter_cons]
    by_cases h : p a
    · rw [if_pos h, if_pos (decide_eq_true h)]; rfl
    · rw [if_neg h, if_neg (by simp [h])]; rfl
/-- who is common by m and n, by numbers -/
def coms (s : St) (a b m n : Nat) : List Nat := (List.range s.persons.length).filter fun c => decide (m ∈ above s a c ∧ n ∈ above s b c)
theorem coms_eq (s : St) (a b m n : Nat) : ((pairs s a b).filter fun y => y.1 == m && y.2.1 == n).map (fun y => y.2.2) = coms s a b m n := by
  unfold pairs coms
  rw [filter_flat, map_flat, ← flat_if]
  refine congrArg (fun f => List.flatMap f (List.range s.persons.length)) (funext fun c => ?_)
  rw [filter_flat, map_flat]
  have e1 : ∀ m', (((above s b c).map fun n' => (m', n', c)).filter fun y => y.1 == m && y.2.1 == n).map (fun y => y.2.2) = if m' = m then (if n ∈ above s b c then [c] else []) else [] := fun m' => by
    rw [← flatMap_one (g := [c]) (m := n) (above s b c) nodup_above]
    by_cases hm : m' = m
    · rw [if_pos hm]
      generalize above s b c = l
      induction l with
      | nil => rfl
      | cons x l ih =>
        rw [List.map_cons, List.filter_cons, List.flatMap_cons, ← ih]
        by_cases hx : x = n
        · rw [if_pos (by simp [hm, hx]), if_pos hx]; rfl
        · rw [if_neg (by simp [hx]), if_neg hx]; rfl
    · rw [if_neg hm]
      have : ((above s b c).map fun n' => (m', n', c)).filter (fun y => y.1 == m && y.2.1 == n) = [] := by
        rw [List.filter_eq_nil_iff]
        intro y hy
        obtain ⟨n', _, rfl⟩ := List.mem_map.mp hy
        simp [hm]
      rw [this]; rfl
  rw [show (fun m' => (((above s b c).map fun n' => (m', n', c)).filter fun y => y.1 == m && y.2.1 == n).map (fun y => y.2.2)) = fun m' => if m' = m then (if n ∈ above s b c then [c] else []) else [] from funext e1, flatMap_one _ nodup_above]
  by_cases h1 : m ∈ above s a c
  · rw [if_pos h1]
    by_cases h2 : n ∈ above s b c
    · rw [if_pos h2, if_pos ⟨h1, h2⟩]
    · rw [if_neg h2, if_neg (fun q => h2 q.2)]
  · rw [if_neg h1, if_neg (fun q => h1 q.1)]
theorem mem_coms {s : St} (W : WF s) {a b m n c : Nat} (ha : a < s.persons.length) : c ∈ coms s a b m n ↔ Com s a b m n c := by
  unfold coms
  rw [List.mem_filter, List.mem_range, decide_eq_true_eq, ← pairs_iff W ha, mem_pairs]
theorem sorted_coms (s : St) (a b m n : Nat) : (coms s a b m n).Pairwise (· < ·) := List.Pairwise.sublist List.filter_sublist List.pairwise_lt_range
/-- the nearest are by m and n -/
structure Near (s : St) (a b m n : Nat) : Prop where
  com : ∃ c, Com s a b m n c
  least : ∀ m' n' c, Com s a b m' n' c → ¬ (m' + n' < m + n ∨ (m' + n' = m + n ∧ m' < m))
theorem nearest_none {s : St} (W : WF s) {a b : Nat} (ha : a < s.persons.length) : nearest s a b = none ↔ ∀ m n c, ¬ Com s a b m n c := by
  unfold nearest
  constructor
  · intro h m n c hc
    have := (pairs_iff W ha).mpr hc
    cases e : pairs s a b with
    | nil => rw [e] at this; cases this
    | cons x l => rw [e] at h; cases h
  · intro h
    cases e : pairs s a b with
    | nil => rfl
    | cons x l =>
      exfalso
      obtain ⟨m, n, c⟩ := x
      exact h m n c ((pairs_iff W ha).mp (by rw [e]; exact List.mem_cons_self))
theorem nearest_of {s : St} (W : WF s) {a b m n : Nat} (ha : a < s.persons.length) (N : Near s a b m n) : nearest s a b = some (m, n, coms s a b m n) := by
  obtain ⟨c, hc⟩ := N.com
  have hmem := (pairs_iff W ha).mpr hc
  unfold nearest
  cases e : pairs s a b with
  | nil => rw [e] at hmem; cases hmem
  | cons x l =>
    dsimp only
    have F := fold_least l x
    dsimp only at F
    generalize l.foldl (fun m y => if less y m = true then y else m) x = z at F
    obtain ⟨f1, f2, f3⟩ := F
    have hz : z ∈ pairs s a b := by
      rw [e]
      rcases f1 with q | q
      · rw [q]; exact List.mem_cons_self
      · exact List.mem_cons_of_mem _ q
    have hzc : Com s a b z.1 z.2.1 z.2.2 := (pairs_iff W ha).mp hz
    have hl := N.least _ _ _ hzc
    have h2 : ¬ less (m, n, c) z = true := by
      rw [e] at hmem
      rcases List.mem_cons.mp hmem with q | q
      · rw [q]; exact f2
      · exact f3 _ q
    rw [less_iff] at h2
    dsimp only at h2
    have e1 : z.1 = m := by omega
    have e2 : z.2.1 = n := by omega
    rw [← e, e1, e2, coms_eq]
theorem near_exists {s : St} {a b : Nat} (h : ∃ m n c, Com s a b m n c) : ∃ m n, Near s a b m n := by
  obtain ⟨m, n, c, hc⟩ := h
  have key : ∀ t, ∀ m n c, Com s a b m n c → m + n = t → ∃ m n, Near s a b m n := by
    intro t
    induction t using Nat.strongRecOn with
    | ind t ih =>
      intro m n c hc ht
      have key2 : ∀ u, ∀ m n c, Com s a b m n c → m + n = t → m = u → ∃ m n, Near s a b m n := by
        intro u
        induction u using Nat.strongRecOn with
        | ind u ih2 =>
          intro m n c hc ht hu
          by_cases q : ∃ m' n' c', Com s a b m' n' c' ∧ (m' + n' < m + n ∨ (m' + n' = m + n ∧ m' < m))
          · obtain ⟨m', n', c', h1, h2⟩ := q
            rcases h2 with h2 | ⟨h2, h3⟩
            · exact ih (m' + n') (by omega) m' n' c' h1 rfl
            · exact ih2 m' (by omega) m' n' c' h1 (by omega) rfl
          · exact ⟨m, n, ⟨c, hc⟩, fun m' n' c' h1 h2 => q ⟨m', n', c', h1, h2⟩⟩
      exact key2 m m n c hc ht rfl
  exact key _ m n c hc rfl
theorem nearest_cases {s : St} (W : WF s) {a b : Nat} (ha : a < s.persons.length) : (nearest s a b = none ∧ ∀ m n c, ¬ Com s a b m n c) ∨ ∃ m n, Near s a b m n ∧ m ≤ 28 ∧ n ≤ 28 ∧ nearest s a b = some (m, n, coms s a b m n) := by
  by_cases h : ∃ m n c, Com s a b m n c
  · obtain ⟨m, n, N⟩ := near_exists h
    obtain ⟨c, hc⟩ := N.com
    exact .inr ⟨m, n, N, W.shallow hc.1, W.shallow hc.2, nearest_of W ha N⟩
  · have h' : ∀ m n c, ¬ Com s a b m n c := fun m n c q => h ⟨m, n, c, q⟩
    exact .inl ⟨(nearest_none W ha).mpr h', h'⟩
/-! ### how likely -/
def hh (s : St) (i : Nat) : Nat := height s 29 i
theorem hh_le {s : St} (W : WF s) (i : Nat) : hh s i ≤ 28 := by
  unfold hh
  rw [height_eq]
  have h := tall_reach (L := par s) (f := 29) (i := i)
  obtain ⟨a, ha⟩ := List.exists_mem_of_ne_nil _ h
  exact W.shallow ha
theorem hh_par {s : St} (W : WF s) {i p : Nat} (h : p ∈ par s i) : hh s p + 1 ≤ hh s i := by
  have h0 := hh_le W p
  unfold hh at h0 ⊢
  rw [height_eq] at h0 ⊢
  rw [height_eq]
  refine le_tall ?_ (by omega)
  obtain ⟨a, ha⟩ := List.exists_mem_of_ne_nil _ (tall_reach (L := par s) (f := 29) (i := p))
  exact List.ne_nil_of_mem (mem_succ.mpr ⟨p, h, ha⟩)
theorem map_mem_congr {f g : Nat → Nat} {l : List Nat} (h : ∀ x, x ∈ l → f x = g x) : l.map f = l.map g := List.map_congr_left h
theorem alike_more {s : St} (W : WF s) : ∀ (k a b : Nat), hh s a + hh s b + 1 ≤ k → alike s (k + 1) a b = alike s k a b
  | 0, a, b, h => by omega
  | k + 1, a, b, h => by
    have key : ∀ p q, hh s p + hh s q + 1 ≤ k → alike s (k + 1) p q = alike s k p q := fun p q => alike_more W k p q
    rw [alike.eq_def s (k + 1 + 1), alike.eq_def s (k + 1)]
    dsimp only
    by_cases e : a = b
    · rw [if_pos e, if_pos e]
      cases hp : (s.get a).parents with
      | nil => rfl
      | cons p r =>
        cases r with
        | nil => rfl
        | cons q r2 =>
          cases r2 with
          | cons _ _ => rfl
          | nil =>
            have h1 := hh_par W (i := a) (p := p) (by show p ∈ (s.get a).parents; rw [hp]; simp)
            have h2 := hh_par W (i := a) (p := q) (by show q ∈ (s.get a).parents; rw [hp]; simp)
            subst e
            dsimp only
            rw [key p q (by omega)]
    · rw [if_neg e, if_neg e]
      by_cases hb : isAbove s b a = true
      · rw [if_pos hb, if_pos hb, map_mem_congr (f := fun p => alike s (k + 1) a p) (g := fun p => alike s k a p) fun p hp => key a p (by have := hh_par W (i := b) hp; omega)]
      · rw [if_neg hb, if_neg hb, map_mem_congr (f := fun p => alike s (k + 1) p b) (g := fun p => alike s k p b) fun p hp => key p b (by have := hh_par W (i := a) hp; omega)]
/-- how likely, over 2^60 -/
def AL (s : St) (a b : Nat) : Nat := alike s 58 a b
theorem AL_eq {s : St} (W : WF s) (a b : Nat) : AL s a b = if a = b then (ONE + (match (s.get a).parents with
      | [p, q] => AL s p q
      | _ => 0)) / 2
    else if isAbove s b a = true then ((par s b).map fun p => AL s a p).foldl (· + ·) 0 / 2
    else ((par s a).map fun p => AL s p b).foldl (· + ·) 0 / 2 := by
  have h1 := hh_le W a
  have h2 := hh_le W b
  have e : AL s a b = alike s 59 a b := (alike_more W 58 a b (by omega)).symm
  rw [e, alike.eq_def s 59]
  rfl
/-- the same at any fuel that is enough -/
theorem AL_fuel {s : St} (W : WF s) {a b : Nat} : ∀ k, hh s a + hh s b + 1 ≤ k → alike s k a b = AL s a b := by
  have up : ∀ d k, hh s a + hh s b + 1 ≤ k → alike s (k + d) a b = alike s k a b := by
    intro d
    induction d with
    | zero => intro k _; rfl
    | succ d ih => intro k hk; rw [show k + (d + 1) = (k + d) + 1 by omega, alike_more W (k + d) a b (by omega), ih k hk]
  have h1 := hh_le W a
  have h2 := hh_le W b
  intro k hk
  unfold AL
  by_cases q : k ≤ 58
  · rw [← up (58 - k) k hk, show k + (58 - k) = 58 by omega]
  · rw [← up (k - 58) 58 (by omega), show 58 + (k - 58) = k by omega]
end KM
/-! How long a word is. -/
namespace KM
open Sz31
theorem pick_len {sex k : Nat} {w m n : String} (h1 : (text w).length ≤ k) (h2 : (text m).length ≤ k) (h3 : (text n).length ≤ k) : (pick sex w m n).length ≤ k := by
  unfold pick
  split
  · exact h1
  · split
    · exact h2
    · exact h3
theorem greats_len : ∀ k, (greats k).length = 6 * k
  | 0 => rfl
  | k + 1 => by
    show (text "great-" ++ greats k).length = _
    rw [List.length_append, greats_len k, show (text "great-").length = 6 by decide +kernel]
    omega
def ordinals : List String := ["zeroth", "first", "second", "third", "fourth", "fifth", "sixth", "seventh", "eighth", "ninth", "tenth", "eleventh", "twelfth", "thirteenth", "fourteenth", "fifteenth", "sixteenth", "seventeenth", "eighteenth", "nineteenth", "twentieth"]
theorem ordinal_len (n : Nat) : (ordinal n).length ≤ 11 := by
  show (text (ordinals.getD n "distant")).length ≤ 11
  rw [List.getD_eq_getElem?_getD]
  cases e : ordinals[n]? with
  | none => show (text "distant").length ≤ 11; decide +kernel
  | some x =>
    have hx : x ∈ ordinals := List.mem_of_getElem? e
    have all : ordinals.all (fun x => decide ((text x).length ≤ 11)) = true := by decide +kernel
    exact of_decide_eq_true (List.all_eq_true.mp all x hx)
theorem times_len {n : Nat} (h : n ≤ 28) : (times n).length ≤ 20 := by
  have all : (List.range 29).all (fun n => decide ((times n).length ≤ 20)) = true := by decide +kernel
  exact of_decide_eq_true (List.all_eq_true.mp all n (List.mem_range.mpr (by omega)))
theorem blood_len {m n sex : Nat} {half : Bool} (hm : m ≤ 28) (hn : n ≤ 28) : (blood m n sex half).length ≤ 300 := by
  have hh : (if half = true then text "half-" else []).length ≤ 5 := by
    split
    · decide +kernel
    · exact Nat.zero_le _
  unfold blood
  dsimp only
  split
  · decide +kernel
  split
  · split
    · exact pick_len (by decide +kernel) (by decide +kernel) (by decide +kernel)
    · rw [List.length_append, greats_len]
      have := pick_len (sex := sex) (k := 20) (w := "grandmother") (m := "grandfather") (n := "grandparent") (by decide +kernel) (by decide +kernel) (by decide +kernel)
      omega
  split
  · split
    · exact pick_len (by decide +kernel) (by decide +kernel) (by decide +kernel)
    · rw [List.length_append, greats_len]
      have := pick_len (sex := sex) (k := 20) (w := "granddaughter") (m := "grandson") (n := "grandchild") (by decide +kernel) (by decide +kernel) (by decide +kernel)
      omega
  split
  · rw [List.length_append]
    have := pick_len (sex := sex) (k := 20) (w := "sister") (m := "brother") (n := "sibling") (by decide +kernel) (by decide +kernel) (by decide +kernel)
    omega
  split
  · rw [List.length_append, List.length_append]
    have := pick_len (sex := sex) (k := 20) (w := "aunt") (m := "uncle") (n := "parent's sibling") (by decide +kernel) (by decide +kernel) (by decide +kernel)
    have h2 : (if m = 2 then [] else greats (m - 3) ++ text "grand-").length ≤ 200 := by
      split
      · exact Nat.zero_le _
      · rw [List.length_append, greats_len, show (text "grand-").length = 6 by decide +kernel]; omega
    omega
  split
  · rw [List.length_append, List.length_append]
    have := pick_len (sex := sex) (k := 20) (w := "niece") (m := "nephew") (n := "sibling's child") (by decide +kernel) (by decide +kernel) (by decide +kernel)
    have h2 : (if n = 2 then [] else greats (n - 3) ++ text "grand-").length ≤ 200 := by
      split
      · exact Nat.zero_le _
      · rw [List.length_append, greats_len, show (text "grand-").length = 6 by decide +kernel]; omega
    omega
  · rw [List.length_append, List.length_append, List.length_append]
    have h1 := ordinal_len (min m n - 1)
    have h2 : (text " cousin").length = 7 := by decide +kernel
    have hr : (if m < n then n - m else m - n) ≤ 28 := by split <;> omega
    generalize (if m < n then n - m else m - n) = r at hr
    have h3 : (if r = 0 then ([] : Bytes) else text " " ++ (times r ++ text " removed")).length ≤ 40 := by
      split
      · exact Nat.zero_le _
      · rw [List.length_append, List.length_append, show (text " ").length = 1 by decide +kernel, show (text " removed").length = 8 by decide +kernel]
        have := times_len hr
        omega
    omega
theorem byBlood_len {s : St} (W : WF s) {a b : Nat} (ha : a < s.persons.length) {t : Bytes} (h : byBlood s a b = some t) : t.length ≤ 300 := by
  unfold byBlood at h
  rcases nearest_cases W ha with ⟨e, _⟩ | ⟨m, n, _, hm, hn, e⟩
  · rw [e] at h; cases h
  · rw [e] at h
    have h := Option.some.inj h
    rw [← h]
    exact blood_len hm hn
theorem partners_lt {s : St} {a p : Nat} (h : p ∈ partnersOf s a) : p < s.persons.length := by
  unfold partnersOf at h
  exact List.mem_range.mp (List.mem_filter.mp h).1
theorem word_len {s : St} (W : WF s) {a b : Nat} (ha : a < s.persons.length) : (word s a b).length ≤ 400 := by
  unfold word
  cases h1 : byBlood s a b with
  | some t => exact Nat.le_trans (byBlood_len W ha h1) (by decide)
  | none =>
    dsimp only
    have sp := pick_len (sex := (s.get b).sex) (k := 20) (w := "wife") (m := "husband") (n := "spouse") (by decide +kernel) (by decide +kernel) (by decide +kernel)
    split
    · omega
    · cases h2 : (partnersOf s a).findSome? fun p => byBlood s p b with
      | some t =>
        obtain ⟨p, hp, ht⟩ := List.exists_of_findSome?_eq_some h2
        have := byBlood_len W (partners_lt hp) ht
        dsimp only
        rw [List.length_append, show (text "-in-law").length = 7 by decide +kernel]
        omega
      | none =>
        dsimp only
        cases h3 : (partnersOf s b).findSome? fun p => byBlood s a p with
        | some t =>
          obtain ⟨p, hp, ht⟩ := List.exists_of_findSome?_eq_some h3
          have := byBlood_len W ha ht
          dsimp only
          rw [List.length_append, List.length_append, show (text "'s ").length = 3 by decide +kernel]
          omega
        | none => dsimp only; exact Nat.le_trans (show (text "not related").length ≤ 11 by decide +kernel) (by decide)
theorem does_short {s : St} (W : WF s) (c : Call) : (does s c).2.numbers.length + (does s c).2.bytes.length ≤ 500 := by
  have only0 : ∀ n, (only n).numbers.length + (only n).bytes.length ≤ 500 := fun n => by show 0 + 0 ≤ 500; decide
  cases c with
  | clear => exact only0 _
  | person x => unfold does; dsimp only; repeat' split
                all_goals exact only0 _
  | parent c p => unfold does; dsimp only; repeat' split
                  all_goals exact only0 _
  | partner a b => unfold does; dsimp only; repeat' split
                   all_goals exact only0 _
  | part a b => unfold does; dsimp only; repeat' split
                all_goals exact only0 _
  | above a k => exact only0 _
  | common a b =>
    unfold does
    dsimp only
    split
    · exact only0 _
    · split
      · show 3 + 0 ≤ 500; decide
      · exact only0 _
  | alike a b =>
    unfold does
    dsimp only
    split
    · exact only0 _
    · show 1 + 0 ≤ 500; decide
  | word a b room =>
    unfold does
    dsimp only
    split
    · exact only0 _
    · rename_i h
      have hb : both s a b = true := by
        cases q : both s a b with
        | true => rfl
        | false => exact absurd (.inl q) h
      unfold both St.has at hb
      simp only [Bool.and_eq_true, decide_eq_true_eq] at hb
      have := word_len (s := s) W (a := a.toNat) (b := b.toNat) (by omega)
      show 0 + ((word s a.toNat b.toNat).take room.toNat).length ≤ 500
      rw [List.length_take]
      omega
theorem step_short {s : St} (W : WF s) (c : List (List Int)) : (Sz31Neutral.step s c).2.length < 1000 := by
  unfold Sz31Neutral.step
  cases Sz31Neutral.callTo c with
  | none => show 0 < 1000; decide
  | some x =>
    have := does_short W x
    show ((does s x).2.value :: ((does s x).2.numbers ++ (does s x).2.bytes.map fun (b : UInt8) => (b.toNat : Int))).length < 1000
    rw [List.length_cons, List.length_append, List.length_map]
    omega
end KM
/-! The calls of one list, one behind another; what is told. -/
namespace KF
def width (p : Int) : Nat := if p = 1 then 0 else if p = 2 then 1 else if p = 9 then 3 else 2
theorem shape_eq {p : Int} {n k : Nat} (h : PySz31.shape p = some (n, k)) : k = 0 ∧ n = width p ∧ 1 ≤ p ∧ p ≤ 9 := by
  unfold PySz31.shape at h
  unfold width
  repeat' split at h
  all_goals first | (cases h; done) | (injection h with h; injection h with h1 h2; subst h1; subst h2; subst p; refine ⟨rfl, by decide, by decide, by decide⟩)
theorem calls_nil (f : Nat) : PyFlat.calls PySz31.shape f [] = some [] := by cases f <;> rfl
theorem calls_cons {f : Nat} {p : Int} {r : List Int} {cs : List (List (List Int))} (h : PyFlat.calls PySz31.shape f (p :: r) = some cs) :
    ∃ f' cs', 1 ≤ p ∧ p ≤ 9 ∧ width p ≤ r.length ∧ cs = [p :: r.take (width p)] :: cs' ∧ PyFlat.calls PySz31.shape f' (r.drop (width p)) = some cs' := by
  cases f with
  | zero => simp [PyFlat.calls] at h
  | succ f =>
    unfold PyFlat.calls at h
    unfold PyFlat.call at h
    dsimp only at h
    cases hs : PySz31.shape p with
    | none => rw [hs] at h; simp at h
    | some nk =>
      obtain ⟨n, k⟩ := nk
      obtain ⟨rfl, rfl, h1, h9⟩ := shape_eq hs
      rw [hs] at h
      dsimp only at h
      by_cases hl : r.length < width p
      · rw [if_pos hl] at h; simp at h
      · rw [if_neg hl] at h
        simp only [PyFlat.rows] at h
        cases hc : PyFlat.calls PySz31.shape f (r.drop (width p)) with
        | none => rw [hc] at h; simp at h
        | some cs' =>
          rw [hc] at h
          exact ⟨f, cs', h1, h9, by omega, (Option.some.inj h).symm, hc⟩
theorem whole_id (c : List (List Int)) : PySz31.whole c = c := by
  unfold PySz31.whole
  split <;> rfl
theorem asked_calls {l : List Int} (h : PySz31.answers_asked l = true) : ∃ cs, PyFlat.calls PySz31.shape l.length l = some cs ∧ cs.length ≤ 400 ∧ cs.all Sz31Neutral.asked1 = true ∧ PySz31.answers l = PyFlat.told (PyFlat.played Sz31Neutral.step Sz31Neutral.start cs) := by
  unfold PySz31.answers_asked PySz31.calls at h
  unfold PySz31.answers PySz31.calls
  cases hc : PyFlat.calls PySz31.shape l.length l with
  | none => rw [hc] at h; cases h
  | some cs =>
    rw [hc] at h
    have e : cs.map PySz31.whole = cs := by
      rw [show PySz31.whole = id from funext whole_id, List.map_id]
    dsimp only at h ⊢
    rw [e] at h ⊢
    unfold Sz31Neutral.asked PyFlat.atMost at h
    simp only [Bool.and_eq_true, decide_eq_true_eq] at h
    exact ⟨cs, rfl, h.1, h.2.1.1, rfl⟩
theorem told_cons (a : List Int) (l : List (List Int)) : PyFlat.told (a :: l) = (a.length : Int) :: (a ++ PyFlat.told l) := by
  unfold PyFlat.told
  rw [List.flatMap_cons]
  rfl
end KF
/-! The fewest steps; the nearest by them; a half by them. -/
namespace KM
open Sz31
/-- x is met by n steps first -/
def First (L : Nat → List Nat) (i n x : Nat) : Prop := x ∈ reach L n i ∧ ∀ k, k < n → x ∉ reach L k i
theorem First.eq {L : Nat → List Nat} {i k n x : Nat} (h : First L i k x) (h' : First L i n x) : k = n := by
  rcases Nat.lt_trichotomy k n with q | q | q
  · exact absurd h.1 (h'.2 k q)
  · exact q
  · exact absurd h'.1 (h.2 n q)
theorem first_of {L : Nat → List Nat} {i x : Nat} : ∀ {n : Nat}, x ∈ reach L n i → ∃ k, k ≤ n ∧ First L i k x := by
  intro n
  induction n using Nat.strongRecOn with
  | ind n ih =>
    intro h
    by_cases q : ∃ k, k < n ∧ x ∈ reach L k i
    · obtain ⟨k, hk, hx⟩ := q
      obtain ⟨k', h1, h2⟩ := ih k hk hx
      exact ⟨k', by omega, h2⟩
    · exact ⟨n, Nat.le_refl _, h, fun k hk hx => q ⟨k, hk, hx⟩⟩
theorem First.back {L : Nat → List Nat} {i n x : Nat} (h : First L i (n + 1) x) : ∃ c, First L i n c ∧ x ∈ L c := by
  obtain ⟨c, h1, h2⟩ := mem_snoc.mp h.1
  exact ⟨c, ⟨h1, fun k hk hc => h.2 (k + 1) (by omega) (mem_snoc.mpr ⟨c, hc, h2⟩)⟩, h2⟩
/-- the loop's dict ahead of turn n, and its level -/
def fw (L : Nat → List Nat) (i : Nat) : Nat → List (Nat × Nat) × List Nat
  | 0 => ([], [i])
  | n + 1 => ((fw L i n).1 ++ (fw L i n).2.map fun x => (x, n), (once ((fw L i n).2.flatMap L)).filter fun x => !(((fw L i n).1 ++ (fw L i n).2.map fun x => (x, n)).map (·.1)).contains x)
structure Few (L : Nat → List Nat) (i : Nat) (D : List (Nat × Nat)) : Prop where
  nd : (D.map (·.1)).Nodup
  mem : ∀ x k, (x, k) ∈ D ↔ First L i k x
theorem keys_mem {D : List (Nat × Nat)} {x : Nat} : x ∈ D.map (·.1) ↔ ∃ k, (x, k) ∈ D := by
  rw [List.mem_map]
  constructor
  · rintro ⟨⟨y, k⟩, h, rfl⟩; exact ⟨k, h⟩
  · rintro ⟨k, h⟩; exact ⟨(x, k), h, rfl⟩
theorem fw_is (L : Nat → List Nat) (i : Nat) : ∀ n, (∀ x k, (x, k) ∈ (fw L i n).1 ↔ k < n ∧ First L i k x) ∧ (∀ x, x ∈ (fw L i n).2 ↔ First L i n x) ∧ ((fw L i n).1.map (·.1)).Nodup ∧ (fw L i n).2.Nodup
  | 0 => by
    refine ⟨fun x k => ?_, fun x => ?_, ?_, ?_⟩
    · show (x, k) ∈ ([] : List (Nat × Nat)) ↔ _
      simp
    · show x ∈ [i] ↔ _
      rw [List.mem_singleton, First, mem_zero]
      exact ⟨fun h => ⟨h, fun k hk => absurd hk (by omega)⟩, fun h => h.1⟩
    · exact List.nodup_nil
    · show [i].Nodup
      simp
  | n + 1 => by
    obtain ⟨h1, h2, h3, h4⟩ := fw_is L i n
    have hD : ∀ x k, (x, k) ∈ (fw L i n).1 ++ (fw L i n).2.map (fun x => (x, n)) ↔ k < n + 1 ∧ First L i k x := fun x k => by
      rw [List.mem_append, h1, List.mem_map]
      constructor
      · rintro (⟨h, h'⟩ | ⟨y, hy, e⟩)
        · exact ⟨by omega, h'⟩
        · cases e; exact ⟨by omega, (h2 x).mp hy⟩
      · rintro ⟨h, h'⟩
        by_cases q : k < n
        · exact .inl ⟨q, h'⟩
        · have : k = n := by omega
          subst this
          exact .inr ⟨x, (h2 x).mpr h', rfl⟩
    refine ⟨hD, fun x => ?_, ?_, ?_⟩
    · show x ∈ (once ((fw L i n).2.flatMap L)).filter (fun x => !(((fw L i n).1 ++ (fw L i n).2.map fun x => (x, n)).map (·.1)).contains x) ↔ _
      rw [List.mem_filter, mem_once, List.mem_flatMap, Bool.not_eq_true', ← Bool.not_eq_true, List.contains_iff_mem, keys_mem]
      constructor
      · rintro ⟨⟨c, hc, hx⟩, hn⟩
        have hc := (h2 c).mp hc
        refine ⟨mem_snoc.mpr ⟨c, hc.1, hx⟩, fun k hk hx' => ?_⟩
        obtain ⟨k', h', h''⟩ := first_of hx'
        exact hn ⟨k', (hD x k').mpr ⟨by omega, h''⟩⟩
      · intro h
        obtain ⟨c, hc, hx⟩ := h.back
        refine ⟨⟨c, (h2 c).mpr hc, hx⟩, ?_⟩
        rintro ⟨k, hk⟩
        have := (hD x k).mp hk
        have := this.2.eq h
        omega
    · show (((fw L i n).1 ++ (fw L i n).2.map fun x => (x, n)).map (·.1)).Nodup
      rw [List.map_append, List.nodup_append]
      refine ⟨h3, ?_, fun x hx y hy e => ?_⟩
      · rw [List.map_map]
        show ((fw L i n).2.map id).Nodup
        rw [List.map_id]; exact h4
      · subst e
        rw [keys_mem] at hx
        obtain ⟨k, hk⟩ := hx
        rw [List.map_map] at hy
        obtain ⟨z, hz, e⟩ := List.mem_map.mp hy
        have e : z = x := e
        rw [e] at hz
        have a1 := (h1 x k).mp hk
        have := a1.2.eq ((h2 x).mp hz)
        omega
    · exact nodup_once.sublist List.filter_sublist
theorem fw_end {L : Nat → List Nat} {i n : Nat} (h : (fw L i n).2 = []) : Few L i (fw L i n).1 := by
  obtain ⟨h1, h2, h3, _⟩ := fw_is L i n
  refine ⟨h3, fun x k => ?_⟩
  rw [h1]
  refine ⟨fun q => q.2, fun q => ⟨?_, q⟩⟩
  have none : ∀ d x, ¬ First L i (n + d) x := by
    intro d
    induction d with
    | zero => intro x hx; have := (h2 x).mpr hx; rw [h] at this; cases this
    | succ d ih => intro x hx; obtain ⟨c, hc, _⟩ := First.back hx; exact ih c hc
  by_cases z : k < n
  · exact z
  · exact absurd (show First L i (n + (k - n)) x by rw [show n + (k - n) = k by omega]; exact q) (none _ _)
theorem fw_deep {L : Nat → List Nat} {i n : Nat} (h : reach L n i = []) : (fw L i n).2 = [] := by
  rw [List.eq_nil_iff_forall_not_mem]
  intro x hx
  have := ((fw_is L i n).2.1 x).mp hx
  rw [First, h] at this
  cases this.1
/-! ### looked up -/
def getE {β : Type} (E : List (Nat × β)) (x : Nat) : Option β := (E.find? fun p => decide (p.1 = x)).map (·.2)
theorem getE_mem {β : Type} {E : List (Nat × β)} (nd : (E.map (·.1)).Nodup) {x : Nat} {y : β} : getE E x = some y ↔ (x, y) ∈ E := by
  unfold getE
  induction E with
  | nil => simp
  | cons p E ih =>
    rw [List.map_cons, List.nodup_cons] at nd
    by_cases q : p.1 = x
    · rw [List.find?_cons_of_pos (by simp [q])]
      constructor
      · intro h
        have : p.2 = y := Option.some.inj h
        rw [← q, ← this]; exact List.mem_cons_self
      · intro h
        rcases List.mem_cons.mp h with h | h
        · rw [← h]; rfl
        · exact absurd (List.mem_map.mpr ⟨_, h, q.symm⟩) nd.1
    · rw [List.find?_cons_of_neg (by simp [q]), ih nd.2, List.mem_cons]
      constructor
      · exact .inr
      · rintro (h | h)
        · exact absurd (by rw [← h]) q
        · exact h
theorem getE_none {β : Type} {E : List (Nat × β)} {x : Nat} : getE E x = none ↔ x ∉ E.map (·.1) := by
  unfold getE
  rw [Option.map_eq_none_iff, List.find?_eq_none, List.mem_map]
  constructor
  · rintro h ⟨p, hp, e⟩; exact h p hp (by simp [e])
  · intro h p hp e; exact h ⟨p, hp, of_decide_eq_true e⟩
theorem Few.get {L : Nat → List Nat} {i x k : Nat} {D : List (Nat × Nat)} (F : Few L i D) : getE D x = some k ↔ First L i k x := by
  rw [getE_mem F.nd, F.mem]
/-! ### the nearest by the fewest steps -/
section
variable {s : St} {a b m n : Nat}
theorem Near.first (N : Near s a b m n) {c : Nat} : Com s a b m n c ↔ First (par s) a m c ∧ First (par s) b n c := by
  constructor
  · rintro ⟨h1, h2⟩
    refine ⟨⟨h1, fun k hk hx => N.least k n c ⟨hx, h2⟩ (.inl (by omega))⟩, h2, fun k hk hx => N.least m k c ⟨h1, hx⟩ (.inl (by omega))⟩
  · rintro ⟨h1, h2⟩; exact ⟨h1.1, h2.1⟩
theorem near_of {c : Nat} (ha : First (par s) a m c) (hb : First (par s) b n c) (h : ∀ x k l, First (par s) a k x → First (par s) b l x → m + n < k + l ∨ (m + n = k + l ∧ m ≤ k)) : Near s a b m n := by
  refine ⟨⟨c, ha.1, hb.1⟩, fun m' n' x ⟨h1, h2⟩ hl => ?_⟩
  obtain ⟨k, hk, fk⟩ := first_of h1
  obtain ⟨l, hl', fl⟩ := first_of h2
  have := h x k l fk fl
  omega
theorem com_first {m' n' c : Nat} (h : Com s a b m' n' c) : ∃ k l, First (par s) a k c ∧ First (par s) b l c := by
  obtain ⟨k, _, fk⟩ := first_of h.1
  obtain ⟨l, _, fl⟩ := first_of h.2
  exact ⟨k, l, fk, fl⟩
/-- two rising lists of the same numbers are one -/
theorem rising_eq : ∀ {l r : List Nat}, l.Pairwise (· < ·) → r.Pairwise (· < ·) → (∀ x, x ∈ l ↔ x ∈ r) → l = r
  | [], [], _, _, _ => rfl
  | [], y :: r, _, _, h => by have := (h y).mpr List.mem_cons_self; cases this
  | x :: l, [], _, _, h => by have := (h x).mp List.mem_cons_self; cases this
  | x :: l, y :: r, hl, hr, h => by
    rw [List.pairwise_cons] at hl hr
    have e : x = y := by
      rcases List.mem_cons.mp ((h x).mp List.mem_cons_self) with q | q
      · exact q
      · rcases List.mem_cons.mp ((h y).mpr List.mem_cons_self) with q' | q'
        · exact q'.symm
        · have := hr.1 x q; have := hl.1 y q'; omega
    subst e
    rw [rising_eq hl.2 hr.2 fun z => ?_]
    constructor
    · intro hz
      rcases List.mem_cons.mp ((h z).mp (List.mem_cons_of_mem _ hz)) with q | q
      · have := hl.1 z hz; omega
      · exact q
    · intro hz
      rcases List.mem_cons.mp ((h z).mpr (List.mem_cons_of_mem _ hz)) with q | q
      · have := hr.1 z hz; omega
      · exact q
theorem strict_of {l : List Nat} (h : l.Pairwise (· ≤ ·)) (nd : l.Nodup) : l.Pairwise (· < ·) := by
  rw [List.Nodup] at nd
  exact (h.and nd).imp fun {a b} h => by have := h.1; have := h.2; omega
theorem coms_is (W : WF s) (ha : a < s.persons.length) (N : Near s a b m n) {l : List Nat} (hs : l.Pairwise (· ≤ ·)) (nd : l.Nodup) (h : ∀ x, x ∈ l ↔ First (par s) a m x ∧ First (par s) b n x) : l = coms s a b m n :=
  rising_eq (strict_of hs nd) (sorted_coms s a b m n) fun x => by rw [h, mem_coms W ha, N.first]
theorem coms_ne (W : WF s) (ha : a < s.persons.length) (N : Near s a b m n) : coms s a b m n ≠ [] := by
  obtain ⟨c, hc⟩ := N.com
  exact List.ne_nil_of_mem ((mem_coms W ha).mpr hc)
/-! ### a half -/
theorem half_no (h : m = 0 ∨ n = 0 ∨ 1 < (coms s a b m n).length) : isHalf s a b m n (coms s a b m n) = false := by
  unfold isHalf
  rcases h with h | h | h
  · rw [h]; rfl
  · rw [h]; cases decide (0 < m) <;> rfl
  · have : ((coms s a b m n).length == 1) = false := by rw [beq_eq_false_iff_ne]; omega
    rw [this]
    cases decide (0 < m) <;> cases decide (0 < n) <;> rfl
theorem half_iff (W : WF s) (N : Near s a b m n) {c : Nat} (hm : 0 < m) (hn : 0 < n) (hc : coms s a b m n = [c]) (cc : Com s a b m n c) :
    isHalf s a b m n (coms s a b m n) = true ↔ ∀ x, c ∈ par s x → First (par s) a (m - 1) x ∨ First (par s) b (n - 1) x → ¬ (par s x).length < 2 := by
  have fa : ∀ x, c ∈ par s x → (x ∈ reach (par s) (m - 1) a ↔ First (par s) a (m - 1) x) := fun x hx => by
    refine ⟨fun h => ⟨h, fun k hk hx' => ?_⟩, fun h => h.1⟩
    exact N.least (k + 1) n c ⟨mem_snoc.mpr ⟨x, hx', hx⟩, cc.2⟩ (.inl (by omega))
  have fb : ∀ x, c ∈ par s x → (x ∈ reach (par s) (n - 1) b ↔ First (par s) b (n - 1) x) := fun x hx => by
    refine ⟨fun h => ⟨h, fun k hk hx' => ?_⟩, fun h => h.1⟩
    exact N.least m (k + 1) c ⟨cc.1, mem_snoc.mpr ⟨x, hx', hx⟩⟩ (.inl (by omega))
  obtain ⟨x0, hx0, hx0'⟩ : ∃ x, x ∈ reach (par s) (m - 1) a ∧ c ∈ par s x := mem_snoc.mp (by rw [show m - 1 + 1 = m by omega]; exact cc.1)
  obtain ⟨y0, hy0, hy0'⟩ : ∃ x, x ∈ reach (par s) (n - 1) b ∧ c ∈ par s x := mem_snoc.mp (by rw [show n - 1 + 1 = n by omega]; exact cc.2)
  have two : ∀ x, ((s.get x).parents.length == 2) = true ↔ ¬ (par s x).length < 2 := fun x => by
    rw [beq_iff_eq]
    have := W.two x
    show (par s x).length = 2 ↔ _
    omega
  unfold isHalf
  rw [hc, up_eq, up_eq]
  simp only [decide_eq_true hm, decide_eq_true hn, Bool.true_and, List.length_cons, List.length_nil, List.all_cons, List.all_nil, Bool.and_true, List.all_eq_true, List.mem_filter, List.contains_iff_mem, Bool.and_eq_true, two]
  constructor
  · rintro ⟨_, h⟩ x hx hf
    rcases hf with hf | hf
    · exact (h x ⟨hf.1, hx⟩ y0 ⟨hy0, hy0'⟩).1
    · exact (h x0 ⟨hx0, hx0'⟩ x ⟨hf.1, hx⟩).2
  · intro h
    refine ⟨rfl, fun x hx y hy => ⟨h x hx.2 (.inl ((fa x hx.2).mp hx.1)), h y hy.2 (.inr ((fb y hy.2).mp hy.1))⟩⟩
end
end KM
/-! How likely: nothing is lost, either way round; the order that goes parents first. -/
namespace KM
open Sz31
theorem foldl_sum (l : List Nat) : ∀ c, l.foldl (· + ·) c = c + l.sum := by
  induction l with
  | nil => intro c; simp
  | cons x l ih => intro c; rw [List.foldl_cons, ih, List.sum_cons]; omega
theorem dvd_sum {d : Nat} : ∀ (l : List Nat), (∀ x, x ∈ l → d ∣ x) → d ∣ l.sum
  | [], _ => by simp
  | x :: l, h => by
    rw [List.sum_cons]
    exact Nat.dvd_add (h x List.mem_cons_self) (dvd_sum l fun y hy => h y (List.mem_cons_of_mem _ hy))
theorem dvd_half {k y : Nat} (h : 2 ^ (k + 1) ∣ y) : 2 ^ k ∣ y / 2 := by
  obtain ⟨z, rfl⟩ := h
  refine ⟨z, ?_⟩
  rw [Nat.pow_succ, Nat.mul_right_comm, Nat.mul_div_cancel _ (by decide)]
theorem dvd_le {k l y : Nat} (h : 2 ^ l ∣ y) (hk : k ≤ l) : 2 ^ k ∣ y := Nat.dvd_trans (Nat.pow_dvd_pow 2 hk) h
theorem sum_half {f : Nat → Nat} : ∀ (l : List Nat), (∀ x, x ∈ l → 2 ∣ f x) → (l.map fun x => f x / 2).sum = (l.map f).sum / 2
  | [], _ => by simp
  | x :: l, h => by
    rw [List.map_cons, List.sum_cons, List.map_cons, List.sum_cons, sum_half l fun y hy => h y (List.mem_cons_of_mem _ hy)]
    obtain ⟨z, hz⟩ := h x List.mem_cons_self
    rw [hz]; omega
theorem sum_add {f g : Nat → Nat} : ∀ (l : List Nat), (l.map fun x => f x + g x).sum = (l.map f).sum + (l.map g).sum
  | [] => rfl
  | x :: l => by
    rw [List.map_cons, List.sum_cons, List.map_cons, List.sum_cons, List.map_cons, List.sum_cons, sum_add l]; omega
theorem sum_swap {g : Nat → Nat → Nat} (B : List Nat) : ∀ (A : List Nat), (A.map fun p => (B.map fun q => g p q).sum).sum = (B.map fun q => (A.map fun p => g p q).sum).sum
  | [] => by
    show 0 = (B.map fun _ => 0).sum
    induction B with
    | nil => rfl
    | cons x l ih => rw [List.map_cons, List.sum_cons, ← ih]; rfl
  | p :: A => by
    rw [List.map_cons, List.sum_cons, sum_swap B A, ← sum_add]
    rfl
section
variable {s : St}
theorem AL_self (W : WF s) (a : Nat) : AL s a a = (ONE + (match par s a with | [p, q] => AL s p q | _ => 0)) / 2 := by
  rw [AL_eq W, if_pos rfl]; try rfl
/-- up from a, if a isn't above b -/
theorem AL_up (W : WF s) {a b : Nat} (h : a ≠ b) (hn : ¬ isAbove s b a = true) : AL s a b = ((par s a).map fun p => AL s p b).sum / 2 := by
  rw [AL_eq W, if_neg h, if_neg hn, foldl_sum, Nat.zero_add]
theorem AL_down (W : WF s) {a b : Nat} (h : a ≠ b) (hn : isAbove s b a = true) : AL s a b = ((par s b).map fun p => AL s a p).sum / 2 := by
  rw [AL_eq W, if_neg h, if_pos hn, foldl_sum, Nat.zero_add]
theorem AL_dvd (W : WF s) : ∀ (N a b : Nat), hh s a + hh s b ≤ N → 2 ^ (60 - (hh s a + hh s b + 1)) ∣ AL s a b := by
  intro N
  induction N using Nat.strongRecOn with
  | ind N ih =>
    intro a b hN
    have ha := hh_le W a
    have hb := hh_le W b
    by_cases e : a = b
    · subst e
      rw [AL_self W]
      refine dvd_half (Nat.dvd_add (dvd_le (l := 60) (Nat.dvd_refl _) (by omega)) ?_)
      split
      · rename_i p q hpq
        have h1 := hh_par W (i := a) (p := p) (by rw [hpq]; simp)
        have h2 := hh_par W (i := a) (p := q) (by rw [hpq]; simp)
        exact dvd_le (ih (hh s p + hh s q) (by omega) p q (Nat.le_refl _)) (by omega)
      · exact Nat.dvd_zero _
    · by_cases q : isAbove s b a = true
      · rw [AL_down W e q]
        refine dvd_half (dvd_sum _ fun x hx => ?_)
        obtain ⟨p, hp, rfl⟩ := List.mem_map.mp hx
        have h1 := hh_par W (i := b) hp
        exact dvd_le (ih (hh s a + hh s p) (by omega) a p (Nat.le_refl _)) (by omega)
      · rw [AL_up W e q]
        refine dvd_half (dvd_sum _ fun x hx => ?_)
        obtain ⟨p, hp, rfl⟩ := List.mem_map.mp hx
        have h1 := hh_par W (i := a) hp
        exact dvd_le (ih (hh s p + hh s b) (by omega) p b (Nat.le_refl _)) (by omega)
theorem AL_even (W : WF s) (a b : Nat) : 2 ∣ AL s a b := by
  have ha := hh_le W a
  have hb := hh_le W b
  have := AL_dvd W _ a b (Nat.le_refl _)
  exact dvd_le (k := 1) this (by omega)
theorem above_trans (W : WF s) {a b c : Nat} (h1 : isAbove s a b = true) (h2 : isAbove s b c = true) : isAbove s a c = true := by
  rw [W.isAbove] at *
  obtain ⟨k, hk⟩ := h1
  obtain ⟨l, hl⟩ := h2
  exact ⟨k + l, mem_add.mpr ⟨b, hk, hl⟩⟩
theorem above_par (W : WF s) {a p : Nat} (h : p ∈ par s a) : isAbove s a p = true := by
  rw [W.isAbove]; exact ⟨1, mem_one.mpr h⟩
theorem above_anti (W : WF s) {a b : Nat} (h1 : isAbove s a b = true) (h2 : isAbove s b a = true) : a = b := by
  rw [W.isAbove] at *
  obtain ⟨k, hk⟩ := h1
  obtain ⟨l, hl⟩ := h2
  have := W.no_loop (mem_add.mpr ⟨b, hk, hl⟩)
  have : k = 0 := by omega
  subst this
  exact (mem_zero.mp hk).symm
theorem AL_symm (W : WF s) : ∀ (N a b : Nat), hh s a + hh s b ≤ N → AL s a b = AL s b a := by
  intro N
  induction N using Nat.strongRecOn with
  | ind N ih =>
    -- one way round is enough where one stands above the other
    have one : ∀ a b, hh s a + hh s b ≤ N → a ≠ b → isAbove s b a = true → AL s a b = AL s b a := fun a b hN e q => by
      have nq : ¬ isAbove s a b = true := fun z => e (above_anti W z q)
      rw [AL_down W e q, AL_up W (Ne.symm e) nq]
      refine congrArg (fun l : List Nat => l.sum / 2) (List.map_congr_left fun p hp => ?_)
      have h1 := hh_par W (i := b) hp
      exact ih (hh s a + hh s p) (by omega) a p (Nat.le_refl _)
    intro a b hN
    by_cases e : a = b
    · rw [e]
    by_cases q : isAbove s b a = true
    · exact one a b hN e q
    by_cases q' : isAbove s a b = true
    · exact (one b a (by omega) (Ne.symm e) q').symm
    -- neither
    have two : ∀ a b, hh s a + hh s b ≤ N → ¬ isAbove s b a = true → ¬ isAbove s a b = true → ∀ p, p ∈ par s a → AL s p b = ((par s b).map fun q => AL s p q).sum / 2 := fun a b hN q q' p hp => by
      have h1 := hh_par W (i := a) hp
      have npb : p ≠ b := fun z => q' (by rw [← z]; exact above_par W hp)
      by_cases z : isAbove s b p = true
      · exact AL_down W npb z
      · have z' : ¬ isAbove s p b = true := fun y => q' (above_trans W (above_par W hp) y)
        rw [ih (hh s p + hh s b) (by omega) p b (Nat.le_refl _), AL_up W (Ne.symm npb) z']
        refine congrArg (fun l : List Nat => l.sum / 2) (List.map_congr_left fun r hr => ?_)
        have h2 := hh_par W (i := b) hr
        exact ih (hh s r + hh s p) (by omega) r p (Nat.le_refl _)
    rw [AL_up W e q, AL_up W (Ne.symm e) q']
    refine congrArg (· / 2) ?_
    rw [List.map_congr_left (two a b hN q q'), List.map_congr_left (two b a (by omega) q' q)]
    rw [sum_half _ fun x _ => dvd_sum _ fun y hy => by obtain ⟨z, _, rfl⟩ := List.mem_map.mp hy; exact AL_even W _ _]
    rw [sum_half _ fun x _ => dvd_sum _ fun y hy => by obtain ⟨z, _, rfl⟩ := List.mem_map.mp hy; exact AL_even W _ _]
    refine congrArg (· / 2) ?_
    rw [sum_swap]
    refine congrArg List.sum (List.map_congr_left fun r hr => congrArg List.sum (List.map_congr_left fun p hp => ?_))
    have h1 := hh_par W (i := a) hp
    have h2 := hh_par W (i := b) hr
    exact ih (hh s p + hh s r) (by omega) p r (Nat.le_refl _)
theorem AL_comm (W : WF s) (a b : Nat) : AL s a b = AL s b a := AL_symm W _ a b (Nat.le_refl _)
/-! ### parents first -/
/-- x by k steps from a or from b -/
def From (s : St) (a b x k : Nat) : Prop := x ∈ reach (par s) k a ∨ x ∈ reach (par s) k b
structure Far (s : St) (a b : Nat) (E : List (Nat × Nat)) : Prop where
  nd : (E.map (·.1)).Nodup
  most : ∀ x k, getE E x = some k → From s a b x k ∧ ∀ l, From s a b x l → l ≤ k
  all : ∀ x l, From s a b x l → ∃ k, getE E x = some k
/-- whom a list that goes parents first holds -/
structure Ordered (s : St) (a b : Nat) (O : List Nat) : Prop where
  nd : O.Nodup
  has : ∀ x, x ∈ O ↔ ∃ k, From s a b x k
  ahead : ∀ (i : Nat) (x p : Nat), O[i]? = some x → p ∈ par s x → p ∈ O.take i
  apart : ∀ (i : Nat) (x y : Nat), O[i]? = some x → y ∈ O.take i → x ≠ y ∧ ¬ isAbove s y x = true
theorem From.up {a b x p k l : Nat} (h : From s a b x k) (hp : p ∈ reach (par s) l x) : From s a b p (k + l) := by
  rcases h with h | h
  · exact .inl (mem_add.mpr ⟨x, h, hp⟩)
  · exact .inr (mem_add.mpr ⟨x, h, hp⟩)
theorem ordered_of (W : WF s) {a b : Nat} {E : List (Nat × Nat)} (F : Far s a b E) {O : List Nat} (hp : O.Perm (E.map (·.1))) (hs : O.Pairwise fun x y => (getE E y).getD 0 ≤ (getE E x).getD 0) : Ordered s a b O := by
  have nd : O.Nodup := hp.nodup_iff.mpr F.nd
  have mem : ∀ x, x ∈ O ↔ ∃ k, getE E x = some k := fun x => by
    rw [hp.mem_iff, ← Option.isSome_iff_exists, Option.isSome_iff_ne_none, ne_eq, getE_none, Decidable.not_not]
  have has : ∀ x, x ∈ O ↔ ∃ k, From s a b x k := fun x => by
    rw [mem]
    exact ⟨fun ⟨k, h⟩ => ⟨k, (F.most x k h).1⟩, fun ⟨k, h⟩ => F.all x k h⟩
  have lower : ∀ x y k l, x ∈ O → getE E x = some k → getE E y = some l → y ∈ reach (par s) 1 x ∨ (∃ j, y ∈ reach (par s) (j + 1) x) → k < l := fun x y k l hx h1 h2 h => by
    obtain ⟨j, hj⟩ : ∃ j, y ∈ reach (par s) (j + 1) x := by
      rcases h with h | h
      · exact ⟨0, h⟩
      · exact h
    have := (F.most y l h2).2 _ ((F.most x k h1).1.up hj)
    omega
  have pos : ∀ (i : Nat) (x y : Nat), O[i]? = some x → y ∈ O.take i → (getE E x).getD 0 ≤ (getE E y).getD 0 := fun i x y hi hy => by
    obtain ⟨j, hj⟩ := List.mem_iff_getElem?.mp hy
    rw [List.getElem?_take] at hj
    by_cases q : j < i
    · rw [if_pos q] at hj
      obtain ⟨l1, e1⟩ := List.getElem?_eq_some_iff.mp hj
      obtain ⟨l2, e2⟩ := List.getElem?_eq_some_iff.mp hi
      have := List.pairwise_iff_getElem.mp hs j i l1 l2 q
      rw [e1, e2] at this
      exact this
    · rw [if_neg q] at hj; cases hj
  refine ⟨nd, has, fun i x p hi hp' => ?_, fun i x y hi hy => ⟨fun e => ?_, fun h => ?_⟩⟩
  · have hx : x ∈ O := List.mem_of_getElem? hi
    obtain ⟨k, hk⟩ := (mem x).mp hx
    have hpO : p ∈ O := (has p).mpr ⟨k + 1, (F.most x k hk).1.up (mem_one.mpr hp')⟩
    obtain ⟨l, hl⟩ := (mem p).mp hpO
    have lt := lower x p k l hx hk hl (.inl (mem_one.mpr hp'))
    obtain ⟨j, hj⟩ := List.mem_iff_getElem?.mp hpO
    by_cases q : j < i
    · exact List.mem_iff_getElem?.mpr ⟨j, by rw [List.getElem?_take, if_pos q]; exact hj⟩
    · exfalso
      by_cases z : j = i
      · rw [z, hi] at hj
        have : x = p := Option.some.inj hj
        subst this
        rw [hk] at hl
        cases hl
        omega
      · have := pos j p x hj (List.mem_iff_getElem?.mpr ⟨i, by rw [List.getElem?_take, if_pos (by omega)]; exact hi⟩)
        rw [hk, hl] at this
        simp only [Option.getD_some] at this
        omega
  · subst e
    obtain ⟨j, hj⟩ := List.mem_iff_getElem?.mp hy
    rw [List.getElem?_take] at hj
    by_cases q : j < i
    · rw [if_pos q] at hj
      have := (List.getElem?_inj (by exact (List.getElem?_eq_some_iff.mp hj).1) nd).mp (hj.trans hi.symm)
      omega
    · rw [if_neg q] at hj; cases hj
  · obtain ⟨k, hk⟩ := (mem x).mp (List.mem_of_getElem? hi)
    obtain ⟨l, hl⟩ := (mem y).mp (List.mem_of_mem_take hy)
    have le := pos i x y hi hy
    rw [hk, hl] at le
    simp only [Option.getD_some] at le
    obtain ⟨j, hj⟩ := W.isAbove.mp h
    cases j with
    | zero =>
      have exy := mem_zero.mp hj
      subst exy
      obtain ⟨j, hj⟩ := List.mem_iff_getElem?.mp hy
      rw [List.getElem?_take] at hj
      by_cases q : j < i
      · rw [if_pos q] at hj
        have := (List.getElem?_inj (by exact (List.getElem?_eq_some_iff.mp hj).1) nd).mp (hj.trans hi.symm)
        omega
      · rw [if_neg q] at hj; cases hj
    | succ j =>
      have := lower y x l k (List.mem_of_mem_take hy) hl hk (.inr ⟨j, hj⟩)
      omega
theorem Ordered.val (W : WF s) {a b : Nat} {O : List Nat} (h : Ordered s a b O) {i x y : Nat} (hi : O[i]? = some x) (hy : y ∈ O.take i) : ((par s x).map fun p => AL s p y).sum / 2 = AL s x y :=
  (AL_up W (h.apart i x y hi hy).1 (h.apart i x y hi hy).2).symm
end
end KM
set_option Elab.async false
set_option linter.all false
set_option maxRecDepth 100000
/-! THE HAND LAYER, for ints, bools, texts, own classes, lists, tuples, dicts, comprehensions, walks over dicts, enumerate, zip, reversed, texts, calls, loops. Paste it whole ahead of your own text; what your proof does not reach may be deleted. -/
namespace L2
open PySem PySem.Spec PyProof.Rows
/-- a key: an int or a str -/
abbrev Key := Sum Int Str
def keyIs : Key → Value → Bool
  | .inl k, v => Value.isInt k v
  | .inr x, v => Value.isStrOf x v
def keyH (w : World) : Key → Int
  | .inl k => hashInt k
  | .inr x => hashStr w x
theorem keyIs_shape : ∀ {k : Key} {v : Value}, keyIs k v = true → (∃ i t, k = Sum.inl i ∧ v = Value.int i t) ∨ (∃ x t, k = Sum.inr x ∧ v = Value.str x t)
  | .inl i, v, h => by
    obtain ⟨t, e⟩ := Value.isInt_shape (k := i) (v := v) h
    exact .inl ⟨i, t, rfl, e⟩
  | .inr x, v, h => by
    obtain ⟨t, e⟩ := Value.isStrOf_shape (x := x) (v := v) h
    exact .inr ⟨x, t, rfl, e⟩
theorem keyIs_int (i : Int) (t : Tok) : keyIs (.inl i) (.int i t) = true := by simp [keyIs, Value.isInt]
theorem keyIs_str (x : Str) (t : Tok) : keyIs (.inr x) (.str x t) = true := by simp [keyIs, Value.isStrOf]
theorem key_ll (a b : Int) : decide ((Sum.inl a : Key) = Sum.inl b) = (a == b) := by
  by_cases e : a = b
  · subst e; simp
  · have h : ¬ (Sum.inl a : Key) = Sum.inl b := fun q => e (Sum.inl.inj q)
    rw [decide_eq_false h]
    exact (beq_eq_false_iff_ne.mpr e).symm
theorem key_rr (a b : Str) : decide ((Sum.inr a : Key) = Sum.inr b) = decide (a = b) := by
  by_cases e : a = b
  · subst e; simp
  · have h : ¬ (Sum.inr a : Key) = Sum.inr b := fun q => e (Sum.inr.inj q)
    rw [decide_eq_false h, decide_eq_false e]
theorem key_lr (a : Int) (b : Str) : decide ((Sum.inl a : Key) = Sum.inr b) = false := decide_eq_false (fun q => nomatch q)
theorem key_rl (a : Str) (b : Int) : decide ((Sum.inr a : Key) = Sum.inl b) = false := decide_eq_false (fun q => nomatch q)
def mixKind (prog : Program) (w : World) : PySem.KeyKind prog w Key where
  is := keyIs
  hash := keyH w
  inj := fun v a b ha hb => by
    rcases keyIs_shape ha with ⟨i, t, rfl, rfl⟩ | ⟨x, t, rfl, rfl⟩
    · rcases keyIs_shape hb with ⟨j, u, rfl, e⟩ | ⟨y, u, rfl, e⟩
      · injection e with e1 _; rw [e1]
      · exact nomatch e
    · rcases keyIs_shape hb with ⟨j, u, rfl, e⟩ | ⟨y, u, rfl, e⟩
      · exact nomatch e
      · injection e with e1 _; rw [e1]
  byValue := fun k v h => by
    rcases keyIs_shape h with ⟨i, t, rfl, rfl⟩ | ⟨x, t, rfl, rfl⟩ <;> rfl
  pyHash := fun hv h => by
    rcases keyIs_shape hv with ⟨i, t, rfl, rfl⟩ | ⟨x, t, rfl, rfl⟩
    · exact wpAny_pyHash_int h
    · exact wpAny_pyHash_str h
  eqBool := fun hu hv h => by
    rcases keyIs_shape hu with ⟨i, t, rfl, rfl⟩ | ⟨x, t, rfl, rfl⟩
    · rcases keyIs_shape hv with ⟨j, u, rfl, rfl⟩ | ⟨y, u, rfl, rfl⟩
      · rw [key_ll] at h; exact wpAny_eqBool_int h
      · rw [key_lr] at h; exact SeqAt.EqAt.int_str i t y u _ _ _ _ h
    · rcases keyIs_shape hv with ⟨j, u, rfl, rfl⟩ | ⟨y, u, rfl, rfl⟩
      · rw [key_rl] at h; exact SeqAt.EqAt.str_int x t j u _ _ _ _ h
      · rw [key_rr] at h; exact wpAny_eqBool_str h
  «strs» := fun k x t v h => by
    rcases keyIs_shape h with ⟨i, u, rfl, e⟩ | ⟨y, u, rfl, e⟩
    · exact nomatch e
    · injection e with e1 _
      subst e1
      cases v <;> rfl
theorem mixKind_int (prog : Program) (w : World) (i : Int) (t : Tok) : (mixKind prog w).is (.inl i) (.int i t) = true := keyIs_int i t
theorem mixKind_str (prog : Program) (w : World) (x : Str) (t : Tok) : (mixKind prog w).is (.inr x) (.str x t) = true := keyIs_str x t
end L2
namespace L2
open PySem PySem.Spec PyProof.Rows
/-- a value, without the heap -/
inductive V where
  | non | bl (b : Bool) | int (i : Int) | str (x : Str) | byt (b : Array UInt8) | flt (b : UInt64) | ref (a : Addr) | ty (n : String)
  deriving DecidableEq
def RelV : V → Value → Prop
  | .non, u => u = Value.none
  | .bl b, u => u = Value.bool b
  | .int i, u => ∃ t, u = Value.int i t
  | .str x, u => ∃ t, u = Value.str x t
  | .byt b, u => ∃ t, u = Value.bytes b t
  | .flt b, u => ∃ t, u = Value.float b t
  | .ref a, u => u = Value.ref a
  | .ty n, u => u = Value.type n
abbrev Vals : List V → List Value → Prop := Paired RelV
theorem Vals.length {xs : List V} {us : List Value} (r : Vals xs us) : xs.length = us.length := Paired.length r
theorem Vals.get : ∀ {xs : List V} {us : List Value} {i : Nat} {x : V}, Vals xs us → xs[i]? = some x → ∃ u, us[i]? = some u ∧ RelV x u
  | _, _, _, _, .nil, e => by simp at e
  | _, _, 0, _, .cons r _, e => by simp at e; subst e; exact ⟨_, rfl, r⟩
  | _, _, i + 1, x, .cons _ t, e => by
    obtain ⟨u, h1, h2⟩ := Vals.get (i := i) (x := x) t (by simpa using e)
    exact ⟨u, by simpa using h1, h2⟩
theorem Vals.append : ∀ {xs ys : List V} {us ws : List Value}, Vals xs us → Vals ys ws → Vals (xs ++ ys) (us ++ ws)
  | _, _, _, _, .nil, s => s
  | _, _, _, _, .cons r t, s => .cons r (Vals.append t s)
theorem Vals.take : ∀ {xs : List V} {us : List Value} (n : Nat), Vals xs us → Vals (xs.take n) (us.take n)
  | _, _, 0, _ => .nil
  | _, _, _ + 1, .nil => .nil
  | _, _, n + 1, .cons r t => .cons r (Vals.take n t)
theorem Vals.drop : ∀ {xs : List V} {us : List Value} (n : Nat), Vals xs us → Vals (xs.drop n) (us.drop n)
  | _, _, 0, r => r
  | _, _, _ + 1, .nil => .nil
  | _, _, n + 1, .cons _ t => Vals.drop n t
def RelO : Option V → Option Value → Prop
  | some v, some u => RelV v u
  | none, none => True
  | _, _ => False
def KV {κ : Type} : List (κ × V) → List (κ × Value) → Prop := Paired fun (p : κ × V) (q : κ × Value) => p.1 = q.1 ∧ RelV p.2 q.2
/-- a key of a dict (00_mix): an int or a text -/
def kV : Key → V
  | .inl i => .int i
  | .inr x => .str x
/-- what stands at a tracked address -/
inductive HO where
  /-- a list -/
  | lst (xs : List V)
  /-- a tuple (never changes) -/
  | tup (xs : List V)
  /-- a dict whose keys are ints and texts; one whose keys are tuples of ints and texts (the empty one is both) -/
  | dK (kvs : List (Key × V)) | dT (kvs : List (List Key × V))
  /-- a set of ints: its members, its size -/
  | set (S : Int → Bool) (n : Nat)
  /-- an instance of the class at C, its dict at dx, its attributes -/
  | ins (C dx : Addr) (fs : List (Str × V))
  /-- the dict of the instance at x -/
  | own (x : Addr)
  /-- the dict of an exception -/
  | xd (fs : List (Str × V))
  /-- a bound method, f of x -/
  | met (f x : Addr)
  /-- a range object lo, lo + 1, .. below hi -/
  | rng (lo hi : Int)
  /-- a thing that is known to the object (the script; a dict while a loop walks it): read, never written while it is so -/
  | frz (o : Obj) (u : HO)
  /-- a code object's table -/
  | tbl (ps : Array Value)
  /-- any other thing, by what is true of its one object (a def of one's own: SetO a S n := HO.ext fun h => ..) -/
  | ext (φ : Heap → Prop)
abbrev Hp := Addr → Option HO
def upd (H : Hp) (a : Addr) (o : HO) : Hp := fun b => if b = a then some o else H b
theorem upd_same {H : Hp} {a : Addr} {o : HO} : upd H a o a = some o := by unfold upd; rw [if_pos rfl]
theorem upd_ne {H : Hp} {a b : Addr} {o : HO} (h : b ≠ a) : upd H a o b = H b := by unfold upd; rw [if_neg h]
/-- two objects of different content stand apart -/
theorem ne_of {H : Hp} {a b : Addr} {o u : HO} (h : H a = some o) (h' : H b = some u) (d : o ≠ u) : a ≠ b := by
  intro e; subst e; rw [h] at h'; exact d (Option.some.inj h')
theorem ne_of_none {H : Hp} {a b : Addr} {o : HO} (h : H a = some o) (h' : H b = none) : a ≠ b := by
  intro e; subst e; rw [h] at h'; cases h'
section
variable (P : Program) (w : World)
def ObjOk (H : Hp) (h : Heap) (a : Addr) : HO → Prop
  | .lst xs => xs.length ≤ sizeLine ∧ ∃ (its : List Value) (n : Nat), Vals xs its ∧ h.get? a = some { cls := .type "list", data := .seq its.toArray n }
  | .tup xs => xs.length ≤ sizeLine ∧ ∃ its : List Value, Vals xs its ∧ IsTup h a its.toArray
  | .dK kvs => kvs.length ≤ sizeLine ∧ (a == sysModules) = false ∧ ∃ vs, KV kvs vs ∧ h.DictOf (mixKind P w) a vs
  | .dT kvs => kvs.length ≤ sizeLine ∧ (a == sysModules) = false ∧ ∃ xs : List (List Key × Addr × Value),
      Paired (fun (p : List Key × V) (q : List Key × Addr × Value) => p.1 = q.1 ∧ H q.2.1 = some (.tup (p.1.map kV)) ∧ RelV p.2 q.2.2) kvs xs ∧
      ∃ o es ep, h.get? a = some o ∧ o.ExactDict ∧ o.data = .dict es ep ∧ es.toList = xs.map (entryOfKey (tupleKind (mixKind P w))) ∧ (xs.map (·.1)).Nodup
  | .set S n => h.SetOf (intKind P w) a S n
  | .ins C dx fs => H dx = some (.own a) ∧ fs.length ≤ 1000 ∧ dx ≠ a ∧ h.get? a = some (PySem.W.instObj C dx) ∧
      ∃ mA, h.Ns1 dx mA ∧ (∀ f, RelO (fs.lookup f) (mA f)) ∧ PySem.Within mA (fs.map (·.1))
  | .own _ => ∃ o, h.get? a = some o
  | .xd fs => ∃ mA, h.Ns1 a mA ∧ ∀ f, RelO (fs.lookup f) (mA f)
  | .rng lo hi => ∃ t u v, h.get? a = some { cls := .type "range", data := .fields #[.int lo t, .int hi u, .int 1 v] }
  | .frz o u => h.get? a = some o ∧ ObjOk H h a u
  | .tbl ps => h.get? a = some { cls := .none, data := .fields ps }
  | .met f x => h.get? a = some (PySem.W.methodObj (.ref f) (.ref x))
  | .ext φ => φ h ∧ (∃ o, h.get? a = some o) ∧ ∀ h1 h2 : Heap, φ h1 → (∀ o, h1.get? a = some o → h2.get? a = some o) → φ h2
/-- the abstract heap is held -/
def HOk (H : Hp) (h : Heap) : Prop := ∀ a o, H a = some o → ObjOk P w H h a o
end
section
variable {P : Program} {w : World} {H H' : Hp} {h h' : Heap} {a : Addr} {o : HO}
theorem ObjOk.lt (x : ObjOk P w H h a o) : a < h.objs.size := by
  cases o with
  | lst xs => obtain ⟨_, _, _, _, e⟩ := x; exact Heap.lt_size e
  | tup xs => obtain ⟨_, _, _, p⟩ := x; exact p.lt
  | dK kvs => obtain ⟨_, _, _, _, o, _, _, e, _⟩ := x; exact Heap.lt_size e
  | dT kvs => obtain ⟨_, _, _, _, o, _, _, e, _⟩ := x; exact Heap.lt_size e
  | set S n => obtain ⟨o, _, _, _, e, _⟩ := x; exact Heap.lt_size e
  | ins C dx fs => obtain ⟨_, _, _, e, _⟩ := x; exact Heap.lt_size e
  | own y => obtain ⟨_, e⟩ := x; exact Heap.lt_size e
  | xd fs => obtain ⟨_, ⟨_, _, _, e, _⟩, _⟩ := x; exact Heap.lt_size e
  | rng lo hi => obtain ⟨_, _, _, e⟩ := x; exact Heap.lt_size e
  | frz ob u => obtain ⟨e, _⟩ := x; exact Heap.lt_size e
  | tbl ps => exact Heap.lt_size (show h.get? a = some _ from x)
  | met f y => exact Heap.lt_size (show h.get? a = some _ from x)
  | ext φ => obtain ⟨_, ⟨_, e⟩, _⟩ := x; exact Heap.lt_size e
theorem Paired.mapP {α β : Type} {F G : α → β → Prop} : ∀ {l₁ : List α} {l₂ : List β}, Paired F l₁ l₂ → (∀ a b, F a b → G a b) → Paired G l₁ l₂
  | _, _, .nil, _ => .nil
  | _, _, .cons r t, f => .cons (f _ _ r) (Paired.mapP t f)
/-- what an object's description leans on: its own object, its own dict, the tuples -/
theorem ObjOk.stay (x : ObjOk P w H h a o) (k : ∀ b u, (b = a ∨ H b = some (.own a)) → h.get? b = some u → h'.get? b = some u)
    (ho : ∀ b, H b = some (.own a) → H' b = some (.own a)) (ht : ∀ b xs, H b = some (.tup xs) → H' b = some (.tup xs)) : ObjOk P w H' h' a o := by
  induction o with
  | lst xs => obtain ⟨z, its, n, r, e⟩ := x; exact ⟨z, its, n, r, k _ _ (.inl rfl) e⟩
  | tup xs => obtain ⟨z, its, r, ob, e, c⟩ := x; exact ⟨z, its, r, ob, k _ _ (.inl rfl) e, c⟩
  | dK kvs => obtain ⟨z, y, vs, r, ob, es, ep, e, c⟩ := x; exact ⟨z, y, vs, r, ob, es, ep, k _ _ (.inl rfl) e, c⟩
  | dT kvs =>
    obtain ⟨z, y, xs, r, ob, es, ep, e, c⟩ := x
    exact ⟨z, y, xs, Paired.mapP r fun p q z => ⟨z.1, ht _ _ z.2.1, z.2.2⟩, ob, es, ep, k _ _ (.inl rfl) e, c⟩
  | set S n => obtain ⟨ob, es, ep, t, e, c⟩ := x; exact ⟨ob, es, ep, t, k _ _ (.inl rfl) e, c⟩
  | ins C dx fs =>
    obtain ⟨d, z, ne, e, mA, ⟨od, es, ep, e2, c⟩, r⟩ := x
    exact ⟨ho _ d, z, ne, k _ _ (.inl rfl) e, mA, ⟨od, es, ep, k _ _ (.inr d) e2, c⟩, r⟩
  | own y => obtain ⟨ob, e⟩ := x; exact ⟨ob, k _ _ (.inl rfl) e⟩
  | xd fs => obtain ⟨mA, ⟨od, es, ep, e, c⟩, r⟩ := x; exact ⟨mA, ⟨od, es, ep, k _ _ (.inl rfl) e, c⟩, r⟩
  | rng lo hi => obtain ⟨t, u, v, e⟩ := x; exact ⟨t, u, v, k _ _ (.inl rfl) e⟩
  | frz ob u ih => obtain ⟨e, q⟩ := x; exact ⟨k _ _ (.inl rfl) e, ih q⟩
  | tbl ps =>
    have e : h.get? a = some { cls := .none, data := .fields ps } := x
    show h'.get? a = some { cls := .none, data := .fields ps }
    exact k a _ (.inl rfl) e
  | met f y =>
    have e : h.get? a = some (PySem.W.methodObj (.ref f) (.ref y)) := x
    show h'.get? a = some (PySem.W.methodObj (.ref f) (.ref y))
    exact k a _ (.inl rfl) e
  | ext φ => obtain ⟨p, ⟨o, e⟩, st⟩ := x; exact ⟨st _ _ p fun o q => k _ _ (.inl rfl) q, ⟨o, k _ _ (.inl rfl) e⟩, st⟩
theorem HOk.lt (x : HOk P w H h) (e : H a = some o) : a < h.objs.size := (x a o e).lt
theorem HOk.fresh (x : HOk P w H h) (e : h.objs.size ≤ a) : H a = none := by
  cases q : H a with
  | none => rfl
  | some u => exact absurd (Nat.lt_of_lt_of_le (x.lt q) e) (Nat.lt_irrefl _)
/-- every object of the heap is kept -/
theorem HOk.kept (x : HOk P w H h) (k : ∀ b u, h.get? b = some u → h'.get? b = some u) : HOk P w H h' := fun a o e =>
  (x a o e).stay (fun b u _ q => k b u q) (fun _ q => q) fun _ _ q => q
/-- a new object is laid and tracked -/
theorem HOk.laid (x : HOk P w H h) (k : ∀ b u, h.get? b = some u → h'.get? b = some u) (hp : h.objs.size ≤ a) (new : ObjOk P w (upd H a o) h' a o) : HOk P w (upd H a o) h' := fun b u e => by
  have hn := x.fresh hp
  by_cases hb : b = a
  · subst hb; rw [upd_same] at e; cases e; exact new
  · rw [upd_ne hb] at e
    exact (x b u e).stay (fun c v _ q => k c v q) (fun c q => by rw [upd_ne (ne_of_none q hn)]; exact q) fun c xs q => by rw [upd_ne (ne_of_none q hn)]; exact q
end
/-- what may be read as u: it is u, or a known u -/
def Rd (H : Hp) (a : Addr) (u : HO) : Prop := H a = some u ∨ ∃ o, H a = some (.frz o u)
theorem Rd.ok {P : Program} {w : World} {H : Hp} {h : Heap} {a : Addr} {u : HO} (r : Rd H a u) (x : HOk P w H h) : ObjOk P w H h a u := by
  rcases r with r | ⟨o, r⟩
  · exact x a u r
  · obtain ⟨_, q⟩ := x a _ r
    exact q
/-- what may be written -/
def Mut : Option HO → Prop
  | some (.lst _) => True
  | some (.dK _) => True
  | some (.dT _) => True
  | some (.set _ _) => True
  | some (.ins _ _ _) => True
  | some (.ext _) => True
  | _ => False
section
variable {P : Program} {w : World} {H : Hp} {h h' : Heap} {x e : Addr} {o' : HO}
/-- the object at e is changed: x itself, or the dict of the instance x -/
theorem HOk.write (ok : HOk P w H h) (mu : Mut (H x)) (he : e = x ∨ H e = some (.own x)) (k : ∀ b u, b ≠ e → h.get? b = some u → h'.get? b = some u) (heo : ∃ u, h'.get? e = some u)
    (new : ObjOk P w (upd H x o') h' x o') : HOk P w (upd H x o') h' := fun b u q => by
  have nown : ∀ c y, H c = some (.own y) → c ≠ x := fun c y r z => by subst z; rw [r] at mu; exact mu
  have ntup : ∀ c xs, H c = some (.tup xs) → c ≠ x := fun c xs r z => by subst z; rw [r] at mu; exact mu
  by_cases hb : b = x
  · subst hb; rw [upd_same] at q; cases q; exact new
  · rw [upd_ne hb] at q
    by_cases hbe : b = e
    · have q' : H b = some (.own x) := by
        rcases he with z | z
        · exact absurd (hbe.trans z) hb
        · rw [hbe]; exact z
      rw [q] at q'; cases q'
      obtain ⟨v, hv⟩ := heo
      exact ⟨v, by rw [hbe]; exact hv⟩
    · refine (ok b u q).stay (fun c v hc r => k c v ?_ r) (fun c r => by rw [upd_ne (nown c b r)]; exact r) fun c xs r => by rw [upd_ne (ntup c xs r)]; exact r
      rcases hc with rfl | hc
      · exact hbe
      · rintro rfl
        rcases he with z | z
        · exact nown c b hc z
        · rw [hc] at z; cases z; exact hb rfl
end
/-! ### kept unless tracked; of the frames at fs (the callers') the slots may change (an exception that passes writes there); of the records at ex (iterators) nothing is said -/
structure Un (fs ex : List Addr) (H H' : Hp) (h h' : Heap) : Prop where
  keep : ∀ b o, h.get? b = some o → H b = none → b ∉ fs → b ∉ ex → h'.get? b = some o
  slot : ∀ b o, h.get? b = some o → H b = none → b ∈ fs → b ∉ ex → ∃ sl, h'.get? b = some { o with slots := sl }
  free : ∀ b o, h.get? b = some o → H b = none → b ∉ ex → H' b = none
  there : ∀ b o, h.get? b = some o → b ∉ ex → ∃ o', h'.get? b = some o'
  tups : ∀ b xs, H b = some (.tup xs) → H' b = some (.tup xs)
  frzs : ∀ b o u, H b = some (.frz o u) → H' b = some (.frz o u)
  tbls : ∀ b ps, H b = some (.tbl ps) → ∃ more, H' b = some (.tbl (ps ++ more))
section
variable {fs fs' ex ex' : List Addr} {H H1 H2 : Hp} {h h1 h2 h' : Heap} {a x e : Addr} {o : HO}
theorem Un.any (u : Un fs ex H H1 h h1) {b : Addr} {ob : Obj} (q : h.get? b = some ob) (n : H b = none) (hx : b ∉ ex) : ∃ sl, h1.get? b = some { ob with slots := sl } := by
  by_cases hb : b ∈ fs
  · exact u.slot b ob q n hb hx
  · exact ⟨ob.slots, u.keep b ob q n hb hx⟩
theorem Un.kept (k : ∀ b u, h.get? b = some u → h'.get? b = some u) : Un fs ex H H h h' :=
  ⟨fun b ob q _ _ _ => k b ob q, fun b ob q _ _ _ => ⟨ob.slots, k b ob q⟩, fun _ _ _ n _ => n, fun b ob q _ => ⟨ob, k b ob q⟩, fun _ _ q => q, fun _ _ _ q => q, fun _ ps q => ⟨#[], by rw [q]; simp⟩⟩
theorem Un.refl : Un fs ex H H h h := Un.kept fun _ _ q => q
theorem Un.laid (k : ∀ b u, h.get? b = some u → h'.get? b = some u) (hp : h.objs.size ≤ a) (hn : H a = none) : Un fs ex H (upd H a o) h h' where
  keep := fun b u q _ _ _ => k b u q
  slot := fun b u q _ _ _ => ⟨u.slots, k b u q⟩
  free := fun b u q n _ => by rw [upd_ne (Nat.ne_of_lt (Nat.lt_of_lt_of_le (Heap.lt_size q) hp))]; exact n
  there := fun b u q _ => ⟨u, k b u q⟩
  tups := fun b xs q => by rw [upd_ne (ne_of_none q hn)]; exact q
  frzs := fun b u xs q => by rw [upd_ne (ne_of_none q hn)]; exact q
  tbls := fun b ps q => ⟨#[], by rw [upd_ne (ne_of_none q hn), q]; simp⟩
theorem Un.write (mu : Mut (H x)) (he : e = x ∨ H e = some (.own x)) (k : ∀ b u, b ≠ e → h.get? b = some u → h'.get? b = some u) (heo : ∃ u, h'.get? e = some u) : Un fs ex H (upd H x o) h h' := by
  have hx : ∀ b, H b = none → b ≠ x := fun b n z => by subst z; rw [n] at mu; exact mu
  have hb : ∀ b, H b = none → b ≠ e := fun b n z => by
    subst z
    rcases he with r | r
    · exact hx b n r
    · rw [n] at r; cases r
  have hm : ∀ b u, H b = some u → ¬ Mut (some u) → b ≠ x := fun b u q nm z => by subst z; rw [q] at mu; exact nm mu
  refine ⟨fun b u q n _ _ => k b u (hb b n) q, fun b u q n _ _ => ⟨u.slots, k b u (hb b n) q⟩, fun b u q n _ => by rw [upd_ne (hx b n)]; exact n, fun b u q _ => ?_,
    fun b xs q => by rw [upd_ne (hm b _ q fun z => z)]; exact q, fun b u xs q => by rw [upd_ne (hm b _ q fun z => z)]; exact q, fun b ps q => ⟨#[], by rw [upd_ne (hm b _ q fun z => z), q]; simp⟩⟩
  by_cases hbe : b = e
  · subst hbe; exact heo
  · exact ⟨u, k b u hbe q⟩
end
/-! ### the heap without what is tracked -/
def trk (h : Heap) (H : Hp) : List Addr := (List.range h.objs.size).filter fun a => (H a).isSome
def hidT (h : Heap) (H : Hp) : Heap := PySem.W.hideAll h (trk h H)
theorem hidT_size (h : Heap) (H : Hp) : (hidT h H).objs.size = h.objs.size := PySem.W.hideAll_size _ _
theorem hidT_get {h : Heap} {H : Hp} {b : Addr} {o : Obj} (e : h.get? b = some o) (n : H b = none) : (hidT h H).get? b = some o :=
  PySem.W.hideAll_get _ e fun hm => by
    have q : (H b).isSome = true := (List.mem_filter.mp hm).2
    rw [n] at q; simp at q
theorem of_hidT {h : Heap} {H : Hp} {b : Addr} {o : Obj} (e : (hidT h H).get? b = some o) : h.get? b = some o ∧ H b = none := by
  have e' : h.get? b = some o := PySem.W.of_hideAll (trk h H) e
  refine ⟨e', ?_⟩
  cases q : H b with
  | none => rfl
  | some x =>
    have hm : b ∈ trk h H := List.mem_filter.mpr ⟨List.mem_range.mpr (Heap.lt_size e'), by simp [q]⟩
    have z : (hidT h H).get? b = none := PySem.W.hideAll_none (trk h H) hm
    rw [z] at e; cases e
/-! ### OpenK's ledger, filled with every new object but one -/
end L2
namespace L2
open PySem PySem.Spec PyProof.Rows
/-- the module's facts, over the base: the heap at the law's entry without what is tracked there -/
structure Mod (K : PySem.W.Frag) (mg : Str → Option Value) (base : Heap) : Prop where
  kin : K.In base
  glob : base.Ns mainGlobals mg
  blt : ∃ mb, base.Ns builtinsNs mb ∧ ∀ x : Str, x ≠ "__name__" → mb x = bootBuiltins x
  nolimit : base.NoLimit
/-- the context: a def's body (or a comprehension's block) running. base: fixed through the whole law; s₀, H₀: the entry; outer: the frames whose slots others may change (a def's callers); stack: all frames that run;
   ex: iterators that were made ahead of the entry and are walked here (a comprehension's); fn: the names whose cells were made at the entry (a def: all; a comprehension's block: its own); calm: not within an except suite; pn: pins that every state bears; xe: what is wanted of an exception that leaves the code -/
structure Cx where
  prog : Program
  w : World
  K : PySem.W.Frag
  mg : Str → Option Value
  base : Heap
  A : Around
  N : List Str
  s_0 : Shared
  H_0 : Hp
  env : Env
  outer : List Env
  stack : List Env
  ex : List Addr
  fn : Str → Bool
  calm : Bool
  pn : List (Addr × Obj)
  xe : Value → Shared → Prop
/-- the callers' frames -/
def frs (l : List Env) : List Addr := l.filterMap (·.frame)
abbrev Cx.fs (X : Cx) : List Addr := frs X.outer
def Vis (sc : Scope) (x : Str) : Prop := sc.names.lookup x = some .local ∨ sc.names.lookup x = some .cell ∨ sc.names.lookup x = some .free
def Loc (sc : Scope) (x : Str) : Prop := sc.names.lookup x = some .local ∨ sc.names.lookup x = some .cell
def Look (env : Env) (h : Heap) (m : Str → Option Value) (x : Str) (u : Value) : Prop :=
  (env.kindOf x = some .local ∧ m x = some u) ∨ ((env.kindOf x = some .cell ∨ env.kindOf x = some .free) ∧ ∃ c, env.cells.lookup x = some c ∧ h.IsCell c (some u))
structure Cx.Ok (X : Cx) : Prop where
  mod : Mod X.K X.mg X.base
  kind : X.env.scope.kind = .function
  glob : X.env.globals = mainGlobals
  blt : X.env.builtins = builtinsNs
  above : X.s_0.heap.objs.size ≤ X.env.locals
  inj : ∀ x y c, X.env.cells.lookup x = some c → X.env.cells.lookup y = some c → x = y
  has : ∀ x, (X.env.kindOf x = some .cell ∨ X.env.kindOf x = some .free) → ∃ c, X.env.cells.lookup x = some c
  cab : ∀ x c, X.fn x = true → X.env.cells.lookup x = some c → X.s_0.heap.objs.size ≤ c
  hd : X.calm = true → X.A.handled = none
  frames : X.A.frames = some X.stack
  stk : X.stack = X.outer ∨ (X.stack = X.env :: X.outer ∧ X.env.frame = some X.env.locals)
  exf : ∀ b ∈ X.ex, b ≠ X.env.locals ∧ ∀ x c, X.env.cells.lookup x = some c → c ≠ b
  bs : ∀ b o, X.base.get? b = some o → X.s_0.heap.get? b = some o ∧ X.H_0 b = none
  bsz : X.base.objs.size ≤ X.s_0.heap.objs.size
  noex : ∀ b o, X.base.get? b = some o → b ∉ X.ex
  exfs : ∀ b ∈ X.ex, b ∉ X.fs
  funs : X.s_0.heap.FunFrames X.base X.outer
  frf : ∀ b ∈ X.fs, X.H_0 b = none
structure Inv (X : Cx) (pins : List (Addr × Obj)) (σ : List (Option V)) (H : Hp) (s : Shared) : Prop where
  ok : X.Ok
  os : s.os = X.s_0.os
  bare : AllBare s.gens
  base : Un X.fs X.ex X.H_0 H X.s_0.heap s.heap
  loc : ∃ m, s.heap.Ns X.env.locals m ∧ ∀ (i : Nat) (x : Str) (v : V), X.N[i]? = some x → σ[i]? = some (some v) → Vis X.env.scope x → ∃ u, RelV v u ∧ Look X.env s.heap m x u
  cell : ∀ x c, X.env.cells.lookup x = some c → ∃ v, s.heap.IsCell c v
  free : H X.env.locals = none
  freeC : ∀ x c, X.env.cells.lookup x = some c → H c = none
  pin : ∀ p ∈ X.pn ++ pins, s.heap.get? p.1 = some p.2 ∧ H p.1 = none ∧ p.1 ≠ X.env.locals ∧ p.1 ∉ X.fs ∧ ∀ v, p.2.data ≠ .cell v
  hok : HOk X.prog X.w H s.heap
  len : σ.length = X.N.length
section
variable {X : Cx} {pins : List (Addr × Obj)} {σ : List (Option V)} {H H' : Hp} {s : Shared} {h' : Heap}
theorem Cx.Ok.nofr (ok : X.Ok) {b : Addr} {o : Obj} (e : X.base.get? b = some o) : b ∉ X.fs := fun hb => by
  have := (ok.funs.mem hb).1
  rw [e] at this; cases this
theorem Inv.bs (I : Inv X pins σ H s) : ∀ b o, X.base.get? b = some o → s.heap.get? b = some o ∧ H b = none := fun b o e =>
  ⟨I.base.keep b o (I.ok.bs b o e).1 (I.ok.bs b o e).2 (I.ok.nofr e) (I.ok.noex b o e), I.base.free b o (I.ok.bs b o e).1 (I.ok.bs b o e).2 (I.ok.noex b o e)⟩
theorem Inv.bk (I : Inv X pins σ H s) : ∀ b o, X.base.get? b = some o → s.heap.get? b = some o := fun b o e => (I.bs b o e).1
theorem Inv.mod (I : Inv X pins σ H s) : Mod X.K X.mg X.base := I.ok.mod
theorem Inv.kIn (I : Inv X pins σ H s) : X.K.In s.heap := I.ok.mod.kin.keeps I.bk
/-- the frame over the base: for OpenK's rules (K.In X.base is I.mod.kin) -/
theorem Inv.fr (I : Inv X pins σ H s) : ∃ m, Fr X.base X.env.locals s.heap m :=
  let ⟨m, hn, _⟩ := I.loc
  ⟨m, hn, I.bk, Nat.le_trans I.ok.bsz I.ok.above⟩
theorem Inv.lt (I : Inv X pins σ H s) : X.env.locals < s.heap.objs.size := let ⟨_, hn, _⟩ := I.loc; hn.lt
theorem Inv.sz (I : Inv X pins σ H s) : X.s_0.heap.objs.size ≤ s.heap.objs.size := Nat.le_trans I.ok.above (Nat.le_of_lt I.lt)
theorem Inv.nofs (I : Inv X pins σ H s) {a : Addr} (h : s.heap.objs.size ≤ a) : a ∉ X.fs := fun hb => by
  obtain ⟨_, o, ho, _⟩ := I.ok.funs.mem hb
  exact absurd (Nat.lt_of_lt_of_le (Heap.lt_size ho) (Nat.le_trans I.sz h)) (Nat.lt_irrefl _)
theorem Inv.cne (I : Inv X pins σ H s) : ∀ x c, X.env.cells.lookup x = some c → c ≠ X.env.locals := fun x c e z => by
  obtain ⟨v, o, ho, hd⟩ := I.cell x c e
  obtain ⟨m, ⟨o', es, ep, ho', hd', _⟩, _⟩ := I.loc
  rw [z, ho'] at ho; cases ho; rw [hd'] at hd; cases hd
theorem Inv.funs (I : Inv X pins σ H s) : s.heap.FunFrames X.base X.outer := by
  have all : ∀ (l : List Env), (∀ b ∈ frs l, b ∈ X.fs) → X.s_0.heap.FunFrames X.base l → s.heap.FunFrames X.base l := by
    intro l
    induction l with
    | nil => intro _ _; trivial
    | cons env r ih =>
      intro hs hl
      obtain ⟨hk, ⟨L, o, hf, hn, ho, hd⟩, hr⟩ := hl
      have hL : L ∈ X.fs := hs L (by unfold frs; rw [List.filterMap_cons, hf]; exact List.mem_cons_self)
      obtain ⟨sl, e⟩ := I.base.slot L o ho (I.ok.frf L hL) hL fun z => I.ok.exfs L z hL
      exact ⟨hk, ⟨L, _, hf, hn, e, hd⟩, ih (fun b hb => hs b (by unfold frs; rw [List.filterMap_cons, hf]; exact List.mem_cons_of_mem _ hb)) hr⟩
  exact all X.outer (fun _ hb => hb) I.ok.funs
/-- the frames that run, for a call -/
theorem Inv.stack (I : Inv X pins σ H s) : s.heap.FunFrames X.base X.stack := by
  rcases I.ok.stk with e | ⟨e, hf⟩
  · rw [e]; exact I.funs
  · rw [e]
    obtain ⟨m, hn, _⟩ := I.loc
    refine .cons (by rw [I.ok.kind]; decide) hf hn ?_ I.funs
    exact Heap.get?_none_of_le (Nat.le_trans I.ok.bsz I.ok.above)
theorem Inv.stkSub (I : Inv X pins σ H s) : ∀ b ∈ frs X.stack, b ∈ X.env.locals :: X.fs := fun b hb => by
  rcases I.ok.stk with e | ⟨e, hf⟩
  · rw [e] at hb; exact List.mem_cons_of_mem _ hb
  · rw [e] at hb
    unfold frs at hb
    rw [List.filterMap_cons, hf] at hb
    exact hb
theorem Inv.stkFree (I : Inv X pins σ H s) : ∀ b ∈ frs X.stack, H b = none := fun b hb => by
  rcases List.mem_cons.mp (I.stkSub b hb) with e | hb
  · rw [e]; exact I.free
  · obtain ⟨_, o, ho, _⟩ := I.ok.funs.mem hb
    exact I.base.free b o ho (I.ok.frf b hb) fun z => I.ok.exfs b z hb
/-- THE STEP: the untracked objects but the frame and the records at ch are kept (the callers' frames up to slots), the frame's map is kept, the new abstract heap is held -/
theorem Inv.step {g' : Array GenState} {t' : Nat} {d' : Drawn} {ch : List Addr} (I : Inv X pins σ H s)
    (hch : ∀ b ∈ ch, (b ∈ X.ex ∨ X.s_0.heap.objs.size ≤ b) ∧ b ≠ X.env.locals ∧ (∀ x c, X.env.cells.lookup x = some c → c ≠ b) ∧ ∀ p ∈ X.pn ++ pins, p.1 ≠ b)
    (keep : ∀ b o, b ≠ X.env.locals → b ∉ X.fs → b ∉ ch → s.heap.get? b = some o → H b = none → h'.get? b = some o)
    (slot : ∀ b o, b ≠ X.env.locals → b ∈ X.fs → b ∉ ch → s.heap.get? b = some o → H b = none → ∃ sl, h'.get? b = some { o with slots := sl }) (free : ∀ b o, b ∉ ch → s.heap.get? b = some o → H b = none → H' b = none)
    (there : ∀ b o, b ∉ ch → s.heap.get? b = some o → ∃ o', h'.get? b = some o')
    (tups : ∀ b xs, H b = some (.tup xs) → H' b = some (.tup xs)) (frzs : ∀ b o u, H b = some (.frz o u) → H' b = some (.frz o u)) (tbls : ∀ b ps, H b = some (.tbl ps) → ∃ more, H' b = some (.tbl (ps ++ more)))
    (ns : ∀ m, s.heap.Ns X.env.locals m → h'.Ns X.env.locals m) (hok : HOk X.prog X.w H' h') (hg : AllBare g') :
    Inv X pins σ H' { s with heap := h', gens := g', drawn := d', toks := t' } := by
  have neL : ∀ b o, X.s_0.heap.get? b = some o → b ≠ X.env.locals := fun b o e => Nat.ne_of_lt (Nat.lt_of_lt_of_le (Heap.lt_size e) I.ok.above)
  have neC : ∀ b o, X.s_0.heap.get? b = some o → b ∉ X.ex → b ∉ ch := fun b o e hx hb => by
    rcases (hch b hb).1 with z | z
    · exact hx z
    · exact absurd (Nat.lt_of_lt_of_le (Heap.lt_size e) z) (Nat.lt_irrefl _)
  have cellK : ∀ x c, X.env.cells.lookup x = some c → ∀ v, s.heap.IsCell c v → h'.IsCell c v := fun x c e v ⟨o, ho, hd⟩ => by
    have nch : c ∉ ch := fun z => (hch c z).2.2.1 x c e rfl
    by_cases hc : c ∈ X.fs
    · obtain ⟨sl, q⟩ := slot c o (I.cne x c e) hc nch ho (I.freeC x c e)
      exact ⟨_, q, hd⟩
    · exact ⟨o, keep c o (I.cne x c e) hc nch ho (I.freeC x c e), hd⟩
  refine ⟨I.ok, I.os, hg, ⟨fun b o e n hb hx => ?_, fun b o e n hb hx => ?_, fun b o e n hx => ?_, fun b o e hx => ?_, fun b xs e => tups b xs (I.base.tups b xs e), fun b o xs e => frzs b o xs (I.base.frzs b o xs e), fun b ps e => ?_⟩, ?_, fun x c e => ?_, ?_, fun x c e => ?_, fun p hp => ?_, hok, I.len⟩
  · exact keep b o (neL b o e) hb (neC b o e hx) (I.base.keep b o e n hb hx) (I.base.free b o e n hx)
  · obtain ⟨sl, e1⟩ := I.base.slot b o e n hb hx
    obtain ⟨sl', e2⟩ := slot b _ (neL b o e) hb (neC b o e hx) e1 (I.base.free b o e n hx)
    exact ⟨sl', e2⟩
  · obtain ⟨o', e1⟩ := I.base.there b o e hx
    exact free b o' (neC b o e hx) e1 (I.base.free b o e n hx)
  · obtain ⟨o', e1⟩ := I.base.there b o e hx
    exact there b o' (neC b o e hx) e1
  · obtain ⟨m1, e1⟩ := I.base.tbls b ps e
    obtain ⟨m2, e2⟩ := tbls b _ e1
    exact ⟨m1 ++ m2, by rw [e2, Array.append_assoc]⟩
  · obtain ⟨m, hn, hl⟩ := I.loc
    refine ⟨m, ns m hn, fun i x v e1 e2 e3 => ?_⟩
    obtain ⟨u, r, l⟩ := hl i x v e1 e2 e3
    refine ⟨u, r, ?_⟩
    rcases l with l | ⟨k, c, e, z⟩
    · exact .inl l
    · exact .inr ⟨k, c, e, cellK x c e _ z⟩
  · obtain ⟨v, z⟩ := I.cell x c e
    exact ⟨v, cellK x c e v z⟩
  · obtain ⟨m, ⟨o, _, _, ho, _⟩, _⟩ := I.loc
    exact free _ o (fun z => (hch _ z).2.1 rfl) ho I.free
  · obtain ⟨v, o, ho, hd⟩ := I.cell x c e
    exact free c o (fun z => (hch c z).2.2.1 x c e rfl) ho (I.freeC x c e)
  · obtain ⟨e, n, ne, nf, d⟩ := I.pin p hp
    have nch : p.1 ∉ ch := fun z => (hch p.1 z).2.2.2 p hp rfl
    exact ⟨keep p.1 p.2 ne nf nch e n, free p.1 p.2 nch e n, ne, nf, d⟩
/-- .. where the frame's own object is kept too -/
theorem Inv.un {t' : Nat} (I : Inv X pins σ H s) (u : Un X.fs [] H H' s.heap h') (hok : HOk X.prog X.w H' h') : Inv X pins σ H' { s with heap := h', toks := t' } := by
  obtain ⟨m, ⟨o, es, ep, ho, r⟩, _⟩ := id I.loc
  obtain ⟨sl, hL⟩ := u.any ho I.free (by simp)
  exact I.step (g' := s.gens) (d' := s.drawn) (ch := []) (fun _ z => nomatch z) (fun b o _ hb _ e n => u.keep b o e n hb (by simp)) (fun b o _ hb _ e n => u.slot b o e n hb (by simp)) (fun b o _ e n => u.free b o e n (by simp)) (fun b o _ e => u.there b o e (by simp)) u.tups u.frzs u.tbls (fun m' hm => by
    obtain ⟨o', es', ep', ho', r'⟩ := hm
    rw [ho] at ho'; cases ho'
    exact ⟨_, es', ep', hL, r'⟩) hok I.bare
/-- behind a call (or a comprehension's block): the slots of this frame may have changed too, the records at ch may have turned -/
theorem Inv.call {g' : Array GenState} {t' : Nat} {d' : Drawn} {ch : List Addr} (I : Inv X pins σ H s) (u : Un (frs X.stack) ch H H' s.heap h') (hok : HOk X.prog X.w H' h') (hg : AllBare g')
    (hch : ∀ b ∈ ch, (b ∈ X.ex ∨ X.s_0.heap.objs.size ≤ b) ∧ b ≠ X.env.locals ∧ (∀ x c, X.env.cells.lookup x = some c → c ≠ b) ∧ ∀ p ∈ X.pn ++ pins, p.1 ≠ b) :
    Inv X pins σ H' { s with heap := h', gens := g', drawn := d', toks := t' } := by
  obtain ⟨m, ⟨o, es, ep, ho, r⟩, _⟩ := id I.loc
  obtain ⟨sl, hL⟩ := u.any ho I.free fun z => (hch _ z).2.1 rfl
  exact I.step (ch := ch) hch (fun b o hL hb hc e n => u.keep b o e n (fun z => (List.mem_cons.mp (I.stkSub b z)).elim hL hb) hc) (fun b o _ _ hc e n => u.any e n hc) (fun b o hc e n => u.free b o e n hc) (fun b o hc e => u.there b o e hc) u.tups u.frzs u.tbls (fun m' hm => by
    obtain ⟨o', es', ep', ho', r'⟩ := hm
    rw [ho] at ho'; cases ho'
    exact ⟨_, es', ep', hL, r'⟩) hok hg
/-- an untracked record of ours (an iterator) has turned -/
theorem Inv.turned {t' : Nat} {it : Addr} (I : Inv X pins σ H s) (k : ∀ b o, b ≠ it → s.heap.get? b = some o → h'.get? b = some o) (hn : H it = none) (hL : it ≠ X.env.locals)
    (h1 : it ∈ X.ex ∨ X.s_0.heap.objs.size ≤ it) (h2 : ∀ x c, X.env.cells.lookup x = some c → c ≠ it) (h3 : ∀ p ∈ X.pn ++ pins, p.1 ≠ it) : Inv X pins σ H { s with heap := h', toks := t' } := by
  have nit : ∀ b u, H b = some u → b ≠ it := fun b u e z => by rw [z, hn] at e; cases e
  refine I.step (g' := s.gens) (d' := s.drawn) (ch := [it]) (fun b hb => ?_) (fun b o _ _ hc e _ => k b o (fun z => hc (by simp [z])) e) (fun b o _ _ hc e _ => ⟨o.slots, k b o (fun z => hc (by simp [z])) e⟩) (fun _ _ _ _ n => n)
    (fun b o hc e => ⟨o, k b o (fun z => hc (by simp [z])) e⟩) (fun _ _ e => e) (fun _ _ _ e => e) (fun b ps e => ⟨#[], by rw [e]; simp⟩) (fun m hm => ?_) (fun b u e => ?_) I.bare
  · have e : b = it := by simpa using hb
    subst e
    exact ⟨h1, hL, h2, h3⟩
  · obtain ⟨o, es, ep, ho, r⟩ := hm
    exact ⟨o, es, ep, k _ o (Ne.symm hL) ho, r⟩
  · refine (I.hok b u e).stay (fun c v hc q => k c v ?_ q) (fun _ q => q) fun _ _ q => q
    rcases hc with z | z
    · rw [z]; exact nit b u e
    · exact nit c _ z
theorem Inv.tok (I : Inv X pins σ H s) (t : Nat) : Inv X pins σ H { s with toks := t } := I.un (h' := s.heap) (t' := t) Un.refl I.hok
/-- all objects kept -/
theorem Inv.kept {t' : Nat} (I : Inv X pins σ H s) (k : ∀ b u, s.heap.get? b = some u → h'.get? b = some u) : Inv X pins σ H { s with heap := h', toks := t' } := I.un (Un.kept k) (I.hok.kept k)
/-- a new object laid and tracked -/
theorem Inv.laid {a : Addr} {o : HO} {t' : Nat} (I : Inv X pins σ H s) (k : ∀ b u, s.heap.get? b = some u → h'.get? b = some u) (hp : s.heap.objs.size ≤ a) (new : ObjOk X.prog X.w (upd H a o) h' a o) :
    Inv X pins σ (upd H a o) { s with heap := h', toks := t' } := I.un (Un.laid k hp (I.hok.fresh hp)) (I.hok.laid k hp new)
/-- an object written -/
theorem Inv.write {x e : Addr} {o : HO} {t' : Nat} (I : Inv X pins σ H s) (mu : Mut (H x)) (he : e = x ∨ H e = some (.own x)) (k : ∀ b u, b ≠ e → s.heap.get? b = some u → h'.get? b = some u) (heo : ∃ u, h'.get? e = some u)
    (new : ObjOk X.prog X.w (upd H x o) h' x o) : Inv X pins σ (upd H x o) { s with heap := h', toks := t' } := I.un (Un.write mu he k heo) (I.hok.write mu he k heo new)
/-- forgetting slots, pins -/
theorem Inv.weak {σ' : List (Option V)} (I : Inv X pins σ H s) (hl : σ'.length = σ.length) (w : ∀ (i : Nat) v, σ'[i]? = some (some v) → σ[i]? = some (some v)) : Inv X pins σ' H s :=
  ⟨I.ok, I.os, I.bare, I.base, let ⟨m, hn, hl'⟩ := I.loc; ⟨m, hn, fun i x v e1 e2 e3 => hl' i x v e1 (w i v e2) e3⟩, I.cell, I.free, I.freeC, I.pin, I.hok, hl.trans I.len⟩
theorem Inv.pins_of {pins' : List (Addr × Obj)} (I : Inv X pins σ H s) (h : ∀ p ∈ pins', s.heap.get? p.1 = some p.2 ∧ H p.1 = none ∧ p.1 ≠ X.env.locals ∧ p.1 ∉ X.fs ∧ ∀ v, p.2.data ≠ .cell v) : Inv X pins' σ H s :=
  ⟨I.ok, I.os, I.bare, I.base, I.loc, I.cell, I.free, I.freeC, fun p hp => (List.mem_append.mp hp).elim (fun z => I.pin p (List.mem_append_left _ z)) (h p), I.hok, I.len⟩
theorem nodup_ix {N : List Str} (hN : N.Nodup) {i j : Nat} {x : Str} (a : N[i]? = some x) (b : N[j]? = some x) : i = j := by
  obtain ⟨h1, e1⟩ := List.getElem?_eq_some_iff.mp a
  obtain ⟨h2, e2⟩ := List.getElem?_eq_some_iff.mp b
  exact (List.getElem_inj hN).mp (e1.trans e2.symm)
/-- a name is stored; what changed -/
theorem store_ok2 {M : Model} {A : Around} {E : Value → Shared → Prop} {i : Nat} {x : Str} {v : V} {u : Value} {Q : Unit → Shared → Prop} (I : Inv X pins σ H s) (hN : X.N.Nodup) (hi : X.N[i]? = some x) (hx : Loc X.env.scope x) (r : RelV v u)
    (h : ∀ s', Inv X pins (σ.set i (some v)) H s' → (∃ a, Heap.SameBut a s.heap s'.heap ∧ (a = X.env.locals ∨ X.env.cells.lookup x = some a)) → Q () s') (hf : X.fn x = true ∨ X.env.scope.names.lookup x = some .local := by first | exact .inl rfl | exact .inr rfl | assumption) : wpAny M A (storeName X.env x u) Q E s := by
  obtain ⟨m, hn, hl⟩ := id I.loc
  have hcls : (X.env.scope.kind == .class || (X.env.scope.kind == .module && X.env.locals != X.env.globals)) = false := by rw [I.ok.kind]; rfl
  have hiσ : i < σ.length := by rw [I.len]; exact (List.getElem?_eq_some_iff.mp hi).1
  have cne := I.cne
  have tracked : ∀ {a : Addr} {h' : Heap}, (∃ o, s.heap.get? a = some o ∧ H a = none) → Heap.SameBut a s.heap h' → HOk X.prog X.w H h' := fun {a h'} ha hs b ob e => by
    obtain ⟨_, _, hfree⟩ := ha
    refine (I.hok b ob e).stay (fun c w' hc q => (hs.2 c ?_).trans q) (fun _ q => q) fun _ _ q => q
    rintro rfl
    rcases hc with rfl | hc
    · rw [hfree] at e; cases e
    · rw [hfree] at hc; cases hc
  rcases hx with hk | hk
  · refine wpAny_storeName_local hk hn (fun h' hn' hs => ?_) hcls
    obtain ⟨oL, _, _, hoL, _⟩ := id hn
    refine h _ ⟨I.ok, I.os, I.bare, ⟨fun b o e n hb hx => ?_, fun b o e n hb hx => ?_, I.base.free, fun b o e hx => ?_, I.base.tups, I.base.frzs, I.base.tbls⟩, ⟨_, hn', fun j y v' e1 e2 e3 => ?_⟩, fun y c e => ?_, I.free, I.freeC, fun p hp => ?_, tracked ⟨oL, hoL, I.free⟩ hs, by simpa using I.len⟩ ⟨_, hs, .inl rfl⟩
    · exact (hs.2 b (Nat.ne_of_lt (Nat.lt_of_lt_of_le (Heap.lt_size e) I.ok.above))).trans (I.base.keep b o e n hb hx)
    · obtain ⟨sl, e1⟩ := I.base.slot b o e n hb hx
      exact ⟨sl, (hs.2 b (Nat.ne_of_lt (Nat.lt_of_lt_of_le (Heap.lt_size e) I.ok.above))).trans e1⟩
    · obtain ⟨o', e1⟩ := I.base.there b o e hx
      exact ⟨o', (hs.2 b (Nat.ne_of_lt (Nat.lt_of_lt_of_le (Heap.lt_size e) I.ok.above))).trans e1⟩
    · by_cases hj : j = i
      · subst hj
        rw [hi] at e1; cases e1
        rw [List.getElem?_set_self hiσ] at e2
        cases e2
        exact ⟨u, r, .inl ⟨hk, by simp⟩⟩
      · rw [List.getElem?_set_ne (Ne.symm hj)] at e2
        obtain ⟨u', r', q⟩ := hl j y v' e1 e2 e3
        refine ⟨u', r', ?_⟩
        rcases q with ⟨k, e⟩ | ⟨k, c, e, z⟩
        · refine .inl ⟨k, ?_⟩
          have : y ≠ x := fun e => hj (nodup_ix hN e1 (e ▸ hi))
          simp [this, e]
        · exact .inr ⟨k, c, e, z.sameBut hs (cne y c e)⟩
    · obtain ⟨w', z⟩ := I.cell y c e
      exact ⟨w', z.sameBut hs (cne y c e)⟩
    · obtain ⟨e, n, ne, nf, d⟩ := I.pin p hp
      exact ⟨(hs.2 p.1 ne).trans e, n, ne, nf, d⟩
  · have hfn : X.fn x = true := by
      rcases hf with z | z
      · exact z
      · rw [z] at hk; cases hk
    obtain ⟨c, hc⟩ := I.ok.has x (.inl hk)
    obtain ⟨w', z⟩ := I.cell x c hc
    refine wpAny_storeName_cell I.ok.kind hk hc z (fun h' hc' hs => ?_)
    obtain ⟨oc, hoc, hocd⟩ := id z
    refine h { s with heap := h' } ⟨I.ok, I.os, I.bare, ⟨fun b o e n hb hx => ?_, fun b o e n hb hx => ?_, I.base.free, fun b o e hx => ?_, I.base.tups, I.base.frzs, I.base.tbls⟩, ⟨m, hn.sameBut hs (Ne.symm (cne x c hc)), fun j y v' e1 e2 e3 => ?_⟩, fun y c' e => ?_, I.free, I.freeC, fun p hp => ?_, tracked ⟨oc, hoc, I.freeC x c hc⟩ hs, by simpa using I.len⟩ ⟨c, hs, .inr hc⟩
    · exact (hs.2 b (Nat.ne_of_lt (Nat.lt_of_lt_of_le (Heap.lt_size e) (I.ok.cab x c hfn hc)))).trans (I.base.keep b o e n hb hx)
    · obtain ⟨sl, e1⟩ := I.base.slot b o e n hb hx
      exact ⟨sl, (hs.2 b (Nat.ne_of_lt (Nat.lt_of_lt_of_le (Heap.lt_size e) (I.ok.cab x c hfn hc)))).trans e1⟩
    · obtain ⟨o', e1⟩ := I.base.there b o e hx
      exact ⟨o', (hs.2 b (Nat.ne_of_lt (Nat.lt_of_lt_of_le (Heap.lt_size e) (I.ok.cab x c hfn hc)))).trans e1⟩
    · by_cases hj : j = i
      · subst hj
        rw [hi] at e1; cases e1
        rw [List.getElem?_set_self hiσ] at e2
        cases e2
        exact ⟨u, r, .inr ⟨.inl hk, c, hc, hc'⟩⟩
      · rw [List.getElem?_set_ne (Ne.symm hj)] at e2
        obtain ⟨u', r', q⟩ := hl j y v' e1 e2 e3
        refine ⟨u', r', ?_⟩
        rcases q with q | ⟨k, c', e, z'⟩
        · exact .inl q
        · refine .inr ⟨k, c', e, z'.sameBut hs ?_⟩
          rintro rfl
          exact hj (nodup_ix hN e1 (I.ok.inj _ _ _ e hc ▸ hi))
    · by_cases hcc : c' = c
      · subst hcc; exact ⟨_, hc'⟩
      · obtain ⟨w2, z2⟩ := I.cell y c' e
        exact ⟨w2, z2.sameBut hs hcc⟩
    · obtain ⟨e, n, ne, nf, d⟩ := I.pin p hp
      refine ⟨(hs.2 p.1 ?_).trans e, n, ne, nf, d⟩
      intro q
      rw [q, hoc] at e
      have q' : oc = p.2 := Option.some.inj e
      exact d w' (by rw [← q']; exact hocd)
theorem store_ok {M : Model} {A : Around} {E : Value → Shared → Prop} {i : Nat} {x : Str} {v : V} {u : Value} {Q : Unit → Shared → Prop} (I : Inv X pins σ H s) (hN : X.N.Nodup) (hi : X.N[i]? = some x) (hx : Loc X.env.scope x) (r : RelV v u)
    (h : ∀ s', Inv X pins (σ.set i (some v)) H s' → Q () s') (hf : X.fn x = true ∨ X.env.scope.names.lookup x = some .local := by first | exact .inl rfl | exact .inr rfl | assumption) : wpAny M A (storeName X.env x u) Q E s :=
  store_ok2 I hN hi hx r (fun s' I' _ => h s' I') hf
/-- behind a call or a block, the state as it is -/
theorem Inv.call' {s' : Shared} {ch : List Addr} (I : Inv X pins σ H s) (ho : s'.os = s.os) (u : Un (frs X.stack) ch H H' s.heap s'.heap) (hok : HOk X.prog X.w H' s'.heap) (hg : AllBare s'.gens)
    (hch : ∀ b ∈ ch, (b ∈ X.ex ∨ X.s_0.heap.objs.size ≤ b) ∧ b ≠ X.env.locals ∧ (∀ x c, X.env.cells.lookup x = some c → c ≠ b) ∧ ∀ p ∈ X.pn ++ pins, p.1 ≠ b) : Inv X pins σ H' s' := by
  obtain ⟨h', g', d', t', o'⟩ := s'
  have e : o' = s.os := ho
  subst e
  exact I.call (g' := g') (t' := t') (d' := d') u hok hg hch
end
/-! ### the judgements -/
/-- an exception: its class, its own dict's address (where it has one), the abstract heap behind it -/
abbrev XK := Value → Option Addr → Hp → Prop
abbrev St := List (Option V)
abbrev VK := V → Hp → Prop
/-- an expression's reading; a test's; an argument list's -/
abbrev TE := St → Hp → VK → Prop
abbrev TT := St → Hp → (Bool → Hp → Prop) → Prop
abbrev TA := St → Hp → (List V → Hp → Prop) → Prop
/-- what is wanted behind a statement -/
structure Ends where
  nx : St → Hp → Prop
  rt : VK
  bk : St → Hp → Prop := fun _ _ => False
  ct : St → Hp → Prop := fun _ _ => False
abbrev TS := Ends → St → Hp → Prop
def EP (X : Cx) (pins : List (Addr × Obj)) (σ : St) (Q : VK) (u : Value) (s' : Shared) : Prop := ∃ v H', Inv X pins σ H' s' ∧ RelV v u ∧ Q v H'
def TP (X : Cx) (pins : List (Addr × Obj)) (σ : St) (Q : Bool → Hp → Prop) (b : Bool) (s' : Shared) : Prop := ∃ H', Inv X pins σ H' s' ∧ Q b H'
def AP (X : Cx) (pins : List (Addr × Obj)) (σ : St) (Q : List V → Hp → Prop) (us : List Value) (s' : Shared) : Prop := ∃ vs H', Inv X pins σ H' s' ∧ Vals vs us ∧ Q vs H'
def SP (X : Cx) (pins : List (Addr × Obj)) (D : Ends) (f : Flow) (s' : Shared) : Prop :=
  match f with
  | .next => ∃ σ' H', Inv X pins σ' H' s' ∧ D.nx σ' H'
  | .brk => ∃ σ' H', Inv X pins σ' H' s' ∧ D.bk σ' H'
  | .cont => ∃ σ' H', Inv X pins σ' H' s' ∧ D.ct σ' H'
  | .ret u => ∃ v σ' H', Inv X pins σ' H' s' ∧ RelV v u ∧ D.rt v H'
def PE (X : Cx) (e : Expr) (t : TE) : Prop :=
  ∀ (pins : List (Addr × Obj)) (s : Shared) (σ : St) (H : Hp) (Q : VK), Inv X pins σ H s → t σ H Q → wpAny (model X.prog X.w) X.A (eval e X.env) (EP X pins σ Q) X.xe s
def PT (X : Cx) (e : Expr) (t : TT) : Prop :=
  ∀ (pins : List (Addr × Obj)) (s : Shared) (σ : St) (H : Hp) (Q : Bool → Hp → Prop), Inv X pins σ H s → t σ H Q → wpAny (model X.prog X.w) X.A (isTrue e X.env (eval e X.env)) (TP X pins σ Q) X.xe s
/-- a test whatever its 'whole' is (and, or) -/
def PW (X : Cx) (e : Expr) (t : TT) : Prop :=
  ∀ (whole : Sem Value) (pins : List (Addr × Obj)) (s : Shared) (σ : St) (H : Hp) (Q : Bool → Hp → Prop), Inv X pins σ H s → t σ H Q → wpAny (model X.prog X.w) X.A (isTrue e X.env whole) (TP X pins σ Q) X.xe s
theorem PW.pt {X : Cx} {e : Expr} {t : TT} (h : PW X e t) : PT X e t := h _
/-- an argument list (no star), from the left -/
def PA (X : Cx) (es : List Expr) (t : TA) : Prop :=
  ∀ (pos : Pos) (pins : List (Addr × Obj)) (s : Shared) (σ : St) (H : Hp) (Q : List V → Hp → Prop), Inv X pins σ H s → t σ H Q → wpAny (model X.prog X.w) X.A (spliced (backTo pos (starEach es X.env))) (AP X pins σ Q) X.xe s
def PS (X : Cx) (st : Stmt) (t : TS) : Prop :=
  ∀ (pins : List (Addr × Obj)) (s : Shared) (σ : St) (H : Hp) (D : Ends), Inv X pins σ H s → t D σ H → wpAny (model X.prog X.w) X.A (exec st X.env) (SP X pins D) X.xe s
def PSs (X : Cx) (st : List Stmt) (t : TS) : Prop :=
  ∀ (pins : List (Addr × Obj)) (s : Shared) (σ : St) (H : Hp) (D : Ends), Inv X pins σ H s → t D σ H → wpAny (model X.prog X.w) X.A (execs st X.env) (SP X pins D) X.xe s
/-- weaken the end -/
theorem thn {α : Type} {t : Sem α} {Q Q' : α → Shared → Prop} {M : Model} {A : Around} {E : Value → Shared → Prop} {s : Shared} (h : wpAny M A t Q E s) (hQ : ∀ a s, Q a s → Q' a s) : wpAny M A t Q' E s := wpAny_mono h hQ fun _ _ x => x
end L2
namespace L2
open PySem PySem.Spec PyProof.Rows
section
variable {X : Cx}
/-! ### names and constants -/
def tVar (i : Nat) : TE := fun σ H Q => ∃ v, σ[i]? = some (some v) ∧ Q v H
def tC (v : V) : TE := fun _ H Q => Q v H
theorem pe_var {i : Nat} {x : Str} {pos : Pos} (hN : X.N[i]? = some x) (hv : Vis X.env.scope x) (hd : (x == ("__debug__" : Str)) = false := by decide) (hcd : (x == ("__classdict__" : Str)) = false := by decide) : PE X (.Name x pos) (tVar i) := by
  intro pins s σ H Q I h
  obtain ⟨v, e, h⟩ := h
  obtain ⟨m, hn, hl⟩ := I.loc
  obtain ⟨u, r, l⟩ := hl i x v hN e hv
  have fin : EP X pins σ Q u s := ⟨v, H, I, r, h⟩
  rcases l with ⟨hk, hm⟩ | ⟨hk, c, hc, hcell⟩
  · exact wpAny_Name (wpAny_loadName_local I.ok.kind hk hn hm fin) hd
  · rcases hk with hk | hk
    · exact wpAny_Name (wpAny_loadName_cell I.ok.kind hk hc hcell fin) hd
    · exact wpAny_Name (wpAny_loadName_free I.ok.kind hk hc hcell fin hcd) hd
theorem pe_int {i j pos} : PE X (.Constant (.int i) j pos) (tC (.int i)) := fun _ _ _ H _ I h => wpAny_Constant_int ⟨.int i, H, I.tok _, ⟨_, rfl⟩, h⟩
theorem pe_bl {b j pos} : PE X (.Constant (.bool b) j pos) (tC (.bl b)) := fun _ _ _ H _ I h => Constant_bool ⟨.bl b, H, I, rfl, h⟩
theorem pe_non {j pos} : PE X (.Constant .none j pos) (tC .non) := fun _ _ _ H _ I h => Constant_none ⟨.non, H, I, rfl, h⟩
theorem pe_str {x j pos} : PE X (.Constant (.str x) j pos) (tC (.str x)) := fun _ _ _ H _ I h => Calls.Constant_str ⟨.str x, H, I.tok _, ⟨_, rfl⟩, h⟩
/-- a global name of the def -/
def Gl (X : Cx) (x : Str) : Prop := X.env.kindOf x = some .globalImplicit
theorem ld_glob {E : Value → Shared → Prop} {pins : List (Addr × Obj)} {s : Shared} {σ : St} {H : Hp} {x : Str} {u : Value} {pos : Pos} {Q : Value → Shared → Prop} (I : Inv X pins σ H s) (hg : Gl X x) (hm : X.mg x = some u) (h : Q u s)
    (hd : (x == ("__debug__" : Str)) = false := by decide) : wpAny (model X.prog X.w) X.A (eval (.Name x pos) X.env) Q E s :=
  Calls.Name_function_global I.ok.kind hg (Calls.loadGlobal_global (by rw [I.ok.glob]; exact I.mod.glob.keeps I.bk) hm h) hd
theorem ld_blt {E : Value → Shared → Prop} {pins : List (Addr × Obj)} {s : Shared} {σ : St} {H : Hp} {x : Str} {u : Value} {pos : Pos} {Q : Value → Shared → Prop} (I : Inv X pins σ H s) (hg : Gl X x) (hm : X.mg x = none) (hv : bootBuiltins x = some u) (h : Q u s)
    (hn : x ≠ "__name__" := by decide) (hd : (x == ("__debug__" : Str)) = false := by decide) : wpAny (model X.prog X.w) X.A (eval (.Name x pos) X.env) Q E s := by
  obtain ⟨mb, h1, h2⟩ := I.mod.blt
  exact Calls.Name_function_global I.ok.kind hg (Calls.loadGlobal_builtin (by rw [I.ok.glob]; exact I.mod.glob.keeps I.bk) hm (by rw [I.ok.blt]; exact h1.keeps I.bk) ((h2 x hn).trans hv) h) hd
/-- a module's constant, a class, a function, as a value -/
theorem pe_glob {x : Str} {v : V} {u : Value} {pos : Pos} (hg : Gl X x) (hm : X.mg x = some u) (r : RelV v u) (hd : (x == ("__debug__" : Str)) = false := by decide) : PE X (.Name x pos) (tC v) :=
  fun _ _ _ H _ I h => ld_glob I hg hm ⟨v, H, I, r, h⟩ hd
/-! ### arithmetic -/
variable {a b : Expr} {ta tb : TE} {pos : Pos}
/-! ### comparisons -/
def PC (X : Cx) (op : CmpOp) (a b : Expr) (t : TE) : Prop :=
  ∀ (pins : List (Addr × Obj)) (s : Shared) (σ : St) (H : Hp) (Q : VK), Inv X pins σ H s → t σ H Q →
    wpAny (model X.prog X.w) X.A (eval a X.env) (fun v s₁ => wpAny (model X.prog X.w) X.A (eval b X.env) (fun u s₂ => wpAny (model X.prog X.w) X.A (compareOp op v u) (EP X pins σ Q) X.xe s₂) X.xe s₁) X.xe s
/-- a comparison as a value, as a test -/
def tB (t : TE) : TT := fun σ H Q => t σ H fun x H1 => ∃ c, x = .bl c ∧ Q c H1
theorem pe_cmp {op : CmpOp} {t : TE} (h : PC X op a b t) (h1 : behindInMarks op b = false := by first | exact nobehind _ (by decide) (by decide) | rfl) : PE X (.Compare a [op] [b] pos) t := fun pins s σ H Q I hw => wpAny_Compare1 (h pins s σ H Q I hw) h1
theorem pt_cmp {op : CmpOp} {t : TE} (h : PC X op a b t) (h1 : behindInMarks op b = false := by first | exact nobehind _ (by decide) (by decide) | rfl) : PT X (.Compare a [op] [b] pos) (tB t) := by
  intro pins s σ H Q I hw
  refine wpAny_isTrue_Compare1 (thn (h pins s σ H _ I hw) fun v s1 h1 => thn h1 fun u s2 h2 => thn h2 fun c s3 ⟨x, H1, I1, r1, q1⟩ => ?_) h1
  obtain ⟨d, rfl, q⟩ := q1
  cases r1
  exact wpAny_truthy_bool ⟨H1, I1, q⟩
/-- an expression whose value is a bool, as a test -/
theorem pt_val {e : Expr} {t : TE} (h : PE X e t) (he : ∀ whole, isTrue e X.env whole = (do let v ← whole; standAt e.pos; holding [v] (truthy v)) := by intro _; rfl) : PT X e (tB t) := by
  intro pins s σ H Q I hw
  refine isTrue_plain (thn (h pins s σ H _ I hw) fun v s1 ⟨x, H1, I1, r1, q1⟩ => ?_) (he _)
  obtain ⟨d, rfl, q⟩ := q1
  cases r1
  exact wpAny_truthy_bool ⟨H1, I1, q⟩
/-! ### and, or, not -/
variable {tA tB' : TT} {rest : List Expr}
def tAnd (t u : TT) : TT := fun σ H Q => t σ H fun c H1 => if c = true then u σ H1 Q else Q false H1
def tOr (t u : TT) : TT := fun σ H Q => t σ H fun c H1 => if c = true then Q true H1 else u σ H1 Q
def tNot (t : TT) : TT := fun σ H Q => t σ H fun c H1 => Q (!c) H1
theorem pw_and1 (ha : PT X a tA) : PW X (.BoolOp .And [a] pos) tA := by
  intro wh pins s σ H Q I h
  refine isTrue_and (thn (ha pins s σ H Q I h) fun c s1 e => ?_)
  cases c with
  | true => exact isTrue_and_nil e
  | false => exact e
theorem pw_or1 (ha : PT X a tA) : PW X (.BoolOp .Or [a] pos) tA := by
  intro wh pins s σ H Q I h
  refine isTrue_or (thn (ha pins s σ H Q I h) fun c s1 e => ?_)
  cases c with
  | false => exact isTrue_or_nil e
  | true => exact e
theorem pw_and (ha : PT X a tA) (hb : PW X (.BoolOp .And (b :: rest) pos) tB') : PW X (.BoolOp .And (a :: b :: rest) pos) (tAnd tA tB') := by
  intro wh pins s σ H Q I h
  refine isTrue_and (thn (ha pins s σ H _ I h) fun c s1 ⟨H1, I1, q1⟩ => ?_)
  cases c with
  | true => exact hb wh pins s1 σ H1 Q I1 q1
  | false => exact ⟨H1, I1, q1⟩
theorem pw_or (ha : PT X a tA) (hb : PW X (.BoolOp .Or (b :: rest) pos) tB') : PW X (.BoolOp .Or (a :: b :: rest) pos) (tOr tA tB') := by
  intro wh pins s σ H Q I h
  refine isTrue_or (thn (ha pins s σ H _ I h) fun c s1 ⟨H1, I1, q1⟩ => ?_)
  cases c with
  | true => exact ⟨H1, I1, q1⟩
  | false => exact hb wh pins s1 σ H1 Q I1 q1
theorem pt_not (ha : PT X a tA) : PT X (.UnaryOp .Not a pos) (tNot tA) := by
  intro pins s σ H Q I h
  exact isTrue_not (ha pins s σ H (fun c H1 => Q (!c) H1) I h)
/-- .. as values (bools) -/
def tAndV (ta tb : TE) : TE := fun σ H Q => ta σ H fun x H1 => ∃ c, x = .bl c ∧ if c = true then tb σ H1 Q else Q (.bl false) H1
def tOrV (ta tb : TE) : TE := fun σ H Q => ta σ H fun x H1 => ∃ c, x = .bl c ∧ if c = true then Q (.bl true) H1 else tb σ H1 Q
theorem pe_one {op} {t : TE} (h : PE X a t) : PE X (.BoolOp op [a] pos) t := fun pins s σ H Q I hw => BoolOp_one (h pins s σ H Q I hw)
theorem pe_and (ha : PE X a ta) (hb : PE X (.BoolOp .And (b :: rest) pos) tb) : PE X (.BoolOp .And (a :: b :: rest) pos) (tAndV ta tb) := by
  intro pins s σ H Q I h
  refine BoolOp_and (thn (ha pins s σ H _ I h) fun v s1 ⟨x, H1, I1, r1, q1⟩ => ?_)
  obtain ⟨c, rfl, q1⟩ := q1
  cases r1
  refine wpAny_truthy_bool ?_
  cases c with
  | true => exact hb pins s1 σ H1 Q I1 q1
  | false => exact ⟨.bl false, H1, I1, rfl, q1⟩
theorem pe_or (ha : PE X a ta) (hb : PE X (.BoolOp .Or (b :: rest) pos) tb) : PE X (.BoolOp .Or (a :: b :: rest) pos) (tOrV ta tb) := by
  intro pins s σ H Q I h
  refine BoolOp_or (thn (ha pins s σ H _ I h) fun v s1 ⟨x, H1, I1, r1, q1⟩ => ?_)
  obtain ⟨c, rfl, q1⟩ := q1
  cases r1
  refine wpAny_truthy_bool ?_
  cases c with
  | false => exact hb pins s1 σ H1 Q I1 q1
  | true => exact ⟨.bl true, H1, I1, rfl, q1⟩
/-- a if t else b -/
def tIf (t : TT) (ta tb : TE) : TE := fun σ H Q => t σ H fun c H1 => if c = true then ta σ H1 Q else tb σ H1 Q
theorem pe_ifExp {c : Expr} (hc : PT X c tA) (ha : PE X a ta) (hb : PE X b tb) : PE X (.IfExp c a b pos) (tIf tA ta tb) := by
  intro pins s σ H Q I h
  refine wpAny_IfExp (thn (hc pins s σ H _ I h) fun d s1 ⟨H1, I1, q1⟩ => ?_)
  cases d with
  | true => exact ha pins s1 σ H1 Q I1 q1
  | false => exact hb pins s1 σ H1 Q I1 q1
end
end L2
namespace L2
open PySem PySem.Spec PyProof.Rows
/-! ### a list, a tuple that is read: tracked, frozen, or an object of the module -/
def SqL (K : PySem.W.Frag) (H : Hp) (a : Addr) (xs : List V) : Prop :=
  Rd H a (.lst xs) ∨
    ∃ (o : Obj) (its : Array Value) (n : Nat), K.lookup a = some o ∧ o.cls = .type "list" ∧ o.dict = none ∧ o.data = .seq its n ∧ its.size ≤ sizeLine ∧ Vals xs its.toList
def SqT (K : PySem.W.Frag) (H : Hp) (a : Addr) (xs : List V) : Prop :=
  Rd H a (.tup xs) ∨
    ∃ (o : Obj) (its : Array Value) (n : Nat), K.lookup a = some o ∧ o.cls = .type "tuple" ∧ o.data = .seq its n ∧ its.size ≤ sizeLine ∧ Vals xs its.toList
def absV : Value → Option V
  | .none => some .non
  | .bool b => some (.bl b)
  | .int i _ => some (.int i)
  | .str x _ => some (.str x)
  | .bytes b _ => some (.byt b)
  | .float b _ => some (.flt b)
  | .ref a => some (.ref a)
  | .type n => some (.ty n)
  | _ => none
theorem RelV.abs {x : V} {u : Value} (r : RelV x u) : absV u = some x := by
  cases x with
  | non => cases r; rfl
  | bl _ => cases r; rfl
  | int _ => obtain ⟨t, rfl⟩ := r; rfl
  | str _ => obtain ⟨t, rfl⟩ := r; rfl
  | byt _ => obtain ⟨t, rfl⟩ := r; rfl
  | flt _ => obtain ⟨t, rfl⟩ := r; rfl
  | ref _ => cases r; rfl
  | ty _ => cases r; rfl
theorem RelV.inj {x y : V} {u : Value} (r : RelV x u) (q : RelV y u) : x = y := Option.some.inj (r.abs.symm.trans q.abs)
theorem Vals.inj : ∀ {xs ys : List V} {us : List Value}, Vals xs us → Vals ys us → xs = ys
  | _, _, _, .nil, .nil => rfl
  | _, _, _, .cons r t, .cons r' t' => by rw [r.inj r', Vals.inj t t']
section
variable {X : Cx} {pins : List (Addr × Obj)} {σ : St} {H : Hp} {s : Shared} {a : Addr} {xs ys : List V}
theorem SqL.of {K : PySem.W.Frag} (h : H a = some (.lst xs)) : SqL K H a xs := .inl (.inl h)
theorem SqT.of {K : PySem.W.Frag} (h : H a = some (.tup xs)) : SqT K H a xs := .inl (.inl h)
theorem Inv.list (I : Inv X pins σ H s) (h : SqL X.K H a xs) : ∃ its : List Value, Vals xs its ∧ PlainL s.heap a its.toArray ∧ xs.length ≤ sizeLine := by
  rcases h with h | ⟨o, its, n, hk, hc, hd, hs, hz, r⟩
  · obtain ⟨z, its, n, r, e⟩ := h.ok I.hok
    exact ⟨its, r, ⟨_, n, e, rfl, rfl, rfl⟩, z⟩
  · refine ⟨its.toList, r, ⟨o, n, I.kIn a o hk, hc, hd, by simpa using hs⟩, ?_⟩
    have e := r.length
    simp only [Array.length_toList] at e
    omega
theorem Inv.tuple (I : Inv X pins σ H s) (h : SqT X.K H a xs) : ∃ its : List Value, Vals xs its ∧ IsTup s.heap a its.toArray ∧ xs.length ≤ sizeLine := by
  rcases h with h | ⟨o, its, n, hk, hc, hs, hz, r⟩
  · obtain ⟨z, its, r, p⟩ := h.ok I.hok
    exact ⟨its, r, p, z⟩
  · refine ⟨its.toList, r, ⟨o, I.kIn a o hk, hc, n, by simpa using hs⟩, ?_⟩
    have e := r.length
    simp only [Array.length_toList] at e
    omega
theorem Inv.list_inj (I : Inv X pins σ H s) (h : SqL X.K H a xs) (h' : SqL X.K H a ys) : xs = ys := by
  obtain ⟨its, r, ⟨o, n, e, _, _, d⟩, _⟩ := I.list h
  obtain ⟨its', r', ⟨o', n', e', _, _, d'⟩, _⟩ := I.list h'
  rw [e] at e'; cases e'
  rw [d] at d'
  injection d' with d1 _
  have : its = its' := by simpa using congrArg Array.toList d1
  subst this
  exact r.inj r'
theorem Inv.tuple_inj (I : Inv X pins σ H s) (h : SqT X.K H a xs) (h' : SqT X.K H a ys) : xs = ys := by
  obtain ⟨its, r, ⟨o, e, _, n, d⟩, _⟩ := I.tuple h
  obtain ⟨its', r', ⟨o', e', _, n', d'⟩, _⟩ := I.tuple h'
  rw [e] at e'; cases e'
  rw [d] at d'
  injection d' with d1 _
  have : its = its' := by simpa using congrArg Array.toList d1
  subst this
  exact r.inj r'
end
/-! ### another wish about exceptions -/
abbrev Cx.wish (X : Cx) (E : Value → Shared → Prop) : Cx := { X with xe := E }
/-- no exception leaves -/
abbrev Cx.nox (X : Cx) : Cx := X.wish fun _ _ => False
theorem Cx.Ok.wish {X : Cx} (ok : X.Ok) (E : Value → Shared → Prop) : (X.wish E).Ok :=
  ⟨ok.mod, ok.kind, ok.glob, ok.blt, ok.above, ok.inj, ok.has, ok.cab, ok.hd, ok.frames, ok.stk, ok.exf, ok.bs, ok.bsz, ok.noex, ok.exfs, ok.funs, ok.frf⟩
theorem Cx.Ok.unwish {X : Cx} {E : Value → Shared → Prop} (ok : (X.wish E).Ok) : X.Ok :=
  ⟨ok.mod, ok.kind, ok.glob, ok.blt, ok.above, ok.inj, ok.has, ok.cab, ok.hd, ok.frames, ok.stk, ok.exf, ok.bs, ok.bsz, ok.noex, ok.exfs, ok.funs, ok.frf⟩
section
variable {X : Cx} {pins : List (Addr × Obj)} {σ : St} {H : Hp} {s : Shared} {E : Value → Shared → Prop}
theorem Inv.wish (I : Inv X pins σ H s) (E : Value → Shared → Prop) : Inv (X.wish E) pins σ H s := ⟨I.ok.wish E, I.os, I.bare, I.base, I.loc, I.cell, I.free, I.freeC, I.pin, I.hok, I.len⟩
theorem Inv.unwish (I : Inv (X.wish E) pins σ H s) : Inv X pins σ H s := ⟨I.ok.unwish, I.os, I.bare, I.base, I.loc, I.cell, I.free, I.freeC, I.pin, I.hok, I.len⟩
theorem SP.unwish {D : Ends} {f : Flow} {s' : Shared} (h : SP (X.wish E) pins D f s') : SP X pins D f s' := by
  cases f with
  | next => obtain ⟨σ', H', I, q⟩ := h; exact ⟨σ', H', I.unwish, q⟩
  | brk => obtain ⟨σ', H', I, q⟩ := h; exact ⟨σ', H', I.unwish, q⟩
  | cont => obtain ⟨σ', H', I, q⟩ := h; exact ⟨σ', H', I.unwish, q⟩
  | ret u => obtain ⟨v, σ', H', I, r, q⟩ := h; exact ⟨v, σ', H', I.unwish, r, q⟩
theorem PSs.nox {st : List Stmt} {t : TS} (h : PSs X.nox st t) : PSs X st t := fun pins s σ H D I hw =>
  wpAny_mono (h pins s σ H D (I.wish _) hw) (fun _ _ q => q.unwish) fun _ _ z => False.elim z
end
/-! ### blocks and small statements -/
section
variable {X : Cx} {st : Stmt} {rest : List Stmt} {t u : TS} {e : Expr} {te : TE} {pos : Pos}
def tNext : TS := fun D σ H => D.nx σ H
def tSeq (t u : TS) : TS := fun D σ H => t { D with nx := u D } σ H
theorem pss_nil : PSs X [] tNext := fun _ _ σ H _ I h => wpAny_execs_nil ⟨σ, H, I, h⟩
theorem pss_cons (h1 : PS X st t) (h2 : PSs X rest u) : PSs X (st :: rest) (tSeq t u) := by
  intro pins s σ H D I h
  refine wpAny_execs_cons (thn (h1 pins s σ H { D with nx := u D } I h) fun f s1 q => ?_)
  cases f with
  | next =>
    obtain ⟨σ', H', I', q⟩ := q
    exact h2 pins s1 σ' H' D I' q
  | ret v => exact q
  | brk => exact q
  | cont => exact q
theorem pss_one (h1 : PS X st t) : PSs X [st] t := by
  intro pins s σ H D I h
  refine wpAny_execs_cons (thn (h1 pins s σ H D I h) fun f s1 q => ?_)
  cases f with
  | next => exact wpAny_execs_nil q
  | ret v => exact q
  | brk => exact q
  | cont => exact q
/-- in a def's body nothing is shown -/
theorem Inv.quiet {pins : List (Addr × Obj)} {σ : St} {H : Hp} {s : Shared} (I : Inv X pins σ H s) : interactive X.env = false := by simp [interactive, I.ok.kind]
/-- an expression whose value is dropped -/
def tDrop (te : TE) : TS := fun D σ H => te σ H fun _ H1 => D.nx σ H1
theorem ps_expr (he : PE X e te) (hs : swapsWith e none pos.line X.env = pure false := by rfl) : PS X (.Expr e pos) (tDrop te) := by
  intro pins s σ H D I h
  exact wpAny_Expr_any (thn (he pins s σ H _ I h) fun v s1 ⟨x, H1, I1, r1, q1⟩ => ⟨σ, H1, I1, q1⟩) I.quiet hs
def tRet (te : TE) : TS := fun D σ H => te σ H D.rt
theorem ps_ret (he : PE X e te) : PS X (.Return (some e) pos) (tRet te) := by
  intro pins s σ H D I h
  exact wpAny_Return_some (thn (he pins s σ H _ I h) fun v s1 ⟨x, H1, I1, r1, q1⟩ => ⟨x, σ, H1, I1, r1, q1⟩)
def tIfS (c : TT) (t u : TS) : TS := fun D σ H => c σ H fun b H1 => if b = true then t D σ H1 else u D σ H1
theorem ps_if {c : Expr} {a b : List Stmt} {tc : TT} (hc : PT X c tc) (ha : PSs X a t) (hb : PSs X b u) : PS X (.If c a b pos) (tIfS tc t u) := by
  intro pins s σ H D I h
  refine wpAny_If (thn (hc pins s σ H _ I h) fun d s1 ⟨H1, I1, q1⟩ => ?_)
  cases d with
  | true => exact ha pins s1 σ H1 D I1 q1
  | false => exact hb pins s1 σ H1 D I1 q1
end
/-! ### targets -/
abbrev TG := V → St → Hp → (St → Hp → Prop) → Prop
abbrev TGs := List V → St → Hp → (St → Hp → Prop) → Prop
def PG (X : Cx) (target : Expr) (t : TG) : Prop :=
  ∀ (pins : List (Addr × Obj)) (s : Shared) (σ : St) (H : Hp) (v : V) (u : Value) (Q : St → Hp → Prop), Inv X pins σ H s → RelV v u → t v σ H Q →
    wpAny (model X.prog X.w) X.A (assign target X.env u) (fun _ s' => ∃ σ' H', Inv X pins σ' H' s' ∧ Q σ' H') X.xe s
/-- several targets, one after another -/
def PGs (X : Cx) (ts : List Expr) (t : TGs) : Prop :=
  ∀ (pins : List (Addr × Obj)) (s : Shared) (σ : St) (H : Hp) (vs : List V) (us : List Value) (Q : St → Hp → Prop), Inv X pins σ H s → Vals vs us → t vs σ H Q →
    wpAny (model X.prog X.w) X.A (assignInOrder ((assignEach ts X.env).map (·.2)) us) (fun _ s' => ∃ σ' H', Inv X pins σ' H' s' ∧ Q σ' H') X.xe s
/-- a op= b, by values -/
abbrev TIp := V → V → Hp → VK → Prop
def PIp (X : Cx) (op : Operator) (t : TIp) : Prop :=
  ∀ (pins : List (Addr × Obj)) (s : Shared) (σ : St) (H : Hp) (x y : V) (v u : Value) (Q : VK), Inv X pins σ H s → RelV x v → RelV y u → t x y H Q →
    wpAny (model X.prog X.w) X.A (inplaceOp op v u) (EP X pins σ Q) X.xe s
section
variable {X : Cx} {pos : Pos}
def gName (i : Nat) : TG := fun v σ H Q => Q (σ.set i (some v)) H
theorem pg_name {i : Nat} {x : Str} (hN : X.N.Nodup) (hi : X.N[i]? = some x) (hx : Loc X.env.scope x) (hf : X.fn x = true ∨ X.env.scope.names.lookup x = some .local := by first | exact .inl rfl | exact .inr rfl | assumption) : PG X (.Name x pos) (gName i) := by
  intro pins s σ H v u Q I r h
  exact wpAny_assign_Name (store_ok I hN hi hx r (fun s' I' => ⟨_, H, I', h⟩) hf)
def gNil : TGs := fun vs σ H Q => vs = [] ∧ Q σ H
def gCons (t : TG) (u : TGs) : TGs := fun vs σ H Q => ∃ v r, vs = v :: r ∧ t v σ H fun σ' H' => u r σ' H' Q
theorem pgs_nil : PGs X [] gNil := by
  intro pins s σ H vs us Q I r h
  obtain ⟨e, h⟩ := h
  subst e
  cases r
  exact assignInOrder_nil ⟨σ, H, I, h⟩
theorem pgs_cons {e : Expr} {es : List Expr} {t : TG} {u : TGs} (h1 : PG X e t) (h2 : PGs X es u)
    (hs : (assignEach (e :: es) X.env).map (·.2) = assign e X.env :: (assignEach es X.env).map (·.2) := by rfl) : PGs X (e :: es) (gCons t u) := by
  intro pins s σ H vs us Q I r h
  obtain ⟨v, vr, e1, h⟩ := h
  subst e1
  cases r with
  | cons r rr =>
    rw [hs]
    refine assignInOrder_cons (thn (h1 pins s σ H _ _ _ I r h) fun _ s1 ⟨σ1, H1, I1, q1⟩ => ?_)
    exact h2 pins s1 σ1 H1 _ _ Q I1 rr q1
/-- (a, b, ..) = a tuple of that length -/
def gTup (K : PySem.W.Frag) (n : Nat) (t : TGs) : TG := fun v σ H Q => ∃ a xs, v = .ref a ∧ SqT K H a xs ∧ xs.length = n ∧ t xs σ H Q
theorem pg_tup {es : List Expr} {k : Nat} {t : TGs} {n : Nat} (hc : X.calm = true) (h : PGs X es t)
    (hn : (assignEach es X.env).length = n := by rfl) (hst : (assignEach es X.env).findIdx? (·.1) = none := by rfl) : PG X (.Tuple es k pos) (gTup X.K n t) := by
  intro pins s σ H v u Q I r hw
  obtain ⟨a, xs, e1, hq, hl, hw⟩ := hw
  subst e1
  cases r
  obtain ⟨its, rv, ht, hz⟩ := I.tuple hq
  refine assign_Tuple_tuple (I.ok.hd hc) ht (by simp [hn, ← hl, rv.length]) hst fun h' hx => ?_
  have I1 : Inv X pins σ H { s with heap := h' } := I.kept (t' := s.toks) fun b o e => hx b o (Nat.ne_of_lt (Heap.lt_size e)) e
  exact h pins _ σ H xs _ Q I1 (by simpa using rv) hw
/-- target = value -/
def tAsg (te : TE) (g : TG) : TS := fun D σ H => te σ H fun x H1 => g x σ H1 D.nx
/-- name = value -/
theorem ps_set {i : Nat} {x : Str} {e : Expr} {te : TE} {pos' : Pos} (hN : X.N.Nodup) (hi : X.N[i]? = some x) (hx : Loc X.env.scope x) (he : PE X e te) (hs : swapsWith e (some (.Name x pos')) pos.line X.env = pure false := by rfl) (hf : X.fn x = true ∨ X.env.scope.names.lookup x = some .local := by first | exact .inl rfl | exact .inr rfl | assumption) :
    PS X (.Assign [.Name x pos'] e pos) (tAsg te (gName i)) := by
  intro pins s σ H D I h
  refine wpAny_Assign_Name (thn (he pins s σ H _ I h) fun v s1 ⟨y, H1, I1, r1, q1⟩ => ?_) hs
  exact store_ok I1 hN hi hx r1 (fun s2 I2 => ⟨_, H1, I2, q1⟩) hf
/-- name op= e -/
def tAug (i : Nat) (te : TE) (ti : TIp) : TS := fun D σ H => ∃ x, σ[i]? = some (some x) ∧ te σ H fun y H1 => ti x y H1 fun z H2 => D.nx (σ.set i (some z)) H2
theorem ps_aug {i : Nat} {x : Str} {e : Expr} {te : TE} {op : Operator} {ti : TIp} {pos' : Pos} (hN : X.N.Nodup) (hi : X.N[i]? = some x) (hx : Loc X.env.scope x) (he : PE X e te) (ho : PIp X op ti) (hf : X.fn x = true ∨ X.env.scope.names.lookup x = some .local := by first | exact .inl rfl | exact .inr rfl | assumption) :
    PS X (.AugAssign (.Name x pos') op e pos) (tAug i te ti) := by
  intro pins s σ H D I h
  obtain ⟨v, e1, h⟩ := h
  obtain ⟨m, hn, hl⟩ := I.loc
  have vis : Vis X.env.scope x := by rcases hx with k | k; exact .inl k; exact .inr (.inl k)
  obtain ⟨u, r, l⟩ := hl i x v hi e1 vis
  refine wpAny_AugAssign_Name ?_
  have go : wpAny (model X.prog X.w) X.A (eval e X.env) (fun w s₂ => wpAny (model X.prog X.w) X.A (inplaceOp op u w) (fun r s₃ => wpAny (model X.prog X.w) X.A (storeName X.env x r) (fun _ => SP X pins D .next) X.xe s₃) X.xe s₂) X.xe s := by
    refine thn (he pins s σ H _ I h) fun w s1 ⟨y, H1, I1, r1, q1⟩ => ?_
    refine thn (ho pins s1 σ H1 v y u w _ I1 r r1 q1) fun z s2 ⟨zv, H2, I2, r2, q2⟩ => ?_
    exact store_ok I2 hN hi hx r2 (fun s3 I3 => ⟨_, H2, I3, q2⟩) hf
  rcases l with ⟨hk, hm⟩ | ⟨hk, c, hc, hcell⟩
  · exact wpAny_loadName_local I.ok.kind hk hn hm go
  · rcases hk with hk | hk
    · exact wpAny_loadName_cell I.ok.kind hk hc hcell go
    · rcases hx with k | k
      · have : X.env.scope.names.lookup x = some .free := hk
        rw [k] at this; cases this
      · have : X.env.scope.names.lookup x = some .free := hk
        rw [k] at this; cases this
/-- ints -/
def ipI (f : Int → Int → Int) : TIp := fun x y H Q => ∃ i j, x = .int i ∧ y = .int j ∧ Q (.int (f i j)) H
theorem ip_add : PIp X .Add (ipI fun i j => i + j) := by
  intro pins s σ H x y v u Q I r1 r2 h
  obtain ⟨i, j, e1, e2, q⟩ := h
  subst e1; subst e2
  obtain ⟨t, rfl⟩ := r1
  obtain ⟨t', rfl⟩ := r2
  exact iadd_int ⟨.int _, H, I.tok _, ⟨_, rfl⟩, q⟩
end
/-! ### while -/
section
variable {X : Cx} {pos : Pos}
/-- the invariant W with its measure -/
def tWhile (c : TT) (tb : TS) : TS := fun D σ H => ∃ W : Nat → St → Hp → Prop, (∃ m, W m σ H) ∧ ∀ m σ H, W m σ H →
  c σ H fun b H1 => if b = true then ∃ N : St → Hp → Prop, (∀ σ' H', N σ' H' → ∃ m', m' < m ∧ W m' σ' H') ∧ tb { D with nx := N, ct := N, bk := D.nx } σ H1 else D.nx σ H1
theorem ps_while {c : Expr} {body : List Stmt} {tc : TT} {tb : TS} (hp : PassesOwn (model X.prog X.w) X.A X.env X.xe) (hc : PT X c tc) (hb : PSs X body tb) : PS X (.While c body [] pos) (tWhile tc tb) := by
  intro pins s σ H D I h
  obtain ⟨W, ⟨m0, w0⟩, turn⟩ := h
  refine wpAny_While (codeAny_whileLoop (fun n s' => ∃ σ' H', Inv X pins σ' H' s' ∧ W n σ' H') ?_ m0 ⟨σ, H, I, w0⟩)
  rintro n s1 ⟨σ1, H1, I1, w1⟩
  refine wpAny_passesOwn hp (thn (hc pins s1 σ1 H1 _ I1 (turn n σ1 H1 w1)) fun b s2 ⟨H2, I2, q2⟩ => ?_)
  cases b with
  | true =>
    obtain ⟨N, hN, q2⟩ := q2
    rw [if_pos rfl]
    refine wpAny_passesOwn hp (thn (hb pins s2 σ1 H2 _ I2 q2) fun f s3 q3 => ?_)
    cases f with
    | next =>
      obtain ⟨σ3, H3, I3, n3⟩ := q3
      obtain ⟨m', hm, w3⟩ := hN σ3 H3 n3
      exact ⟨m', hm, σ3, H3, I3, w3⟩
    | cont =>
      obtain ⟨σ3, H3, I3, n3⟩ := q3
      obtain ⟨m', hm, w3⟩ := hN σ3 H3 n3
      exact ⟨m', hm, σ3, H3, I3, w3⟩
    | brk => exact q3
    | ret v => exact q3
  | false =>
    rw [if_neg Bool.false_ne_true]
    exact wpAny_execs_nil ⟨σ1, H2, I2, q2⟩
end
/-! ### what a loop or a comprehension walks -/
/-- at turn i: it yields x (the heap may grow), or it stops -/
structure It where
  go : Nat → Hp → Prop
  yld : Nat → Hp → V → Hp → Prop
  stop : Nat → Hp → Prop
/-- the iterator's own objects may turn: they are not the frame's, not pinned, younger than the entry (or a comprehension's own) -/
def FpOk (X : Cx) (pins : List (Addr × Obj)) (H : Hp) (b : Addr) : Prop :=
  H b = none ∧ b ≠ X.env.locals ∧ b ∉ X.fs ∧ (b ∈ X.ex ∨ X.s_0.heap.objs.size ≤ b) ∧ (∀ x c, X.env.cells.lookup x = some c → c ≠ b) ∧ ∀ p ∈ X.pn ++ pins, p.1 ≠ b
theorem Inv.fpOk {X : Cx} {pins : List (Addr × Obj)} {σ : St} {H H' : Hp} {s : Shared} {b : Addr} (I : Inv X pins σ H s) (hb : s.heap.objs.size ≤ b) (hn : H' b = none) : FpOk X pins H' b := by
  refine ⟨hn, Nat.ne_of_gt (Nat.lt_of_lt_of_le I.lt hb), I.nofs hb, .inr (Nat.le_trans I.sz hb), fun x c e z => ?_, fun p hp z => ?_⟩
  · obtain ⟨v, q⟩ := I.cell x c e
    exact absurd (Nat.lt_of_lt_of_le q.lt (by rw [z]; exact hb)) (Nat.lt_irrefl _)
  · exact absurd (Nat.lt_of_lt_of_le (Heap.lt_size (I.pin p hp).1) (by rw [z]; exact hb)) (Nat.lt_irrefl _)
structure Turn (P : Program) (w : World) (K : PySem.W.Frag) (tg : Expr) (J : It) (fp : List Addr) (it : Addr) (tn : Nat → Heap → Prop) : Prop where
  mem : it ∈ fp
  obj : ∀ i h, tn i h → ∀ b ∈ fp, ∃ o, h.get? b = some o ∧ ∀ v, o.data ≠ .cell v
  keep : ∀ i h h', tn i h → (∀ b ∈ fp, ∀ o, h.get? b = some o → h'.get? b = some o) → tn i h'
  item : ∀ (X : Cx), X.prog = P → X.w = w → X.K = K → X.calm = true → ∀ (i : Nat) (pins : List (Addr × Obj)) (s : Shared) (σ : St) (H : Hp) (E : Value → Shared → Prop), Inv X pins σ H s → (∀ b ∈ fp, FpOk X pins H b) → tn i s.heap → J.go i H →
    wpAny (model P w) X.A (pyNext (.ref it)) (fun r s1 => ∃ u, r = some u ∧
      wpAny (model P w) X.A (letOwnedTupleGo tg (.ref it) u) (fun _ s2 => ∃ x H', Inv X pins σ H' s2 ∧ RelV x u ∧ J.yld i H x H' ∧ tn (i + 1) s2.heap ∧ ∀ b ∈ fp, H' b = none) E s1) E s
  done : ∀ (X : Cx), X.prog = P → X.w = w → X.K = K → X.calm = true → ∀ (i : Nat) (pins : List (Addr × Obj)) (s : Shared) (σ : St) (H : Hp) (E : Value → Shared → Prop), Inv X pins σ H s → (∀ b ∈ fp, FpOk X pins H b) → tn i s.heap → J.stop i H →
    wpAny (model P w) X.A (pyNext (.ref it)) (fun r s1 => r = none ∧ Inv X pins σ H s1) E s
  self : ∀ (A : Around) (i : Nat) (s : Shared) (Q : Value → Shared → Prop) (E : Value → Shared → Prop), tn i s.heap → Q (.ref it) s → wpAny (model P w) A (pyIter (.ref it)) Q E s
abbrev TI := St → Hp → (It → Hp → Prop) → Prop
/-- an iterator has come -/
def PIE (X : Cx) (pins : List (Addr × Obj)) (σ : St) (tg : Expr) (R : It → Hp → Prop) (itv : Value) (s2 : Shared) : Prop :=
  ∃ (it : Addr) (fp : List Addr) (tn : Nat → Heap → Prop) (J : It) (H' : Hp), itv = .ref it ∧ Inv X pins σ H' s2 ∧ Turn X.prog X.w X.K tg J fp it tn ∧ tn 0 s2.heap ∧ (∀ b ∈ fp, FpOk X pins H' b) ∧ R J H'
def PI (X : Cx) (tg iter : Expr) (wi : TI) : Prop :=
  ∀ (pins : List (Addr × Obj)) (s : Shared) (σ : St) (H : Hp) (R : It → Hp → Prop), Inv X pins σ H s → wi σ H R →
    wpAny (model X.prog X.w) X.A (eval iter X.env) (fun v s1 => wpAny (model X.prog X.w) X.A (pyIter v) (PIE X pins σ tg R) X.xe s1) X.xe s
/-- the step ahead of the store is nothing for an iterator that keeps no tuple -/
theorem go_of {M : Model} {A : Around} {E : Value → Shared → Prop} {s : Shared} {tg : Expr} {it : Addr} {u : Value} {o : Obj} {n : String} {vs : Array Value} {Q : Unit → Shared → Prop} (ho : s.heap.get? it = some o) (hc : o.cls = .type n) (hd : o.data = .fields vs)
    (hn : ["enumerate", "zip", "dict_itemiterator", "dict_reverseitemiterator", "odict_iterator", "itertools.zip_longest", "itertools.pairwise"].contains n = false) (hQ : Q () s) : wpAny M A (letOwnedTupleGo tg (.ref it) u) Q E s := by
  unfold letOwnedTupleGo
  cases tg <;> first
    | exact wpAny_pure hQ
    | (cases u <;> first
        | exact wpAny_pure hQ
        | (refine wpAny_bind (wpAny_load ho ?_)
           rw [hc, hd]
           show wpAny M A (if (["enumerate", "zip", "dict_itemiterator", "dict_reverseitemiterator", "odict_iterator", "itertools.zip_longest", "itertools.pairwise"].contains n && vs[0]? == some (rawInt _)) = true then _ else _) Q E s
           rw [if_neg (by intro h; rw [hn, Bool.false_and] at h; cases h)]
           exact wpAny_pure hQ))
/-- the list at a, as it stands at each turn (a loop may append to it) -/
def Itl (K : PySem.W.Frag) (a : Addr) : It :=
  ⟨fun i H => ∃ xs x, SqL K H a xs ∧ xs[i]? = some x, fun i H x H' => H' = H ∧ ∀ xs, SqL K H a xs → xs[i]? = some x, fun i H => ∃ xs, SqL K H a xs ∧ xs.length ≤ i⟩
def Itt (K : PySem.W.Frag) (a : Addr) : It :=
  ⟨fun i H => ∃ xs x, SqT K H a xs ∧ xs[i]? = some x, fun i H x H' => H' = H ∧ ∀ xs, SqT K H a xs → xs[i]? = some x, fun i H => ∃ xs, SqT K H a xs ∧ xs.length ≤ i⟩
/-- lo, lo + 1, .. (n of them) -/
def Itr (lo : Int) (n : Nat) : It := ⟨fun i _ => i < n, fun i H x H' => H' = H ∧ x = .int (lo + i), fun i _ => n ≤ i⟩
theorem turn_list {P : Program} {w : World} {K : PySem.W.Frag} {tg : Expr} (a it : Addr) : Turn P w K tg (Itl K a) [it] it (fun i h => h.IsListIter it a i) where
  mem := by simp
  obj := fun i h st b hb => by
    have e : b = it := by simpa using hb
    subst e
    obtain ⟨o, e, c, d⟩ := st
    exact ⟨o, e, fun v z => by rw [d] at z; cases z⟩
  keep := fun i h h' st k => st.at fun o e => k it (by simp) o e
  item := by
    intro X hP hw hK hc i pins s σ H E I hf st hg
    subst hP hw hK
    obtain ⟨xs, x, hq, hx⟩ := hg
    obtain ⟨its, rv, p, hz⟩ := I.list hq
    obtain ⟨u, hu, ru⟩ := rv.get hx
    obtain ⟨f0, f1, f2, f3, f4, f5⟩ := hf it (by simp)
    refine wpAny_pyNext_list_item st p.isList (x := u) (by simpa using hu) fun h' st' sb => ?_
    have I1 : Inv X pins σ H { s with heap := h' } := I.turned (t' := s.toks) (fun b o hb e => (sb.2 b hb).trans e) f0 f1 f3 f4 f5
    obtain ⟨o, e, c, d⟩ := id st'
    exact ⟨u, rfl, go_of (s := { s with heap := h' }) e c d (by decide) ⟨x, H, I1, ru, ⟨rfl, fun ys hy => by rw [I.list_inj hy hq]; exact hx⟩, st', fun b hb => (hf b hb).1⟩⟩
  done := by
    intro X hP hw hK hc i pins s σ H E I hf st hg
    subst hP hw hK
    obtain ⟨xs, hq, hx⟩ := hg
    obtain ⟨its, rv, p, hz⟩ := I.list hq
    obtain ⟨f0, f1, f2, f3, f4, f5⟩ := hf it (by simp)
    have hl := rv.length
    exact wpAny_pyNext_list_end (I.ok.hd hc) st p.isList (by simp; omega) fun h' eb => ⟨rfl, I.turned (t' := s.toks) (fun b o hb e => eb b o hb e) f0 f1 f3 f4 f5⟩
  self := fun _ _ _ _ _ st h => wpAny_pyIter_listiter st h
theorem turn_tuple {P : Program} {w : World} {K : PySem.W.Frag} {tg : Expr} (a it : Addr) : Turn P w K tg (Itt K a) [it] it (fun i h => h.IsTupleIter it a i) where
  mem := by simp
  obj := fun i h st b hb => by
    have e : b = it := by simpa using hb
    subst e
    obtain ⟨o, e, c, d⟩ := st
    exact ⟨o, e, fun v z => by rw [d] at z; cases z⟩
  keep := fun i h h' st k => st.at fun o e => k it (by simp) o e
  item := by
    intro X hP hw hK hc i pins s σ H E I hf st hg
    subst hP hw hK
    obtain ⟨xs, x, hq, hx⟩ := hg
    obtain ⟨its, rv, p, hz⟩ := I.tuple hq
    obtain ⟨u, hu, ru⟩ := rv.get hx
    obtain ⟨f0, f1, f2, f3, f4, f5⟩ := hf it (by simp)
    refine wpAny_pyNext_tuple_item st (show s.heap.IsTuple a its.toArray from p) (x := u) (by simpa using hu) fun h' st' sb => ?_
    have I1 : Inv X pins σ H { s with heap := h' } := I.turned (t' := s.toks) (fun b o hb e => (sb.2 b hb).trans e) f0 f1 f3 f4 f5
    obtain ⟨o, e, c, d⟩ := id st'
    exact ⟨u, rfl, go_of (s := { s with heap := h' }) e c d (by decide) ⟨x, H, I1, ru, ⟨rfl, fun ys hy => by rw [I.tuple_inj hy hq]; exact hx⟩, st', fun b hb => (hf b hb).1⟩⟩
  done := by
    intro X hP hw hK hc i pins s σ H E I hf st hg
    subst hP hw hK
    obtain ⟨xs, hq, hx⟩ := hg
    obtain ⟨its, rv, p, hz⟩ := I.tuple hq
    obtain ⟨f0, f1, f2, f3, f4, f5⟩ := hf it (by simp)
    have hl := rv.length
    exact wpAny_pyNext_tuple_end (I.ok.hd hc) st (show s.heap.IsTuple a its.toArray from p) (by simp; omega) fun h' eb => ⟨rfl, I.turned (t' := s.toks) (fun b o hb e => eb b o hb e) f0 f1 f3 f4 f5⟩
  self := fun _ _ _ _ _ st h => wpAny_pyIter_tupleiter st h
theorem turn_range {P : Program} {w : World} {K : PySem.W.Frag} {tg : Expr} (it : Addr) (lo : Int) (n : Nat) : Turn P w K tg (Itr lo n) [it] it (fun i h => IsRangeIter h it (lo + (i : Nat) * 1) ((n : Int) - (i : Nat)) 1) where
  mem := by simp
  obj := fun i h st b hb => by
    have e : b = it := by simpa using hb
    subst e
    exact ⟨_, st, fun v z => by
      have z' : Data.fields _ = Data.cell v := z
      cases z'⟩
  keep := fun i h h' st k => k it (by simp) _ st
  item := by
    intro X hP hw hK hc i pins s σ H E I hf st hg
    subst hP hw hK
    obtain ⟨f0, f1, f2, f3, f4, f5⟩ := hf it (by simp)
    have W := Walks.range (prog := X.prog) (w := X.w) (I.ok.hd hc) it lo 1 n
    refine W.item i s _ _ hg st fun v h' tk hv st' kk => ?_
    obtain ⟨t, rfl⟩ := hv
    have I1 : Inv X pins σ H { s with heap := h', toks := tk } := I.turned (fun b o hb e => kk b o (by simpa using hb) e) f0 f1 f3 f4 f5
    refine ⟨_, rfl, go_of (s := { s with heap := h', toks := tk }) (n := "range_iterator") st' rfl rfl (by decide) ⟨.int (lo + i), H, I1, ⟨t, ?_⟩, ⟨rfl, rfl⟩, st', fun b hb => (hf b hb).1⟩⟩
    rw [Int.mul_one]
  done := by
    intro X hP hw hK hc i pins s σ H E I hf st hg
    subst hP hw hK
    obtain ⟨f0, f1, f2, f3, f4, f5⟩ := hf it (by simp)
    exact wpAny_pyNext_range_end (I.ok.hd hc) st (by have : n ≤ i := hg; omega) fun h' eb => ⟨rfl, I.turned (t' := s.toks) (fun b o hb e => eb b o hb e) f0 f1 f3 f4 f5⟩
  self := fun _ _ _ _ _ st h => wpAny_pyIter_rangeiter st h
end L2
namespace L2
open PySem PySem.Spec PyProof.Rows
section
variable {X : Cx} {tg : Expr}
def iList (K : PySem.W.Frag) (tl : TE) : TI := fun σ H R => tl σ H fun x H1 => ∃ a, x = .ref a ∧ (∃ xs, SqL K H1 a xs) ∧ R (Itl K a) H1
def iTup (K : PySem.W.Frag) (tl : TE) : TI := fun σ H R => tl σ H fun x H1 => ∃ a, x = .ref a ∧ (∃ xs, SqT K H1 a xs) ∧ R (Itt K a) H1
theorem pi_list {l : Expr} {tl : TE} (hl : PE X l tl) : PI X tg l (iList X.K tl) := by
  intro pins s σ H R I h
  refine thn (hl pins s σ H _ I h) fun v s1 ⟨x, H1, I1, r1, q1⟩ => ?_
  obtain ⟨a, e, ⟨xs, hq⟩, q⟩ := q1
  subst e
  cases r1
  obtain ⟨its, rv, p, hz⟩ := I1.list hq
  refine wpAny_pyIter_list p.isList ?_
  refine ⟨s1.heap.objs.size, [s1.heap.objs.size], _, _, H1, rfl, I1.kept (t' := s1.toks) fun b o e => Heap.get?_push_of_some _ e, turn_list a _, ⟨_, Heap.get?_push_size _ rfl, rfl, rfl⟩, fun b hb => ?_, q⟩
  have e : b = s1.heap.objs.size := by simpa using hb
  subst e
  exact I1.fpOk (Nat.le_refl _) (I1.hok.fresh (Nat.le_refl _))
theorem pi_tup {l : Expr} {tl : TE} (hl : PE X l tl) : PI X tg l (iTup X.K tl) := by
  intro pins s σ H R I h
  refine thn (hl pins s σ H _ I h) fun v s1 ⟨x, H1, I1, r1, q1⟩ => ?_
  obtain ⟨a, e, ⟨xs, hq⟩, q⟩ := q1
  subst e
  cases r1
  obtain ⟨its, rv, p, hz⟩ := I1.tuple hq
  refine wpAny_pyIter_tuple (show s1.heap.IsTuple a its.toArray from p) ?_
  refine ⟨s1.heap.objs.size, [s1.heap.objs.size], _, _, H1, rfl, I1.kept (t' := s1.toks) fun b o e => Heap.get?_push_of_some _ e, turn_tuple a _, ⟨_, Heap.get?_push_size _ rfl, rfl, rfl⟩, fun b hb => ?_, q⟩
  have e : b = s1.heap.objs.size := by simpa using hb
  subst e
  exact I1.fpOk (Nat.le_refl _) (I1.hok.fresh (Nat.le_refl _))
/-- a range object just made, walked -/
theorem range_it {pins : List (Addr × Obj)} {σ : St} {H : Hp} {s : Shared} {R : It → Hp → Prop} {E : Value → Shared → Prop} {lo hi : Int} {t u v : Tok} {tk : Nat} (I : Inv X pins σ H s) (h1 : -(2 ^ 62) ≤ lo) (h2 : lo < 2 ^ 62) (h3 : -(2 ^ 62) ≤ hi) (h4 : hi < 2 ^ 62)
    (q : R (Itr lo (hi - lo).toNat) H) : wpAny (model X.prog X.w) X.A (pyIter (.ref s.heap.objs.size)) (PIE X pins σ tg R) E { s with heap := s.heap.push { cls := .type "range", data := .fields #[.int lo t, .int hi u, .int 1 v] }, toks := tk } := by
  refine wpAny_pyIter_range (IsRange.new ..) (small_one h1 h2 h3 h4) ?_
  have I1 : Inv X pins σ H { s with heap := s.heap.push { cls := .type "range", data := .fields #[.int lo t, .int hi u, .int 1 v] }, toks := tk } := I.kept fun b o e => Heap.get?_push_of_some _ e
  refine ⟨(s.heap.push { cls := .type "range", data := .fields #[.int lo t, .int hi u, .int 1 v] }).objs.size, [(s.heap.push { cls := .type "range", data := .fields #[.int lo t, .int hi u, .int 1 v] }).objs.size], _, _, H, rfl,
    I1.kept (t' := tk) fun b o e => Heap.get?_push_of_some _ e, turn_range _ lo (hi - lo).toNat, ?_, fun b hb => ?_, q⟩
  · have e1 : lo + ((0 : Nat) : Int) * 1 = lo := by simp
    have e2 : (((hi - lo).toNat : Nat) : Int) - ((0 : Nat) : Int) = Builtin.Range.rangeSize lo hi 1 := by rw [rangeSize_one]; split <;> omega
    show IsRangeIter _ _ (lo + ((0 : Nat) : Int) * 1) ((((hi - lo).toNat : Nat) : Int) - ((0 : Nat) : Int)) 1
    rw [e1, e2]
    exact Heap.get?_push_size _ rfl
  · have e : b = (s.heap.push { cls := .type "range", data := .fields #[.int lo t, .int hi u, .int 1 v] }).objs.size := by simpa using hb
    subst e
    exact I1.fpOk (Nat.le_refl _) (I1.hok.fresh (Nat.le_refl _))
def iRng1 (ta : TA) : TI := fun σ H R => ta σ H fun vs H1 => ∃ j : Int, vs = [.int j] ∧ -(2 ^ 62) ≤ j ∧ j < 2 ^ 62 ∧ R (Itr 0 j.toNat) H1
theorem pi_range1 {a : Expr} {ta : TA} {p pos : Pos} (hg : Gl X "range") (hm : X.mg "range" = none) (ha : PA X [a] ta) (hs : starEach [a] X.env = [(false, eval a X.env)] := by rfl) : PI X tg (.Call (.Name "range" p) [a] [] pos) (iRng1 ta) := by
  intro pins s σ H R I h
  refine Call_ (ld_blt I hg hm boot_range (PyProof.Rows.callWith_type1 (thn (ha pos pins s σ H _ I h) fun us s1 ⟨vs, H1, I1, r1, q1⟩ => ?_) hs rfl))
  obtain ⟨j, e, q1, q2, q⟩ := q1
  subst e
  cases r1 with
  | cons r rr =>
    cases rr
    obtain ⟨t, rfl⟩ := r
    exact call_range_1 (range_it I1 (by omega) (by omega) q1 q2 (by simpa using q))
/-! ### for -/
/-- W: the invariant by the turn and a measure; N: what the body is to reach -/
def tFor (wi : TI) (g : TG) (tb : TS) : TS := fun D σ H => wi σ H fun J H1 => ∃ W : Nat → Nat → St → Hp → Prop, (∃ m, W 0 m σ H1) ∧ ∀ i m σ H, W i m σ H →
  (J.stop i H ∧ D.nx σ H) ∨ (J.go i H ∧ ∃ N : St → Hp → Prop, (∀ σ' H', N σ' H' → ∃ m', m' < m ∧ W (i + 1) m' σ' H') ∧ ∀ x H', J.yld i H x H' → g x σ H' fun σ2 H2 => tb { D with nx := N, ct := N, bk := D.nx } σ2 H2)
/-- the records at fp as they stand -/
def pinsAt (fp : List Addr) (h : Heap) : List (Addr × Obj) := fp.filterMap fun b => (h.get? b).map fun o => (b, o)
theorem mem_pinsAt {fp : List Addr} {h : Heap} {b : Addr} {o : Obj} (hb : b ∈ fp) (e : h.get? b = some o) : (b, o) ∈ pinsAt fp h := List.mem_filterMap.mpr ⟨b, hb, by rw [e]; rfl⟩
theorem of_pinsAt {fp : List Addr} {h : Heap} {p : Addr × Obj} (hp : p ∈ pinsAt fp h) : p.1 ∈ fp ∧ h.get? p.1 = some p.2 := by
  obtain ⟨b, hb, e⟩ := List.mem_filterMap.mp hp
  cases q : h.get? b with
  | none => rw [q] at e; cases e
  | some o =>
    rw [q] at e
    have e' : (b, o) = p := Option.some.inj e
    subst e'
    exact ⟨hb, q⟩
theorem Inv.pinned {pins : List (Addr × Obj)} {σ : St} {H : Hp} {s : Shared} {fp : List Addr} (I : Inv X pins σ H s) (hf : ∀ b ∈ fp, FpOk X pins H b) (ho : ∀ b ∈ fp, ∃ o, s.heap.get? b = some o ∧ ∀ v, o.data ≠ .cell v) : Inv X (pins ++ pinsAt fp s.heap) σ H s :=
  I.pins_of fun p hp => (List.mem_append.mp hp).elim (fun z => I.pin p (List.mem_append_right _ z)) fun z => by
    obtain ⟨hb, e⟩ := of_pinsAt z
    obtain ⟨f0, f1, f2, _⟩ := hf p.1 hb
    obtain ⟨o, e', d⟩ := ho p.1 hb
    rw [e] at e'; cases e'
    exact ⟨e, f0, f1, f2, d⟩
theorem Inv.unpinned {pins pl : List (Addr × Obj)} {σ : St} {H : Hp} {s : Shared} (I : Inv X (pins ++ pl) σ H s) : Inv X pins σ H s := I.pins_of fun p hp => I.pin p (List.mem_append_right _ (List.mem_append_left _ hp))
theorem ps_for {iter : Expr} {body : List Stmt} {wi : TI} {g : TG} {tb : TS} {pos : Pos} (hp : PassesOwn (model X.prog X.w) X.A X.env X.xe) (hc : X.calm = true) (hi : PI X tg iter wi) (hg : PG X tg g) (hb : PSs X body tb)
    (hs : ∀ x, foldedSetIterable iter X.env x = pure x := by intro _; rfl) : PS X (.For tg iter body [] pos) (tFor wi g tb) := by
  intro pins s σ H D I h
  refine wpAny_For (thn (hi pins s σ H _ I h) fun v s1 h1 => thn h1 fun itv s2 h2 => ?_) hs
  obtain ⟨it, fp, tn, J, H2, e, I2, T, st2, f2, W, ⟨m0, w0⟩, turn⟩ := h2
  subst e
  -- what stays true of the iterator's objects through the loop
  have stat : ∀ {H' : Hp}, (∀ b ∈ fp, H' b = none) → ∀ b ∈ fp, FpOk X pins H' b := fun hn b hb => ⟨hn b hb, (f2 b hb).2⟩
  refine codeAny_forLoop_any (fun n s' => ∃ i σ' H', Inv X pins σ' H' s' ∧ tn i s'.heap ∧ (∀ b ∈ fp, H' b = none) ∧ W i n σ' H') ?_ m0 ⟨0, σ, H2, I2, st2, fun b hb => (f2 b hb).1, w0⟩
  rintro n s3 ⟨i, σ3, H3, I3, st3, fr3, w3⟩
  rcases turn i n σ3 H3 w3 with ⟨stop, qn⟩ | ⟨go, N, hN, step⟩
  · refine wpAny_passesOwn hp (thn (T.done X rfl rfl rfl hc i pins s3 σ3 H3 X.xe I3 (stat fr3) st3 stop) fun r s4 ⟨hr, I4⟩ => ?_)
    subst hr
    exact wpAny_execs_nil ⟨σ3, H3, I4, qn⟩
  · refine wpAny_passesOwn hp (thn (T.item X rfl rfl rfl hc i pins s3 σ3 H3 X.xe I3 (stat fr3) st3 go) fun r s4 ⟨u, hr, h4⟩ => ?_)
    subst hr
    refine wpAny_passesOwn hp (thn h4 fun _ s5 ⟨x, H5, I5, r5, y5, st5, fr5⟩ => ?_)
    have I5' := I5.pinned (stat fr5) (T.obj _ _ st5)
    refine wpAny_passesOwn hp (thn (hg _ s5 σ3 H5 x u _ I5' r5 (step x H5 y5)) fun _ s6 ⟨σ6, H6, I6, q6⟩ => ?_)
    refine wpAny_passesOwn hp (thn (hb _ s6 σ6 H6 _ I6 q6) fun f s7 q7 => ?_)
    have again : ∀ {σ7 : St} {H7 : Hp}, Inv X (pins ++ pinsAt fp s5.heap) σ7 H7 s7 → N σ7 H7 → ∃ m, m < n ∧ ∃ i σ' H', Inv X pins σ' H' s7 ∧ tn i s7.heap ∧ (∀ b ∈ fp, H' b = none) ∧ W i m σ' H' := fun {σ7 H7} I7 n7 => by
      obtain ⟨m', hm, w7⟩ := hN σ7 H7 n7
      refine ⟨m', hm, i + 1, σ7, H7, I7.unpinned, T.keep _ _ _ st5 fun b hb o e => (I7.pin (b, o) (List.mem_append_right _ (List.mem_append_right _ (mem_pinsAt hb e)))).1, fun b hb => ?_, w7⟩
      obtain ⟨o, e, d⟩ := T.obj _ _ st5 b hb
      exact (I7.pin (b, o) (List.mem_append_right _ (List.mem_append_right _ (mem_pinsAt hb e)))).2.1
    cases f with
    | next => obtain ⟨σ7, H7, I7, n7⟩ := q7; exact again I7 n7
    | cont => obtain ⟨σ7, H7, I7, n7⟩ := q7; exact again I7 n7
    | brk => obtain ⟨σ7, H7, I7, q7⟩ := q7; exact ⟨σ7, H7, I7.unpinned, q7⟩
    | ret v => obtain ⟨x7, σ7, H7, I7, r7, q7⟩ := q7; exact ⟨x7, σ7, H7, I7.unpinned, r7, q7⟩
end
/-! ### the forms one uses -/
/-- over a list that the body leaves as it is -/
theorem for_list {K : PySem.W.Frag} {a : Addr} {xs : List V} {g : TG} {tb : TS} {D : Ends} {σ : St} {H : Hp} (Pv : Nat → St → Hp → Prop) (h0 : Pv 0 σ H) (hl : ∀ i σ H, i ≤ xs.length → Pv i σ H → SqL K H a xs)
    (hs : ∀ i x σ H, xs[i]? = some x → Pv i σ H → g x σ H fun σ2 H2 => tb { D with nx := Pv (i + 1), ct := Pv (i + 1), bk := D.nx } σ2 H2) (hd : ∀ σ H, Pv xs.length σ H → D.nx σ H) :
    ∃ W : Nat → Nat → St → Hp → Prop, (∃ m, W 0 m σ H) ∧ ∀ i m σ H, W i m σ H →
      ((Itl K a).stop i H ∧ D.nx σ H) ∨ ((Itl K a).go i H ∧ ∃ N : St → Hp → Prop, (∀ σ' H', N σ' H' → ∃ m', m' < m ∧ W (i + 1) m' σ' H') ∧ ∀ x H', (Itl K a).yld i H x H' → g x σ H' fun σ2 H2 => tb { D with nx := N, ct := N, bk := D.nx } σ2 H2) := by
  refine ⟨fun i m σ H => m = xs.length - i ∧ i ≤ xs.length ∧ Pv i σ H, ⟨xs.length, by simp, Nat.zero_le _, h0⟩, ?_⟩
  rintro i m σ H ⟨rfl, hi, p⟩
  have q := hl i σ H hi p
  by_cases hlt : i < xs.length
  · refine .inr ⟨⟨xs, xs[i], q, by simp [hlt]⟩, Pv (i + 1), fun σ' H' p' => ⟨xs.length - (i + 1), by omega, rfl, hlt, p'⟩, fun x H' y => ?_⟩
    obtain ⟨e, y⟩ := y
    subst e
    exact hs i x σ _ (y xs q) p
  · have e : i = xs.length := by omega
    subst e
    exact .inl ⟨⟨xs, q, Nat.le_refl _⟩, hd σ H p⟩
theorem for_tup {K : PySem.W.Frag} {a : Addr} {xs : List V} {g : TG} {tb : TS} {D : Ends} {σ : St} {H : Hp} (Pv : Nat → St → Hp → Prop) (h0 : Pv 0 σ H) (hl : ∀ i σ H, i ≤ xs.length → Pv i σ H → SqT K H a xs)
    (hs : ∀ i x σ H, xs[i]? = some x → Pv i σ H → g x σ H fun σ2 H2 => tb { D with nx := Pv (i + 1), ct := Pv (i + 1), bk := D.nx } σ2 H2) (hd : ∀ σ H, Pv xs.length σ H → D.nx σ H) :
    ∃ W : Nat → Nat → St → Hp → Prop, (∃ m, W 0 m σ H) ∧ ∀ i m σ H, W i m σ H →
      ((Itt K a).stop i H ∧ D.nx σ H) ∨ ((Itt K a).go i H ∧ ∃ N : St → Hp → Prop, (∀ σ' H', N σ' H' → ∃ m', m' < m ∧ W (i + 1) m' σ' H') ∧ ∀ x H', (Itt K a).yld i H x H' → g x σ H' fun σ2 H2 => tb { D with nx := N, ct := N, bk := D.nx } σ2 H2) := by
  refine ⟨fun i m σ H => m = xs.length - i ∧ i ≤ xs.length ∧ Pv i σ H, ⟨xs.length, by simp, Nat.zero_le _, h0⟩, ?_⟩
  rintro i m σ H ⟨rfl, hi, p⟩
  have q := hl i σ H hi p
  by_cases hlt : i < xs.length
  · refine .inr ⟨⟨xs, xs[i], q, by simp [hlt]⟩, Pv (i + 1), fun σ' H' p' => ⟨xs.length - (i + 1), by omega, rfl, hlt, p'⟩, fun x H' y => ?_⟩
    obtain ⟨e, y⟩ := y
    subst e
    exact hs i x σ _ (y xs q) p
  · have e : i = xs.length := by omega
    subst e
    exact .inl ⟨⟨xs, q, Nat.le_refl _⟩, hd σ H p⟩
end L2
namespace L2
open PySem PySem.Spec PyProof.Rows
abbrev R2 := V → V → Hp → VK → Prop
/-- a two-place operation on values: f is binaryOp op, inplaceOp op or compareOp op -/
def OpR (X : Cx) (f : Value → Value → Sem Value) (r : R2) : Prop :=
  ∀ (pins : List (Addr × Obj)) (s : Shared) (σ : St) (H : Hp) (x y : V) (v u : Value) (Q : VK), Inv X pins σ H s → RelV x v → RelV y u → r x y H Q →
    wpAny (model X.prog X.w) X.A (f v u) (EP X pins σ Q) X.xe s
/-- a one-place operation -/
def UnR (X : Cx) (f : Value → Sem Value) (r : V → Hp → VK → Prop) : Prop :=
  ∀ (pins : List (Addr × Obj)) (s : Shared) (σ : St) (H : Hp) (x : V) (v : Value) (Q : VK), Inv X pins σ H s → RelV x v → r x H Q →
    wpAny (model X.prog X.w) X.A (f v) (EP X pins σ Q) X.xe s
/-- a call of a value that is known (a builtin, a type) with values -/
def CallR (X : Cx) (f : Value) (r : List V → Hp → VK → Prop) : Prop :=
  ∀ (pins : List (Addr × Obj)) (s : Shared) (σ : St) (H : Hp) (xs : List V) (us : List Value) (Q : VK), Inv X pins σ H s → Vals xs us → r xs H Q →
    wpAny (model X.prog X.w) X.A (call f us) (EP X pins σ Q) X.xe s
def tOp (r : R2) (ta tb : TE) : TE := fun σ H Q => ta σ H fun x H1 => tb σ H1 fun y H2 => r x y H2 Q
def tUn (r : V → Hp → VK → Prop) (ta : TE) : TE := fun σ H Q => ta σ H fun x H1 => r x H1 Q
/-- ints in, under C, and a value out -/
def rI (C : Int → Int → Prop) (g : Int → Int → V) : R2 := fun x y H Q => ∃ i j, x = .int i ∧ y = .int j ∧ C i j ∧ Q (g i j) H
def rI0 (g : Int → Int → V) : R2 := fun x y H Q => ∃ i j, x = .int i ∧ y = .int j ∧ Q (g i j) H
def rU (g : Int → V) : V → Hp → VK → Prop := fun x H Q => ∃ i, x = .int i ∧ Q (g i) H
section
variable {X : Cx} {a b c : Expr} {ta tb tc : TE} {pos : Pos}
theorem binT (ha : PE X a ta) (hb : PE X b tb) {pins : List (Addr × Obj)} {s : Shared} {σ : St} {H : Hp} {R : V → V → Hp → Prop} (I : Inv X pins σ H s)
    (h : ta σ H fun x H1 => tb σ H1 fun y H2 => R x y H2) {Q : Value → Shared → Prop} {f : Value → Value → Sem Value}
    (hf : ∀ v u s2 x y H2, Inv X pins σ H2 s2 → RelV x v → RelV y u → R x y H2 → wpAny (model X.prog X.w) X.A (f v u) Q X.xe s2) :
    wpAny (model X.prog X.w) X.A (eval a X.env) (fun v s₁ => wpAny (model X.prog X.w) X.A (eval b X.env) (fun u s₂ => wpAny (model X.prog X.w) X.A (f v u) Q X.xe s₂) X.xe s₁) X.xe s := by
  refine thn (ha pins s σ H _ I h) fun v s1 ⟨x, H1, I1, r1, q1⟩ => ?_
  refine thn (hb pins s1 σ H1 _ I1 q1) fun u s2 ⟨y, H2, I2, r2, q2⟩ => ?_
  exact hf v u s2 x y H2 I2 r1 r2 q2
theorem pe_op {op : Operator} {r : R2} (ho : OpR X (binaryOp op) r) (ha : PE X a ta) (hb : PE X b tb) : PE X (.BinOp a op b pos) (tOp r ta tb) := by
  intro pins s σ H Q I h
  exact wpAny_BinOp (binT ha hb I h fun v u s2 x y H2 I2 rx ry q => ho pins s2 σ H2 x y v u Q I2 rx ry q)
theorem pe_un {op : UnaryOp} {r : V → Hp → VK → Prop} (ho : UnR X (unaryOp op) r) (ha : PE X a ta) : PE X (.UnaryOp op a pos) (tUn r ta) := by
  intro pins s σ H Q I h
  exact UnaryOp_ (thn (ha pins s σ H _ I h) fun v s1 ⟨x, H1, I1, r1, q1⟩ => ho pins s1 σ H1 x v Q I1 r1 q1)
/-! ### ints -/
theorem opI {f : Value → Value → Sem Value} {C : Int → Int → Prop} {g : Int → Int → Int}
    (rule : ∀ (i j : Int) (t u : Tok) (s : Shared) (Q : Value → Shared → Prop) (E : Value → Shared → Prop), C i j → Q (.int (g i j) s.toks) { s with toks := s.toks + 1 } → wpAny (model X.prog X.w) X.A (f (.int i t) (.int j u)) Q E s) :
    OpR X f (rI C fun i j => .int (g i j)) := by
  intro pins s σ H x y v u Q I rx ry h
  obtain ⟨i, j, rfl, rfl, hc, q⟩ := h
  obtain ⟨t, rfl⟩ := rx
  obtain ⟨t', rfl⟩ := ry
  exact rule i j t t' s _ _ hc ⟨.int (g i j), H, I.tok _, ⟨_, rfl⟩, q⟩
theorem opI0 {f : Value → Value → Sem Value} {g : Int → Int → Int}
    (rule : ∀ (i j : Int) (t u : Tok) (s : Shared) (Q : Value → Shared → Prop) (E : Value → Shared → Prop), Q (.int (g i j) s.toks) { s with toks := s.toks + 1 } → wpAny (model X.prog X.w) X.A (f (.int i t) (.int j u)) Q E s) :
    OpR X f (rI0 fun i j => .int (g i j)) := by
  intro pins s σ H x y v u Q I rx ry h
  obtain ⟨i, j, rfl, rfl, q⟩ := h
  obtain ⟨t, rfl⟩ := rx
  obtain ⟨t', rfl⟩ := ry
  exact rule i j t t' s _ _ ⟨.int (g i j), H, I.tok _, ⟨_, rfl⟩, q⟩
theorem opB0 {f : Value → Value → Sem Value} {g : Int → Int → Bool}
    (rule : ∀ (i j : Int) (t u : Tok) (s : Shared) (Q : Value → Shared → Prop) (E : Value → Shared → Prop), Q (.bool (g i j)) s → wpAny (model X.prog X.w) X.A (f (.int i t) (.int j u)) Q E s) :
    OpR X f (rI0 fun i j => .bl (g i j)) := by
  intro pins s σ H x y v u Q I rx ry h
  obtain ⟨i, j, rfl, rfl, q⟩ := h
  obtain ⟨t, rfl⟩ := rx
  obtain ⟨t', rfl⟩ := ry
  exact rule i j t t' s _ _ ⟨.bl (g i j), H, I, rfl, q⟩
def CDiv (i j : Int) : Prop := 0 < j ∧ j < 1073741824
theorem op_add : OpR X (binaryOp .Add) (rI0 fun i j => .int (i + j)) := opI0 fun _ _ _ _ _ _ _ q => add_int q
theorem op_sub : OpR X (binaryOp .Sub) (rI0 fun i j => .int (i - j)) := opI0 fun _ _ _ _ _ _ _ q => sub_int q
/-- // by a positive divisor -/
theorem op_fdiv : OpR X (binaryOp .FloorDiv) (rI CDiv fun i j => .int (i / j)) := opI fun i j _ _ _ _ _ hc q => by
  have h1 : (0 : Int) < j := hc.1
  have h2 : j < 1073741824 := hc.2
  exact floordiv_int (by omega) (by rw [Int.fdiv_eq_ediv_of_nonneg i (by omega)]; exact q) (.inl (PyProof.noPylong_small (by omega)))
theorem unI {f : Value → Sem Value} {g : Int → Int}
    (rule : ∀ (i : Int) (t : Tok) (s : Shared) (Q : Value → Shared → Prop) (E : Value → Shared → Prop), Q (.int (g i) s.toks) { s with toks := s.toks + 1 } → wpAny (model X.prog X.w) X.A (f (.int i t)) Q E s) :
    UnR X f (rU fun i => .int (g i)) := by
  intro pins s σ H x v Q I rx h
  obtain ⟨i, rfl, q⟩ := h
  obtain ⟨t, rfl⟩ := rx
  exact rule i t s _ _ ⟨.int (g i), H, I.tok _, ⟨_, rfl⟩, q⟩
theorem un_neg : UnR X (unaryOp .USub) (rU fun i => .int (-i)) := unI fun _ _ _ _ _ q => neg_int q
/-! ### bools among ints: n += (a < b) -/
end
/-! ### comparisons -/
/-- the scalars that == tells apart as data does -/
def scal : V → V → Bool
  | .non, .non => true | .non, .int _ => true | .int _, .non => true | .non, .bl _ => true | .bl _, .non => true | .non, .str _ => true | .str _, .non => true
  | .int _, .int _ => true | .bl _, .bl _ => true | .str _, .str _ => true | .byt _, .byt _ => true
  | .int _, .str _ => true | .str _, .int _ => true | .bl _, .str _ => true | .str _, .bl _ => true
  | _, _ => false
def rEq : R2 := fun x y H Q => scal x y = true ∧ Q (.bl (decide (x = y))) H
theorem dec_int {i j : Int} : decide (V.int i = V.int j) = (i == j) := by
  rw [Bool.eq_iff_iff]
  simp
theorem dec_bl {i j : Bool} : decide (V.bl i = V.bl j) = (i == j) := by
  rw [Bool.eq_iff_iff]
  simp
theorem dec_str {i j : Str} : decide (V.str i = V.str j) = (i == j) := by
  rw [Bool.eq_iff_iff]
  simp
theorem dec_byt {i j : Array UInt8} : decide (V.byt i = V.byt j) = (i.toList == j.toList) := by
  rw [Bool.eq_iff_iff]
  cases i
  cases j
  simp
section
variable {X : Cx} {a b c : Expr} {ta tb tc : TE} {pos : Pos}
theorem fin_bl {pins : List (Addr × Obj)} {σ : St} {H : Hp} {s : Shared} {Q : VK} {k k' : Bool} (I : Inv X pins σ H s) (q : Q (.bl k) H) (e : k = k') : EP X pins σ Q (.bool k') s := by
  subst e
  exact ⟨.bl k, H, I, rfl, q⟩
theorem op_eq : OpR X (compareOp .Eq) rEq := by
  intro pins s σ H x y v u Q I rx ry h
  obtain ⟨hs, q⟩ := h
  cases x with
  | non =>
    cases rx
    cases y with
    | non => cases ry; exact PySem.EqNone.eq_none_none (fin_bl I q (by simp))
    | bl j => cases ry; exact PySem.EqNone.eq_none_bool (fin_bl I q (by simp))
    | int j => obtain ⟨t', rfl⟩ := ry; exact PySem.EqNone.eq_none_int (fin_bl I q (by simp))
    | str j => obtain ⟨t', rfl⟩ := ry; exact PySem.EqNone.eq_none_str (fin_bl I q (by simp))
    | _ => exact absurd (show false = true from hs) Bool.false_ne_true
  | bl i =>
    cases rx
    cases y with
    | non => cases ry; exact PySem.EqNone.eq_bool_none (fin_bl I q (by simp))
    | bl j => cases ry; exact eq_bool (fin_bl I q dec_bl)
    | str j => obtain ⟨t', rfl⟩ := ry; exact PySem.EqMixed.eq_bool_str (fin_bl I q (by simp))
    | _ => exact absurd (show false = true from hs) Bool.false_ne_true
  | int i =>
    obtain ⟨t, rfl⟩ := rx
    cases y with
    | non => cases ry; exact PySem.EqNone.eq_int_none (fin_bl I q (by simp))
    | int j => obtain ⟨t', rfl⟩ := ry; exact eq_int (fin_bl I q dec_int)
    | str j => obtain ⟨t', rfl⟩ := ry; exact PySem.EqMixed.eq_int_str (fin_bl I q (by simp))
    | _ => exact absurd (show false = true from hs) Bool.false_ne_true
  | str i =>
    obtain ⟨t, rfl⟩ := rx
    cases y with
    | non => cases ry; exact PySem.EqNone.eq_str_none (fin_bl I q (by simp))
    | bl j => cases ry; exact PySem.EqMixed.eq_str_bool (fin_bl I q (by simp))
    | int j => obtain ⟨t', rfl⟩ := ry; exact PySem.EqMixed.eq_str_int (fin_bl I q (by simp))
    | str j => obtain ⟨t', rfl⟩ := ry; exact eq_str (fin_bl I q dec_str)
    | _ => exact absurd (show false = true from hs) Bool.false_ne_true
  | byt i =>
    obtain ⟨t, rfl⟩ := rx
    cases y with
    | byt j => obtain ⟨t', rfl⟩ := ry; exact PySem.W.eq_bytes (fin_bl I q dec_byt)
    | _ => exact absurd (show false = true from hs) Bool.false_ne_true
  | _ => cases y <;> exact absurd (show false = true from hs) Bool.false_ne_true
theorem op_lt : OpR X (compareOp .Lt) (rI0 fun i j => .bl (decide (i < j))) := opB0 fun _ _ _ _ _ _ _ q => lt_int q
theorem op_le : OpR X (compareOp .LtE) (rI0 fun i j => .bl (decide (i ≤ j))) := opB0 fun _ _ _ _ _ _ _ q => le_int q
theorem op_gt : OpR X (compareOp .Gt) (rI0 fun i j => .bl (decide (j < i))) := opB0 fun _ _ _ _ _ _ _ q => gt_int q
theorem op_ge : OpR X (compareOp .GtE) (rI0 fun i j => .bl (decide (j ≤ i))) := opB0 fun _ _ _ _ _ _ _ q => ge_int q
/-- is None, is not None: the right side a value none -/
theorem op_isN : OpR X (compareOp .Is) (fun x y H Q => y = .non ∧ Q (.bl (decide (x = .non))) H) := by
  intro pins s σ H x y v u Q I rx ry h
  obtain ⟨rfl, q⟩ := h
  cases ry
  refine is_none_gen (fin_bl I q ?_)
  cases x <;> first
    | (cases rx; rfl)
    | (obtain ⟨t, rfl⟩ := rx; rfl)
theorem op_notN : OpR X (compareOp .IsNot) (fun x y H Q => y = .non ∧ Q (.bl (!decide (x = .non))) H) := by
  intro pins s σ H x y v u Q I rx ry h
  obtain ⟨rfl, q⟩ := h
  cases ry
  refine isnot_none_gen (fin_bl I q ?_)
  cases x <;> first
    | (cases rx; rfl)
    | (obtain ⟨t, rfl⟩ := rx; rfl)
theorem nomark (b : Expr) {op : CmpOp} (h : op ≠ .In := by decide) (h2 : op ≠ .NotIn := by decide) : behindInMarks op b = false := by
  have e1 : (op == CmpOp.In) = false := by cases op <;> first | rfl | exact absurd rfl h
  have e2 : (op == CmpOp.NotIn) = false := by cases op <;> first | rfl | exact absurd rfl h2
  cases b <;> simp [behindInMarks, e1, e2]
/-- a comparison as a value; hm: nomark b, or (for in, not in) by with_unfolding_all rfl -/
theorem pe_cmpR {op : CmpOp} {r : R2} (ho : OpR X (compareOp op) r) (ha : PE X a ta) (hb : PE X b tb) (hm : behindInMarks op b = false) : PE X (.Compare a [op] [b] pos) (tOp r ta tb) := by
  intro pins s σ H Q I h
  exact wpAny_Compare1 (binT ha hb I h fun v u s2 x y H2 I2 rx ry q => ho pins s2 σ H2 x y v u Q I2 rx ry q) hm
/-- a reading of a value as a test -/
def tTest (t : TE) : TT := fun σ H Q => t σ H fun x H' => ∃ k, x = .bl k ∧ Q k H'
theorem pt_cmpR {op : CmpOp} {r : R2} (ho : OpR X (compareOp op) r) (ha : PE X a ta) (hb : PE X b tb) (hm : behindInMarks op b = false) : PT X (.Compare a [op] [b] pos) (tTest (tOp r ta tb)) := by
  intro pins s σ H Q I h
  refine wpAny_isTrue_Compare1 (thn (ha pins s σ H _ I h) fun v s1 ⟨x, H1, I1, r1, q1⟩ => thn (hb pins s1 σ H1 _ I1 q1) fun u s2 ⟨y, H2, I2, r2, q2⟩ =>
    thn (ho pins s2 σ H2 x y v u _ I2 r1 r2 q2) fun c s3 ⟨z, H3, I3, r3, k, e, q3⟩ => ?_) hm
  subst e
  cases r3
  exact wpAny_truthy_bool ⟨H3, I3, q3⟩
/-! ### truth -/
theorem line63 : (sizeLine : Nat) < 2 ^ 63 := by rw [sizeLine_eq]; decide
/-! ### strs and bytes -/
theorem op_add_str : OpR X (binaryOp .Add) (fun x y H Q => ∃ i j, x = .str i ∧ y = .str j ∧ i.length + j.length ≤ sizeLine ∧ Q (.str (i ++ j)) H) := by
  intro pins s σ H x y v u Q I rx ry h
  obtain ⟨i, j, rfl, rfl, hz, q⟩ := h
  obtain ⟨t, rfl⟩ := rx
  obtain ⟨t', rfl⟩ := ry
  exact add_str (fun t' tk => ⟨.str (i ++ j), H, I.tok _, ⟨_, rfl⟩, q⟩) hz
/-! ### scalar builtins, by CallR -/
theorem vals1 {x : V} {us : List Value} (r : Vals [x] us) : ∃ u, us = [u] ∧ RelV x u := by
  cases r with
  | cons r1 r2 => cases r2; exact ⟨_, rfl, r1⟩
theorem vals2 {x y : V} {us : List Value} (r : Vals [x, y] us) : ∃ u w', us = [u, w'] ∧ RelV x u ∧ RelV y w' := by
  cases r with
  | cons r1 r2 =>
    cases r2 with
    | cons r3 r4 => cases r4; exact ⟨_, _, rfl, r1, r3⟩
theorem call_abs : CallR X (.builtin "abs") (fun xs H Q => ∃ i, xs = [.int i] ∧ Q (.int (if i < 0 then -i else i)) H) := by
  intro pins s σ H xs us Q I r h
  obtain ⟨i, rfl, q⟩ := h
  obtain ⟨u, rfl, t, rfl⟩ := vals1 r
  exact call_abs_int fun u tk => ⟨.int (if i < 0 then -i else i), H, I.tok _, ⟨_, rfl⟩, q⟩
theorem call_max2 (hc : X.calm = true) : CallR X (.builtin "max") (fun xs H Q => ∃ i j, xs = [.int i, .int j] ∧ Q (.int (if j > i then j else i)) H) := by
  intro pins s σ H xs us Q I r h
  obtain ⟨i, j, rfl, q⟩ := h
  obtain ⟨u, w', rfl, ⟨t, rfl⟩, ⟨t', rfl⟩⟩ := vals2 r
  refine max_two_ints (I.ok.hd hc) fun h' tk k => ⟨_, H, I.kept k, ?_, q⟩
  by_cases hj : j > i
  · rw [if_pos hj, if_pos hj]; exact ⟨_, rfl⟩
  · rw [if_neg hj, if_neg hj]; exact ⟨_, rfl⟩
theorem call_min2 (hc : X.calm = true) : CallR X (.builtin "min") (fun xs H Q => ∃ i j, xs = [.int i, .int j] ∧ Q (.int (if j < i then j else i)) H) := by
  intro pins s σ H xs us Q I r h
  obtain ⟨i, j, rfl, q⟩ := h
  obtain ⟨u, w', rfl, ⟨t, rfl⟩, ⟨t', rfl⟩⟩ := vals2 r
  refine min_two_ints (I.ok.hd hc) fun h' tk k => ⟨_, H, I.kept k, ?_, q⟩
  by_cases hj : j < i
  · rw [if_pos hj, if_pos hj]; exact ⟨_, rfl⟩
  · rw [if_neg hj, if_neg hj]; exact ⟨_, rfl⟩
theorem call_ord : CallR X (.builtin "ord") (fun xs H Q => ∃ x, xs = [.str x] ∧ x.length = 1 ∧ Q (.int (x.cps.getD 0 0 : Nat)) H) := by
  intro pins s σ H xs us Q I r h
  obtain ⟨x, rfl, hz, q⟩ := h
  obtain ⟨u, rfl, t, rfl⟩ := vals1 r
  exact ord_of_one hz ⟨.int _, H, I.tok _, ⟨_, rfl⟩, q⟩
end
end L2
namespace L2
open PySem PySem.Spec PyProof.Rows
/-! ### an instance, its attributes a map -/
structure ObjM (h : Heap) (x dx C : Addr) (mA : Str → Option Value) : Prop where
  obj : h.get? x = some (PySem.W.instObj C dx)
  ns : h.Ns1 dx mA
  ne : dx ≠ x
theorem lookIn_ns {h : Heap} {dx : Addr} {mA : Str → Option Value} (n : h.Ns1 dx mA) : ∃ od, h.get? dx = some od ∧ ∀ name, PySem.W.lookIn name od = some (mA name) := by
  obtain ⟨o, es, ep, ho, hd, hk, _, hm⟩ := n
  refine ⟨o, ho, fun name => ?_⟩
  have e := hm name
  unfold nsFind findBy at e
  rw [← Array.find?_toList] at e
  unfold PySem.W.lookIn
  rw [hd]
  dsimp only
  split
  · rename_i y q
    rw [q] at e
    exact congrArg some e
  · rename_i q
    rw [q] at e
    have a : es.toList.any (·.refKey) = false := by
      rw [List.any_eq_false]
      intro y hy
      obtain ⟨z, t, hkey⟩ := hk y (Array.mem_toList_iff.mp hy)
      simp [DictEntry.refKey, hkey]
    have a' : ¬ es.toList.any (·.refKey) = true := by rw [a]; exact Bool.false_ne_true
    rw [if_neg a']
    exact congrArg some e
theorem ObjM.look {h : Heap} {x dx C : Addr} {mA : Str → Option Value} (I : ObjM h x dx C mA) : ∃ od, PySem.W.InstAt h x (PySem.W.instObj C dx) C (some od) ∧ ∀ name, PySem.W.lookIn name od = some (mA name) :=
  let ⟨od, ho, hl⟩ := lookIn_ns I.ns
  ⟨od, ⟨I.obj, rfl, rfl, ho⟩, hl⟩
section
variable {prog : Program} {w : World} {A : Around} {E : Value → Shared → Prop} {s : Shared} {K : PySem.W.Frag} {x dx C f : Addr} {mA : Str → Option Value} {name : Str} {v : Value}
theorem get_map {expr : Bool} {Q : Value → Shared → Prop} (X : K.In s.heap) (I : ObjM s.heap x dx C mA) (hg : PySem.W.plainGet K C name = true) (hh : PySem.W.hasDictIn K C = true)
    (ha : PySem.W.findIn K (.ref C) name = some none) (hv : mA name = some v) (hv' : PySem.W.handedIn v = true) (h : Q v { s with toks := s.toks + 1 }) :
    wpAny (model prog w) A (getAttr (.ref x) name expr) Q E s := by
  obtain ⟨od, J, hl⟩ := I.look
  exact PySem.W.get_value X J (PySem.W.plainGet_of hg).1 (PySem.W.findObj_own hh ha rfl (by rw [hl, hv])) hv' h
theorem get_meth {pl : Sem Bool} {Q : Value × List Value → Shared → Prop} (X : K.In s.heap) (I : ObjM s.heap x dx C mA) (hg : PySem.W.plainGet K C name = true)
    (hf : PySem.W.findIn K (.ref C) name = some (some (.ref f))) (ht : PySem.W.isFn K (.ref f) = true) (hv : mA name = none) (h : Q (.ref f, [.ref x]) s) :
    wpAny (model prog w) A (getMethod (.ref x) name pl) Q E s := by
  obtain ⟨od, J, hl⟩ := I.look
  exact PySem.W.method_fn X J (PySem.W.plainGet_of hg).1 (PySem.W.plainGet_of hg).2 hf (beq_iff_eq.mp ht) (by show (PySem.W.lookIn name od).map (·.isSome) = some false; rw [hl, hv]; rfl) h
theorem set_map {ns : List Str} {Q : Unit → Shared → Prop} (X : K.In s.heap) (I : ObjM s.heap x dx C mA)
    (hs : PySem.W.findIn K (.ref C) "__setattr__" = some (some (.builtin "object.__setattr__"))) (hp : PySem.W.plainOver K C = true) (ht : PySem.W.takerIn K C name = some none) (hh : PySem.W.hasDictIn K C = true)
    (hw : PySem.Within mA ns) (hsz : ns.length ≤ sizeLine)
    (h : ∀ h', ObjM h' x dx C (fun y => if y = name then some v else mA y) → Heap.SameBut dx s.heap h' → Q () { s with heap := h', toks := s.toks + 2 }) :
    wpAny (model prog w) A (setAttr (.ref x) name v) Q E s := by
  obtain ⟨od, J, hl⟩ := I.look
  refine PySem.W.set_plain X J hs (PySem.W.osa_open (s := { s with toks := s.toks + 1 }) (r := none) X J hp ht fun b => ?_)
  obtain ⟨cd, hc, hd'⟩ := PySem.W.any_some hh
  have hx : s.heap.get? x = some ⟨.ref C, some dx, .plain, #[]⟩ := I.obj
  refine wpAny_bind (wpAny_pure (wpAny_bind (wpAny_bind (wpAny_loadPart hx (wpAny_bind (PySem.W.Looks.here (s := { s with toks := s.toks + 1 }) (PySem.W.looks_clsIn X hc) ?_))))))
  rw [hd']
  refine wpAny_pure (a := some dx) (wpAny_bind (wpAny_pure (wpAny_bind ?_)))
  refine wpAny_nsSet1 (s := { s with toks := s.toks + 1 }) I.ns fun h' hn2 hs2 => ?_
  obtain ⟨oD, esD, epD, hoD, hdD, hcD⟩ := hn2.count (PySem.Within.cons name v hw)
  refine wpAny_bind (wpAny_lookBehind hoD (by rw [hdD]; exact pastItsLine_dict (Nat.le_trans hcD (by rw [List.length_cons]; omega))) ?_)
  exact wpAny_pure (h _ ⟨(hs2.2 _ (Ne.symm I.ne)).trans I.obj, hn2, I.ne⟩ hs2)
/-- C(..): the dict at the heap's end, the instance behind it; then its __init__ -/
theorem make_map {R : Result → Shared → Prop} {vs : List Value} {kw : List (Str × Value)} (X : K.In s.heap) (hm : PySem.W.makesIn K C = true)
    (hi : PySem.W.findIn K (.ref C) "__init__" = some (some (.ref f))) (hf : PySem.W.typeIn K (.ref f) = some (.type "function"))
    (h : codeAny (model prog w) (A.under (.builtin "type.__call__" ⟨.ref C :: vs, kw⟩)) (.call (.ref f) ⟨.ref (s.heap.objs.size + 1) :: vs, kw⟩) (PySem.W.InitBack (s.heap.objs.size + 1) R)
      { s with heap := (s.heap.push PySem.W.emptyDict).push (PySem.W.instObj C s.heap.objs.size) }) :
    codeAny (model prog w) A (.call (.ref C) ⟨vs, kw⟩) R s := by
  obtain ⟨hh, g, d, t, os⟩ := s
  exact PySem.W.make_core (PySem.W.makes_of X hm) (PySem.W.looks_findIn X hi) (fun self => PySem.W.bind_fn X self hf) (.inl rfl) h
end
/-! ### the attributes as a list of pairs -/
def putF (f : Str) (v : V) : List (Str × V) → List (Str × V)
  | [] => [(f, v)]
  | (g, x) :: r => if g = f then (g, v) :: r else (g, x) :: putF f v r
theorem lookup_putF (f g : Str) (v : V) : ∀ fs : List (Str × V), (putF f v fs).lookup g = if g = f then some v else fs.lookup g
  | [] => by
    show List.lookup g [(f, v)] = _
    by_cases h : g = f
    · have hb : (g == f) = true := beq_iff_eq.mpr h
      simp only [List.lookup, hb, if_pos h]
    · have hb : (g == f) = false := beq_eq_false_iff_ne.mpr h
      simp only [List.lookup, hb, if_neg h]
  | (k, x) :: r => by
    have ih := lookup_putF f g v r
    rw [show putF f v ((k, x) :: r) = (if k = f then (k, v) :: r else (k, x) :: putF f v r) from rfl]
    by_cases hk : k = f
    · rw [if_pos hk]
      by_cases h : g = k
      · have hb : (g == k) = true := beq_iff_eq.mpr h
        simp only [List.lookup, hb, if_pos (h.trans hk)]
      · have hb : (g == k) = false := beq_eq_false_iff_ne.mpr h
        simp only [List.lookup, hb, if_neg (fun e : g = f => h (e.trans hk.symm))]
    · rw [if_neg hk]
      by_cases h : g = k
      · have hb : (g == k) = true := beq_iff_eq.mpr h
        simp only [List.lookup, hb, if_neg (fun e : g = f => hk (h.symm.trans e))]
      · have hb : (g == k) = false := beq_eq_false_iff_ne.mpr h
        simp only [List.lookup, hb]
        exact ih
theorem keys_putF (f : Str) (v : V) : ∀ fs : List (Str × V), f ∈ (putF f v fs).map (·.1) ∧ ∀ g, g ∈ fs.map (·.1) → g ∈ (putF f v fs).map (·.1)
  | [] => ⟨by simp [putF], fun g h => by simp at h⟩
  | (k, x) :: r => by
    obtain ⟨i1, i2⟩ := keys_putF f v r
    rw [show putF f v ((k, x) :: r) = (if k = f then (k, v) :: r else (k, x) :: putF f v r) from rfl]
    by_cases hk : k = f
    · rw [if_pos hk]
      subst hk
      exact ⟨by simp, fun g h => by simpa using h⟩
    · rw [if_neg hk]
      refine ⟨?_, fun g h => ?_⟩
      · rw [List.map_cons]
        exact List.mem_cons_of_mem _ i1
      · rw [List.map_cons] at h ⊢
        rcases List.mem_cons.mp h with e | e
        · exact List.mem_cons.mpr (.inl e)
        · exact List.mem_cons_of_mem _ (i2 g e)
theorem length_putF (f : Str) (v : V) : ∀ fs : List (Str × V), (putF f v fs).length ≤ fs.length + 1
  | [] => by simp [putF]
  | (k, x) :: r => by
    have ih := length_putF f v r
    rw [show putF f v ((k, x) :: r) = (if k = f then (k, v) :: r else (k, x) :: putF f v r) from rfl]
    by_cases hk : k = f
    · rw [if_pos hk, List.length_cons, List.length_cons]; omega
    · rw [if_neg hk, List.length_cons, List.length_cons]; omega
theorem RelO.some_of {v : V} {o : Option Value} (r : RelO (some v) o) : ∃ u, o = some u ∧ RelV v u := by
  cases o with
  | none => exact (show False from r).elim
  | some u => exact ⟨u, rfl, r⟩
theorem RelO.none_of {o : Option Value} (r : RelO none o) : o = none := by
  cases o with
  | none => rfl
  | some u => exact (show False from r).elim
theorem handed_of {v : V} {u : Value} (r : RelV v u) : PySem.W.handedIn u = true := by
  cases v with
  | non => cases (show u = Value.none from r); rfl
  | bl b => cases (show u = Value.bool b from r); rfl
  | int i => obtain ⟨t, e⟩ := (show ∃ t, u = Value.int i t from r); cases e; rfl
  | str x => obtain ⟨t, e⟩ := (show ∃ t, u = Value.str x t from r); cases e; rfl
  | byt b => obtain ⟨t, e⟩ := (show ∃ t, u = Value.bytes b t from r); cases e; rfl
  | flt b => obtain ⟨t, e⟩ := (show ∃ t, u = Value.float b t from r); cases e; rfl
  | ref a => cases (show u = Value.ref a from r); rfl
  | ty n => cases (show u = Value.type n from r); rfl
section
variable {P : Program} {w : World} {H H' : Hp} {h h' : Heap} {a C dx : Addr} {fs fs' : List (Str × V)}
theorem ins_get (hok : HOk P w H h) (e : H a = some (.ins C dx fs)) : ∃ mA, ObjM h a dx C mA ∧ (∀ f, RelO (fs.lookup f) (mA f)) ∧ PySem.Within mA (fs.map (·.1)) ∧ fs.length ≤ 1000 ∧ H dx = some (.own a) := by
  obtain ⟨d, z, ne, ob, mA, n, r, q⟩ := (show ObjOk P w H h a (.ins C dx fs) from hok a _ e)
  exact ⟨mA, ⟨ob, n, ne⟩, r, q, z, d⟩
end
/-! ### what of the text a class must have -/
structure Cls (K : PySem.W.Frag) (C : Addr) : Prop where
  pg : PySem.W.plainGet K C Str.empty = true
  hd : PySem.W.hasDictIn K C = true
  po : PySem.W.plainOver K C = true
  sa : PySem.W.findIn K (.ref C) "__setattr__" = some (some (.builtin "object.__setattr__"))
theorem Cls.get {K : PySem.W.Frag} {C : Addr} (c : Cls K C) (f : Str) : PySem.W.plainGet K C f = true := c.pg
/-- no class of it has the name -/
def NoAttr (K : PySem.W.Frag) (C : Addr) (f : Str) : Prop := PySem.W.findIn K (.ref C) f = some none
theorem NoAttr.taker {K : PySem.W.Frag} {C : Addr} {f : Str} (n : NoAttr K C f) : PySem.W.takerIn K C f = some none := by
  unfold PySem.W.takerIn
  rw [show PySem.W.findIn K (.ref C) f = some none from n]
  rfl
/-- a method: a plain def of the class or of one above it -/
structure Meth (K : PySem.W.Frag) (C : Addr) (m : Str) (f : Addr) : Prop where
  at_ : PySem.W.findIn K (.ref C) m = some (some (.ref f))
  fn : PySem.W.isFn K (.ref f) = true
  kp : PySem.W.keepIn K (.ref f) = true
section
variable {X : Cx} {pins : List (Addr × Obj)} {σ : St} {H : Hp} {s : Shared} {a C dx : Addr} {fs : List (Str × V)} {f : Str} {v : V} {A : Around} {E : Value → Shared → Prop}
theorem getattr_ok {b : Bool} {Q : Value → Shared → Prop} (I : Inv X pins σ H s) (e : H a = some (.ins C dx fs)) (c : Cls X.K C) (n : NoAttr X.K C f) (l : fs.lookup f = some v)
    (h : ∀ u s', Inv X pins σ H s' → RelV v u → Q u s') : wpAny (model X.prog X.w) A (getAttr (.ref a) f b) Q E s := by
  obtain ⟨mA, O, r, _, _, _⟩ := ins_get I.hok e
  obtain ⟨u, hu, ru⟩ := RelO.some_of (v := v) (o := mA f) (by rw [← l]; exact r f)
  exact get_map I.kIn O (c.get f) c.hd n hu (handed_of ru) (h u _ (I.tok _) ru)
theorem getmeth_ok {m : Str} {g : Addr} {pl : Sem Bool} {Q : Value × List Value → Shared → Prop} (I : Inv X pins σ H s) (e : H a = some (.ins C dx fs)) (c : Cls X.K C) (k : Meth X.K C m g) (l : fs.lookup m = none)
    (h : Q (.ref g, [.ref a]) s) : wpAny (model X.prog X.w) A (getMethod (.ref a) m pl) Q E s := by
  obtain ⟨mA, O, r, _, _, _⟩ := ins_get I.hok e
  have hn : mA m = none := RelO.none_of (by rw [← l]; exact r m)
  exact get_meth I.kIn O (c.get m) k.at_ k.fn hn h
theorem setattr_ok {y : V} {u : Value} {Q : Unit → Shared → Prop} (I : Inv X pins σ H s) (e : H a = some (.ins C dx fs)) (c : Cls X.K C) (n : NoAttr X.K C f) (hl : fs.length < 1000) (ry : RelV y u)
    (h : ∀ s', Inv X pins σ (upd H a (.ins C dx (putF f y fs))) s' → Q () s') : wpAny (model X.prog X.w) A (setAttr (.ref a) f u) Q E s := by
  obtain ⟨mA, O, r, wi, _, ho⟩ := ins_get I.hok e
  have hz : (fs.map (·.1)).length ≤ sizeLine := by rw [List.length_map, sizeLine_eq]; omega
  refine set_map I.kIn O c.sa c.po n.taker c.hd wi hz fun h' O' sb => h _ ?_
  have hd : ∃ o, h'.get? dx = some o := let ⟨o, _, _, e', _⟩ := O'.ns; ⟨o, e'⟩
  refine I.write (x := a) (e := dx) (by rw [e]; exact True.intro) (.inr ho) (fun b q hb z => (sb.2 b hb).trans z) hd ?_
  refine ⟨by rw [upd_ne O.ne]; exact ho, ?_, O.ne, O'.obj, _, O'.ns, fun g => ?_, fun g hg => ?_⟩
  · have := length_putF f y fs; omega
  · show RelO ((putF f y fs).lookup g) (if g = f then some u else mA g)
    rw [lookup_putF]
    by_cases q : g = f
    · rw [if_pos q, if_pos q]; exact ry
    · rw [if_neg q, if_neg q]; exact r g
  · by_cases q : g = f
    · rw [q]; exact (keys_putF f y fs).1
    · refine (keys_putF f y fs).2 g (wi g fun z => hg ?_)
      show (if g = f then some u else mA g) = none
      rw [if_neg q]; exact z
/-- a new instance, tracked, without attributes -/
theorem Inv.made (I : Inv X pins σ H s) : Inv X pins σ (upd (upd H s.heap.objs.size (.own (s.heap.objs.size + 1))) (s.heap.objs.size + 1) (.ins C s.heap.objs.size []))
    { s with heap := (s.heap.push PySem.W.emptyDict).push (PySem.W.instObj C s.heap.objs.size) } := by
  have e1 : (s.heap.push PySem.W.emptyDict).get? s.heap.objs.size = some PySem.W.emptyDict := Heap.get?_push_size s.heap rfl
  have e2 : ((s.heap.push PySem.W.emptyDict).push (PySem.W.instObj C s.heap.objs.size)).get? (s.heap.objs.size + 1) = some (PySem.W.instObj C s.heap.objs.size) := by
    have := Heap.get?_push_size (s.heap.push PySem.W.emptyDict) (o := PySem.W.instObj C s.heap.objs.size) rfl
    rwa [Heap.size_push] at this
  have e3 : (s.heap.push PySem.W.emptyDict).Ns s.heap.objs.size (fun _ => none) := ⟨PySem.W.emptyDict, #[], _, e1, rfl, (fun e he => absurd he (by simp)), fun _ => rfl⟩
  have I1 := I.laid (a := s.heap.objs.size) (o := .own (s.heap.objs.size + 1)) (h' := s.heap.push PySem.W.emptyDict) (t' := s.toks) (fun b u q => Heap.get?_push_of_some _ q) (Nat.le_refl _) ⟨_, e1⟩
  refine I1.laid (a := s.heap.objs.size + 1) (o := .ins C s.heap.objs.size []) (t' := s.toks) (fun b u q => Heap.get?_push_of_some _ q) (Nat.le_of_eq (Heap.size_push _ _)) ?_
  have ne : s.heap.objs.size ≠ s.heap.objs.size + 1 := Nat.ne_of_lt (Nat.lt_succ_self _)
  refine ⟨by rw [upd_ne ne, upd_same], Nat.zero_le _, ne, e2, fun _ => none, (Heap.Ns1.of_empty e3).at fun o q => Heap.get?_push_of_some _ q, fun _ => True.intro, fun y hy => absurd rfl hy⟩
/-- e.f where nothing but the object is asked: through attributeBase (super) and the last hold -/
theorem attr_of {prog : Program} {w : World} {env : Env} {e : Expr} {f : Str} {pos : Pos} {s : Shared} {Q : Value → Shared → Prop} (hb : attributeBase e f env (eval e env) = eval e env)
    (h : wpAny (model prog w) A (eval e env) (fun o s₁ => wpAny (model prog w) A (getAttr o f true) Q E s₁) E s) : wpAny (model prog w) A (eval (.Attribute e f pos) env) Q E s :=
  Attribute_any_ h (by rw [arm_eval_Attribute, hb])
end
/-! ### readings and rules -/
/-- e.f, an attribute of the instance -/
def tFld (K : PySem.W.Frag) (ta : TE) (f : Str) : TE := fun σ H Q => ta σ H fun x H1 => ∃ a C dx fs v, x = .ref a ∧ H1 a = some (.ins C dx fs) ∧ Cls K C ∧ NoAttr K C f ∧ fs.lookup f = some v ∧ Q v H1
/-- e.f = value -/
def sFld (K : PySem.W.Frag) (ta tv : TE) (f : Str) : TS := fun D σ H => tv σ H fun y H1 => ta σ H1 fun x H2 => ∃ a C dx fs, x = .ref a ∧ H2 a = some (.ins C dx fs) ∧ Cls K C ∧ NoAttr K C f ∧ fs.length < 1000 ∧
  D.nx σ (upd H2 a (.ins C dx (putF f y fs)))
section
variable {X : Cx} {o e value : Expr} {f : Str} {pos pos' tpos : Pos} {ta tv : TE}
theorem pe_fld (he : PE X e ta) (hb : attributeBase e f X.env (eval e X.env) = eval e X.env) : PE X (.Attribute e f pos) (tFld X.K ta f) := by
  intro pins s σ H Q I h
  refine attr_of hb (thn (he pins s σ H _ I h) fun u s1 ⟨x, H1, I1, rx, a, C, dx, fs, v, ex, ea, c, n, l, q⟩ => ?_)
  subst ex
  obtain rfl : u = Value.ref a := rx
  exact getattr_ok I1 ea c n l fun u' s2 I2 ru => ⟨v, H1, I2, ru, q⟩
theorem ps_fld (ha : PE X o ta) (hv : PE X value tv) (hs : swapsWith value (some (.Attribute o f pos')) pos.line X.env = pure false) : PS X (.Assign [.Attribute o f pos'] value pos) (sFld X.K ta tv f) := by
  intro pins s σ H D I h
  refine plainObj_wpAny_Assign_Attribute (thn (hv pins s σ H _ I h) fun u s1 ⟨y, H1, I1, ry, q⟩ => thn (ha pins s1 σ H1 _ I1 q) fun ov s2 ⟨x, H2, I2, rx, a, C, dx, fs, ex, ea, c, n, l, q2⟩ => ?_) hs
  subst ex
  obtain rfl : ov = Value.ref a := rx
  exact setattr_ok I2 ea c n l ry fun s3 I3 => ⟨σ, _, I3, q2⟩
end
/-! ### isinstance -/
section
variable {X : Cx} {pins : List (Addr × Obj)} {σ : St} {H : Hp} {s : Shared} {A : Around} {E : Value → Shared → Prop} {Q : Value → Shared → Prop} {c : Value} {b : Bool}
end
end L2
namespace L2
open PySem PySem.Spec PyProof.Rows
/-! ### room -/
structure Room (k : Nat) (A : Around) : Prop where
  hd : A.handled = none
  dp : A.depth + 3 * k + 5 < recursionLimit
  un : A.units + 16 * k + 200 < cLine
theorem Room.mono {j k : Nat} {A : Around} (r : Room k A) (h : j ≤ k) : Room j A := ⟨r.hd, by have := r.dp; omega, by have := r.un; omega⟩
theorem Room.deeper {k : Nat} {A : Around} (r : Room (k + 1) A) (env : Env) : Room k (A.deeper env) :=
  ⟨r.hd, by have := r.dp; show A.depth + 1 + 3 * k + 5 < _; omega, by have := r.un; show A.units + 3 + 16 * k + 200 < _; omega⟩
theorem make_depth {A : Around} {C : Addr} {us : List Value} {kw : List (Str × Value)} : (A.under (.builtin "type.__call__" ⟨.ref C :: us, kw⟩)).depth = A.depth + 1 := by
  first | rfl | simp [Around.under, Code.weight, Code.isCreation, Code.isGuard, Code.isCaller, Code.frames, Code.isFrame, guardIds]
theorem make_units {A : Around} {C : Addr} {us : List Value} {kw : List (Str × Value)} : (A.under (.builtin "type.__call__" ⟨.ref C :: us, kw⟩)).units = A.units + 1 := by
  first | rfl | simp [Around.under, Code.cUnits, Code.frames, Code.isFrame]
theorem Room.make {k : Nat} {A : Around} (r : Room (k + 1) A) (C : Addr) (us : List Value) (kw : List (Str × Value)) : Room k (A.under (.builtin "type.__call__" ⟨.ref C :: us, kw⟩)) :=
  ⟨r.hd, by have := r.dp; rw [make_depth]; omega, by have := r.un; rw [make_units]; omega⟩
theorem Room.depth {k : Nat} {A : Around} (r : Room k A) : A.depth < recursionLimit := by have := r.dp; omega
theorem Room.units {k : Nat} {A : Around} (r : Room k A) : A.units + 64 < cLine := by have := r.un; omega
/-! ### argument lists and displays -/
def tNil : TA := fun _ H Q => Q [] H
def tCons (ta : TE) (tr : TA) : TA := fun σ H Q => ta σ H fun x H1 => tr σ H1 fun xs H2 => Q (x :: xs) H2
section
variable {X : Cx} {e : Expr} {es : List Expr} {te : TE} {t : TA} {pos : Pos}
theorem pa_nil : PA X [] tNil := fun _ _ _ _ H Q I h => Calls.spliced_nil ⟨[], H, I, .nil, h⟩
theorem pa_cons (ha : PE X e te) (hr : PA X es t) (hs : starEach (e :: es) X.env = (false, eval e X.env) :: starEach es X.env := by rfl) : PA X (e :: es) (tCons te t) := by
  intro pos pins s σ H Q I h
  rw [hs]
  show wpAny _ _ (spliced ((false, eval e X.env) :: backTo pos (starEach es X.env))) _ _ s
  refine Calls.spliced_cons (thn (ha pins s σ H _ I h) fun u s1 ⟨x, H1, I1, r1, q1⟩ => ?_)
  exact thn (hr pos pins s1 σ H1 _ I1 q1) fun us s2 ⟨xs, H2, I2, r2, q2⟩ => ⟨x :: xs, H2, I2, .cons r1 r2, q2⟩
/-- a tuple, a list of written items -/
def tTup (t : TA) : TE := fun σ H Q => t σ H fun xs H1 => xs.length ≤ sizeLine ∧ ∀ p, H1 p = none → Q (.ref p) (upd H1 p (.tup xs))
def tLst (t : TA) : TE := fun σ H Q => t σ H fun xs H1 => xs.length ≤ sizeLine ∧ ∀ p, H1 p = none → Q (.ref p) (upd H1 p (.lst xs))
theorem pe_tup {x1} (h : PA X es t) : PE X (.Tuple es x1 pos) (tTup t) := by
  intro pins s σ H Q I hq
  refine wpAny_Tuple_spliced (thn (h pos pins s σ H _ I hq) fun us s1 ⟨xs, H1, I1, r, z, q⟩ => ⟨by rw [← r.length]; exact z, ?_⟩)
  have hf : H1 s1.heap.objs.size = none := I1.hok.fresh (Nat.le_refl _)
  refine ⟨.ref s1.heap.objs.size, upd H1 s1.heap.objs.size (.tup xs), I1.laid (t' := s1.toks) (fun b u e => Heap.get?_push_of_some _ e) (Nat.le_refl _) ?_, rfl, q _ hf⟩
  exact ⟨z, us, r, ⟨_, Heap.get?_push_size _ rfl, rfl, _, rfl⟩⟩
theorem pe_lst (h : PA X es t) : PE X (.List es pos) (tLst t) := by
  intro pins s σ H Q I hq
  refine wpAny_List_spliced (thn (h pos pins s σ H _ I hq) fun us s1 ⟨xs, H1, I1, r, z, q⟩ => ⟨by rw [← r.length]; exact z, ?_⟩)
  have hf : H1 s1.heap.objs.size = none := I1.hok.fresh (Nat.le_refl _)
  refine ⟨.ref s1.heap.objs.size, upd H1 s1.heap.objs.size (.lst xs), I1.laid (t' := s1.toks) (fun b u e => Heap.get?_push_of_some _ e) (Nat.le_refl _) ?_, rfl, q _ hf⟩
  exact ⟨z, us, 0, r, Heap.get?_push_size _ rfl⟩
end
/-! ### what a def promises -/
/-- a def's promise: the bound arguments in the parameters' order, the heap, the wanted end, the wanted exception -/
abbrev Sp := List V → Hp → VK → XK → Prop
/-- how an exception lies behind a call (file 08 gives it): the callers' frames, abstract heap and state ahead of the call, the wish, the exception, the state -/
abbrev CXT := List Env → Hp → Shared → XK → Value → Shared → Prop
/-- the state at a call -/
structure Env0 (P : Program) (w : World) (K : PySem.W.Frag) (mg : Str → Option Value) (base : Heap) (A : Around) (outer : List Env) (s : Shared) (H : Hp) : Prop where
  frames : A.frames = some outer
  mod : Mod K mg base
  bs : ∀ b o, base.get? b = some o → s.heap.get? b = some o ∧ H b = none
  bsz : base.objs.size ≤ s.heap.objs.size
  funs : s.heap.FunFrames base outer
  frf : ∀ b ∈ frs outer, H b = none
  hok : HOk P w H s.heap
  bare : AllBare s.gens
/-- a call's end -/
def CE (outer : List Env) (P : Program) (w : World) (H : Hp) (s : Shared) (Q : VK) (u : Value) (s' : Shared) : Prop :=
  ∃ v H', s'.os = s.os ∧ AllBare s'.gens ∧ Un (frs outer) [] H H' s.heap s'.heap ∧ HOk P w H' s'.heap ∧ RelV v u ∧ Q v H'
def CR (CX : CXT) (outer : List Env) (P : Program) (w : World) (H : Hp) (s : Shared) (Q : VK) (E : XK) (r : Result) (s' : Shared) : Prop :=
  match r with
  | .ok (.ret u) => CE outer P w H s Q u s'
  | .ok _ => False
  | .error e => CX outer H s E e s'
structure FnOk (P : Program) (w : World) (K : PySem.W.Frag) (mg : Str → Option Value) (base : Heap) (CX : CXT) (k : Nat) (f : Addr) (fd : FuncData) (ps : List Str) (sp : Sp) : Prop where
  len : ∀ vs H Q E, sp vs H Q E → vs.length = ps.length
  run : ∀ (A : Around) (outer : List Env) (s : Shared) (H : Hp) (args : Args) (us : List Value) (vs : List V) (Q : VK) (E : XK), Room k A → Env0 P w K mg base A outer s H → BindsTo s fd args (ps.zip us) → Vals vs us → sp vs H Q E →
    codeAny (model P w) A (.call (.ref f) args) (CR CX outer P w H s Q E) s
theorem Env0.make {P : Program} {w : World} {K : PySem.W.Frag} {mg : Str → Option Value} {base : Heap} {A : Around} {outer : List Env} {s : Shared} {H : Hp} (e : Env0 P w K mg base A outer s H) (C : Addr) (us : List Value) (kw : List (Str × Value)) :
    Env0 P w K mg base (A.under (.builtin "type.__call__" ⟨.ref C :: us, kw⟩)) outer s H := ⟨by first | exact e.frames | (simpa [Around.under, Code.envs, Code.isFrame, pushEnvs] using e.frames), e.mod, e.bs, e.bsz, e.funs, e.frf, e.hok, e.bare⟩
section
variable {X : Cx} {pins : List (Addr × Obj)} {σ : St} {H : Hp} {s s' : Shared}
/-- from a body: what a callee wants -/
theorem Inv.env0 (I : Inv X pins σ H s) : Env0 X.prog X.w X.K X.mg X.base X.A X.stack s H :=
  ⟨I.ok.frames, I.ok.mod, I.bs, Nat.le_trans I.ok.bsz I.sz, I.stack, I.stkFree, I.hok, I.bare⟩
/-- behind a call -/
theorem Inv.after {Q : VK} {u : Value} (I : Inv X pins σ H s) (h : CE X.stack X.prog X.w H s Q u s') : EP X pins σ Q u s' := by
  obtain ⟨v, H', os, bare, un, hok, r, q⟩ := h
  obtain ⟨hh, g, d, t, os'⟩ := s'
  obtain rfl : os' = s.os := os
  exact ⟨v, H', I.call (h' := hh) (g' := g) (d' := d) (t' := t) (ch := []) un hok bare (fun b z => absurd z (by simp)), r, q⟩
end
/-! ### calls -/
/-- f(..): the written arguments, then the defaults dvs; E: what is wanted of an exception -/
def tCall (sp : Sp) (dvs : List V) (E : XK) (t : TA) : TE := fun σ H Q => t σ H fun vs H1 => sp (vs ++ dvs) H1 Q E
/-- o.m(..) of an instance of the class at C -/
def tMeth (C : Addr) (m : Str) (sp : Sp) (dvs : List V) (E : XK) (ta : TE) (t : TA) : TE := fun σ H Q => ta σ H fun x H1 => ∃ a dx fs, x = .ref a ∧ H1 a = some (.ins C dx fs) ∧ fs.lookup m = none ∧
  t σ H1 fun vs H2 => sp (x :: (vs ++ dvs)) H2 Q E
/-- C(..): a new instance and its dict, then __init__ -/
def tMake (C : Addr) (sp : Sp) (dvs : List V) (E : XK) (t : TA) : TE := fun σ H Q => t σ H fun vs H1 => ∀ x dx, H1 x = none → H1 dx = none → dx ≠ x →
  sp (.ref x :: (vs ++ dvs)) (upd (upd H1 dx (.own x)) x (.ins C dx [])) (fun v H2 => v = .non ∧ Q (.ref x) H2) E
/-- how the parameters are bound: us the positional arguments, kw the keywords' values by name, ds the defaults that fill up -/
def Binds (K : PySem.W.Frag) (fd : FuncData) (ps : List Str) (ds : List Value) : Prop :=
  ∀ (s : Shared) (us : List Value), K.In s.heap → (us ++ ds).length = ps.length → BindsTo s fd ⟨us, []⟩ (ps.zip (us ++ ds))
/-- every parameter is given -/
theorem Binds.all {K : PySem.W.Frag} {fd : FuncData} {ps : List Str} (h : ∀ us : List Value, us.length = ps.length → bindArgs fd ⟨us, []⟩ = pure (ps.zip us)) : Binds K fd ps [] := fun s us _ hl => by
  rw [List.append_nil] at hl ⊢
  exact .of_eq (h us hl)
/-- an exception of a callee reaches what this body wants of exceptions -/
def Passes (CX : CXT) (X : Cx) (E : XK) : Prop := ∀ (pins : List (Addr × Obj)) (σ : St) (H : Hp) (s : Shared) (e : Value) (s' : Shared), Inv X pins σ H s → CX X.stack H s E e s' → X.xe e s'
section
variable {X : Cx} {CX : CXT} {k : Nat} {f C : Addr} {fd : FuncData} {ps : List Str} {sp : Sp} {dvs : List V} {ds : List Value} {E : XK} {x m : Str} {p pos apos : Pos} {e o : Expr} {es : List Expr} {ta : TE} {t : TA}
/-- the callee runs -/
theorem run_fn {pins : List (Addr × Obj)} {σ : St} {H : Hp} {s : Shared} {Q : VK} {us : List Value} {vs : List V} (F : FnOk X.prog X.w X.K X.mg X.base CX k f fd ps sp) (hr : Room k X.A) (hb : Binds X.K fd ps ds) (hd : Vals dvs ds) (hx : Passes CX X E)
    (I : Inv X pins σ H s) (r : Vals vs us) (h : sp (vs ++ dvs) H Q E) : wpAny (model X.prog X.w) X.A (call (.ref f) us) (EP X pins σ Q) X.xe s := by
  have r2 : Vals (vs ++ dvs) (us ++ ds) := r.append hd
  have hl : (us ++ ds).length = ps.length := by rw [← r2.length]; exact F.len _ _ _ _ h
  refine wpAny_call (codeAny_mono (F.run X.A X.stack s H ⟨us, []⟩ (us ++ ds) (vs ++ dvs) Q E hr I.env0 (hb s us I.kIn hl) r2 h) fun r s' hq => ?_)
  cases r with
  | error e => exact hx pins σ H s e s' I hq
  | ok fl =>
    cases fl with
    | ret u => exact I.after hq
    | next => exact False.elim hq
    | brk => exact False.elim hq
    | cont => exact False.elim hq
theorem pe_call (F : FnOk X.prog X.w X.K X.mg X.base CX k f fd ps sp) (hr : Room k X.A) (hg : Gl X x) (hm : X.mg x = some (.ref f)) (hk : PySem.W.keepIn X.K (.ref f) = true) (hb : Binds X.K fd ps ds) (hd : Vals dvs ds) (hx : Passes CX X E)
    (ha : PA X (e :: es) t) (hdb : (x == ("__debug__" : Str)) = false := by decide) (he : starEach (e :: es) X.env = (false, eval e X.env) :: starEach es X.env := by rfl) (hpl : (backTo pos (starEach es X.env)).any (·.1) = false := by rfl) :
    PE X (.Call (.Name x p) (e :: es) [] pos) (tCall sp dvs E t) := by
  intro pins s σ H Q I h
  refine wpAny_Call_Name_kw (ld_glob I hg hm ?_ hdb)
  refine PySem.W.callWith_K (h₀ := X.base) I.ok.mod.kin hk (thn (ha pos pins s σ H _ I h) fun us s1 ⟨vs, H1, I1, r, q⟩ => ⟨I1.kIn, ?_⟩) he hpl
  exact run_fn F hr hb hd hx I1 r q
/-- o.m(e, ..) -/
theorem pe_meth {pl : Sem Bool} (he : PE X o ta) (c : Cls X.K C) (hm : Meth X.K C m f) (F : FnOk X.prog X.w X.K X.mg X.base CX k f fd ps sp) (hr : Room k X.A) (hb : Binds X.K fd ps ds) (hd : Vals dvs ds) (hx : Passes CX X E) (ha : PA X (e :: es) t)
    (hst : starEach (e :: es) X.env = (false, eval e X.env) :: starEach es X.env := by rfl) (hpl : (backTo pos (starEach es X.env)).any (·.1) = false := by rfl)
    (ht : eval (.Call (.Attribute o m apos) (e :: es) [] pos) X.env = (do
      let ov ← eval o X.env
      standAt apos.atName
      let (f, first) ← holding [ov] (getMethod ov m pl)
      callWith pos f first (backTo pos (starEach (e :: es) X.env)) (backToKw pos (keywordEach [] X.env))) := by rfl) :
    PE X (.Call (.Attribute o m apos) (e :: es) [] pos) (tMeth C m sp dvs E ta t) := by
  intro pins s σ H Q I h
  refine PySem.W.methodCall_KW (pl := pl) (thn (he pins s σ H _ I h) fun u s1 ⟨x, H1, I1, rx, a, dx, fs, ex, ea, l, q⟩ => ?_) ht
  subst ex
  obtain rfl : u = Value.ref a := rx
  refine getmeth_ok I1 ea c hm l ?_
  refine PySem.W.callWith_K (first := [.ref a]) (h₀ := X.base) I.ok.mod.kin hm.kp (thn (ha pos pins s1 σ H1 _ I1 q) fun us s2 ⟨vs, H2, I2, r, q2⟩ => ⟨I2.kIn, ?_⟩) hst hpl
  exact run_fn (us := .ref a :: us) (vs := .ref a :: vs) F hr hb hd hx I2 (.cons rfl r) q2
/-- o.m() -/
theorem pe_meth0 {pl : Sem Bool} (he : PE X o ta) (c : Cls X.K C) (hm : Meth X.K C m f) (F : FnOk X.prog X.w X.K X.mg X.base CX k f fd ps sp) (hr : Room k X.A) (hb : Binds X.K fd ps ds) (hd : Vals dvs ds) (hx : Passes CX X E)
    (ht : eval (.Call (.Attribute o m apos) [] [] pos) X.env = (do
      let ov ← eval o X.env
      standAt apos.atName
      let (f, first) ← holding [ov] (getMethod ov m pl)
      callWith pos f first (backTo pos (starEach [] X.env)) (backToKw pos (keywordEach [] X.env))) := by rfl) :
    PE X (.Call (.Attribute o m apos) [] [] pos) (tMeth C m sp dvs E ta tNil) := by
  intro pins s σ H Q I h
  refine PySem.W.methodCall_KW (pl := pl) (thn (he pins s σ H _ I h) fun u s1 ⟨x, H1, I1, rx, a, dx, fs, ex, ea, l, q⟩ => ?_) ht
  subst ex
  obtain rfl : u = Value.ref a := rx
  refine getmeth_ok I1 ea c hm l ?_
  exact PySem.W.callWith_K0 (first := [.ref a]) I1.kIn hm.kp (run_fn (us := [.ref a]) (vs := [.ref a]) F hr hb hd hx I1 (.cons rfl .nil) q)
/-- what a class must have to be made -/
structure Mk (K : PySem.W.Frag) (C f : Addr) : Prop where
  makes : PySem.W.makesIn K C = true
  init : PySem.W.findIn K (.ref C) "__init__" = some (some (.ref f))
  fn : PySem.W.isFn K (.ref f) = true
  kp : PySem.W.keepIn K (.ref C) = true
theorem run_make {pins : List (Addr × Obj)} {σ : St} {H : Hp} {s : Shared} {Q : VK} {us : List Value} {vs : List V} (M : Mk X.K C f) (F : FnOk X.prog X.w X.K X.mg X.base CX k f fd ps sp) (hr : Room (k + 1) X.A) (hb : Binds X.K fd ps ds) (hd : Vals dvs ds)
    (hx : Passes CX X E) (I : Inv X pins σ H s) (r : Vals vs us)
    (h : ∀ x dx, H x = none → H dx = none → dx ≠ x → sp (.ref x :: (vs ++ dvs)) (upd (upd H dx (.own x)) x (.ins C dx [])) (fun v H2 => v = .non ∧ Q (.ref x) H2) E) :
    wpAny (model X.prog X.w) X.A (call (.ref C) us) (EP X pins σ Q) X.xe s := by
  have hq := h (s.heap.objs.size + 1) s.heap.objs.size (I.hok.fresh (Nat.le_succ _)) (I.hok.fresh (Nat.le_refl _)) (Nat.ne_of_lt (Nat.lt_succ_self _))
  have I2 := Inv.made (C := C) I
  have r2 : Vals (V.ref (s.heap.objs.size + 1) :: (vs ++ dvs)) (Value.ref (s.heap.objs.size + 1) :: (us ++ ds)) := .cons rfl (r.append hd)
  have hl : (Value.ref (s.heap.objs.size + 1) :: us ++ ds).length = ps.length := by
    have e := r2.length
    rw [F.len _ _ _ _ hq] at e
    exact e.symm
  refine wpAny_call (make_map (f := f) I.kIn M.makes M.init (beq_iff_eq.mp M.fn) (codeAny_mono (F.run _ X.stack _ _ ⟨Value.ref (s.heap.objs.size + 1) :: us, []⟩ (Value.ref (s.heap.objs.size + 1) :: (us ++ ds)) _ _ E (hr.make C us [])
    (I2.env0.make C us []) (hb _ (Value.ref (s.heap.objs.size + 1) :: us) I2.kIn hl) r2 hq) fun r s' hq' => ?_))
  cases r with
  | error e => exact hx pins σ _ _ e s' I2 hq'
  | ok fl =>
    cases fl with
    | ret u =>
      obtain ⟨v, H', I3, rv, ev, q3⟩ := I2.after hq'
      subst ev
      exact ⟨rv, ⟨V.ref (s.heap.objs.size + 1), H', I3, rfl, q3⟩⟩
    | next => exact False.elim hq'
    | brk => exact False.elim hq'
    | cont => exact False.elim hq'
theorem pe_make (M : Mk X.K C f) (F : FnOk X.prog X.w X.K X.mg X.base CX k f fd ps sp) (hr : Room (k + 1) X.A) (hg : Gl X x) (hm : X.mg x = some (.ref C)) (hb : Binds X.K fd ps ds) (hd : Vals dvs ds) (hx : Passes CX X E)
    (ha : PA X (e :: es) t) (hdb : (x == ("__debug__" : Str)) = false := by decide) (he : starEach (e :: es) X.env = (false, eval e X.env) :: starEach es X.env := by rfl) (hpl : (backTo pos (starEach es X.env)).any (·.1) = false := by rfl) :
    PE X (.Call (.Name x p) (e :: es) [] pos) (tMake C sp dvs E t) := by
  intro pins s σ H Q I h
  refine wpAny_Call_Name_kw (ld_glob I hg hm ?_ hdb)
  refine PySem.W.callWith_K (h₀ := X.base) I.ok.mod.kin M.kp (thn (ha pos pins s σ H _ I h) fun us s1 ⟨vs, H1, I1, r, q⟩ => ⟨I1.kIn, ?_⟩) he hpl
  exact run_make M F hr hb hd hx I1 r q
theorem pe_make0 (M : Mk X.K C f) (F : FnOk X.prog X.w X.K X.mg X.base CX k f fd ps sp) (hr : Room (k + 1) X.A) (hg : Gl X x) (hm : X.mg x = some (.ref C)) (hb : Binds X.K fd ps ds) (hd : Vals dvs ds) (hx : Passes CX X E)
    (hdb : (x == ("__debug__" : Str)) = false := by decide) : PE X (.Call (.Name x p) [] [] pos) (tMake C sp dvs E tNil) := by
  intro pins s σ H Q I h
  refine wpAny_Call_Name_kw (ld_glob I hg hm ?_ hdb)
  exact PySem.W.callWith_K0 I.kIn M.kp (run_make (us := []) M F hr hb hd hx I .nil h)
end
/-! ### keywords -/
/-- the values of the keywords, from the left -/
def PK (X : Cx) (kws : List Keyword) (t : TA) : Prop :=
  ∀ (pos : Pos) (pins : List (Addr × Obj)) (s : Shared) (σ : St) (H : Hp) (Q : List V → Hp → Prop), Inv X pins σ H s → t σ H Q → wpAny (model X.prog X.w) X.A (evalAll ((backToKw pos (keywordEach kws X.env)).map (·.2))) (AP X pins σ Q) X.xe s
section
variable {X : Cx} {CX : CXT} {k : Nat} {f C : Addr} {fd : FuncData} {ps ks : List Str} {sp : Sp} {E : XK} {x m : Str} {p pos apos kpos : Pos} {e o : Expr} {es : List Expr} {kws : List Keyword} {te ta : TE} {t tk : TA} {nm : Option Str}
theorem pk_nil : PK X [] tNil := fun _ _ _ _ H Q I h => wpAny_evalAll_nil ⟨[], H, I, .nil, h⟩
theorem pk_cons (ha : PE X e te) (hr : PK X kws t) : PK X (⟨nm, e, kpos⟩ :: kws) (tCons te t) := by
  intro pos pins s σ H Q I h
  show wpAny _ _ (evalAll ((do let v ← eval e X.env; standAt pos; pure v) :: (backToKw pos (keywordEach kws X.env)).map (·.2))) _ _ s
  refine wpAny_evalAll_cons (wpAny_bind (thn (ha pins s σ H _ I h) fun u s1 ⟨x, H1, I1, r1, q1⟩ => wpAny_bind (wpAny_standAt (wpAny_pure ?_))))
  exact thn (hr pos pins s1 σ H1 _ I1 q1) fun us s2 ⟨xs, H2, I2, r2, q2⟩ => ⟨x :: xs, H2, I2, .cons r1 r2, q2⟩
variable {g : List Value → List Value → List Value} {gV : List V → List V → List V}
end
/-! ### a def's body keeps its promise -/
/-- names: the parameters first -/
structure FnScope (N P : List Str) (sc : Scope) : Prop where
  kind : sc.kind = .function
  co : sc.isCoroutine = false
  gen : sc.isGenerator = false
  nd : N.Nodup
  pre : N.take P.length = P
  par : ∀ x ∈ P, sc.names.lookup x = some .local ∨ sc.names.lookup x = some .cell
  nofree : ∀ y ∈ sc.names, y.2 ≠ .free
theorem bindL_out {kindOf : Str → Option NameKind} {x : Str} : ∀ {binds : List (Str × Value)} {m : Str → Option Value}, (∀ v, (x, v) ∉ binds) → bindL kindOf binds m x = m x
  | [], _, _ => rfl
  | (n, v) :: r, m, h => by
    unfold bindL
    rw [bindL_out fun w hw => h w (List.mem_cons_of_mem _ hw)]
    split
    · have : x ≠ n := by rintro rfl; exact h v List.mem_cons_self
      simp [this]
    · rfl
theorem bindC_out {kindOf : Str → Option NameKind} {x : Str} : ∀ {binds : List (Str × Value)} {m : Str → Option Value}, (∀ v, (x, v) ∉ binds) → bindC kindOf binds m x = m x
  | [], _, _ => rfl
  | (n, v) :: r, m, h => by
    unfold bindC
    rw [bindC_out fun w hw => h w (List.mem_cons_of_mem _ hw)]
    split
    · rfl
    · have : x ≠ n := by rintro rfl; exact h v List.mem_cons_self
      simp [this]
theorem bindL_get {kindOf : Str → Option NameKind} {x : Str} {v : Value} : ∀ {P : List Str} {vs : List Value} {i : Nat} {m : Str → Option Value}, P.Nodup → P[i]? = some x → vs[i]? = some v → kindOf x = some .local →
    bindL kindOf (P.zip vs) m x = some v
  | [], _, _, _, _, h, _, _ => by simp at h
  | _ :: _, [], _, _, _, _, h, _ => by simp at h
  | p :: P, w :: vs, 0, m, nd, h1, h2, hk => by
    simp at h1 h2; subst h1; subst h2
    show bindL kindOf ((p, w) :: P.zip vs) m p = _
    unfold bindL
    rw [bindL_out fun v hv => (List.nodup_cons.mp nd).1 (List.of_mem_zip hv).1, if_pos hk]
    simp
  | p :: P, w :: vs, i + 1, m, nd, h1, h2, hk => by
    show bindL kindOf ((p, w) :: P.zip vs) m x = _
    unfold bindL
    exact bindL_get (i := i) (List.nodup_cons.mp nd).2 (by simpa using h1) (by simpa using h2) hk
theorem bindC_get {kindOf : Str → Option NameKind} {x : Str} {v : Value} : ∀ {P : List Str} {vs : List Value} {i : Nat} {m : Str → Option Value}, P.Nodup → P[i]? = some x → vs[i]? = some v → kindOf x ≠ some .local →
    bindC kindOf (P.zip vs) m x = some v
  | [], _, _, _, _, h, _, _ => by simp at h
  | _ :: _, [], _, _, _, _, h, _ => by simp at h
  | p :: P, w :: vs, 0, m, nd, h1, h2, hk => by
    simp at h1 h2; subst h1; subst h2
    show bindC kindOf ((p, w) :: P.zip vs) m p = _
    unfold bindC
    rw [bindC_out fun v hv => (List.nodup_cons.mp nd).1 (List.of_mem_zip hv).1, if_neg hk]
    simp
  | p :: P, w :: vs, i + 1, m, nd, h1, h2, hk => by
    show bindC kindOf ((p, w) :: P.zip vs) m x = _
    unfold bindC
    exact bindC_get (i := i) (List.nodup_cons.mp nd).2 (by simpa using h1) (by simpa using h2) hk
/-- the names' values at the entry -/
def start (N : List Str) (vs : List V) : St := vs.map some ++ List.replicate (N.length - vs.length) none
/-- the context of a def's body, at its entry; an exception leaves the frame, then lies as CX says -/
def cxOf (CX : CXT) (P : Program) (w : World) (K : PySem.W.Frag) (mg : Str → Option Value) (base : Heap) (N : List Str) (qual : Str) (scope : Scope) (f : Addr) (cd : Value) (A : Around) (outer : List Env) (s : Shared) (H : Hp) (E : XK) : Cx where
  prog := P
  w := w
  K := K
  mg := mg
  base := base
  A := A.deeper (envOfC qual scope s.heap.objs.size f cd)
  N := N
  s_0 := s
  H_0 := H
  env := envOfC qual scope s.heap.objs.size f cd
  outer := outer
  stack := envOfC qual scope s.heap.objs.size f cd :: outer
  ex := []
  calm := true
  fn := fun _ => true
  pn := []
  xe := fun e s' => wpAny (model P w) (A.deeper (envOfC qual scope s.heap.objs.size f cd)) (leaving (envOfC qual scope s.heap.objs.size f cd) e) (fun _ s'' => CX outer H s E e s'') (fun e' s'' => CX outer H s E e' s'') s'
theorem cell_has {sc : Scope} {n : Nat} {x : Str} (h : sc.names.lookup x = some .cell) : ∃ c, (cellsFrom n sc.names []).lookup x = some c := by
  have q := PySem.W.cellsFrom_some sc.names n [] (.inl h)
  exact Option.isSome_iff_exists.mp q
theorem inv_start {CX : CXT} {P : Program} {w : World} {K : PySem.W.Frag} {mg : Str → Option Value} {base : Heap} {N ps : List Str} {qual : Str} {scope : Scope} {f : Addr} {cd : Value} {A : Around} {outer : List Env} {s s1 : Shared} {H : Hp} {E : XK} {us : List Value} {vs : List V}
    (S : FnScope N ps scope) (hd : A.handled = none) (e0 : Env0 P w K mg base A outer s H) (hl : vs.length = ps.length) (r : Vals vs us)
    (x : InCallC s s.heap.objs.size (bindL (envOfC qual scope s.heap.objs.size f cd).kindOf (ps.zip us) fun _ => none) (cellsFrom (s.heap.objs.size + 1) scope.names []) (bindC (envOfC qual scope s.heap.objs.size f cd).kindOf (ps.zip us) fun _ => none) s1) :
    Inv (cxOf CX P w K mg base N qual scope f cd A outer s H E) [] (start N vs) H s1 := by
  have hpl : ps.length ≤ N.length := by have := congrArg List.length S.pre; rw [List.length_take] at this; omega
  obtain ⟨h1, tk, rfl, hk⟩ := x.done
  have noA : ∀ b : Addr, b ∉ (cxOf CX P w K mg base N qual scope f cd A outer s H E).ex := fun b z => absurd (show b ∈ ([] : List Addr) from z) (by simp)
  refine ⟨⟨e0.mod, S.kind, rfl, rfl, Nat.le_refl _, fun y z c h1 h2 => ?_, fun y hy => ?_, fun y c _ h => ?_, fun _ => hd, Around.frames_deeper e0.frames, .inr ⟨rfl, rfl⟩, fun b z => absurd z (noA b), e0.bs, e0.bsz, fun b _ _ => noA b, fun b z => absurd z (noA b), e0.funs, e0.frf⟩,
    rfl, e0.bare, Un.kept hk, ⟨_, x.toInCall.ns, fun i y v h1 h2 h3 => ?_⟩, fun y c h => ⟨_, x.cell y c h⟩, e0.hok.fresh (Nat.le_refl _), fun y c h => ?_, fun p hp => absurd (show p ∈ ([] : List (Addr × Obj)) from hp) (by simp), e0.hok.kept hk, ?_⟩
  · exact name_of_addr x.apart (PySem.mem_of_lookup h1) (PySem.mem_of_lookup h2)
  · have hy : scope.names.lookup y = some .cell ∨ scope.names.lookup y = some .free := hy
    rcases hy with hy | hy
    · exact cell_has hy
    · exact absurd rfl (S.nofree _ (PySem.mem_of_lookup hy))
  · exact Nat.le_of_lt (x.above y c (PySem.mem_of_lookup h))
  · have hi : i < vs.length := by
      unfold start at h2
      by_cases hi : i < vs.length
      · exact hi
      · rw [List.getElem?_append_right (by simpa using hi)] at h2
        rw [List.getElem?_replicate] at h2
        split at h2 <;> cases h2
    have ha : vs[i]? = some v := by
      unfold start at h2
      rw [List.getElem?_append_left (by simpa using hi), List.getElem?_map] at h2
      cases e : vs[i]? with
      | none => rw [e] at h2; cases h2
      | some a => rw [e] at h2; cases h2; rfl
    obtain ⟨u, hu, rv⟩ := r.get ha
    have hp : ps[i]? = some y := by
      rw [← S.pre, List.getElem?_take_of_lt (by omega)]; exact h1
    have ndP : ps.Nodup := by rw [← S.pre]; exact S.nd.sublist (List.take_sublist _ _)
    refine ⟨u, rv, ?_⟩
    rcases S.par y (List.mem_of_getElem? hp) with k | k
    · exact .inl ⟨k, bindL_get ndP hp hu k⟩
    · obtain ⟨c, e⟩ := cell_has (n := s.heap.objs.size + 1) k
      refine .inr ⟨.inl k, c, e, ?_⟩
      have q := x.cell y c e
      rw [bindC_get ndP hp hu (by show scope.names.lookup y ≠ _; rw [k]; decide)] at q
      exact q
  · exact e0.hok.fresh (Nat.le_of_lt (x.above y c (PySem.mem_of_lookup h)))
  · unfold start
    show _ = N.length
    rw [List.length_append, List.length_map, List.length_replicate]
    omega
/-- THE RULE: a def (or a method) of the text, by its body. The body's reading t is chosen for each entry; it is run at the parameters' values -/
theorem fn_of {CX : CXT} {P : Program} {w : World} {K : PySem.W.Frag} {mg : Str → Option Value} {base : Heap} {k : Nat} {f : Addr} {name qual : Str} {params : Arguments} {body : List Stmt} {scope : Scope} {dV kV doc pm cdv ct oc : Value} {an od : Option Addr}
    {osl : Array (Option Value)} {N ps : List Str} {sp : Sp} (lk : K.lookup f = some ⟨oc, od, .func (PySem.W.fnOf name qual params body scope dV kV doc pm an cdv ct), osl⟩) (hcd : PySem.W.codeIn K cdv qual = true) (S : FnScope N ps scope)
    (len : ∀ vs H Q E, sp vs H Q E → vs.length = ps.length)
    (hbody : ∀ (A : Around) (outer : List Env) (s : Shared) (H : Hp) (vs : List V) (Q : VK) (E : XK), Room k (A.deeper (envOfC qual scope s.heap.objs.size f cdv)) → sp vs H Q E →
      ∃ t, PSs (cxOf CX P w K mg base N qual scope f cdv A outer s H E) body t ∧ t { nx := fun _ H' => Q .non H', rt := Q } (start N vs) H) :
    FnOk P w K mg base CX (k + 1) f (PySem.W.fnOf name qual params body scope dV kV doc pm an cdv ct) ps sp := by
  refine ⟨len, fun A outer s H args us vs Q E hr e0 hb r hsp => ?_⟩
  have hl := len _ _ _ _ hsp
  have KX : K.In s.heap := e0.mod.kin.keeps fun b o e => (e0.bs b o e).1
  have lim : s.heap.NoLimit := e0.mod.nolimit.keeps fun b o e => (e0.bs b o e).1
  have hkind : ∀ y ∈ ps.zip us, scope.names.lookup y.1 = some .local ∨ (scope.names.lookup y.1 = some .cell ∧ ((cellsFrom (s.heap.objs.size + 1) scope.names []).lookup y.1).isSome = true) := fun ⟨n, v⟩ hy => by
    rcases S.par n (List.of_mem_zip hy).1 with q | q
    · exact .inl q
    · exact .inr ⟨q, PySem.W.cellsFrom_some _ _ _ (.inl q)⟩
  refine codeAny_call_function hr.depth (KX _ _ lk) rfl S.co S.gen rfl (PySem.W.codeRec_of KX hcd) (hb _ _ _ _ ?_)
  refine wpAny_newFunctionEnv_cells S.kind hkind fun env he s1 x => ?_
  subst he
  refine ⟨lim.keeps x.toInCall.keep, codeAny_func ?_⟩
  obtain ⟨t, ht, hq⟩ := hbody A outer s H vs Q E (hr.deeper _) hsp
  have I : Inv (cxOf CX P w K mg base N qual scope f cdv A outer s H E) [] (start N vs) H s1 := inv_start S hr.hd e0 hl r x
  refine wpAny_mono (ht [] s1 (start N vs) H _ I hq) (fun fl s' hs => ?_) fun e s' hs => hs
  have fin : ∀ {σ' : St} {H' : Hp} {v : V} {u : Value}, Inv (cxOf CX P w K mg base N qual scope f cdv A outer s H E) [] σ' H' s' → RelV v u → Q v H' → CE outer P w H s Q u s' :=
    fun {σ' H' v u} J rv q => ⟨v, H', J.os, J.bare, J.base, J.hok, rv, q⟩
  cases fl with
  | ret u =>
    obtain ⟨v, σ', H', J, rv, q⟩ := hs
    exact fin J rv q
  | next =>
    obtain ⟨σ', H', J, q⟩ := hs
    exact fin (v := V.non) (u := Value.none) J rfl q
  | brk =>
    obtain ⟨_, _, _, q⟩ := hs
    exact False.elim q
  | cont =>
    obtain ⟨_, _, _, q⟩ := hs
    exact False.elim q
end L2
namespace L2
open PySem PySem.Spec PyProof.Rows
section
variable {X : Cx} {x : Str} {p pos : Pos} {e : Expr} {es : List Expr} {t : TA} {id T : String} {r : List V → Hp → VK → Prop}
def tCB (r : List V → Hp → VK → Prop) (t : TA) : TE := fun σ H Q => t σ H fun vs H1 => r vs H1 Q
/-- f(e, ..), f a built-in function -/
theorem pe_callB (hc : CallR X (.builtin id) r) (hg : Gl X x) (hm : X.mg x = none) (hv : bootBuiltins x = some (.builtin id)) (ha : PA X (e :: es) t) (hn : x ≠ "__name__" := by decide) (hdb : (x == ("__debug__" : Str)) = false := by decide)
    (he : starEach (e :: es) X.env = (false, eval e X.env) :: starEach es X.env := by rfl) (hpl : (backTo pos (starEach es X.env)).any (·.1) = false := by rfl) : PE X (.Call (.Name x p) (e :: es) [] pos) (tCB r t) := by
  intro pins s σ H Q I h
  refine wpAny_Call_Name_kw (ld_blt I hg hm hv ?_ hn hdb)
  exact PyProof.Rows.callWith_builtin1 (thn (ha pos pins s σ H _ I h) fun us s1 ⟨vs, H1, I1, r1, q1⟩ => hc pins s1 σ H1 vs us Q I1 r1 q1) he hpl
/-- T(e, ..), T a built-in type -/
theorem pe_callTy (hc : CallR X (.type T) r) (hg : Gl X x) (hm : X.mg x = none) (hv : bootBuiltins x = some (.type T)) (ha : PA X (e :: es) t) (hn : x ≠ "__name__" := by decide) (hdb : (x == ("__debug__" : Str)) = false := by decide)
    (he : starEach (e :: es) X.env = (false, eval e X.env) :: starEach es X.env := by rfl) (hpl : (backTo pos (starEach es X.env)).any (·.1) = false := by rfl) : PE X (.Call (.Name x p) (e :: es) [] pos) (tCB r t) := by
  intro pins s σ H Q I h
  refine wpAny_Call_Name_kw (ld_blt I hg hm hv ?_ hn hdb)
  exact PyProof.Rows.callWith_type1 (thn (ha pos pins s σ H _ I h) fun us s1 ⟨vs, H1, I1, r1, q1⟩ => hc pins s1 σ H1 vs us Q I1 r1 q1) he hpl
end
end L2
namespace HT
open PySem PyProof.Rows
/-- t < u of tuples of ints -/
def lexLt : List Int → List Int → Bool
  | [], [] => false
  | [], _ :: _ => true
  | _ :: _, [] => false
  | x :: xs, y :: ys => if x = y then lexLt xs ys else decide (x < y)
theorem lexLt_cons (x y : Int) (xs ys : List Int) : lexLt (x :: xs) (y :: ys) = if x = y then lexLt xs ys else decide (x < y) := rfl
theorem lexLt_nil_nil : lexLt [] [] = false := rfl
theorem lexLt_nil_cons (y : Int) (ys : List Int) : lexLt [] (y :: ys) = true := rfl
theorem lexLt_cons_nil (x : Int) (xs : List Int) : lexLt (x :: xs) [] = false := rfl
theorem eqAt_int (A : Around) (s : Shared) (a : Int) (t : Tok) (c : Int) (u : Tok) : ∃ e, SeqAt.EqAt A s (.int a t) (.int c u) e ∧ (e = true ↔ a = c) :=
  ⟨(a == c), SeqAt.EqAt.int_int a t c u, by simp⟩
theorem rcLt_int (A : Around) (s : Shared) (a : Int) (t : Tok) (c : Int) (u : Tok) (prog : Program) (w : World) (E : Value → Shared → Prop) (Q : Value → Shared → Prop) (h : Q (.bool (decide (a < c))) s) :
    wpAny (model prog w) A (richCompare .Lt (.int a t) (.int c u)) Q E s :=
  (PyProof.Rows.lt_int h : wpAny (model prog w) A (compareOp .Lt (.int a t) (.int c u)) Q E s)
section
open PySem.SeqAt
open PySem.AutoSeq1 (wpAny_loadPart')
open PySem.MeetsSeq PySem.MeetsSeq2 PySem.MeetsSeq3
theorem tuple_lt_ints (l b : Addr) (items items2 : Array Value) (n n2 : Nat) (dd dd2 : Option Addr) (sl sl2 : Array (Option Value)) (ns ms : List Int) (hi : IntsAre items.toList ns) (hj : IntsAre items2.toList ms) :
    Meets (Builtin.«tuple.__lt__» ⟨[.ref l, .ref b], []⟩)
      (fun _ R s => s.heap.get? l = some { cls := .type "tuple", dict := dd, data := .seq items n, slots := sl } ∧ s.heap.get? b = some { cls := .type "tuple", dict := dd2, data := .seq items2 n2, slots := sl2 } ∧
        R (.ok (.ret (.bool (lexLt ns ms)))) s) :=
  .of_wp fun prog w A R s h => by
    obtain ⟨hp, g, d, tk, os⟩ := s; obtain ⟨hl, hb, h⟩ := h
    have f2 := AutoSeq1.sub_tuple_tuple
    have z1 : items.size = ns.length := by rw [← hi.length]; simp
    have z2 : items2.size = ms.length := by rw [← hj.length]; simp
    wp_walk using wpAny_loadPart' hl, wpAny_loadPart' hb, wpAny_forIn_list _ (fun rest b s' => b.1 = none ∧ s' = ⟨hp, g, d, tk, os⟩ ∧ ∃ (vs ws : List Value) (ns' ms' : List Int), rest = vs.zip ws ∧
      IntsAre vs ns' ∧ IntsAre ws ms' ∧ ns'.length + items2.size = ms'.length + items.size ∧ R (.ok (.ret (.bool (lexLt ns' ms')))) ⟨hp, g, d, tk, os⟩) _
    case turn =>
      rintro ⟨y, x⟩ rest b s' ⟨hb', rfl, vs, ws, ns', ms', hz, hvi, hwi, hlen, hR⟩
      cases hvi with
      | nil => rw [List.zip_nil_left] at hz; cases hz
      | cons a t hvi' =>
        cases hwi with
        | nil => rw [List.zip_nil_right] at hz; cases hz
        | cons c u hwi' =>
          rw [List.zip_cons_cons] at hz
          injection hz with hyx hrest
          injection hyx with hy hx
          subst hy hx
          rw [lexLt_cons] at hR
          simp only [List.length_cons] at hlen
          obtain ⟨e, he, hiff⟩ := eqAt_int A.in1 ⟨hp, g, d, tk, os⟩ a t c u
          refine wpAny_bind (he prog w _ _ ?_)
          cases e with
          | true =>
            rw [if_pos (hiff.mp rfl)] at hR
            wp_walk
            exact ⟨rfl, rfl, _, _, _, _, hrest, hvi', hwi', by omega, hR⟩
          | false =>
            rw [if_neg (fun q => absurd (hiff.mpr q) Bool.false_ne_true)] at hR
            have hri := rcLt_int A.in1 ⟨hp, g, d, tk, os⟩ a t c u prog w
            wp_walk using hri
            exact ⟨_, rfl, by simpa using hR⟩
    case fin =>
      rintro ⟨b1, b2⟩ s' ⟨hb', rfl, vs, ws, ns', ms', hz, hvi, hwi, hlen, hR⟩
      simp only at hb'
      subst hb'
      have hv : lexLt ns' ms' = decide (items.size < items2.size) := by
        cases hvi with
        | nil =>
          cases hwi with
          | nil =>
            simp only [List.length_nil] at hlen
            rw [lexLt_nil_nil]
            exact (decide_eq_false (by omega)).symm
          | cons c u hw =>
            simp only [List.length_nil, List.length_cons] at hlen
            rw [lexLt_nil_cons]
            exact (decide_eq_true (by omega)).symm
        | cons a t hv =>
          cases hwi with
          | nil =>
            simp only [List.length_nil, List.length_cons] at hlen
            rw [lexLt_cons_nil]
            exact (decide_eq_false (by omega)).symm
          | cons c u hw =>
            rw [List.zip_cons_cons] at hz
            cases hz
      rw [hv] at hR
      wp_walk
      exact ⟨_, rfl, by simpa [Builtin.Tuple.tupleCompareSizes] using hR⟩
    case h =>
      exact ⟨rfl, rfl, items.toList, items2.toList, ns, ms, rfl, hi, hj, by omega, h⟩
end
section
variable {prog : Program} {w : World} {A : Around} {E : Value → Shared → Prop} {s : Shared}
theorem lt_tupInts {l b : Addr} {items items2 : Array Value} {ns ms : List Int} {Q : Value → Shared → Prop} (hl : IsTup s.heap l items) (hb : IsTup s.heap b items2) (hi : IntsAre items.toList ns) (hj : IntsAre items2.toList ms)
    (hu : A.units < cLine) (h : Q (.bool (lexLt ns ms)) s) : wpAny (model prog w) A (compareOp .Lt (.ref l) (.ref b)) Q E s := by
  obtain ⟨⟨cls, dd, data, sl⟩, ho, hc, n, hd⟩ := id hl
  obtain ⟨⟨cls2, dd2, data2, sl2⟩, ho2, hc2, n2, hd2⟩ := id hb
  simp only at hc hd hc2 hd2
  subst hc hd hc2 hd2
  exact richCompare_meets_room (op := .Lt) ⟨_, ho, rfl⟩ ⟨_, ho2, rfl⟩ PySem.F.slot_tuple_lt PySem.F.entry_tuple_lt (PySem.F.args_tuple_lt_2 _ _) (tuple_lt_ints l b items items2 n n2 dd dd2 sl sl2 ns ms hi hj)
    ⟨ho, ho2, show Value.bool (lexLt ns ms) ≠ Value.notImplemented ∧ Q (.bool (lexLt ns ms)) s from ⟨(fun x => nomatch x), h⟩⟩ hu
/-! ### t[a:b], not the whole -/
/-- a slice's bound as a place among n (d where it is left out) -/
def sIx (n d : Nat) : Option Int → Nat
  | none => d
  | some v => if v < 0 then (v + (n : Int)).toNat else min v.toNat n
theorem sIx_le (n d : Nat) (hd : d ≤ n) (o : Option Int) : sIx n d o ≤ n := by
  cases o with
  | none => exact hd
  | some v =>
    show (if v < 0 then (v + (n : Int)).toNat else min v.toNat n) ≤ n
    by_cases hv : v < 0
    · rw [if_pos hv]; omega
    · rw [if_neg hv]; exact Nat.min_le_right _ _
end
end HT
namespace L2
open PySem PySem.Spec PyProof.Rows
/-! ### the parts of a slice -/
abbrev TO := St → Hp → (Option Int → Hp → Prop) → Prop
/-- a slice's part (left out, or an int) -/
def PO (X : Cx) (e : Option Expr) (t : TO) : Prop :=
  ∀ (pins : List (Addr × Obj)) (s : Shared) (σ : St) (H : Hp) (Q : Option Int → Hp → Prop), Inv X pins σ H s → t σ H Q →
    wpAny (model X.prog X.w) X.A (evalPart e X.env) (fun u s' => ∃ o H', Inv X pins σ H' s' ∧ IsPart u o ∧ Q o H') X.xe s
def tNoPart : TO := fun _ H Q => Q none H
def tPart (t : TE) : TO := fun σ H Q => t σ H fun x H1 => ∃ i, x = .int i ∧ Q (some i) H1
theorem intsAre_of {ns : List Int} : ∀ {us : List Value}, Vals (ns.map V.int) us → IntsAre us ns := by
  induction ns with
  | nil => intro us r; rw [List.map_nil] at r; cases r; exact .nil
  | cons n ns ih =>
    intro us r
    rw [List.map_cons] at r
    cases r with
    | cons r1 r2 =>
      obtain ⟨t, e⟩ := r1
      subst e
      exact .cons n t (ih r2)
section
variable {X : Cx} {e : Expr} {te : TE} {lo hi : Option Expr} {tl th : TO} {pos p2 : Pos}
theorem po_none : PO X none tNoPart := by
  intro pins s σ H Q I h
  rw [evalPart_none]
  exact wpAny_pure ⟨none, H, I, .none, h⟩
theorem po_some (h : PE X e te) : PO X (some e) (tPart te) := by
  intro pins s σ H Q I hw
  rw [evalPart_some]
  refine thn (h pins s σ H _ I hw) fun u s1 ⟨x, H1, I1, r1, q1⟩ => ?_
  obtain ⟨i, rfl, q⟩ := q1
  obtain ⟨t, rfl⟩ := r1
  exact ⟨some i, H1, I1, .int i t, q⟩
/-- what a slice of a value is, by values: the slice object stands at sl -/
def SlR (X : Cx) (r : V → Option Int → Option Int → Hp → VK → Prop) : Prop :=
  ∀ (pins : List (Addr × Obj)) (s : Shared) (σ : St) (H : Hp) (x : V) (v vl vu : Value) (lo hi : Option Int) (sl : Addr) (Q : VK), Inv X pins σ H s → RelV x v → s.heap.IsSliceOf sl vl vu .none → IsPart vl lo → IsPart vu hi → r x lo hi H Q →
    ∃ T id, typeLookup (.type T) "__getitem__" = pure (some (.builtin id)) ∧ s.TypeIs v T ∧ wpAny (model X.prog X.w) X.A (getItem v (.ref sl)) (EP X pins σ Q) X.xe s
def tSl (r : V → Option Int → Option Int → Hp → VK → Prop) (te : TE) (tl th : TO) : TE := fun σ H Q => te σ H fun x H1 => tl σ H1 fun l H2 => th σ H2 fun u H3 => r x l u H3 Q
/-- a[lo:hi], any a -/
theorem pe_slice {r : V → Option Int → Option Int → Hp → VK → Prop} (hr : SlR X r) (he : PE X e te) (hl : PO X lo tl) (hu : PO X hi th) : PE X (.Subscript e (.Slice lo hi none p2) pos) (tSl r te tl th) := by
  intro pins s σ H Q I h
  refine Subscript_ (thn (he pins s σ H _ I h) fun v s1 ⟨x, H1, I1, r1, q1⟩ => ?_)
  refine wpAny_Slice (thn (hl pins s1 σ H1 _ I1 q1) fun vl s2 ⟨l, H2, I2, pl, q2⟩ => thn (hu pins s2 σ H2 _ I2 q2) fun vu s3 ⟨u, H3, I3, pu, q3⟩ => ?_)
  rw [evalPart_none]
  refine wpAny_pure ?_
  have I4 : Inv X pins σ H3 { s3 with heap := s3.heap.push { cls := .type "slice", data := .fields #[vl, vu, .none] } } := I3.kept (t' := s3.toks) fun b ob q => Heap.get?_push_of_some _ q
  obtain ⟨T, id, hT, ht, hg⟩ := hr pins { s3 with heap := s3.heap.push { cls := .type "slice", data := .fields #[vl, vu, .none] } } σ H3 x v vl vu l u s3.heap.objs.size Q I4 r1 (Heap.IsSliceOf.new ..) pl pu q3
  show wpAny (model X.prog X.w) X.A (subscriptTail e (.Slice lo hi none p2) v (.ref s3.heap.objs.size)) (EP X pins σ Q) X.xe { s3 with heap := s3.heap.push { cls := .type "slice", data := .fields #[vl, vu, .none] } }
  exact tail_any (ops := [.ref s3.heap.objs.size, v]) ht hT hg (by with_unfolding_all rfl)
/-- the items of xs[lo:hi] -/
def cutV (xs : List V) (lo hi : Option Int) : List V := (xs.drop (HT.sIx xs.length 0 lo)).take (HT.sIx xs.length xs.length hi - HT.sIx xs.length 0 lo)
theorem cutV_length (xs : List V) (lo hi : Option Int) : (cutV xs lo hi).length ≤ xs.length := by
  unfold cutV
  rw [List.length_take, List.length_drop]
  omega
/-! ### t < u, t + u -/
end
end L2
namespace L2
open PySem PySem.Spec PyProof.Rows
/-! ### places -/
/-- the place that an index of any sign means -/
def ixN (n : Nat) (i : Int) : Option Nat := if 0 ≤ i then (if i < n then some i.toNat else none) else if -(n : Int) ≤ i then some (i + n).toNat else none
def atI {α : Type} (xs : List α) (i : Int) : Option α := (ixN xs.length i).bind fun j => xs[j]?
theorem ixN_seq {n : Nat} {i : Int} {j : Nat} (h : ixN n i = some j) : seqIndex? i n = some j ∧ j < n ∧ -(n : Int) ≤ i ∧ i < n := by
  unfold ixN at h
  by_cases h0 : 0 ≤ i
  · rw [if_pos h0] at h
    by_cases h1 : i < n
    · rw [if_pos h1] at h
      have e : i.toNat = j := Option.some.inj h
      exact ⟨by rw [seqIndex_of h0 h1, e], by omega, by omega, h1⟩
    · rw [if_neg h1] at h; cases h
  · rw [if_neg h0] at h
    by_cases h1 : -(n : Int) ≤ i
    · rw [if_pos h1] at h
      have e : (i + n).toNat = j := Option.some.inj h
      exact ⟨by rw [seqIndex_neg (by omega) h1, e], by omega, h1, by omega⟩
    · rw [if_neg h1] at h; cases h
theorem atI_get {α : Type} {xs : List α} {i : Int} {v : α} (h : atI xs i = some v) : ∃ j, seqIndex? i xs.length = some j ∧ xs[j]? = some v ∧ j < xs.length ∧ -(xs.length : Int) ≤ i ∧ i < xs.length := by
  unfold atI at h
  cases e : ixN xs.length i with
  | none => rw [e] at h; cases h
  | some j =>
    rw [e] at h
    obtain ⟨h1, h2, h3, h4⟩ := ixN_seq e
    exact ⟨j, h1, h, h2, h3, h4⟩
theorem atI_nat {α : Type} {xs : List α} {j : Nat} {v : α} (h : xs[j]? = some v) : atI xs (j : Int) = some v := by
  have hj : j < xs.length := (List.getElem?_eq_some_iff.mp h).1
  have e : ixN xs.length (j : Int) = some j := by
    unfold ixN
    rw [if_pos (by omega), if_pos (by omega)]; simp
  unfold atI; rw [e]; exact h
/-! ### what may be subscripted -/
/-- what stands as an index of a plain subscript -/
def PlainIx (b : Expr) : Prop := ∀ o i, subscripted b false o i = operate [o, i] (getItem o i)
/-- a subscript by values -/
def IxR (X : Cx) (r : R2) : Prop :=
  ∀ (value slice : Expr) (pins : List (Addr × Obj)) (s : Shared) (σ : St) (H : Hp) (x y : V) (v u : Value) (Q : VK), Inv X pins σ H s → RelV x v → RelV y u → r x y H Q →
    subscripted slice false v u = operate [v, u] (getItem v u) → wpAny (model X.prog X.w) X.A (subscriptTail value slice v u) (EP X pins σ Q) X.xe s
/-- a call of a builtin's method by values: the receiver, the arguments -/
def MtR (X : Cx) (id : String) (r : V → List V → Hp → VK → Prop) : Prop :=
  ∀ (pins : List (Addr × Obj)) (s : Shared) (σ : St) (H : Hp) (x : V) (xs : List V) (v : Value) (us : List Value) (Q : VK), Inv X pins σ H s → RelV x v → Vals xs us → r x xs H Q →
    wpAny (model X.prog X.w) X.A (call (.builtin id) (v :: us)) (EP X pins σ Q) X.xe s
section
variable {X : Cx} {a b : Expr} {ta tb : TE} {pos : Pos}
/-- a[b] -/
theorem pe_ix {r : R2} (hr : IxR X r) (ha : PE X a ta) (hb : PE X b tb) (hs : PlainIx b) : PE X (.Subscript a b pos) (tOp r ta tb) := by
  intro pins s σ H Q I h
  exact Subscript_ (binT ha hb I h fun v u s2 x y H2 I2 rx ry q => hr a b pins s2 σ H2 x y v u Q I2 rx ry q (hs _ _))
def rIxL (K : PySem.W.Frag) : R2 := fun x y H Q => ∃ p xs i v, x = .ref p ∧ y = .int i ∧ SqL K H p xs ∧ atI xs i = some v ∧ Q v H
def rIxT (K : PySem.W.Frag) : R2 := fun x y H Q => ∃ p xs i v, x = .ref p ∧ y = .int i ∧ SqT K H p xs ∧ atI xs i = some v ∧ Q v H
theorem ix_list : IxR X (rIxL X.K) := by
  intro value slice pins s σ H x y v u Q I rx ry h hs
  obtain ⟨p, xs, i, z, rfl, rfl, hq, he, q⟩ := h
  cases rx
  obtain ⟨t, rfl⟩ := ry
  obtain ⟨its, r, pl, hz⟩ := I.list hq
  obtain ⟨j, h1, h2, h3, h4, h5⟩ := atI_get he
  obtain ⟨w, ew, rw'⟩ := r.get h2
  have hl := r.length
  have hn := line63
  have fin : EP X pins σ Q w s := ⟨z, H, I, rw', q⟩
  by_cases h0 : 0 ≤ i
  · have hj : i.toNat = j := by
      rw [seqIndex_of h0 h5] at h1
      exact Option.some.inj h1
    exact item_listR pl.isList h0 (by omega) (by rw [hj]; simpa using ew) fin hs
  · have hj : (i + (its.toArray.size : Int)).toNat = j := by
      rw [seqIndex_neg (by omega) h4] at h1
      rw [List.size_toArray, ← hl]
      exact Option.some.inj h1
    exact subscriptTail_builtinR (x := w) pl.isList.typeIs slot_list_getitem.lookup
      (wpAny_getItem_list_neg (Q := fun r s' => r = w ∧ EP X pins σ Q r s') pl.isList (by omega) (by rw [List.size_toArray] <;> omega) (by omega) (by rw [hj]; simpa using ew) ⟨rfl, fin⟩) hs
theorem ix_tup : IxR X (rIxT X.K) := by
  intro value slice pins s σ H x y v u Q I rx ry h hs
  obtain ⟨p, xs, i, z, rfl, rfl, hq, he, q⟩ := h
  cases rx
  obtain ⟨t, rfl⟩ := ry
  obtain ⟨its, r, pl, hz⟩ := I.tuple hq
  obtain ⟨j, h1, h2, h3, h4, h5⟩ := atI_get he
  obtain ⟨w, ew, rw'⟩ := r.get h2
  have hl := r.length
  have hn := line63
  have fin : EP X pins σ Q w s := ⟨z, H, I, rw', q⟩
  exact subscriptTail_builtinR (x := w) pl.typeIs slot_tuple_getitem.lookup
    (getItem_tuple (j := j) (Q := fun r s' => r = w ∧ EP X pins σ Q r s') pl (by omega) (by omega) (by rw [List.size_toArray, ← hl]; exact h1) (by simpa using ew) ⟨rfl, fin⟩) hs
/-! ### xs[i] = v, any sign -/
/-! ### slices -/
theorem slice_bounds (lo hi : Option Int) (n : Nat) : (sliceBounds lo hi none n).1 = ((HT.sIx n 0 lo : Nat) : Int) ∧ (sliceBounds lo hi none n).2.1 = ((HT.sIx n n hi : Nat) : Int) ∧ (sliceBounds lo hi none n).2.2 = 1 := by
  refine ⟨?_, ?_, rfl⟩
  · cases lo with
    | none => simp [sliceBounds, HT.sIx]
    | some i =>
      simp only [sliceBounds, HT.sIx, Option.getD_none, show (1 : Int) > 0 by decide, if_true]
      by_cases h : i < 0
      · simp only [h, if_true] <;> omega
      · simp only [h, if_false] <;> omega
  · cases hi with
    | none => simp [sliceBounds, HT.sIx]
    | some i =>
      simp only [sliceBounds, HT.sIx, Option.getD_none, show (1 : Int) > 0 by decide, if_true]
      by_cases h : i < 0
      · simp only [h, if_true] <;> omega
      · simp only [h, if_false] <;> omega
theorem slicePick_cut (its : List Value) (lo hi : Option Int) : slicePick its.toArray lo hi none = ((its.drop (HT.sIx its.length 0 lo)).take (HT.sIx its.length its.length hi - HT.sIx its.length 0 lo)).toArray := by
  obtain ⟨h1, h2, h3⟩ := slice_bounds lo hi its.toArray.size
  unfold slicePick
  rw [h1, h2, h3]
  simp only [sliceRange_one, pick_run, List.size_toArray] <;> rfl
/-- xs[lo:hi] of a list: a new list -/
def rSlL (K : PySem.W.Frag) : V → Option Int → Option Int → Hp → VK → Prop := fun x lo hi H Q => ∃ a xs, x = .ref a ∧ SqL K H a xs ∧ ∀ p, H p = none → Q (.ref p) (upd H p (.lst (cutV xs lo hi)))
theorem sl_list : SlR X (rSlL X.K) := by
  intro pins s σ H x v vl vu lo hi sl Q I rx hs pl pu h
  obtain ⟨a, xs, rfl, hx, q⟩ := h
  cases rx
  obtain ⟨its, r, ht, hz⟩ := I.list hx
  have hlen := r.length
  refine ⟨"list", _, slot_list_getitem.lookup, ht.isList.typeIs, ?_⟩
  refine wpAny_getItem_list_slice ht.isList hs pl pu .none (by simp) ?_ (by rw [List.size_toArray] <;> omega)
  rw [slicePick_cut, ← hlen]
  refine ⟨.ref s.heap.objs.size, _, I.laid (t' := s.toks) (o := .lst (cutV xs lo hi)) (fun b ob q => Heap.get?_push_of_some _ q) (Nat.le_refl _) ?_, rfl, q _ (I.hok.fresh (Nat.le_refl _))⟩
  exact ⟨Nat.le_trans (cutV_length xs lo hi) hz, _, 0, (r.drop (HT.sIx xs.length 0 lo)).take (HT.sIx xs.length xs.length hi - HT.sIx xs.length 0 lo), Heap.get?_push_size _ rfl⟩
/-! ### in, not in: flat items -/
def flatV : V → Bool
  | .non => true
  | .bl _ => true
  | .int _ => true
  | .str _ => true
  | _ => false
/-- == of flat values -/
def eqV : V → V → Bool
  | .non, .non => true
  | .bl a, .bl b => a == b
  | .bl a, .int b => (if a then 1 else 0) == b
  | .int a, .bl b => a == (if b then 1 else 0)
  | .int a, .int b => a == b
  | .str a, .str b => a == b
  | _, _ => false
theorem eqAt_V {A : Around} {s : Shared} {y x : V} {u v : Value} (ry : RelV y u) (rx : RelV x v) (fy : flatV y = true) (fx : flatV x = true) : SeqAt.EqAt A s u v (eqV y x) := by
  cases y with
  | non =>
    cases ry
    cases x with
    | non => cases rx; exact SeqAt.EqAt.same _
    | bl b => cases rx; exact SeqAt.EqAt.none_bool b
    | int b => obtain ⟨t, rfl⟩ := rx; exact SeqAt.EqAt.none_int b t
    | str b => obtain ⟨t, rfl⟩ := rx; exact SeqAt.EqAt.none_str b t
    | _ => exact absurd (show false = true from fx) Bool.false_ne_true
  | bl a =>
    cases ry
    cases x with
    | non => cases rx; exact SeqAt.EqAt.bool_none a
    | bl b => cases rx; exact SeqAt.EqAt.bool_bool a b
    | int b => obtain ⟨t, rfl⟩ := rx; exact SeqAt.EqAt.bool_int a b t
    | str b => obtain ⟨t, rfl⟩ := rx; exact SeqAt.EqAt.bool_str a b t
    | _ => exact absurd (show false = true from fx) Bool.false_ne_true
  | int a =>
    obtain ⟨t', rfl⟩ := ry
    cases x with
    | non => cases rx; exact SeqAt.EqAt.int_none a t'
    | bl b => cases rx; exact SeqAt.EqAt.int_bool a t' b
    | int b => obtain ⟨t, rfl⟩ := rx; exact SeqAt.EqAt.int_int a t' b t
    | str b => obtain ⟨t, rfl⟩ := rx; exact SeqAt.EqAt.int_str a t' b t
    | _ => exact absurd (show false = true from fx) Bool.false_ne_true
  | str a =>
    obtain ⟨t', rfl⟩ := ry
    cases x with
    | non => cases rx; exact SeqAt.EqAt.str_none a t'
    | bl b => cases rx; exact SeqAt.EqAt.str_bool a t' b
    | int b => obtain ⟨t, rfl⟩ := rx; exact SeqAt.EqAt.str_int a t' b t
    | str b => obtain ⟨t, rfl⟩ := rx; exact SeqAt.EqAt.str_str a t' b t
    | _ => exact absurd (show false = true from fx) Bool.false_ne_true
  | _ => exact absurd (show false = true from fy) Bool.false_ne_true
/-- the items' answers, read off the values (a value's own answer does not lean on its token) -/
def eqU (x : V) (u : Value) : Bool := match u with
  | .none => eqV .non x
  | .bool b => eqV (.bl b) x
  | .int i _ => eqV (.int i) x
  | .str z _ => eqV (.str z) x
  | _ => false
theorem eqU_of {x y : V} {u : Value} (r : RelV y u) (f : flatV y = true) : eqU x u = eqV y x := by
  cases y with
  | non => cases r; rfl
  | bl b => cases r; rfl
  | int i => obtain ⟨t, rfl⟩ := r; rfl
  | str z => obtain ⟨t, rfl⟩ := r; rfl
  | _ => exact absurd (show false = true from f) Bool.false_ne_true
theorem any_eqU {x : V} : ∀ {xs : List V} {us : List Value}, Vals xs us → xs.all flatV = true → us.any (eqU x) = xs.any fun y => eqV y x
  | _, _, .nil, _ => rfl
  | y :: xs, u :: us, .cons r t, f => by
    rw [List.all_cons, Bool.and_eq_true] at f
    rw [List.any_cons, List.any_cons, eqU_of r f.1, any_eqU t f.2]
theorem mem_eqAt {A : Around} {s : Shared} {x : V} {v : Value} (rx : RelV x v) (fx : flatV x = true) : ∀ {xs : List V} {us : List Value}, Vals xs us → xs.all flatV = true → ∀ u ∈ us, SeqAt.EqAt A s u v (eqU x u)
  | _, _, .nil, _ => fun u hu => by cases hu
  | y :: xs, u :: us, .cons r t, f => fun u' hu => by
    rw [List.all_cons, Bool.and_eq_true] at f
    rcases List.mem_cons.mp hu with rfl | hu
    · rw [eqU_of r f.1]; exact eqAt_V r rx f.1 fx
    · exact mem_eqAt rx fx t f.2 u' hu
def inV (x : V) (xs : List V) : Bool := xs.any fun y => eqV y x
/-- x in a list or tuple of flat items -/
def rIn (K : PySem.W.Frag) (neg : Bool) : R2 := fun x y H Q => ∃ p xs, y = .ref p ∧ (SqL K H p xs ∨ SqT K H p xs) ∧ flatV x = true ∧ xs.all flatV = true ∧ Q (.bl (if neg then !inV x xs else inV x xs)) H
theorem op_in_seq : OpR X (compareOp .In) (rIn X.K false) := by
  intro pins s σ H x y v u Q I rx ry h
  obtain ⟨p, xs, rfl, hq, fx, fs, q⟩ := h
  cases ry
  rcases hq with hq | hq
  · obtain ⟨its, r, pl, hz⟩ := I.list hq
    refine SeqAt.in_listAt (eqU x) pl.isList (fun w hw => mem_eqAt rx fx r fs w (by simpa using hw)) ⟨.bl _, H, I, rfl, ?_⟩
    rw [show its.toArray.any (eqU x) = its.any (eqU x) by simp, any_eqU r fs]
    exact q
  · obtain ⟨its, r, pl, hz⟩ := I.tuple hq
    refine SeqAt.in_tupleAt (eqU x) pl (fun w hw => mem_eqAt rx fx r fs w (by simpa using hw)) ⟨.bl _, H, I, rfl, ?_⟩
    rw [show its.toArray.any (eqU x) = its.any (eqU x) by simp, any_eqU r fs]
    exact q
/-! ### len, list(x), tuple(x) of any list or tuple that is read -/
theorem call_len_seq : CallR X (.builtin "len") (fun xs H Q => ∃ p ys, xs = [.ref p] ∧ (SqL X.K H p ys ∨ SqT X.K H p ys) ∧ Q (.int ys.length) H) := by
  intro pins s σ H xs us Q I r h
  obtain ⟨p, ys, rfl, hq, q⟩ := h
  obtain ⟨u, rfl, rx⟩ := vals1 r
  cases rx
  have hn := line63
  rcases hq with hq | hq
  · obtain ⟨its, r', pl, hz⟩ := I.list hq
    have hlen := r'.length
    exact Calls.call_len_list pl.isList (by simp only [List.size_toArray] <;> omega) ⟨.int ys.length, H, I.tok _, ⟨s.toks + 1, by rw [List.size_toArray, hlen]⟩, q⟩
  · obtain ⟨its, r', pl, hz⟩ := I.tuple hq
    have hlen := r'.length
    exact len_tuple pl (by simp only [List.size_toArray] <;> omega) ⟨.int ys.length, H, I.tok _, ⟨s.toks + 1, by rw [List.size_toArray, hlen]⟩, q⟩
theorem call_len_str : CallR X (.builtin "len") (fun xs H Q => ∃ z, xs = [.str z] ∧ z.length ≤ sizeLine ∧ Q (.int z.length) H) := by
  intro pins s σ H xs us Q I r h
  obtain ⟨z, rfl, hz, q⟩ := h
  obtain ⟨u, rfl, t, rfl⟩ := vals1 r
  have hn := line63
  exact len_str (by omega) ⟨.int z.length, H, I.tok _, ⟨_, rfl⟩, q⟩
/-! ### the call of a builtin's method: o.m(..) -/
/-- the value is of that builtin type -/
def tyV (K : PySem.W.Frag) (T : String) (x : V) (H : Hp) : Prop := match x with
  | .str _ => T = "str"
  | .int _ => T = "int"
  | .ref p => (T = "list" ∧ ∃ xs, SqL K H p xs) ∨ (T = "tuple" ∧ ∃ o, K.lookup p = some o ∧ o.cls = .type "tuple" ∧ o.dict = none) ∨
      (T = "dict" ∧ ((∃ kvs, H p = some (.dK kvs)) ∨ ∃ kvs, H p = some (.dT kvs))) ∨ (T = "set" ∧ ∃ S n, H p = some (.set S n))
  | _ => False
theorem tyV_is {pins : List (Addr × Obj)} {σ : St} {H : Hp} {s : Shared} {T : String} {x : V} {v : Value} (I : Inv X pins σ H s) (r : RelV x v) (ty : tyV X.K T x H) :
    s.TypeIs v T ∧ ∀ a, v = .ref a → ∃ ob, s.heap.get? a = some ob ∧ ob.dict = none := by
  cases x with
  | str z =>
    obtain ⟨t, rfl⟩ := r
    cases (show T = "str" from ty)
    exact ⟨typeIs_str s z t, fun _ e => nomatch e⟩
  | int i =>
    obtain ⟨t, rfl⟩ := r
    cases (show T = "int" from ty)
    exact ⟨typeIs_int s i t, fun _ e => nomatch e⟩
  | ref p =>
    cases r
    rcases ty with ⟨rfl, xs, hq⟩ | ⟨rfl, o, hk, hc, hd⟩ | ⟨rfl, hk⟩ | ⟨rfl, S, n, hk⟩
    · obtain ⟨its, _, pl, _⟩ := I.list hq
      refine ⟨pl.isList.typeIs, fun a e => ?_⟩
      cases e
      obtain ⟨o, n, e, c, hd, _⟩ := pl
      exact ⟨o, e, hd⟩
    · refine ⟨⟨o, I.kIn p o hk, hc⟩, fun a e => ?_⟩
      cases e
      exact ⟨o, I.kIn _ o hk, hd⟩
    · have z : ∃ o, s.heap.get? p = some o ∧ o.ExactDict := by
        rcases hk with ⟨kvs, hk⟩ | ⟨kvs, hk⟩
        · obtain ⟨_, _, _, _, o, _, _, e, ex, _⟩ := I.hok p _ hk
          exact ⟨o, e, ex⟩
        · obtain ⟨_, _, _, _, o, _, _, e, ex, _⟩ := I.hok p _ hk
          exact ⟨o, e, ex⟩
      obtain ⟨o, e, ex⟩ := z
      refine ⟨⟨o, e, ex.1⟩, fun a e2 => ?_⟩
      cases e2
      exact ⟨o, e, ex.2.1⟩
    · obtain ⟨o, _, _, _, e, ex, _⟩ := I.hok p _ hk
      refine ⟨⟨o, e, ex.1⟩, fun a e2 => ?_⟩
      cases e2
      exact ⟨o, e, ex.2.1⟩
  | _ => exact False.elim ty
def tBM0 (K : PySem.W.Frag) (T : String) (r : V → List V → Hp → VK → Prop) (to : TE) : TE := fun σ H Q => to σ H fun x H1 => tyV K T x H1 ∧ r x [] H1 Q
def tBM (K : PySem.W.Frag) (T : String) (r : V → List V → Hp → VK → Prop) (to : TE) (t : TA) : TE := fun σ H Q => to σ H fun x H1 => tyV K T x H1 ∧ t σ H1 fun xs H2 => r x xs H2 Q
variable {o e : Expr} {es : List Expr} {to : TE} {t : TA} {name : Str} {apos cpos : Pos} {T id : String} {r : V → List V → Hp → VK → Prop}
theorem pe_bm0 (pa : PlainAttrs T) (slot : Slot T name id) (hty : typeOf (.builtin id) = pure (.type "method_descriptor")) (hm : MtR X id r) (ho : PE X o to)
    (hbase : attributeBase o name X.env (eval o X.env) = eval o X.env := by rfl) (hline : (apos.endLine == cpos.line) = true := by rfl) : PE X (.Call (.Attribute o name apos) [] [] cpos) (tBM0 X.K T r to) := by
  intro pins s σ H Q I h
  refine wpAny_Call_method0_late hbase hline (thn (ho pins s σ H _ I h) fun v s1 ⟨x, H1, I1, r1, ty, q1⟩ => ?_)
  obtain ⟨h1, h2⟩ := tyV_is I1 r1 ty
  exact ⟨T, id, pa, slot, hty, h1, h2, Calls.callWith_builtin rfl (PySem.evalArgs_none (hm pins s1 σ H1 x [] v [] Q I1 r1 .nil q1))⟩
theorem pe_bm (pa : PlainAttrs T) (slot : Slot T name id) (hty : typeOf (.builtin id) = pure (.type "method_descriptor")) (hm : MtR X id r) (ho : PE X o to) (ha : PA X (e :: es) t)
    (hbase : attributeBase o name X.env (eval o X.env) = eval o X.env := by rfl)
    (hfew : ((backTo cpos (starEach (e :: es) X.env)).all (fun x => !x.1) && (backToKw cpos (keywordEach [] X.env)).all (fun x => x.1.isSome)
      && decide ((e :: es).length + ([] : List Keyword).length + (if ([] : List Keyword).isEmpty then 0 else 1) < 30)) = true := by rfl)
    (hline : (apos.endLine == cpos.line) = true := by rfl) (hs : starEach (e :: es) X.env = (false, eval e X.env) :: starEach es X.env := by rfl) (hplain : (backTo cpos (starEach es X.env)).any (·.1) = false := by rfl) :
    PE X (.Call (.Attribute o name apos) (e :: es) [] cpos) (tBM X.K T r to t) := by
  intro pins s σ H Q I h
  refine wpAny_Call_method_late hbase hfew hline rfl (thn (ho pins s σ H _ I h) fun v s1 ⟨x, H1, I1, r1, ty, q1⟩ => ?_)
  obtain ⟨h1, h2⟩ := tyV_is I1 r1 ty
  refine ⟨T, id, pa, slot, hty, h1, h2, ?_⟩
  have hA := ha cpos pins s1 σ H1 _ I1 q1
  rw [hs] at hA ⊢
  refine Calls.callWith_builtin (by show (false || (backTo cpos (starEach es X.env)).any (·.1)) = false; rw [hplain] <;> rfl) (Calls.evalArgs_plain ?_)
  exact thn hA fun us s2 ⟨vs, H2, I2, r2, q2⟩ => hm pins s2 σ H2 x vs v us Q I2 r1 r2 q2
/- xs.append(e), list.index on a module's tuple .. are MtR facts of 06m -/
end
end L2
namespace L2
open PySem PySem.Spec PyProof.Rows
def MtM (X : Cx) (id : String) (r : V → List V → Hp → VK → Prop) : Prop :=
  ∀ (pins : List (Addr × Obj)) (s : Shared) (σ : St) (H : Hp) (x : V) (xs : List V) (v : Value) (us : List Value) (Q : VK), Inv X pins σ H s → RelV x v → Vals xs us → r x xs H Q →
    wpAny (model X.prog X.w) X.A (call (.builtin id) (v :: us)) (EP X pins σ Q) X.xe s
/-! ### lists of values -/
theorem Vals.one : ∀ {x : V} {us : List Value}, Vals [x] us → ∃ u, us = [u] ∧ RelV x u
  | _, _, .cons r .nil => ⟨_, rfl, r⟩
theorem Vals.zero : ∀ {us : List Value}, Vals [] us → us = []
  | _, .nil => rfl
section
variable {X : Cx} {pins : List (Addr × Obj)} {σ : St} {H : Hp} {s : Shared} {l b : Addr} {xs ys zs : List V}
/-! ### the two steps: a tracked list is rewritten, a new list is laid -/
theorem Inv.lset {its its' : List Value} {n : Nat} {f : Array Value → Array Value} {t' : Nat} (I : Inv X pins σ H s) (hH : H l = some (.lst xs))
    (e : s.heap.get? l = some { cls := .type "list", data := .seq its.toArray n }) (hf : f its.toArray = its'.toArray) (hv : Vals ys its') (hz : ys.length ≤ sizeLine) :
    Inv X pins σ (upd H l (.lst ys)) { s with heap := s.heap.update l (Obj.mapSeq f), toks := t' } := by
  have q := PySem.IsL.update e f
  rw [hf] at q
  refine I.write (x := l) (e := l) (by rw [hH]; exact trivial) (.inl rfl) (fun b' u hb hu => (Heap.get?_update_other s.heap (Obj.mapSeq f) (Ne.symm hb)).trans hu) ⟨_, q⟩ ?_
  exact ⟨hz, its', _, hv, q⟩
theorem Inv.lnew {its : List Value} {t' : Nat} (I : Inv X pins σ H s) (hv : Vals ys its) (hz : ys.length ≤ sizeLine) :
    Inv X pins σ (upd H s.heap.objs.size (.lst ys)) { s with heap := s.heap.push { cls := .type "list", data := .seq its.toArray }, toks := t' } :=
  I.laid (fun _ _ q => Heap.get?_push_of_some _ q) (Nat.le_refl _) ⟨hz, its, 0, hv, Heap.get?_push_size _ rfl⟩
theorem Inv.fresh (I : Inv X pins σ H s) : H s.heap.objs.size = none := I.hok.fresh (Nat.le_refl _)
theorem Inv.lstM (I : Inv X pins σ H s) (hH : H l = some (.lst xs)) : xs.length ≤ sizeLine ∧ ∃ (its : List Value) (n : Nat), Vals xs its ∧ xs.length = its.length ∧ s.heap.get? l = some { cls := .type "list", data := .seq its.toArray n } := by
  obtain ⟨z, its, n, r, e⟩ := I.hok l _ hH
  exact ⟨z, its, n, r, r.length, e⟩
theorem notLongL {n : Nat} (h : n ≤ sizeLine) : Builtin.List.listTooLong n = false := by
  unfold Builtin.List.listTooLong
  exact decide_eq_false (by omega)
end
section
variable {X : Cx}
/-! ### methods -/
def rAppend : V → List V → Hp → VK → Prop := fun x vs H Q => ∃ l xs y, x = .ref l ∧ vs = [y] ∧ H l = some (.lst xs) ∧ xs.length < sizeLine ∧ Q .non (upd H l (.lst (xs ++ [y])))
theorem mt_append : MtM X "list.append" rAppend := by
  intro pins s σ H x vs v us Q I rx rv h
  obtain ⟨l, xs, y, rfl, rfl, hH, hz, q⟩ := h
  cases rx
  obtain ⟨u, rfl, ru⟩ := rv.one
  obtain ⟨z, its, n, r, hl, e⟩ := I.lstM hH
  refine call_meets F.slot_list_append ⟨_, e, rfl⟩ F.entry_list_append (F.args_list_append_2 _ _) (PySem.list_append l its.toArray n u (by rw [List.size_toArray]; omega)) ⟨e, ?_⟩
  refine ⟨.non, _, I.lset (its' := its ++ [u]) hH e (by simp) (r.append (.cons ru .nil)) ?_, rfl, q⟩
  rw [List.length_append, List.length_singleton]
  omega
def rExtend : V → List V → Hp → VK → Prop := fun x vs H Q => ∃ l b xs zs, x = .ref l ∧ vs = [.ref b] ∧ H l = some (.lst xs) ∧ H b = some (.lst zs) ∧ xs.length + zs.length ≤ sizeLine ∧ Q .non (upd H l (.lst (xs ++ zs)))
theorem mt_extend : MtM X "list.extend" rExtend := by
  intro pins s σ H x vs v us Q I rx rv h
  obtain ⟨l, b, xs, zs, rfl, rfl, hH, hB, hz, q⟩ := h
  cases rx
  obtain ⟨u, rfl, ru⟩ := rv.one
  cases ru
  obtain ⟨z, its, n, r, hl, e⟩ := I.lstM hH
  obtain ⟨z2, its2, n2, r2, hl2, e2⟩ := I.lstM hB
  have hsz : its.toArray.size + its2.toArray.size ≤ sizeLine := by rw [List.size_toArray, List.size_toArray]; omega
  have hlong : ¬ (!its.toArray.isEmpty && Builtin.List.listTooLong (its.toArray.size + its2.toArray.size)) = true := by
    rw [notLongL hsz, Bool.and_false]
    exact Bool.false_ne_true
  refine call_meets F.slot_list_extend ⟨_, e, rfl⟩ F.entry_list_extend (F.args_list_extend_2 _ _)
    (AutoSeq1.list_extend_list_list_0 l its.toArray n b its2.toArray n2 hlong (by rw [List.size_toArray]; omega) (by omega)) ⟨e, e2, ?_⟩
  refine ⟨.non, _, I.lset (its' := its ++ its2) hH e (by simp) (r.append r2) ?_, rfl, q⟩
  rw [List.length_append]
  omega
def rClear : V → List V → Hp → VK → Prop := fun x vs H Q => ∃ l xs, x = .ref l ∧ vs = [] ∧ H l = some (.lst xs) ∧ Q .non (upd H l (.lst []))
theorem mt_clear : MtM X "list.clear" rClear := by
  intro pins s σ H x vs v us Q I rx rv h
  obtain ⟨l, xs, rfl, rfl, hH, q⟩ := h
  cases rx
  have hus := rv.zero
  subst hus
  obtain ⟨z, its, n, r, hl, e⟩ := I.lstM hH
  refine call_meets F.slot_list_clear ⟨_, e, rfl⟩ F.entry_list_clear (F.args_list_clear_1 _) (AutoSeq1.list_clear_list_0 l its.toArray n (by rw [List.size_toArray]; omega)) ⟨e, ?_⟩
  exact ⟨.non, _, I.lset (its' := []) (ys := []) hH e rfl .nil (Nat.zero_le _), rfl, q⟩
/-! ### list + list, list += list, list * int -/
def rCat : R2 := fun x y H Q => ∃ l b xs zs, x = .ref l ∧ y = .ref b ∧ H l = some (.lst xs) ∧ H b = some (.lst zs) ∧ xs.length + zs.length ≤ sizeLine ∧ ∀ p, H p = none → Q (.ref p) (upd H p (.lst (xs ++ zs)))
theorem op_cat : OpR X (binaryOp .Add) rCat := by
  intro pins s σ H x y v u Q I rx ry h
  obtain ⟨l, b, xs, zs, rfl, rfl, hH, hB, hz, q⟩ := h
  cases rx
  cases ry
  obtain ⟨z, its, n, r, hl, e⟩ := I.lstM hH
  obtain ⟨z2, its2, n2, r2, hl2, e2⟩ := I.lstM hB
  refine PySem.P.add_list e e2 ?_ (by rw [List.size_toArray, List.size_toArray]; omega)
  have ea : its.toArray ++ its2.toArray = (its ++ its2).toArray := by simp
  rw [ea]
  exact ⟨.ref _, _, I.lnew (t' := s.toks) (r.append r2) (by rw [List.length_append]; omega), rfl, q _ I.fresh⟩
/-! ### del xs[i] -/
end
/-! ### xs[a:b] = ys -/
section
variable {prog : Program} {w : World} {A : Around} {E : Value → Shared → Prop} {s : Shared}
set_option maxRecDepth 100000 in
end
section
variable {X : Cx}
end
end L2
namespace L2
open PySem PySem.Spec PyProof.Rows
theorem Vals.ints : ∀ {ns : List Int} {us : List Value}, Vals (ns.map V.int) us → IntsAre us ns
  | [], us, h => by
    rw [List.map_nil] at h
    cases h
    exact IntsAre.nil
  | n :: ns, us, h => by
    rw [List.map_cons] at h
    cases h with
    | cons r t =>
      obtain ⟨k, rfl⟩ := r
      exact IntsAre.cons n k (Vals.ints t)
theorem vals_of_ints : ∀ {us : List Value} {ns : List Int}, IntsAre us ns → Vals (ns.map V.int) us
  | _, _, .nil => by rw [List.map_nil]; exact Paired.nil
  | _, _, .cons n t h => by rw [List.map_cons]; exact Paired.cons (show RelV (V.int n) (Value.int n t) from ⟨t, rfl⟩) (vals_of_ints h)
theorem Vals.bls : ∀ {bs : List Bool} {us : List Value}, Vals (bs.map V.bl) us → us = bs.map Value.bool
  | [], us, h => by
    rw [List.map_nil] at h
    cases h
    rfl
  | b :: bs, us, h => by
    rw [List.map_cons] at h
    cases h with
    | cons r t =>
      cases r
      rw [Vals.bls t, List.map_cons]
theorem Vals.ref1 {a : Addr} {us : List Value} (r : Vals [V.ref a] us) : us = [Value.ref a] := by
  cases r with
  | cons r t =>
    cases t
    cases r
    rfl
/-! ### the library's walks over a list of ints, kept objects alone -/
section
variable {prog : Program} {w : World} {A : Around} {E : Value → Shared → Prop} {s : Shared} {l : Addr} {its : List Value} {ns : List Int} {Q : Value → Shared → Prop}
theorem sum_raw (hh : A.handled = none) (hl : s.heap.IsList l its.toArray) (hi : IntsAre its ns)
    (h : ∀ h' tk t', (∀ b o, s.heap.get? b = some o → h'.get? b = some o) → Q (.int ns.sum t') { s with heap := h', toks := tk }) : wpAny (model prog w) A (call (.builtin "sum") [.ref l]) Q E s := by
  obtain ⟨xs, e⟩ := hi.allInts.items
  have hn : numsOf (intItems xs).toList = ns := by rw [← e]; exact hi.numsOf
  rw [nums_intItems] at hn
  rw [e] at hl
  refine PySem.sum_intListG hh hl fun h' tk t' hk => ?_
  have := h h' tk t' hk
  rw [preSum_eq, List.take_of_length_le (by simp), hn]; exact this
end
/-! ### the calls, by values (CallR of 03t; MtR of 06l) -/
section
variable {X : Cx}
/-- sum(xs) of a list of ints -/
def rSum (K : PySem.W.Frag) : List V → Hp → VK → Prop := fun vs H Q => ∃ (a : Addr) (ns : List Int), vs = [V.ref a] ∧ SqL K H a (ns.map V.int) ∧ Q (.int ns.sum) H
theorem cr_sum (hc : X.calm = true) : CallR X (.builtin "sum") (rSum X.K) := by
  intro pins s σ H vs us Q I r h
  obtain ⟨a, ns, rfl, hs, q⟩ := h
  obtain ⟨its, rv, hl, _⟩ := I.list hs
  rw [Vals.ref1 r]
  exact sum_raw (I.ok.hd hc) hl.isList rv.ints fun h' tk t' hk => ⟨.int _, H, I.kept hk, ⟨_, rfl⟩, q⟩
/-! sorted, sort (fewer than 64 items: the library's own bound) -/
end
/-! ### list.index, flat items -/
section
variable {X : Cx}
end
/-! ### type(x) of an own instance; is, is not of a module's class -/
section
variable {X : Cx}
end
/-! ### any(xs), all(xs) of a list of bools -/
theorem iter_any {prog : Program} {w : World} {A : Around} {E : Value → Shared → Prop} {s : Shared} {l : Addr} {items : Array Value} {Q : Value → Shared → Prop} (hl : s.heap.IsList l items)
    (h : ∀ s₂ : Shared, s₂ = { s with heap := s.heap.push { cls := .type "list_iterator", data := .fields #[.ref l, .int 0 0] } } →
      (s₂.heap.IsListIter s.heap.objs.size l 0 ∧ s₂.heap.IsList l items) → l ≠ s.heap.objs.size → Q (.ref s.heap.objs.size) s₂) : wpAny (model prog w) A (pyIter (.ref l)) Q E s := by
  have hlt : l < s.heap.objs.size := by obtain ⟨_, e, _⟩ := hl; exact Heap.lt_size e
  exact wpAny_pyIter_list hl (h _ rfl ⟨⟨_, Heap.get?_push_size _ rfl, rfl, rfl⟩, hl.push _⟩ (Nat.ne_of_lt hlt))
theorem truth_bools {prog : Program} {w : World} {A : Around} {bs : List Bool} {its : List Value} (e : its = bs.map Value.bool) :
    TruthOf prog w A (fun i v => its.toArray[i]? = some v) (fun i => bs.getD i false) := fun i v s Q E hv hq => by
  have hv' : its[i]? = some v := by simpa using hv
  rw [e, List.getElem?_map] at hv'
  obtain ⟨b, hb, rfl⟩ := Option.map_eq_some_iff.mp hv'
  have hg : bs.getD i false = b := by rw [List.getD_eq_getElem?_getD, hb] <;> rfl
  have hq' : Q (bs.getD i false) s := hq
  rw [hg] at hq'
  exact wpAny_truthy_bool hq'
theorem any_range : ∀ bs : List Bool, (List.range bs.length).any (fun i => bs.getD i false) = bs.any id
  | [] => rfl
  | b :: bs => by
    rw [List.length_cons, List.range_succ_eq_map, List.any_cons, List.any_map, List.any_cons, ← any_range bs]
    all_goals rfl
section
variable {X : Cx}
def rAny (K : PySem.W.Frag) : List V → Hp → VK → Prop := fun vs H Q => ∃ (a : Addr) (bs : List Bool), vs = [V.ref a] ∧ SqL K H a (bs.map V.bl) ∧ Q (.bl (bs.any id)) H
theorem cr_any (hc : X.calm = true) : CallR X (.builtin "any") (rAny X.K) := by
  intro pins s σ H vs us Q I r h
  obtain ⟨a, bs, rfl, hs, q⟩ := h
  obtain ⟨its, rv, hl, _⟩ := I.list hs
  rw [Vals.ref1 r]
  have hb := rv.bls
  refine call_any_walk (iter_any hl.isList fun s₂ e2 st hne => ?_)
  subst e2
  refine ⟨_, _, _, _, _, _, _, rfl, Walks.list (A := X.A.in1) (I.ok.hd hc) _ a hne its.toArray, st, truth_bools hb, fun h' tk hk => ?_⟩
  refine ⟨.bl _, H, I.kept fun b o eo => hk b o (fun hmem => ?_) (Heap.get?_push_of_some _ eo), ?_, q⟩
  · rcases List.mem_cons.mp hmem with e1 | hmem
    · exact absurd (e1 ▸ Heap.lt_size eo) (Nat.lt_irrefl _)
    · cases hmem
  · show Value.bool _ = Value.bool _
    rw [← any_range, hb, List.size_toArray, List.length_map]
end
/-! ### == and != of data at any depth: none, bools, ints, texts, lists, tuples -/
section
variable {X : Cx} {pins : List (Addr × Obj)} {σ : St} {H : Hp} {s : Shared}
end
section
variable {X : Cx}
end
end L2
namespace L2
open PySem PySem.Spec PyProof.Rows
abbrev CellAt (h : Heap) (c : Addr) (v : Option Value) : Prop := h.IsCell c v
def relS (scope sc : Scope) : Scope :=
  { scope with names := scope.names.map fun (n, k) => if (k == .free && sc.kind == .function && sc.names.lookup n == some .cell) then (n, .cell) else (n, k) }
def cloFrom (cells : List (Str × Addr)) : List (Str × NameKind) → List (Str × Addr) → List (Str × Addr)
  | [], acc => acc
  | (n, k) :: r, acc => if k == .free then cloFrom cells r ((n, (cells.lookup n).getD 0) :: acc) else cloFrom cells r acc
theorem closure_loop (env : Env) (f : Str × NameKind → List (Str × Addr) → Sem (ForInStep (List (Str × Addr))))
    (hf : ∀ n k c, f (n, k) c = if k == .free then (do let a ← cellOf env n; pure (.yield ((n, a) :: c))) else pure (.yield c)) :
    ∀ (names : List (Str × NameKind)) (acc : List (Str × Addr)), (∀ y ∈ names, y.2 = .free → ∃ c, env.cells.lookup y.1 = some c) → forIn names acc f = pure (cloFrom env.cells names acc)
  | [], acc, _ => by rw [List.forIn_nil]; rfl
  | (n, k) :: r, acc, h => by
    rw [List.forIn_cons, hf]
    have ih := fun acc => closure_loop env f hf r acc fun y hy => h y (List.mem_cons_of_mem _ hy)
    unfold cloFrom
    by_cases hk : (k == NameKind.free) = true
    · rw [if_pos hk, if_pos hk]
      obtain ⟨c, hc⟩ := h (n, k) List.mem_cons_self (by simpa using hk)
      have e : cellOf env n = pure c := by unfold cellOf; rw [hc]
      rw [e]
      have e2 : (env.cells.lookup n).getD 0 = c := by rw [hc]; rfl
      rw [e2]
      exact ih _
    · rw [if_neg hk, if_neg hk]
      exact ih _
theorem closure_ok {scope : Scope} {env : Env} (h : ∀ y ∈ scope.names, y.2 = .free → ∃ c, env.cells.lookup y.1 = some c) : closureFor scope env = pure (cloFrom env.cells scope.names []) := by
  simp only [closureFor]
  rw [closure_loop env _ (fun n k c => rfl) scope.names [] h]
  rfl
theorem mem_lookup {α : Type} : ∀ {l : List (Str × α)} {n : Str} {c : α}, (n, c) ∈ l → ∃ c', l.lookup n = some c'
  | (k, v) :: r, n, c, h => by
    rw [List.lookup_cons]
    cases hb : n == k with
    | true => exact ⟨_, rfl⟩
    | false =>
      rcases List.mem_cons.mp h with e | h
      · cases e; simp at hb
      · exact mem_lookup h
theorem cloFrom_mem {cells : List (Str × Addr)} : ∀ {names : List (Str × NameKind)} {acc : List (Str × Addr)} {n : Str} {c : Addr}, (n, c) ∈ cloFrom cells names acc → (n, c) ∈ acc ∨ ((n, .free) ∈ names ∧ c = (cells.lookup n).getD 0)
  | [], _, _, _, h => .inl h
  | (m, k) :: r, acc, n, c, h => by
    unfold cloFrom at h
    split at h
    · rename_i hk
      have hk : k = .free := by simpa using hk
      rcases cloFrom_mem h with h | ⟨h1, h2⟩
      · rcases List.mem_cons.mp h with e | h
        · cases e; exact .inr ⟨hk ▸ List.mem_cons_self, rfl⟩
        · exact .inl h
      · exact .inr ⟨List.mem_cons_of_mem _ h1, h2⟩
    · rcases cloFrom_mem h with h | ⟨h1, h2⟩
      · exact .inl h
      · exact .inr ⟨List.mem_cons_of_mem _ h1, h2⟩
theorem cloFrom_acc {cells : List (Str × Addr)} : ∀ {names : List (Str × NameKind)} {acc : List (Str × Addr)} {p : Str × Addr}, p ∈ acc → p ∈ cloFrom cells names acc
  | [], _, _, h => h
  | (m, k) :: r, acc, p, h => by
    unfold cloFrom
    split
    · exact cloFrom_acc (List.mem_cons_of_mem _ h)
    · exact cloFrom_acc h
theorem cloFrom_has {cells : List (Str × Addr)} : ∀ {names : List (Str × NameKind)} {acc : List (Str × Addr)} {n : Str}, (n, .free) ∈ names → (n, (cells.lookup n).getD 0) ∈ cloFrom cells names acc
  | (m, k) :: r, acc, n, h => by
    unfold cloFrom
    rcases List.mem_cons.mp h with e | h
    · cases e
      exact cloFrom_acc List.mem_cons_self
    · split
      · exact cloFrom_has h
      · exact cloFrom_has h
theorem cells_mem : ∀ {names : List (Str × NameKind)} {h : Heap} {acc : List (Str × Addr)} {x : Str} {c : Addr}, (x, c) ∈ cellsFrom h.objs.size names acc →
    (x, c) ∈ acc ∨ ((x, .cell) ∈ names ∧ h.objs.size ≤ c ∧ CellAt (pushCells h names) c none)
  | [], _, _, _, _, h => .inl h
  | (n, k) :: r, h, acc, x, c, hm => by
    unfold cellsFrom at hm
    unfold pushCells
    split at hm
    · rename_i hk
      rw [if_pos hk]
      have hk : k = .cell := by simpa using hk
      rw [← Heap.size_push h { cls := .type "cell", data := .cell none }] at hm
      rcases cells_mem hm with hm | ⟨h1, h2, h3⟩
      · rcases List.mem_cons.mp hm with e | hm
        · cases e
          exact .inr ⟨hk ▸ List.mem_cons_self, Nat.le_refl _, _, pushCells_keeps r _ _ _ (Heap.get?_push_size _ rfl), rfl⟩
        · exact .inl hm
      · rw [Heap.size_push] at h2
        exact .inr ⟨List.mem_cons_of_mem _ h1, Nat.le_of_succ_le h2, h3⟩
    · rename_i hk
      rw [if_neg hk]
      rcases cells_mem hm with hm | ⟨h1, h2, h3⟩
      · exact .inl hm
      · exact .inr ⟨List.mem_cons_of_mem _ h1, h2, h3⟩
theorem cells_acc : ∀ {names : List (Str × NameKind)} {n : Nat} {acc : List (Str × Addr)} {p : Str × Addr}, p ∈ acc → p ∈ cellsFrom n names acc
  | [], _, _, _, h => h
  | (m, k) :: r, n, acc, p, h => by
    unfold cellsFrom
    split
    · exact cells_acc (List.mem_cons_of_mem _ h)
    · exact cells_acc h
theorem cells_has : ∀ {names : List (Str × NameKind)} {n : Nat} {acc : List (Str × Addr)} {x : Str}, (x, .cell) ∈ names → ∃ c, (x, c) ∈ cellsFrom n names acc
  | (m, k) :: r, n, acc, x, h => by
    unfold cellsFrom
    rcases List.mem_cons.mp h with e | h
    · cases e
      exact ⟨n, cells_acc List.mem_cons_self⟩
    · split
      · exact cells_has h
      · exact cells_has h
theorem cells_inj : ∀ {names : List (Str × NameKind)} {h : Heap} {acc : List (Str × Addr)} {x y : Str} {c : Addr}, (∀ p ∈ acc, p.2 < h.objs.size) → (∀ x y c, (x, c) ∈ acc → (y, c) ∈ acc → x = y) →
    (x, c) ∈ cellsFrom h.objs.size names acc → (y, c) ∈ cellsFrom h.objs.size names acc → x = y
  | [], _, _, _, _, _, _, hi, h1, h2 => hi _ _ _ h1 h2
  | (n, k) :: r, h, acc, x, y, c, hl, hi, h1, h2 => by
    unfold cellsFrom at h1 h2
    split at h1
    · rename_i hk
      rw [if_pos hk] at h2
      rw [← Heap.size_push h { cls := .type "cell", data := .cell none }] at h1 h2
      refine cells_inj (h := h.push _) (fun p hp => ?_) (fun x y c a b => ?_) h1 h2
      · rw [Heap.size_push]
        rcases List.mem_cons.mp hp with rfl | hp
        · exact Nat.lt_succ_self _
        · exact Nat.lt_succ_of_lt (hl p hp)
      · rcases List.mem_cons.mp a with e | a <;> rcases List.mem_cons.mp b with e' | b
        · cases e; cases e'; rfl
        · cases e; exact absurd (hl _ b) (Nat.lt_irrefl _)
        · cases e'; exact absurd (hl _ a) (Nat.lt_irrefl _)
        · exact hi _ _ _ a b
    · rename_i hk
      rw [if_neg hk] at h2
      exact cells_inj hl hi h1 h2
theorem newEnv_comp {M : Model} {A : Around} {E : Value → Shared → Prop} {s : Shared} {scope : Scope} {globals : Addr} {closure : List (Str × Addr)} {qual : Str} {func : Option Addr} {code : Value} {around : Env} {builtins : Addr} {Q : Env → Shared → Prop}
    (h : Q (newEnv scope s.heap.objs.size globals (cellsFrom (s.heap.objs.size + 1) scope.names closure) qual func code (some around) builtins)
      { s with heap := pushCells (s.heap.push { cls := .type "dict", data := .dict #[] }) scope.names }) :
    wpAny M A (newFunctionEnv scope globals closure [] qual func code (some around) builtins) Q E s := by
  simp only [newFunctionEnv, Option.isSome_some, if_true]
  refine wpAny_bind (wpAny_alloc ?_)
  refine wpAny_bind (wpAny_layCells _ (fun n k c => rfl) scope.names closure _ _ ?_)
  rw [show ({ s with heap := s.heap.push { cls := .type "dict", data := .dict #[] } } : Shared).heap.objs.size = s.heap.objs.size + 1 from Heap.size_push ..]
  rw [List.forIn_nil]
  exact wpAny_bind (wpAny_pure (wpAny_pure h))
/-- every name of the written scope, in the scope that runs -/
theorem lookup_relS {sc : Scope} : ∀ {names : List (Str × NameKind)} {x : Str} {k : NameKind},
    (names.map fun (n, k) => if (k == NameKind.free && sc.kind == .function && sc.names.lookup n == some .cell) then (n, NameKind.cell) else (n, k)).lookup x = some k →
    ∃ k', names.lookup x = some k' ∧ (k = k' ∨ (k' = .free ∧ k = .cell))
  | [], _, _, h => by simp at h
  | (n, k₀) :: r, x, k, h => by
    have ih := @lookup_relS sc r x k
    have h' : List.lookup x ((if (k₀ == NameKind.free && sc.kind == .function && sc.names.lookup n == some .cell) = true then (n, NameKind.cell) else (n, k₀)) :: (r.map _)) = some k := h
    cases hx : x == n with
    | true =>
      simp only [List.lookup_cons, hx]
      by_cases hc : (k₀ == NameKind.free && sc.kind == .function && sc.names.lookup n == some .cell) = true
      · rw [if_pos hc] at h'
        simp only [List.lookup_cons, hx] at h'
        cases h'
        simp only [Bool.and_eq_true, beq_iff_eq] at hc
        exact ⟨k₀, rfl, .inr ⟨hc.1.1, rfl⟩⟩
      · rw [if_neg hc] at h'
        simp only [List.lookup_cons, hx] at h'
        cases h'
        exact ⟨_, rfl, .inl rfl⟩
    | false =>
      simp only [List.lookup_cons, hx]
      by_cases hc : (k₀ == NameKind.free && sc.kind == .function && sc.names.lookup n == some .cell) = true
      · rw [if_pos hc] at h'
        simp only [List.lookup_cons, hx] at h'
        exact ih h'
      · rw [if_neg hc] at h'
        simp only [List.lookup_cons, hx] at h'
        exact ih h'
/-- the names of a comprehension's block: its own (with their places in N), or captured -/
structure BlkOk (N : List Str) (sc scope : Scope) (own : List (Str × Nat)) : Prop where
  kind : scope.kind = .function
  uniq : ∀ y ∈ scope.names, scope.names.lookup y.1 = some y.2
  ix : ∀ p ∈ own, N[p.2]? = some p.1
  free : ∀ y ∈ scope.names, y.2 = .free → sc.names.lookup y.1 = some .cell ∨ sc.names.lookup y.1 = some .free
  own : ∀ y ∈ scope.names, y.2 = .local ∨ y.2 = .cell → y.1 ∈ own.map (·.1) ∨ y.1 ∉ N
/-- the slots of the block's own names forgotten -/
def wipe (σ : St) : List Nat → St
  | [] => σ
  | v :: vs => (wipe σ vs).set v none
theorem wipe_length (σ : St) : ∀ vs : List Nat, (wipe σ vs).length = σ.length
  | [] => rfl
  | v :: vs => by unfold wipe; rw [List.length_set, wipe_length σ vs]
theorem wipe_some {σ : St} {i : Nat} {x : V} : ∀ {vs : List Nat}, (wipe σ vs)[i]? = some (some x) → σ[i]? = some (some x) ∧ i ∉ vs
  | [], h => ⟨h, by simp⟩
  | v :: vs, h => by
    unfold wipe at h
    by_cases hi : v = i
    · subst hi
      by_cases hv : v < (wipe σ vs).length
      · rw [List.getElem?_set_self hv] at h; cases h
      · rw [List.getElem?_eq_none (by simpa using hv)] at h; cases h
    · rw [List.getElem?_set_ne hi] at h
      obtain ⟨h1, h2⟩ := wipe_some h
      exact ⟨h1, by simp only [List.mem_cons, not_or]; exact ⟨fun e => hi e.symm, h2⟩⟩
/-- the context of a block that starts at s, its iterator's objects at fp -/
abbrev Cx.blk (X : Cx) (s : Shared) (H : Hp) (scope : Scope) (cenv : Env) (fp : List Addr) : Cx := { X with s_0 := s, H_0 := H, env := cenv, outer := X.stack, ex := fp, fn := fun x => scope.names.lookup x == some .cell, pn := [], xe := fun _ _ => False }
section
variable {X : Cx} {pins : List (Addr × Obj)} {σ : St} {H : Hp} {s : Shared}
theorem block_start {scope : Scope} {own : List (Str × Nat)} {fp : List Addr} (I : Inv X pins σ H s) (ok : BlkOk X.N X.env.scope scope own) (hN : X.N.Nodup) (hfp : ∀ b ∈ fp, FpOk X pins H b ∧ b < s.heap.objs.size) :
    Inv (X.blk s H scope (compEnvC scope (cellsFrom (s.heap.objs.size + 1) scope.names (cloFrom X.env.cells scope.names [])) s.heap.objs.size X.env) fp) [] (wipe σ (own.map (·.2))) H { s with heap := pushCells (s.heap.push { cls := .type "dict", data := .dict #[] }) scope.names } := by
  have hfree : ∀ y ∈ scope.names, y.2 = .free → ∃ c, X.env.cells.lookup y.1 = some c := fun y hy e => by
    rcases ok.free y hy e with k | k
    · exact I.ok.has _ (.inl k)
    · exact I.ok.has _ (.inr k)
  generalize hcenv : compEnvC scope (cellsFrom (s.heap.objs.size + 1) scope.names (cloFrom X.env.cells scope.names [])) s.heap.objs.size X.env = cenv
  have kp : ∀ b o, s.heap.get? b = some o → (pushCells (s.heap.push { cls := .type "dict", data := .dict #[] }) scope.names).get? b = some o := fun b o e => pushCells_keeps _ _ _ _ (Heap.get?_push_of_some _ e)
  have hL : cenv.locals = s.heap.objs.size := by rw [← hcenv]; rfl
  have hcl : cenv.cells = cellsFrom (s.heap.objs.size + 1) scope.names (cloFrom X.env.cells scope.names []) := by rw [← hcenv]; rfl
  have hsc : cenv.scope = relS scope X.env.scope := by rw [← hcenv]; rfl
  rw [← Heap.size_push s.heap { cls := .type "dict", data := .dict #[] }] at hcl
  have cm : ∀ {y c}, (y, c) ∈ cloFrom X.env.cells scope.names [] → X.env.cells.lookup y = some c ∧ c < s.heap.objs.size := fun {y c} hm => by
    rcases cloFrom_mem hm with hm | ⟨h1, rfl⟩
    · cases hm
    · obtain ⟨c, hc⟩ := hfree _ h1 rfl
      rw [hc]
      obtain ⟨w, z⟩ := I.cell _ _ hc
      exact ⟨rfl, z.lt⟩
  have mem : ∀ {y c}, cenv.cells.lookup y = some c → (X.env.cells.lookup y = some c ∧ c < s.heap.objs.size) ∨ (s.heap.objs.size + 1 ≤ c ∧ CellAt (pushCells (s.heap.push { cls := .type "dict", data := .dict #[] }) scope.names) c none) := fun {y c} e => by
    rw [hcl] at e
    rcases cells_mem (PySem.mem_of_lookup e) with hm | ⟨_, h2, h3⟩
    · exact .inl (cm hm)
    · rw [Heap.size_push] at h2; exact .inr ⟨h2, h3⟩
  have look : ∀ {y}, scope.names.lookup y = some .free → ∃ c, cenv.cells.lookup y = some c ∧ X.env.cells.lookup y = some c := fun {y} hl => by
    have hy : (y, NameKind.free) ∈ scope.names := PySem.mem_of_lookup hl
    obtain ⟨c', e'⟩ := mem_lookup (cells_acc (names := scope.names) (n := (s.heap.push { cls := .type "dict", data := .dict #[] }).objs.size) (cloFrom_has (cells := X.env.cells) (acc := []) hy))
    rw [← hcl] at e'
    refine ⟨c', e', ?_⟩
    rw [hcl] at e'
    rcases cells_mem (PySem.mem_of_lookup e') with hm | ⟨h1, _, _⟩
    · exact (cm hm).1
    · have := ok.uniq _ h1
      rw [hl] at this; cases this
  have okB : (X.blk s H scope cenv fp).Ok := by
    refine ⟨I.ok.mod, by show cenv.scope.kind = _; rw [hsc]; exact ok.kind, by show cenv.globals = _; rw [← hcenv]; exact I.ok.glob, by show cenv.builtins = _; rw [← hcenv]; exact I.ok.blt, by show s.heap.objs.size ≤ cenv.locals; rw [hL]; exact Nat.le_refl _,
      fun y z c e1 e2 => ?_, fun y hy => ?_, fun y c z e => ?_, I.ok.hd, I.ok.frames, .inl rfl, fun b hb => ⟨?_, fun y c e z => ?_⟩, I.bs, Nat.le_trans I.ok.bsz I.sz, fun b o e hb => ?_, fun b hb z => ?_, I.stack, I.stkFree⟩
    · have e1 : cenv.cells.lookup y = some c := e1
      have e2 : cenv.cells.lookup z = some c := e2
      rw [hcl] at e1 e2
      refine cells_inj (fun p hp => ?_) (fun y z c a b => I.ok.inj y z c (cm a).1 (cm b).1) (PySem.mem_of_lookup e1) (PySem.mem_of_lookup e2)
      rw [Heap.size_push]
      exact Nat.lt_succ_of_lt (cm (y := p.1) (c := p.2) hp).2
    · show ∃ c, cenv.cells.lookup y = some c
      have key : ∀ k, cenv.kindOf y = some k → (k = .cell ∨ k = .free) → ∃ c, cenv.cells.lookup y = some c := fun k hk hk' => by
        unfold Env.kindOf at hk
        rw [hsc] at hk
        obtain ⟨k', e, r⟩ := lookup_relS hk
        have : k' = .cell ∨ k' = .free := by
          rcases r with rfl | ⟨rfl, _⟩
          · exact hk'
          · exact .inr rfl
        rcases this with rfl | rfl
        · obtain ⟨c, hm⟩ := cells_has (n := (s.heap.push { cls := .type "dict", data := .dict #[] }).objs.size) (acc := cloFrom X.env.cells scope.names []) (PySem.mem_of_lookup e)
          obtain ⟨c', e'⟩ := mem_lookup hm
          exact ⟨c', by rw [hcl]; exact e'⟩
        · obtain ⟨c, h1, _⟩ := look e
          exact ⟨c, h1⟩
      rcases hy with hy | hy
      · exact key _ hy (.inl rfl)
      · exact key _ hy (.inr rfl)
    · have z : (scope.names.lookup y == some NameKind.cell) = true := z
      have z : scope.names.lookup y = some .cell := by simpa using z
      have e : cenv.cells.lookup y = some c := e
      rw [hcl] at e
      rcases cells_mem (PySem.mem_of_lookup e) with hm | ⟨_, h2, _⟩
      · rcases cloFrom_mem hm with hm | ⟨h1, _⟩
        · cases hm
        · have q := ok.uniq _ h1
          rw [z] at q; cases q
      · rw [Heap.size_push] at h2
        exact Nat.le_of_succ_le h2
    · show b ≠ cenv.locals
      rw [hL]; exact Nat.ne_of_lt (hfp b hb).2
    · have e : cenv.cells.lookup y = some c := e
      rcases mem e with ⟨h1, _⟩ | ⟨h1, _⟩
      · exact (hfp b hb).1.2.2.2.2.1 y c h1 z
      · have h2 : s.heap.objs.size + 1 ≤ b := by rw [← z]; exact h1
        exact absurd (Nat.lt_of_lt_of_le (hfp b hb).2 (Nat.le_of_succ_le h2)) (Nat.lt_irrefl _)
    · rcases (hfp b hb).1.2.2.2.1 with z | z
      · exact I.ok.noex b o e z
      · exact absurd (Nat.lt_of_lt_of_le (Heap.lt_size e) (Nat.le_trans I.ok.bsz z)) (Nat.lt_irrefl _)
    · rcases List.mem_cons.mp (I.stkSub b z) with z | z
      · exact (hfp b hb).1.2.1 z
      · exact (hfp b hb).1.2.2.1 z
  refine ⟨okB, rfl, I.bare, Un.kept kp, ⟨fun _ => none, ?_, fun i y av e1 e2 e3 => ?_⟩, fun y c e => ?_, ?_, fun y c e => ?_, fun p hp => ?_, I.hok.kept kp, by rw [wipe_length]; exact I.len⟩
  · show Heap.Ns _ cenv.locals _
    rw [hL]
    exact Heap.Ns.keeps (Heap.Ns.new ..) fun b o e => pushCells_keeps _ _ _ _ e
  · obtain ⟨e2, hne⟩ := wipe_some e2
    have hfr : scope.names.lookup y = some .free ∧ (cenv.kindOf y = some .cell ∨ cenv.kindOf y = some .free) := by
      have key : ∀ k, cenv.scope.names.lookup y = some k → k = .local ∨ k = .cell ∨ k = .free → scope.names.lookup y = some .free ∧ (cenv.kindOf y = some .cell ∨ cenv.kindOf y = some .free) := fun k hk hk' => by
        have hk0 := hk
        rw [hsc] at hk
        obtain ⟨k', e, r⟩ := lookup_relS hk
        have no : ¬ (k' = .local ∨ k' = .cell) := fun hh => by
          rcases ok.own _ (PySem.mem_of_lookup e) hh with e' | e'
          · obtain ⟨p, hp, hpy⟩ := List.mem_map.mp e'
            have e3 := ok.ix p hp
            have : p.1 = y := hpy
            rw [this] at e3
            exact hne (List.mem_map.mpr ⟨p, hp, nodup_ix hN e3 e1⟩)
          · exact e' (List.mem_of_getElem? e1)
        rcases r with rfl | ⟨rfl, rfl⟩
        · rcases hk' with rfl | rfl | rfl
          · exact absurd (.inl rfl) no
          · exact absurd (.inr rfl) no
          · exact ⟨e, .inr hk0⟩
        · exact ⟨e, .inl hk0⟩
      have e3 : Vis cenv.scope y := e3
      rcases e3 with e3 | e3 | e3
      · exact key _ e3 (.inl rfl)
      · exact key _ e3 (.inr (.inl rfl))
      · exact key _ e3 (.inr (.inr rfl))
    obtain ⟨m, hn, hl⟩ := I.loc
    have hvis : Vis X.env.scope y := (ok.free _ (PySem.mem_of_lookup hfr.1) rfl).elim (fun k => .inr (.inl k)) (fun k => .inr (.inr k))
    obtain ⟨w, r, q⟩ := hl i y av e1 e2 hvis
    refine ⟨w, r, .inr ⟨hfr.2, ?_⟩⟩
    obtain ⟨c, h1, h2⟩ := look hfr.1
    rcases q with ⟨k, _⟩ | ⟨_, c', e', z⟩
    · have k : X.env.scope.names.lookup y = some .local := k
      rcases ok.free _ (PySem.mem_of_lookup hfr.1) rfl with k' | k' <;> rw [show X.env.scope.names.lookup y = _ from k'] at k <;> cases k
    · rw [h2] at e'; cases e'
      exact ⟨c, h1, z.keeps kp⟩
  · have e : cenv.cells.lookup y = some c := e
    rcases mem e with ⟨h1, _⟩ | ⟨_, z⟩
    · obtain ⟨w, z⟩ := I.cell y c h1
      exact ⟨w, z.keeps kp⟩
    · exact ⟨_, z⟩
  · show H cenv.locals = none
    rw [hL]; exact I.hok.fresh (Nat.le_refl _)
  · have e : cenv.cells.lookup y = some c := e
    rcases mem e with ⟨h1, _⟩ | ⟨h1, _⟩
    · exact I.freeC y c h1
    · exact I.hok.fresh (Nat.le_of_succ_le h1)
  · exact absurd (show p ∈ ([] : List (Addr × Obj)) ++ [] from hp) (by simp)
/-- an item appended to a tracked list -/
theorem app_ok {E : Value → Shared → Prop} {D : Addr} {xs : List V} {y : V} {v : Value} {Q : Value → Shared → Prop} (I : Inv X pins σ H s) (hD : H D = some (.lst xs)) (hz : xs.length < sizeLine) (r : RelV y v)
    (h : ∀ s', Inv X pins σ (upd H D (.lst (xs ++ [y]))) s' → Q .none s') : wpAny (model X.prog X.w) X.A (call (.builtin "list.append") [.ref D, v]) Q E s := by
  obtain ⟨hz', its, n, ri, e⟩ := I.hok D _ hD
  have hl := ri.length
  refine append_at (hsz := by rw [List.size_toArray]; omega) e fun h' sb ho' => ?_
  refine h { s with heap := h' } (I.write (t' := s.toks) (by rw [hD]; trivial) (.inl rfl) (fun b u hb q => (sb.2 b hb).trans q) ⟨_, ho'⟩ ⟨by rw [List.length_append]; exact hz, its ++ [v], n + 1, ri.append (.cons r .nil), ?_⟩)
  rw [ho']
  simp
/-- a clause's tests -/
def PTs (X : Cx) (ifs : List Expr) (t : TT) : Prop :=
  ∀ (pins : List (Addr × Obj)) (s : Shared) (σ : St) (H : Hp) (Q : Bool → Hp → Prop), Inv X pins σ H s → t σ H Q →
    wpAny (model X.prog X.w) X.A (forIn ifs true fun c r => if r = true then do let ok ← isTrue c X.env (eval c X.env); pure (ForInStep.yield ok) else pure (ForInStep.yield r)) (TP X pins σ Q) X.xe s
def tYes : TT := fun _ H Q => Q true H
theorem pts_nil : PTs X [] tYes := fun _ _ _ H _ I h => wpAny_tests_nil ⟨H, I, h⟩
theorem pts_one {c : Expr} {t : TT} (h : PT X c t) : PTs X [c] t := fun pins s σ H Q I hw => wpAny_tests_one (h pins s σ H Q I hw)
end
theorem thnF {α : Type} {t : Sem α} {Q Q' : α → Shared → Prop} {M : Model} {A : Around} {E : Value → Shared → Prop} {s : Shared} (h : wpAny M A t Q (fun _ _ => False) s) (hQ : ∀ a s, Q a s → Q' a s) : wpAny M A t Q' E s := wpAny_mono h hQ fun _ _ z => False.elim z
/-- the loop of a list comprehension's block, the target of any form (codeAny_compLoop_tests asks a target that no tuple goes to; statement and proof follow it, PyProof/CompMap.lean:41-61, with the step letOwnedTupleGo kept) -/
theorem compLoop_any {prog : Program} {w : World} {A : Around} {R : Result → Shared → Prop} {s : Shared} {elt target iter : Expr} {ifs : List Expr} {scope : Scope} {pos : Pos} {it acc : Value} {env : Env} (I : Nat → Shared → Prop)
    (turn : ∀ n s, I n s → wpAny (model prog w) A (pyNext it) (fun r s₁ => match r with
      | none => R (.ok .next) s₁
      | some v => wpAny (model prog w) A (letOwnedTupleGo target it v) (fun _ s₁' => wpAny (model prog w) A (assign target env v) (fun _ s₂ =>
          wpAny (model prog w) A (forIn ifs true fun c r => if r = true then do let ok ← isTrue c env (eval c env); pure (ForInStep.yield ok) else pure (ForInStep.yield r)) (fun ok s₃ =>
            if ok = true then wpAny (model prog w) A (eval elt env) (fun x s₄ =>
              wpAny (model prog w) A (call (.builtin "list.append") [acc, x]) (fun _ s₅ => ∃ m, m < n ∧ I m s₅) (notedBy (model prog w) A env fun e s' => R (.error e) s') s₄) (notedBy (model prog w) A env fun e s' => R (.error e) s') s₃
            else ∃ m, m < n ∧ I m s₃) (notedBy (model prog w) A env fun e s' => R (.error e) s') s₂) (notedBy (model prog w) A env fun e s' => R (.error e) s') s₁') (notedBy (model prog w) A env fun e s' => R (.error e) s') s₁) (notedBy (model prog w) A env fun e s' => R (.error e) s') s)
    (n : Nat) (h : I n s) :
    codeAny (model prog w) A (.compLoop (.ListComp elt [⟨target, iter, ifs, 0⟩] scope pos) 0 it acc env) R s := by
  refine codeAny_loop rfl I (fun n s hI => ?_) n h
  show wpAny _ A ((compTurn (.ListComp elt [⟨target, iter, ifs, 0⟩] scope pos) 0 it acc env).onRaise (fun x => do noteFrame x env; theTreesLotGoes x)) _ _ s
  refine wpAny_noted ?_
  rw [compTurn_list]
  refine wpAny_bind (wpAny_standAt (wpAny_bind (wpAny_mono (turn n s hI) (fun r s₁ h₁ => ?_) fun _ _ h' => h')))
  cases r with
  | none => exact wpAny_pure h₁
  | some v =>
    refine wpAny_bind (wpAny_mono h₁ (fun _ s₁' h₁' => ?_) fun _ _ h' => h')
    refine wpAny_bind (wpAny_mono h₁' (fun _ s₂ h₂ => wpAny_bind (wpAny_mono h₂ (fun ok s₃ h₃ => ?_) fun _ _ h' => h')) fun _ _ h' => h')
    cases ok with
    | false => exact wpAny_pure ⟨rfl, h₃⟩
    | true =>
      exact wpAny_bind (wpAny_bind (wpAny_mono h₃ (fun x s₄ h₄ => wpAny_bind (wpAny_mono h₄ (fun _ s₅ h₅ => wpAny_pure (wpAny_pure ⟨rfl, h₅⟩)) fun _ _ h' => h')) fun _ _ h' => h'))
section
variable {X : Cx}
/-- [elt for target in iter if ..]: D the new list; W by the turn and a measure, Nx what a turn is to reach -/
def tLc (wi : TI) (g : TG) (tt : TT) (te : TE) (vs : List Nat) : TE := fun σ H Q => wi σ H fun J H1 => ∀ D, H1 D = none → ∃ W : Nat → Nat → Hp → Prop, (∃ m, W 0 m (upd H1 D (.lst []))) ∧ ∀ i m H, W i m H →
  (J.stop i H ∧ Q (.ref D) H) ∨ (J.go i H ∧ ∃ Nx : Hp → Prop, (∀ H', Nx H' → ∃ m', m' < m ∧ W (i + 1) m' H') ∧ ∀ x H', J.yld i H x H' → g x (wipe σ vs) H' fun σ2 H2 => wipe σ2 vs = wipe σ vs ∧ tt σ2 H2 fun b H3 =>
    if b = true then te σ2 H3 fun y H4 => ∃ acc, H4 D = some (.lst acc) ∧ acc.length < sizeLine ∧ Nx (upd H4 D (.lst (acc ++ [y]))) else Nx H3)
theorem lc_core {pins : List (Addr × Obj)} {s : Shared} {σ : St} {H : Hp} {Q : VK} {elt tg iter : Expr} {ifs : List Expr} {scope : Scope} {own : List (Str × Nat)} {pos pos' : Pos} {wi : TI} {g : TG} {tt : TT} {te : TE} {use : Option (Value → Sem Unit)} {Qf : Value → Shared → Prop}
    (hc : X.calm = true) (hN : X.N.Nodup) (I : Inv X pins σ H s) (hi : PI X tg iter wi) (ok : BlkOk X.N X.env.scope scope own)
    (hg : ∀ (s : Shared) (H : Hp) (C : Addr) (cl : List (Str × Addr)) (fp : List Addr), PG (X.blk s H scope (compEnvC scope cl C X.env) fp) tg g) (ht : ∀ (s : Shared) (H : Hp) (C : Addr) (cl : List (Str × Addr)) (fp : List Addr), PTs (X.blk s H scope (compEnvC scope cl C X.env) fp) ifs tt)
    (he : ∀ (s : Shared) (H : Hp) (C : Addr) (cl : List (Str × Addr)) (fp : List Addr), PE (X.blk s H scope (compEnvC scope cl C X.env) fp) elt te) (hs : ∀ x, foldedSetIterable iter X.env x = pure x)
    (h : tLc wi g tt te (own.map (·.2)) σ H Q)
    (hRR : ∀ D C s' m H', Inv X pins σ H' s' → Q (.ref D) H' → s'.heap.Ns C m → FpOk X pins H' C → compPost (model X.prog X.w) X.A X.xe use Qf (.ref D) C (.ok .next) s') :
    wpAny (model X.prog X.w) X.A (comprehension (.ListComp elt [⟨tg, iter, ifs, 0⟩] scope pos) scope X.env pos' (newList []) false (eval iter X.env) use) Qf X.xe s := by
  have hfree : ∀ y ∈ scope.names, y.2 = .free → ∃ c, X.env.cells.lookup y.1 = some c := fun y hy e => by
    rcases ok.free y hy e with k | k
    · exact I.ok.has _ (.inl k)
    · exact I.ok.has _ (.inr k)
  refine wpAny_comprehension_free (use := use) rfl hs (closure_ok hfree) ok.kind (fun y hy e => by rw [ok.uniq y hy, e])
    (thn (hi pins s σ H _ I h) fun xv s1 hx => thn hx fun itv s2 h2 => ?_)
  obtain ⟨it, fp, tn, J, H2, e, I2, T, st2, f2, q⟩ := h2
  subst e
  refine wpAny_newObj_type (newEnv_comp ?_) (by show 0 ≤ sizeLine; decide)
  generalize hD : s2.heap.objs.size = D
  have hDn : H2 D = none := I2.hok.fresh (Nat.le_of_eq hD)
  obtain ⟨W, ⟨m0, w0⟩, turn⟩ := q D hDn
  -- the new list
  generalize hs3 : ({ s2 with heap := s2.heap.push { cls := .type "list", data := .seq ([] : List Value).toArray } } : Shared) = s3
  have I3 : Inv X pins σ (upd H2 D (.lst [])) s3 := by
    rw [← hs3]
    refine I2.laid (t' := s2.toks) (fun b o e => Heap.get?_push_of_some _ e) (Nat.le_of_eq hD) ⟨Nat.zero_le _, [], 0, .nil, ?_⟩
    rw [← hD]
    exact Heap.get?_push_size _ rfl
  have h3 : s3.heap = s2.heap.push { cls := .type "list", data := .seq ([] : List Value).toArray } := by rw [← hs3]
  have sz : ∀ b ∈ fp, b < s2.heap.objs.size := fun b hb => by
    obtain ⟨o, e, _⟩ := T.obj _ _ st2 b hb
    exact Heap.lt_size e
  have f3 : ∀ b ∈ fp, FpOk X pins (upd H2 D (.lst [])) b ∧ b < s3.heap.objs.size := fun b hb => by
    have hlt := sz b hb
    refine ⟨⟨?_, (f2 b hb).2⟩, by rw [h3, Heap.size_push]; exact Nat.lt_succ_of_lt hlt⟩
    rw [upd_ne (by rw [← hD]; exact Nat.ne_of_lt hlt)]
    exact (f2 b hb).1
  have st3 : tn 0 s3.heap := T.keep _ _ _ st2 fun b _ o e => by rw [h3]; exact Heap.get?_push_of_some _ e
  have I4 := block_start I3 ok hN f3
  have pg := hg s3 (upd H2 D (.lst [])) s3.heap.objs.size (cellsFrom (s3.heap.objs.size + 1) scope.names (cloFrom X.env.cells scope.names [])) fp
  have pt := ht s3 (upd H2 D (.lst [])) s3.heap.objs.size (cellsFrom (s3.heap.objs.size + 1) scope.names (cloFrom X.env.cells scope.names [])) fp
  have pe := he s3 (upd H2 D (.lst [])) s3.heap.objs.size (cellsFrom (s3.heap.objs.size + 1) scope.names (cloFrom X.env.cells scope.names [])) fp
  show codeAny _ _ (.compStart (.ListComp elt [⟨tg, iter, ifs, 0⟩] scope pos) 0 (.ref it) (.ref D) (compEnvC scope (cellsFrom (s3.heap.objs.size + 1) scope.names (cloFrom X.env.cells scope.names [])) s3.heap.objs.size X.env)) (compPost (model X.prog X.w) X.A X.xe use Qf (.ref D) s3.heap.objs.size) { s3 with heap := pushCells (s3.heap.push { cls := .type "dict", data := .dict #[] }) scope.names }
  have nfp : ∀ b ∈ fp, (upd H2 D (.lst [])) b = none := fun b hb => (f3 b hb).1.1
  generalize hce : compEnvC scope (cellsFrom (s3.heap.objs.size + 1) scope.names (cloFrom X.env.cells scope.names [])) s3.heap.objs.size X.env = ce at I4 pg pt pe ⊢
  have cL : ce.locals = s3.heap.objs.size := by subst hce; rfl
  generalize hH3 : upd H2 D (.lst []) = H3 at I3 I4 pg pt pe w0 nfp f3
  generalize hs4 : ({ s3 with heap := pushCells (s3.heap.push { cls := .type "dict", data := .dict #[] }) scope.names } : Shared) = s4 at I4 ⊢
  have st4 : tn 0 s4.heap := T.keep _ _ _ st3 fun b _ o e => by rw [← hs4]; exact pushCells_keeps _ _ _ _ (Heap.get?_push_of_some _ e)
  have stat : ∀ {σ' : St} {H' : Hp} {s' : Shared}, Inv (X.blk s3 H3 scope ce fp) [] σ' H' s' → (∀ b ∈ fp, H' b = none) → ∀ b ∈ fp, FpOk (X.blk s3 H3 scope ce fp) [] H' b := fun {σ' H' s'} I' hn b hb =>
    ⟨hn b hb, (I'.ok.exf b hb).1, I'.ok.exfs b hb, .inl hb, fun x c e => (I'.ok.exf b hb).2 x c e, fun p hp => absurd (show p ∈ ([] : List (Addr × Obj)) ++ [] from hp) (by simp)⟩
  have loop : codeAny (model X.prog X.w) X.A (.compLoop (.ListComp elt [⟨tg, iter, ifs, 0⟩] scope pos) 0 (.ref it) (.ref D) ce) (compPost (model X.prog X.w) X.A X.xe use Qf (.ref D) s3.heap.objs.size) s4 := by
    refine compLoop_any (fun n s' => ∃ i H', Inv (X.blk s3 H3 scope ce fp) [] (wipe σ (own.map (·.2))) H' s' ∧ tn i s'.heap ∧ (∀ b ∈ fp, H' b = none) ∧ W i n H') ?_ m0 ⟨0, H3, I4, st4, nfp, w0⟩
    rintro n s5 ⟨i, H5, I5, st5, n5, w5⟩
    rcases turn i n H5 w5 with ⟨stop, qq⟩ | ⟨go, Nx, hNx, step⟩
    · have td := T.done (X.blk s3 H3 scope ce fp) rfl rfl rfl hc i [] s5 _ H5 (fun _ _ => False) I5 (stat I5 n5) st5 stop
      refine thnF td fun r s6 ⟨hr, I6⟩ => ?_
      subst hr
      -- back in the def's context
      have I7 : Inv X pins σ H5 s6 := I3.call' (ch := fp) I6.os I6.base I6.hok I6.bare fun b hb => ⟨(f3 b hb).1.2.2.2.1, (f3 b hb).1.2.1, (f3 b hb).1.2.2.2.2.1, (f3 b hb).1.2.2.2.2.2⟩
      have nC : H5 s3.heap.objs.size = none := by
        have z : H5 ce.locals = none := I6.free
        rw [cL] at z
        exact z
      obtain ⟨m, hn, _⟩ := I6.loc
      have hn : s6.heap.Ns ce.locals m := hn
      rw [cL] at hn
      exact hRR D s3.heap.objs.size s6 m H5 I7 qq hn (I3.fpOk (Nat.le_refl _) nC)
    · have ti := T.item (X.blk s3 H3 scope ce fp) rfl rfl rfl hc i [] s5 _ H5 (fun _ _ => False) I5 (stat I5 n5) st5 go
      refine thnF ti fun r s6 ⟨u, hr, h6⟩ => ?_
      subst hr
      refine thnF h6 fun _ s7 ⟨x, H7, I7, r7, y7, st7, n7⟩ => ?_
      have I7' := I7.pinned (stat I7 n7) (T.obj _ _ st7)
      refine thnF (pg _ s7 _ H7 x u _ I7' r7 (step x H7 y7)) fun _ s8 ⟨σ8, H8, I8, hw8, q8⟩ => ?_
      refine thnF (pt _ s8 σ8 H8 _ I8 q8) fun b s9 ⟨H9, I9, q9⟩ => ?_
      -- the turn's end
      have fin : ∀ {s' : Shared} {H' : Hp}, Inv (X.blk s3 H3 scope ce fp) ([] ++ pinsAt fp s7.heap) σ8 H' s' → Nx H' → ∃ m, m < n ∧ ∃ i H', Inv (X.blk s3 H3 scope ce fp) [] (wipe σ (own.map (·.2))) H' s' ∧ tn i s'.heap ∧ (∀ b ∈ fp, H' b = none) ∧ W i m H' := fun {s' H'} I' nx => by
        obtain ⟨m', hm, w'⟩ := hNx H' nx
        have pin' : ∀ b ∈ fp, ∀ o, s7.heap.get? b = some o → s'.heap.get? b = some o ∧ H' b = none := fun b hb o e =>
          let z := I'.pin (b, o) (List.mem_append_right _ (List.mem_append_right _ (mem_pinsAt hb e)))
          ⟨z.1, z.2.1⟩
        have hl : (wipe σ (own.map (·.2))).length = σ8.length := by rw [← hw8, wipe_length]
        refine ⟨m', hm, i + 1, H', (I'.unpinned (pins := [])).weak hl (fun j v e => ?_), T.keep _ _ _ st7 fun b hb o e => (pin' b hb o e).1, fun b hb => ?_, w'⟩
        · rw [← hw8] at e
          exact (wipe_some e).1
        · obtain ⟨o, e, _⟩ := T.obj _ _ st7 b hb
          exact (pin' b hb o e).2
      cases b with
      | false =>
        simp only [Bool.false_eq_true, if_false] at q9 ⊢
        exact fin I9 q9
      | true =>
        simp only [if_true] at q9 ⊢
        refine thnF (pe _ s9 σ8 H9 _ I9 q9) fun z s10 ⟨yv, H10, I10, r10, acc, hD10, hz10, nx⟩ => ?_
        exact app_ok (X := X.blk s3 H3 scope ce fp) I10 hD10 hz10 r10 fun s11 I11 => fin I11 nx
  exact codeAny_compStart_list loop (T.self X.A 0 _ _ _ st4 loop)
/-- as a value -/
theorem pe_lc {elt tg iter : Expr} {ifs : List Expr} {scope : Scope} {own : List (Str × Nat)} {pos : Pos} {wi : TI} {g : TG} {tt : TT} {te : TE} (hc : X.calm = true) (hN : X.N.Nodup) (hi : PI X tg iter wi) (ok : BlkOk X.N X.env.scope scope own)
    (hg : ∀ (s : Shared) (H : Hp) (C : Addr) (cl : List (Str × Addr)) (fp : List Addr), PG (X.blk s H scope (compEnvC scope cl C X.env) fp) tg g) (ht : ∀ (s : Shared) (H : Hp) (C : Addr) (cl : List (Str × Addr)) (fp : List Addr), PTs (X.blk s H scope (compEnvC scope cl C X.env) fp) ifs tt)
    (he : ∀ (s : Shared) (H : Hp) (C : Addr) (cl : List (Str × Addr)) (fp : List Addr), PE (X.blk s H scope (compEnvC scope cl C X.env) fp) elt te) (hs : ∀ x, foldedSetIterable iter X.env x = pure x := by intro _; rfl) :
    PE X (.ListComp elt [⟨tg, iter, ifs, 0⟩] scope pos) (tLc wi g tt te (own.map (·.2))) := by
  intro pins s σ H Q I h
  rw [eval_ListComp]
  refine lc_core hc hN I hi ok hg ht he hs h fun D C s' m H' I' q hn f => ⟨m, hn, fun h'' sb => ?_⟩
  obtain ⟨f0, f1, f2, f3, f4, f5⟩ := f
  exact ⟨.ref D, H', I'.turned (t' := s'.toks) (fun b o hb e => (sb.2 b hb).trans e) f0 f1 f3 f4 f5, rfl, q⟩
/-- name = [..] on one line, the name a local -/
theorem ps_setLc {i : Nat} {y : Str} {py : Pos} {elt tg iter : Expr} {ifs : List Expr} {scope : Scope} {own : List (Str × Nat)} {pos spos : Pos} {wi : TI} {g : TG} {tt : TT} {te : TE} (hc : X.calm = true) (hN : X.N.Nodup) (hy : X.N[i]? = some y) (hyl : X.env.scope.names.lookup y = some .local)
    (hsw : swapsWith (.ListComp elt [⟨tg, iter, ifs, 0⟩] scope pos) (some (.Name y py)) spos.line X.env = pure true) (hi : PI X tg iter wi) (ok : BlkOk X.N X.env.scope scope own)
    (hg : ∀ (s : Shared) (H : Hp) (C : Addr) (cl : List (Str × Addr)) (fp : List Addr), PG (X.blk s H scope (compEnvC scope cl C X.env) fp) tg g) (ht : ∀ (s : Shared) (H : Hp) (C : Addr) (cl : List (Str × Addr)) (fp : List Addr), PTs (X.blk s H scope (compEnvC scope cl C X.env) fp) ifs tt)
    (he : ∀ (s : Shared) (H : Hp) (C : Addr) (cl : List (Str × Addr)) (fp : List Addr), PE (X.blk s H scope (compEnvC scope cl C X.env) fp) elt te) (hs : ∀ x, foldedSetIterable iter X.env x = pure x := by intro _; rfl) :
    PS X (.Assign [.Name y py] (.ListComp elt [⟨tg, iter, ifs, 0⟩] scope pos) spos) (tAsg (tLc wi g tt te (own.map (·.2))) (gName i)) := by
  intro pins s σ H D I h
  rw [exec_Assign_Name_used _ _ _ _ hsw]
  refine wpAny_bind (wpAny_standAt (wpAny_bind ?_))
  show wpAny _ X.A (do let _ ← comprehension (.ListComp elt [⟨tg, iter, ifs, 0⟩] scope pos) scope X.env (firstIterPos [⟨tg, iter, ifs, 0⟩] pos) (newList []) false (eval iter X.env) (some (assign (.Name y py) X.env))) _ _ s
  have h : tLc wi g tt te (own.map (·.2)) σ H (fun x H1 => gName i x σ H1 D.nx) := h
  refine wpAny_bind (thn (lc_core (Qf := fun _ s' => SP X pins D .next s') hc hN I hi ok hg ht he hs h fun L C s' m H' I' q hn f => ?_) fun _ s' hq => wpAny_pure (wpAny_pure hq))
  show wpAny _ _ (assign (.Name y py) X.env (.ref L)) _ _ _
  refine wpAny_assign_Name (store_ok2 (v := V.ref L) I' hN hy (.inl hyl) rfl (fun s2 I2 ⟨a, sb, ha⟩ => ?_) (.inr hyl))
  obtain ⟨f0, f1, f2, f3, f4, f5⟩ := f
  have haC : C ≠ a := by
    rcases ha with z | z
    · rw [z]; exact f1
    · exact fun e => f4 y a z e.symm
  refine ⟨m, hn.sameBut sb haC, fun h3 sb3 => ?_⟩
  exact ⟨_, H', I2.turned (t' := s2.toks) (fun b o hb e => (sb3.2 b hb).trans e) f0 f1 f3 f4 f5, q⟩
theorem sw_true {elt : Expr} {gs : List Comprehension} {scope : Scope} {pos py : Pos} {y : Str} {l : Nat} {env : Env} (hk : env.scope.kind = .function) (hy : env.scope.names.lookup y = some .local) (hl : (py.line == pos.line) = true)
    (ha : (scope.names.any fun (n, k) => n == y && (k == .local || k == .cell)) = false) : swapsWith (.ListComp elt gs scope pos) (some (.Name y py)) l env = pure true := by
  have ky : env.kindOf y = some .local := hy
  have hb : env.blockKind = .function := by unfold Env.blockKind; rw [hk]; rfl
  unfold swapsWith
  simp only [hb, ky, ha, Expr.pos, hl]
  rfl
end
/-! ### the forms one uses -/
/-- over a range: Pv by the turn and the heap (the new list at D within) -/
theorem lc_range {lo : Int} {n : Nat} {g : TG} {tt : TT} {te : TE} {vs : List Nat} {σ : St} {H1 : Hp} {D : Addr} {Qd : Hp → Prop} (Pv : Nat → Hp → Prop) (h0 : Pv 0 (upd H1 D (.lst [])))
    (hs : ∀ i H, i < n → Pv i H → g (.int (lo + i)) (wipe σ vs) H fun σ2 H2 => wipe σ2 vs = wipe σ vs ∧ tt σ2 H2 fun b H3 =>
      if b = true then te σ2 H3 fun y H4 => ∃ acc, H4 D = some (.lst acc) ∧ acc.length < sizeLine ∧ Pv (i + 1) (upd H4 D (.lst (acc ++ [y]))) else Pv (i + 1) H3) (hd : ∀ H, Pv n H → Qd H) :
    ∃ W : Nat → Nat → Hp → Prop, (∃ m, W 0 m (upd H1 D (.lst []))) ∧ ∀ i m H, W i m H →
      ((Itr lo n).stop i H ∧ Qd H) ∨ ((Itr lo n).go i H ∧ ∃ Nx : Hp → Prop, (∀ H', Nx H' → ∃ m', m' < m ∧ W (i + 1) m' H') ∧ ∀ x H', (Itr lo n).yld i H x H' → g x (wipe σ vs) H' fun σ2 H2 => wipe σ2 vs = wipe σ vs ∧ tt σ2 H2 fun b H3 =>
        if b = true then te σ2 H3 fun y H4 => ∃ acc, H4 D = some (.lst acc) ∧ acc.length < sizeLine ∧ Nx (upd H4 D (.lst (acc ++ [y]))) else Nx H3) := by
  refine ⟨fun i m H => m = n - i ∧ i ≤ n ∧ Pv i H, ⟨n, by simp, Nat.zero_le _, h0⟩, ?_⟩
  rintro i m H ⟨rfl, hi, p⟩
  by_cases hlt : i < n
  · refine .inr ⟨hlt, Pv (i + 1), fun H' p' => ⟨n - (i + 1), by omega, rfl, hlt, p'⟩, fun x H' y => ?_⟩
    obtain ⟨e, y⟩ := y
    subst e y
    exact hs i _ hlt p
  · have e : i = n := by omega
    subst e
    exact .inl ⟨Nat.le_refl _, hd H p⟩
/-- over a list that the block leaves as it is -/
theorem lc_list {K : PySem.W.Frag} {a : Addr} {xs : List V} {g : TG} {tt : TT} {te : TE} {vs : List Nat} {σ : St} {H1 : Hp} {D : Addr} {Qd : Hp → Prop} (Pv : Nat → Hp → Prop) (h0 : Pv 0 (upd H1 D (.lst []))) (hl : ∀ i H, i ≤ xs.length → Pv i H → SqL K H a xs)
    (hs : ∀ i x H, xs[i]? = some x → Pv i H → g x (wipe σ vs) H fun σ2 H2 => wipe σ2 vs = wipe σ vs ∧ tt σ2 H2 fun b H3 =>
      if b = true then te σ2 H3 fun y H4 => ∃ acc, H4 D = some (.lst acc) ∧ acc.length < sizeLine ∧ Pv (i + 1) (upd H4 D (.lst (acc ++ [y]))) else Pv (i + 1) H3) (hd : ∀ H, Pv xs.length H → Qd H) :
    ∃ W : Nat → Nat → Hp → Prop, (∃ m, W 0 m (upd H1 D (.lst []))) ∧ ∀ i m H, W i m H →
      ((Itl K a).stop i H ∧ Qd H) ∨ ((Itl K a).go i H ∧ ∃ Nx : Hp → Prop, (∀ H', Nx H' → ∃ m', m' < m ∧ W (i + 1) m' H') ∧ ∀ x H', (Itl K a).yld i H x H' → g x (wipe σ vs) H' fun σ2 H2 => wipe σ2 vs = wipe σ vs ∧ tt σ2 H2 fun b H3 =>
        if b = true then te σ2 H3 fun y H4 => ∃ acc, H4 D = some (.lst acc) ∧ acc.length < sizeLine ∧ Nx (upd H4 D (.lst (acc ++ [y]))) else Nx H3) := by
  refine ⟨fun i m H => m = xs.length - i ∧ i ≤ xs.length ∧ Pv i H, ⟨xs.length, by simp, Nat.zero_le _, h0⟩, ?_⟩
  rintro i m H ⟨rfl, hi, p⟩
  have q := hl i H hi p
  by_cases hlt : i < xs.length
  · refine .inr ⟨⟨xs, xs[i], q, by simp [hlt]⟩, Pv (i + 1), fun H' p' => ⟨xs.length - (i + 1), by omega, rfl, hlt, p'⟩, fun x H' y => ?_⟩
    obtain ⟨e, y⟩ := y
    subst e
    exact hs i x _ (y xs q) p
  · have e : i = xs.length := by omega
    subst e
    exact .inl ⟨⟨xs, q, Nat.le_refl _⟩, hd H p⟩
def blkC (N : List Str) (sc scope : Scope) (own : List (Str × Nat)) : Bool :=
  (match scope.kind with | .function => true | _ => false) && (scope.names.all fun y => decide (scope.names.lookup y.1 = some y.2)) && (own.all fun p => decide (N[p.2]? = some p.1)) &&
    (scope.names.all fun y => match y.2 with
      | .free => (match sc.names.lookup y.1 with | some .cell => true | some .free => true | _ => false)
      | .local => decide (y.1 ∈ own.map (·.1)) || decide (y.1 ∉ N)
      | .cell => decide (y.1 ∈ own.map (·.1)) || decide (y.1 ∉ N)
      | _ => true)
theorem blkOk_by {N : List Str} {sc scope : Scope} {own : List (Str × Nat)} (h : blkC N sc scope own = true) : BlkOk N sc scope own := by
  unfold blkC at h
  simp only [Bool.and_eq_true, List.all_eq_true, decide_eq_true_eq] at h
  obtain ⟨⟨⟨h1, h2⟩, h3⟩, h4⟩ := h
  refine ⟨?_, h2, h3, fun y hy e => ?_, fun y hy e => ?_⟩
  · split at h1
    · assumption
    · cases h1
  · have q := h4 y hy
    simp only [e] at q
    split at q <;> first | exact .inl (by assumption) | exact .inr (by assumption) | cases q
  · have q := h4 y hy
    rcases e with e | e <;> (simp only [e, Bool.or_eq_true, decide_eq_true_eq] at q; exact q)
end L2
namespace L2
open PySem PySem.Spec PyProof.Rows
section
variable {prog : Program} {w : World} {A : Around} {R : Result → Shared → Prop} {s : Shared} {elt t0 i0 t1 i1 : Expr} {ifs0 ifs1 : List Expr} {scope : Scope} {pos : Pos} {it acc : Value} {env : Env}
end
section
variable {X : Cx}
end
end L2
namespace L2
open PySem PySem.Spec PyProof.Rows
/-! ### lists of pairs as tables -/
section
variable {κ : Type} [DecidableEq κ]
def valV (kvs : List (κ × V)) (k : κ) : Option V := (kvs.find? fun kv => decide (kv.1 = k)).map (·.2)
/-- in its place, or at the end -/
def putK (kvs : List (κ × V)) (k : κ) (v : V) : List (κ × V) :=
  if (kvs.any fun kv => decide (kv.1 = k)) = true then kvs.map (fun kv => if kv.1 = k then (kv.1, v) else kv) else kvs ++ [(k, v)]
def dropK (kvs : List (κ × V)) (k : κ) : List (κ × V) := kvs.filter fun kv => decide (kv.1 ≠ k)
theorem valV_pos {p : κ × V} {r : List (κ × V)} {k : κ} (e : p.1 = k) : valV (p :: r) k = some p.2 := by simp [valV, List.find?_cons, e]
theorem valV_neg {p : κ × V} {r : List (κ × V)} {k : κ} (e : ¬ p.1 = k) : valV (p :: r) k = valV r k := by simp [valV, List.find?_cons, e]
theorem valV_any (k : κ) : ∀ kvs : List (κ × V), (kvs.any fun kv => decide (kv.1 = k)) = (valV kvs k).isSome
  | [] => rfl
  | p :: r => by
    rw [List.any_cons]
    by_cases e : p.1 = k
    · simp only [valV_pos e, decide_eq_true e, Bool.true_or, Option.isSome_some]
    · rw [valV_neg e, decide_eq_false e, Bool.false_or]; exact valV_any k r
theorem length_putK (kvs : List (κ × V)) (k : κ) (v : V) : (putK kvs k v).length ≤ kvs.length + 1 := by
  unfold putK
  split
  · rw [List.length_map]; omega
  · rw [List.length_append, List.length_cons, List.length_nil]; omega
theorem putK_new {kvs : List (κ × V)} {k : κ} (v : V) (h : valV kvs k = none) : putK kvs k v = kvs ++ [(k, v)] := by
  unfold putK
  rw [valV_any, h]
  exact if_neg (by decide)
theorem RelO.isSome_eq {o : Option V} {u : Option Value} (r : RelO o u) : o.isSome = u.isSome := by
  cases o with
  | none => cases u with
    | none => rfl
    | some _ => exact (show False from r).elim
  | some _ => cases u with
    | none => exact (show False from r).elim
    | some _ => rfl
theorem RelO.getD {o : Option V} {u : Option Value} {d : V} {d' : Value} (r : RelO o u) (rd : RelV d d') : RelV (o.getD d) (u.getD d') := by
  cases o with
  | none => cases u with
    | none => exact rd
    | some _ => exact (show False from r).elim
  | some _ => cases u with
    | none => exact (show False from r).elim
    | some _ => exact r
/-- raw tables of the same keys -/
theorem KV.val {kvs : List (κ × V)} {vs : List (κ × Value)} (r : KV kvs vs) (k : κ) : RelO (valV kvs k) (valueAt vs k) := by
  unfold KV at r
  induction r with
  | nil => exact True.intro
  | @cons p q ps qs h t ih =>
    obtain ⟨h1, h2⟩ := h
    by_cases e : p.1 = k
    · have e' : q.1 = k := h1.symm.trans e
      have b : valueAt (q :: qs) k = some q.2 := by simp [valueAt, List.find?_cons, e']
      rw [valV_pos e, b]; exact h2
    · have e' : ¬ q.1 = k := fun z => e (h1.trans z)
      have b : valueAt (q :: qs) k = valueAt qs k := by simp [valueAt, List.find?_cons, e']
      rw [valV_neg e, b]; exact ih
theorem KV.any {kvs : List (κ × V)} {vs : List (κ × Value)} (r : KV kvs vs) (k : κ) : (kvs.any fun kv => decide (kv.1 = k)) = vs.any fun kv => decide (kv.1 = k) := by
  unfold KV at r
  induction r with
  | nil => rfl
  | cons h t ih => rw [List.any_cons, List.any_cons, ih, h.1]
theorem KV.repl {kvs : List (κ × V)} {vs : List (κ × Value)} (r : KV kvs vs) (k : κ) {y : V} {u : Value} (ry : RelV y u) :
    KV (kvs.map fun kv => if kv.1 = k then (kv.1, y) else kv) (vs.map fun kv => if kv.1 = k then (kv.1, u) else kv) := by
  unfold KV at r ⊢
  induction r with
  | nil => exact .nil
  | @cons p q ps qs h t ih =>
    rw [List.map_cons, List.map_cons]
    refine .cons ?_ ih
    obtain ⟨h1, h2⟩ := h
    by_cases e : p.1 = k
    · rw [if_pos e, if_pos (h1.symm.trans e)]; exact ⟨h1, ry⟩
    · rw [if_neg e, if_neg (fun z => e (h1.trans z))]; exact ⟨h1, h2⟩
theorem KV.put {kvs : List (κ × V)} {vs : List (κ × Value)} (r : KV kvs vs) (k : κ) {y : V} {u : Value} (ry : RelV y u) : KV (putK kvs k y) (stored vs k u) := by
  unfold putK stored
  rw [r.any k]
  by_cases e : (vs.any fun kv => decide (kv.1 = k)) = true
  · rw [if_pos e, if_pos e]; exact r.repl k ry
  · rw [if_neg e, if_neg e]; exact Paired.snoc r ⟨rfl, ry⟩
theorem KV.length {kvs : List (κ × V)} {vs : List (κ × Value)} (r : KV kvs vs) : kvs.length = vs.length := Paired.length r
theorem dropK_le (kvs : List (κ × V)) (k : κ) : (dropK kvs k).length ≤ kvs.length := List.length_filter_le _ _
end
/-! ### a tracked dict, its keys ints and texts or tuples of these -/
theorem kV_is {P : Program} {w : World} {k : Key} {u : Value} (r : RelV (kV k) u) : (mixKind P w).is k u = true := by
  cases k with
  | inl i => obtain ⟨t, e⟩ := (show ∃ t, u = Value.int i t from r); subst e; exact mixKind_int P w i t
  | inr x => obtain ⟨t, e⟩ := (show ∃ t, u = Value.str x t from r); subst e; exact mixKind_str P w x t
theorem items_are {P : Program} {w : World} : ∀ {ks : List Key} {us : List Value}, Vals (ks.map kV) us → ItemsAre (mixKind P w) ks us
  | [], _, r => by rw [List.map_nil] at r; cases r; exact .nil
  | k :: ks, _, r => by
    rw [List.map_cons] at r
    cases r with
    | cons h t => exact .cons (kV_is h) (items_are t)
/-- raw entries of a dict with tuple keys -/
abbrev KT (H : Hp) : List (List Key × V) → List (List Key × Addr × Value) → Prop := Paired fun p q => p.1 = q.1 ∧ H q.2.1 = some (.tup (p.1.map kV)) ∧ RelV p.2 q.2.2
theorem KT.val {H : Hp} {kvs : List (List Key × V)} {xs : List (List Key × Addr × Value)} (r : KT H kvs xs) (k : List Key) : RelO (valV kvs k) ((atKey xs k).map (·.2)) := by
  induction r with
  | nil => exact True.intro
  | @cons p q ps qs h t ih =>
    obtain ⟨h1, _, h2⟩ := h
    by_cases e : p.1 = k
    · have e' : q.1 = k := h1.symm.trans e
      have b : atKey (q :: qs) k = some q.2 := by simp [atKey, List.find?_cons, e']
      rw [valV_pos e, b]; exact h2
    · have e' : ¬ q.1 = k := fun z => e (h1.trans z)
      have b : atKey (q :: qs) k = atKey qs k := by simp [atKey, List.find?_cons, e']
      rw [valV_neg e, b]; exact ih
theorem KT.repl {H : Hp} {kvs : List (List Key × V)} {xs : List (List Key × Addr × Value)} (r : KT H kvs xs) (k : List Key) {y : V} {u : Value} (ry : RelV y u) :
    KT H (kvs.map fun kv => if kv.1 = k then (kv.1, y) else kv) (xs.map (putAt k u)) := by
  induction r with
  | nil => exact .nil
  | @cons p q ps qs h t ih =>
    rw [List.map_cons, List.map_cons]
    refine .cons ?_ ih
    obtain ⟨h1, h2, h3⟩ := h
    unfold putAt
    by_cases e : p.1 = k
    · rw [if_pos e, if_pos (h1.symm.trans e)]; exact ⟨h1, h2, ry⟩
    · rw [if_neg e, if_neg (fun z => e (h1.trans z))]; exact ⟨h1, h2, h3⟩
theorem KT.put {H : Hp} {kvs : List (List Key × V)} {xs : List (List Key × Addr × Value)} (r : KT H kvs xs) (k : List Key) {b : Addr} {y : V} {u : Value} (hb : H b = some (.tup (k.map kV))) (ry : RelV y u) :
    KT H (putK kvs k y) (storedH xs k b u) := by
  have e : (kvs.any fun kv => decide (kv.1 = k)) = (atKey xs k).isSome := by
    rw [valV_any, (r.val k).isSome_eq, Option.isSome_map]
  unfold putK storedH
  rw [e]
  by_cases q : (atKey xs k).isSome = true
  · rw [if_pos q, if_pos q]; exact r.repl k ry
  · rw [if_neg q, if_neg q]; exact Paired.snoc r ⟨rfl, hb, ry⟩
theorem KT.keeps {H H' : Hp} {kvs : List (List Key × V)} {xs : List (List Key × Addr × Value)} (r : KT H kvs xs) (ht : ∀ b ys, H b = some (.tup ys) → H' b = some (.tup ys)) : KT H' kvs xs :=
  Paired.mapP r fun _ _ z => ⟨z.1, ht _ _ z.2.1, z.2.2⟩
section
variable {P : Program} {w : World} {H : Hp} {h : Heap} {a : Addr}
theorem rd_of {u : HO} (ok : HOk P w H h) (e : Rd H a u) : ObjOk P w H h a u := e.ok ok
theorem dk_rd {kvs : List (Key × V)} (ok : HOk P w H h) (e : Rd H a (.dK kvs)) : kvs.length ≤ sizeLine ∧ (a == sysModules) = false ∧ ∃ vs, KV kvs vs ∧ h.DictOf (mixKind P w) a vs :=
  show ObjOk P w H h a (.dK kvs) from rd_of ok e
theorem dk_of {kvs : List (Key × V)} (ok : HOk P w H h) (e : H a = some (.dK kvs)) : kvs.length ≤ sizeLine ∧ (a == sysModules) = false ∧ ∃ vs, KV kvs vs ∧ h.DictOf (mixKind P w) a vs := dk_rd ok (.inl e)
/-- a tracked tuple of ints and texts is a key -/
theorem key_of {ks : List Key} (ok : HOk P w H h) (e : H a = some (.tup (ks.map kV))) : (tupleKind (mixKind P w)).is h ks a := by
  obtain ⟨_, its, r, o, h1, h2, n, h3⟩ := (show ObjOk P w H h a (.tup (ks.map kV)) from ok a _ e)
  exact ⟨o, its.toArray, n, h1, h2, h3, by simpa using items_are r⟩
theorem dt_rd {kvs : List (List Key × V)} (ok : HOk P w H h) (e : Rd H a (.dT kvs)) : kvs.length ≤ sizeLine ∧ (a == sysModules) = false ∧
    ∃ xs, KT H kvs xs ∧ h.DictOfH (tupleKind (mixKind P w)) a xs := by
  obtain ⟨z, y, xs, r, o, es, ep, h1, h2, h3, h4, h5⟩ := (show ObjOk P w H h a (.dT kvs) from rd_of ok e)
  refine ⟨z, y, xs, r, o, es, ep, h1, h2, h3, h4, fun x hx => ?_, h5⟩
  have all : ∀ {l : List (List Key × V)} {m : List (List Key × Addr × Value)}, KT H l m → ∀ x ∈ m, (tupleKind (mixKind P w)).is h x.1 x.2.1 := by
    intro l m q
    induction q with
    | nil => intro x hx; exact nomatch hx
    | @cons p q ps qs hq t ih =>
      intro x hx
      rcases List.mem_cons.mp hx with e | hx
      · subst e
        exact key_of ok (by rw [← hq.1]; exact hq.2.1)
      · exact ih x hx
  exact all r x hx
theorem dt_of {kvs : List (List Key × V)} (ok : HOk P w H h) (e : H a = some (.dT kvs)) : kvs.length ≤ sizeLine ∧ (a == sysModules) = false ∧
    ∃ xs, KT H kvs xs ∧ h.DictOfH (tupleKind (mixKind P w)) a xs := dt_rd ok (.inl e)
end
/-- what the dict at a holds at the key y -/
def DGet (H : Hp) (a : Addr) (y : V) (r : Option V) : Prop :=
  (∃ kvs k, Rd H a (.dK kvs) ∧ y = kV k ∧ r = valV kvs k) ∨ ∃ kvs k b, Rd H a (.dT kvs) ∧ y = .ref b ∧ H b = some (.tup (k.map kV)) ∧ r = valV kvs k
/-- the heap behind a[y] = v -/
def DPut (H : Hp) (a : Addr) (y v : V) (H' : Hp) : Prop :=
  (∃ kvs k, H a = some (.dK kvs) ∧ y = kV k ∧ kvs.length < sizeLine ∧ H' = upd H a (.dK (putK kvs k v))) ∨
  ∃ kvs k b, H a = some (.dT kvs) ∧ y = .ref b ∧ H b = some (.tup (k.map kV)) ∧ kvs.length < sizeLine ∧ H' = upd H a (.dT (putK kvs k v))
theorem DGet.k {H : Hp} {a : Addr} {kvs : List (Key × V)} {k : Key} (e : H a = some (.dK kvs)) : DGet H a (kV k) (valV kvs k) := .inl ⟨kvs, k, .inl e, rfl, rfl⟩
theorem DGet.t {H : Hp} {a b : Addr} {kvs : List (List Key × V)} {k : List Key} (e : H a = some (.dT kvs)) (eb : H b = some (.tup (k.map kV))) : DGet H a (.ref b) (valV kvs k) := .inr ⟨kvs, k, b, .inl e, rfl, eb, rfl⟩
theorem DPut.k {H : Hp} {a : Addr} {kvs : List (Key × V)} {k : Key} {v : V} (e : H a = some (.dK kvs)) (hl : kvs.length < sizeLine) : DPut H a (kV k) v (upd H a (.dK (putK kvs k v))) := .inl ⟨kvs, k, e, rfl, hl, rfl⟩
theorem DPut.t {H : Hp} {a b : Addr} {kvs : List (List Key × V)} {k : List Key} {v : V} (e : H a = some (.dT kvs)) (eb : H b = some (.tup (k.map kV))) (hl : kvs.length < sizeLine) :
    DPut H a (.ref b) v (upd H a (.dT (putK kvs k v))) := .inr ⟨kvs, k, b, e, rfl, eb, hl, rfl⟩
section
variable {X : Cx} {pins : List (Addr × Obj)} {σ : St} {H : Hp} {s : Shared} {a : Addr} {y v : V} {u r : Value} {o : Option V} {A : Around} {E : Value → Shared → Prop}
theorem Inv.big (I : Inv X pins σ H s) : sysModules < s.heap.objs.size := by
  have h : mainGlobals < s.heap.objs.size := (I.mod.glob.keeps I.bk).lt
  exact Nat.lt_trans (by decide) h
/-- d[y], there -/
theorem d_getItem {Q : Value → Shared → Prop} (hu : A.units + 1 < cLine) (I : Inv X pins σ H s) (g : DGet H a y (some v)) (ry : RelV y u) (h : ∀ w' s', Inv X pins σ H s' → RelV v w' → Q w' s') :
    wpAny (model X.prog X.w) A (getItem (.ref a) u) Q E s := by
  rcases g with ⟨kvs, k, e, ey, l⟩ | ⟨kvs, k, b, e, ey, eb, l⟩
  · subst ey
    obtain ⟨z, hd, vs, rel, dd⟩ := dk_rd I.hok e
    obtain ⟨w', hw, rw'⟩ := RelO.some_of (v := v) (o := valueAt vs k) (by rw [l]; exact rel.val k)
    exact wpAny_getItem_of (kV_is ry) dd.mapOf hw (h w' _ (I.tok _) rw')
  · subst ey
    cases (show u = Value.ref b from ry)
    obtain ⟨z, hd, xs, rel, dd⟩ := dt_rd I.hok e
    obtain ⟨w', hw, rw'⟩ := RelO.some_of (v := v) (o := (atKey xs k).map (·.2)) (by rw [l]; exact rel.val k)
    obtain ⟨p, hp, hp2⟩ := Option.map_eq_some_iff.mp hw
    refine wpAny_getItem_heap (tupleKind_room_in1 hu) (key_of I.hok eb) dd hp ?_
    rw [hp2]
    exact h w' _ (I.tok _) rw'
/-- y in d -/
theorem d_in {Q : Value → Shared → Prop} (hu : A.units + 1 < cLine) (I : Inv X pins σ H s) (g : DGet H a y o) (ry : RelV y u) (h : ∀ s', Inv X pins σ H s' → Q (.bool o.isSome) s') :
    wpAny (model X.prog X.w) A (compareOp .In u (.ref a)) Q E s := by
  rcases g with ⟨kvs, k, e, ey, l⟩ | ⟨kvs, k, b, e, ey, eb, l⟩
  · subst ey
    obtain ⟨z, hd, vs, rel, dd⟩ := dk_rd I.hok e
    refine wpAny_in_of (kV_is ry) hd dd.mapOf ?_
    rw [← (rel.val k).isSome_eq, ← l]
    exact h _ (I.tok _)
  · subst ey
    cases (show u = Value.ref b from ry)
    obtain ⟨z, hd, xs, rel, dd⟩ := dt_rd I.hok e
    refine wpAny_in_heap (tupleKind_room_in1 hu) (key_of I.hok eb) hd dd ?_
    have q := (rel.val k).isSome_eq
    rw [Option.isSome_map] at q
    rw [← q, ← l]
    exact h _ (I.tok _)
theorem d_notIn {Q : Value → Shared → Prop} (hu : A.units + 1 < cLine) (I : Inv X pins σ H s) (g : DGet H a y o) (ry : RelV y u) (h : ∀ s', Inv X pins σ H s' → Q (.bool (!o.isSome)) s') :
    wpAny (model X.prog X.w) A (compareOp .NotIn u (.ref a)) Q E s := by
  rcases g with ⟨kvs, k, e, ey, l⟩ | ⟨kvs, k, b, e, ey, eb, l⟩
  · subst ey
    obtain ⟨z, hd, vs, rel, dd⟩ := dk_rd I.hok e
    refine wpAny_notIn_of (kV_is ry) hd dd.mapOf ?_
    rw [← (rel.val k).isSome_eq, ← l]
    exact h _ (I.tok _)
  · subst ey
    cases (show u = Value.ref b from ry)
    obtain ⟨z, hd, xs, rel, dd⟩ := dt_rd I.hok e
    refine wpAny_notIn_heap (tupleKind_room_in1 hu) (key_of I.hok eb) hd dd ?_
    have q := (rel.val k).isSome_eq
    rw [Option.isSome_map] at q
    rw [← q, ← l]
    exact h _ (I.tok _)
/-- a dict's object is replaced -/
theorem d_write {h' : Heap} {t' : Nat} {ob : HO} (I : Inv X pins σ H s) (mu : Mut (H a)) (hs : Heap.SameBut a s.heap h') (he : ∃ q, h'.get? a = some q) (new : ObjOk X.prog X.w (upd H a ob) h' a ob) :
    Inv X pins σ (upd H a ob) { s with heap := h', toks := t' } :=
  I.write (x := a) (e := a) mu (.inl rfl) (fun b q hb z => (hs.2 b hb).trans z) he new
theorem dk_new {P : Program} {w : World} {H' : Hp} {h' : Heap} {kvs : List (Key × V)} {vs : List (Key × Value)} (z : kvs.length ≤ sizeLine) (hd : (a == sysModules) = false) (rel : KV kvs vs) (dd : h'.DictOf (mixKind P w) a vs) :
    ObjOk P w H' h' a (.dK kvs) := ⟨z, hd, vs, rel, dd⟩
/-- d[y] = v -/
theorem d_setItem {H' : Hp} {Q : Unit → Shared → Prop} (hu : A.units + 1 < cLine) (I : Inv X pins σ H s) (g : DPut H a y v H') (ry : RelV y u) (rv : RelV v r) (h : ∀ s', Inv X pins σ H' s' → Q () s') :
    wpAny (model X.prog X.w) A (setItem (.ref a) u r) Q E s := by
  rcases g with ⟨kvs, k, e, ey, l, eH⟩ | ⟨kvs, k, b, e, ey, eb, l, eH⟩
  · subst ey eH
    obtain ⟨z, hd, vs, rel, dd⟩ := dk_of I.hok e
    have hz : vs.length ≤ sizeLine := by rw [← rel.length]; exact z
    have hl : (putK kvs k v).length ≤ sizeLine := by have := length_putK kvs k v; omega
    refine wpAny_setItem_pairs (hsz := hz) (kV_is ry) dd fun h' dd' hs => h _ ?_
    have he : ∃ q, h'.get? a = some q := let ⟨q, _, _, hq, _⟩ := dd'; ⟨q, hq⟩
    exact d_write I (by rw [e]; exact True.intro) hs he (dk_new hl hd (rel.put k rv) dd')
  · subst ey eH
    cases (show u = Value.ref b from ry)
    obtain ⟨z, hd, xs, rel, dd⟩ := dt_of I.hok e
    have hz : xs.length ≤ sizeLine := by rw [← Paired.length rel]; exact z
    have hl : (putK kvs k v).length ≤ sizeLine := by have := length_putK kvs k v; omega
    refine wpAny_setItem_heap (hsz := hz) (tupleKind_room_in1 hu) (key_of I.hok eb) dd fun h' dd' hs => h _ ?_
    obtain ⟨q, es, ep, hq, h2, h3, h4, _, h5⟩ := dd'
    refine d_write I (by rw [e]; exact True.intro) hs ⟨q, hq⟩ ⟨hl, hd, _, (rel.put k eb rv).keeps fun c ys ec => ?_, q, es, ep, hq, h2, h3, h4, h5⟩
    rw [upd_ne (ne_of ec e (fun z => nomatch z))]
    exact ec
end
section
variable {X : Cx} {pins : List (Addr × Obj)} {σ : St} {H : Hp} {s : Shared} {a : Addr} {kvs : List (Key × V)} {k : Key} {u : Value} {A : Around} {E : Value → Shared → Prop}
end
/-! ### readings and rules -/
/-- the element of a subscription, not a slice -/
def NoSl (i : Expr) : Prop := ∀ ov iv, subscripted i false ov iv = operate [ov, iv] (getItem ov iv)
theorem subD_of {prog : Program} {w : World} {A : Around} {E : Value → Shared → Prop} {s : Shared} {env : Env} {value slice : Expr} {pos : Pos} {T id : String} {Q : Value → Shared → Prop}
    (hl : typeLookup (.type T) "__getitem__" = pure (some (.builtin id))) (hs : NoSl slice)
    (h : wpAny (model prog w) A (eval value env) (fun o s₁ => wpAny (model prog w) A (eval slice env) (fun i s₂ => s₂.TypeIs o T ∧ wpAny (model prog w) A (getItem o i) Q E s₂) E s₁) E s) :
    wpAny (model prog w) A (eval (.Subscript value slice pos) env) Q E s := by
  refine Subscript_ (wpAny_mono h (fun o s₁ h₁ => wpAny_mono h₁ (fun i s₂ h₂ => ?_) fun _ _ x => x) fun _ _ x => x)
  obtain ⟨hT, h₂⟩ := h₂
  unfold subscriptTail
  refine wpAny_bind ?_
  rw [getitemInPython_of_ne hT.not_modules]
  refine wpAny_bind (wpAny_specialOf hT hl ?_)
  have fin : wpAny (model prog w) A (subscripted slice false o i) (fun r s₃ => wpAny (model prog w) A (letTemporaryGo value o r >>= fun _ => pure r) Q E s₃) E s₂ := by
    rw [hs o i]
    exact wpAny_operating (wpAny_mono h₂ (fun r s₃ h₃ => wpAny_bind (wpAny_letTemporaryGo (wpAny_pure h₃))) fun _ _ x => x)
  first
    | exact wpAny_pure (wpAny_bind fin)
    | exact wpAny_bind (wpAny_pure (wpAny_bind fin))
    | exact wpAny_bind fin
theorem dict_typeIs {X : Cx} {pins : List (Addr × Obj)} {σ : St} {H : Hp} {s : Shared} {a : Addr} {y : V} {o : Option V} (I : Inv X pins σ H s) (g : DGet H a y o) : s.TypeIs (.ref a) "dict" := by
  rcases g with ⟨kvs, k, e, _, _⟩ | ⟨kvs, k, b, e, _, _, _⟩
  · obtain ⟨_, _, vs, _, dd⟩ := dk_rd I.hok e
    exact dd.typeIs
  · obtain ⟨_, _, xs, _, dd⟩ := dt_rd I.hok e
    exact dd.typeIs
/-- d[y] -/
def tDGet (td ty : TE) : TE := fun σ H Q => td σ H fun x H1 => ty σ H1 fun y H2 => ∃ a v, x = .ref a ∧ DGet H2 a y (some v) ∧ Q v H2
/-- y in d, y not in d -/
def tDIn (ty td : TE) : TE := fun σ H Q => ty σ H fun y H1 => td σ H1 fun x H2 => ∃ a o, x = .ref a ∧ DGet H2 a y o ∧ Q (.bl o.isSome) H2
def tDNotIn (ty td : TE) : TE := fun σ H Q => ty σ H fun y H1 => td σ H1 fun x H2 => ∃ a o, x = .ref a ∧ DGet H2 a y o ∧ Q (.bl (!o.isSome)) H2
/-- d[y] = v -/
def sDPut (td ty tv : TE) : TS := fun D σ H => tv σ H fun v H1 => td σ H1 fun x H2 => ty σ H2 fun y H3 => ∃ a H4, x = .ref a ∧ DPut H3 a y v H4 ∧ D.nx σ H4
section
variable {X : Cx} {o i e value : Expr} {pos pos' tpos : Pos} {td ty tv : TE}
theorem pe_dget (hu : X.A.units + 1 < cLine) (ho : PE X o td) (hi : PE X i ty) (hs : NoSl i) : PE X (.Subscript o i pos) (tDGet td ty) := by
  intro pins s σ H Q I h
  refine subD_of PySem.F.slot_dict_getitem.lookup hs (thn (ho pins s σ H _ I h) fun u s1 ⟨x, H1, I1, rx, q1⟩ => thn (hi pins s1 σ H1 _ I1 q1) fun iv s2 ⟨y, H2, I2, ry, a, v, ex, g, q2⟩ => ?_)
  subst ex
  obtain rfl : u = Value.ref a := rx
  exact ⟨dict_typeIs I2 g, d_getItem hu I2 g ry fun w' s3 I3 rw' => ⟨v, H2, I3, rw', q2⟩⟩
theorem pc_din (hu : X.A.units + 1 < cLine) (hi : PE X i ty) (ho : PE X o td) : PC X .In i o (tDIn ty td) := by
  intro pins s σ H Q I h
  refine thn (hi pins s σ H _ I h) fun iv s1 ⟨y, H1, I1, ry, q1⟩ => thn (ho pins s1 σ H1 _ I1 q1) fun u s2 ⟨x, H2, I2, rx, a, ov, ex, g, q2⟩ => ?_
  subst ex
  obtain rfl : u = Value.ref a := rx
  exact d_in hu I2 g ry fun s3 I3 => ⟨.bl ov.isSome, H2, I3, rfl, q2⟩
theorem pc_dnotin (hu : X.A.units + 1 < cLine) (hi : PE X i ty) (ho : PE X o td) : PC X .NotIn i o (tDNotIn ty td) := by
  intro pins s σ H Q I h
  refine thn (hi pins s σ H _ I h) fun iv s1 ⟨y, H1, I1, ry, q1⟩ => thn (ho pins s1 σ H1 _ I1 q1) fun u s2 ⟨x, H2, I2, rx, a, ov, ex, g, q2⟩ => ?_
  subst ex
  obtain rfl : u = Value.ref a := rx
  exact d_notIn hu I2 g ry fun s3 I3 => ⟨.bl (!ov.isSome), H2, I3, rfl, q2⟩
theorem ps_dput (hu : X.A.units + 1 < cLine) (ho : PE X o td) (hi : PE X i ty) (hv : PE X value tv) (hs : swapsWith value (some (.Subscript o i pos')) pos.line X.env = pure false) :
    PS X (.Assign [.Subscript o i pos'] value pos) (sDPut td ty tv) := by
  intro pins s σ H D I h
  refine wpAny_Assign_Subscript (thn (hv pins s σ H _ I h) fun r s1 ⟨v, H1, I1, rv, q1⟩ => thn (ho pins s1 σ H1 _ I1 q1) fun u s2 ⟨x, H2, I2, rx, q2⟩ => thn (hi pins s2 σ H2 _ I2 q2) fun iv s3 ⟨y, H3, I3, ry, a, H4, ex, g, q3⟩ => ?_) hs
  subst ex
  obtain rfl : u = Value.ref a := rx
  exact d_setItem hu I3 g ry rv fun s4 I4 => ⟨σ, H4, I4, q3⟩
end
/-! ### displays -/
theorem dk_empty {P : Program} {w : World} {H : Hp} (h : Heap) (hb : sysModules < h.objs.size) : ObjOk P w H (h.push { cls := .type "dict", data := .dict #[] }) h.objs.size (.dK []) :=
  ⟨Nat.zero_le _, beq_eq_false_iff_ne.mpr (Ne.symm (Nat.ne_of_lt hb)), [], .nil, Heap.DictOf.new h⟩
theorem dt_empty {P : Program} {w : World} {H : Hp} (h : Heap) (hb : sysModules < h.objs.size) : ObjOk P w H (h.push { cls := .type "dict", data := .dict #[] }) h.objs.size (.dT []) :=
  ⟨Nat.zero_le _, beq_eq_false_iff_ne.mpr (Ne.symm (Nat.ne_of_lt hb)), [], .nil, _, #[], 0, Heap.get?_push_size _ rfl, ⟨rfl, rfl, rfl⟩, rfl, rfl, List.nodup_nil⟩
/-- {}, to be a dict of the kind that is wanted -/
def tDNewK : TE := fun _ H Q => ∀ p, H p = none → Q (.ref p) (upd H p (.dK []))
def tDNewT : TE := fun _ H Q => ∀ p, H p = none → Q (.ref p) (upd H p (.dT []))
section
variable {X : Cx} {pos : Pos}
theorem pe_dnewK : PE X (.Dict [] [] pos) tDNewK := fun pins s σ H Q I h =>
  wpAny_Dict_empty ⟨.ref s.heap.objs.size, _, I.laid (a := s.heap.objs.size) (o := .dK []) (t' := s.toks) (fun _ _ q => Heap.get?_push_of_some _ q) (Nat.le_refl _) (dk_empty s.heap I.big), rfl, h _ (I.hok.fresh (Nat.le_refl _))⟩
theorem pe_dnewT : PE X (.Dict [] [] pos) tDNewT := fun pins s σ H Q I h =>
  wpAny_Dict_empty ⟨.ref s.heap.objs.size, _, I.laid (a := s.heap.objs.size) (o := .dT []) (t' := s.toks) (fun _ _ q => Heap.get?_push_of_some _ q) (Nat.le_refl _) (dt_empty s.heap I.big), rfl, h _ (I.hok.fresh (Nat.le_refl _))⟩
end
/-! ### methods -/
/-- a method call o.m(e) of a built-in, with one argument: what must be seen of the text -/
structure M1 (X : Cx) (o : Expr) (m : Str) (apos : Pos) (e : Expr) (cpos : Pos) : Prop where
  base : attributeBase o m X.env (eval o X.env) = eval o X.env
  few : ((backTo cpos (starEach [e] X.env)).all (fun x => !x.1) && (backToKw cpos (keywordEach [] X.env)).all (fun x => x.1.isSome)
    && decide (([e] : List Expr).length + ([] : List Keyword).length + (if ([] : List Keyword).isEmpty then 0 else 1) < 30)) = true
  line : (apos.endLine == cpos.line) = true
  trees : backTo cpos (starEach [e] X.env) = [(false, eval e X.env)]
structure M2 (X : Cx) (o : Expr) (m : Str) (apos : Pos) (e f : Expr) (cpos : Pos) : Prop where
  base : attributeBase o m X.env (eval o X.env) = eval o X.env
  few : ((backTo cpos (starEach [e, f] X.env)).all (fun x => !x.1) && (backToKw cpos (keywordEach [] X.env)).all (fun x => x.1.isSome)
    && decide (([e, f] : List Expr).length + ([] : List Keyword).length + (if ([] : List Keyword).isEmpty then 0 else 1) < 30)) = true
  line : (apos.endLine == cpos.line) = true
  trees : backTo cpos (starEach [e, f] X.env) = [(false, eval e X.env), (false, eval f X.env)]
/-- a is a dict, whatever its keys -/
def IsD (H : Hp) (a : Addr) : Prop := (∃ kvs, Rd H a (.dK kvs)) ∨ ∃ kvs, Rd H a (.dT kvs)
theorem isD_at {X : Cx} {pins : List (Addr × Obj)} {σ : St} {H : Hp} {s : Shared} {a : Addr} (I : Inv X pins σ H s) (d : IsD H a) :
    s.TypeIs (.ref a) "dict" ∧ (∀ b, Value.ref a = .ref b → ∃ ob, s.heap.get? b = some ob ∧ ob.dict = none) ∧ (a == sysModules) = false := by
  rcases d with ⟨kvs, e⟩ | ⟨kvs, e⟩
  · obtain ⟨_, hd, vs, _, dd⟩ := dk_rd I.hok e
    refine ⟨dd.typeIs, fun b q => ?_, hd⟩
    cases q
    obtain ⟨ob, _, _, h1, h2, _⟩ := dd
    exact ⟨ob, h1, h2.2.1⟩
  · obtain ⟨_, hd, xs, _, dd⟩ := dt_rd I.hok e
    refine ⟨dd.typeIs, fun b q => ?_, hd⟩
    cases q
    obtain ⟨ob, _, _, h1, h2, _⟩ := dd
    exact ⟨ob, h1, h2.2.1⟩
section
variable {X : Cx} {pins : List (Addr × Obj)} {σ : St} {H : Hp} {s : Shared} {a : Addr} {y d : V} {u r : Value} {o : Option V} {A : Around} {E : Value → Shared → Prop}
/-- d.get(y) -/
theorem d_get1 {Q : Value → Shared → Prop} (hu : A.units + 1 < cLine) (I : Inv X pins σ H s) (g : DGet H a y o) (ry : RelV y u) (h : ∀ w' s', Inv X pins σ H s' → RelV (o.getD .non) w' → Q w' s') :
    wpAny (model X.prog X.w) A (call (.builtin "dict.get") [.ref a, u]) Q E s := by
  rcases g with ⟨kvs, k, e, ey, l⟩ | ⟨kvs, k, b, e, ey, eb, l⟩
  · subst ey
    obtain ⟨z, hd, vs, rel, dd⟩ := dk_rd I.hok e
    refine call_meetsIn PySem.F.slot_dict_get dd.typeIs PySem.F.entry_dict_get (PySem.F.args_dict_get_2 _ _) (meets_dict_get (mixKind X.prog X.w) a (kV_is ry) hd) ⟨_, dd.mapOf, h _ _ (I.tok _) ?_⟩
    rw [l]
    exact (rel.val k).getD rfl
  · subst ey
    cases (show u = Value.ref b from ry)
    obtain ⟨z, hd, xs, rel, dd⟩ := dt_rd I.hok e
    refine call_meetsIn PySem.F.slot_dict_get dd.typeIs PySem.F.entry_dict_get (PySem.F.args_dict_get_2 _ _) (meetsH_dict_get (tupleKind (mixKind X.prog X.w)) a b hd) ⟨tupleKind_room_in1 hu, k, xs, key_of I.hok eb, dd, h _ _ (I.tok _) ?_⟩
    rw [l]
    exact (rel.val k).getD rfl
/-- d.get(y, x) -/
theorem d_get2 {Q : Value → Shared → Prop} (hu : A.units + 1 < cLine) (I : Inv X pins σ H s) (g : DGet H a y o) (ry : RelV y u) (rd : RelV d r) (h : ∀ w' s', Inv X pins σ H s' → RelV (o.getD d) w' → Q w' s') :
    wpAny (model X.prog X.w) A (call (.builtin "dict.get") [.ref a, u, r]) Q E s := by
  rcases g with ⟨kvs, k, e, ey, l⟩ | ⟨kvs, k, b, e, ey, eb, l⟩
  · subst ey
    obtain ⟨z, hd, vs, rel, dd⟩ := dk_rd I.hok e
    refine call_meetsIn PySem.F.slot_dict_get dd.typeIs PySem.F.entry_dict_get (PySem.F.args_dict_get_3 _ _ _) (meets_dict_get_default (mixKind X.prog X.w) a (kV_is ry) hd r) ⟨_, dd.mapOf, h _ _ (I.tok _) ?_⟩
    rw [l]
    exact (rel.val k).getD rd
  · subst ey
    cases (show u = Value.ref b from ry)
    obtain ⟨z, hd, xs, rel, dd⟩ := dt_rd I.hok e
    refine call_meetsIn PySem.F.slot_dict_get dd.typeIs PySem.F.entry_dict_get (PySem.F.args_dict_get_3 _ _ _) (meetsH_dict_get_default (tupleKind (mixKind X.prog X.w)) a b hd r) ⟨tupleKind_room_in1 hu, k, xs, key_of I.hok eb, dd, h _ _ (I.tok _) ?_⟩
    rw [l]
    exact (rel.val k).getD rd
end
def tDGet1 (td ty : TE) : TE := fun σ H Q => td σ H fun x H1 => ∃ a, x = .ref a ∧ IsD H1 a ∧ ty σ H1 fun y H2 => ∃ o, DGet H2 a y o ∧ Q (o.getD .non) H2
def tDGet2 (td ty tx : TE) : TE := fun σ H Q => td σ H fun x H1 => ∃ a, x = .ref a ∧ IsD H1 a ∧ ty σ H1 fun y H2 => tx σ H2 fun z H3 => ∃ o, DGet H3 a y o ∧ Q (o.getD z) H3
section
variable {X : Cx} {o e f : Expr} {apos cpos : Pos} {td ty tx : TE}
theorem pe_dget1 (hu : X.A.units + 1 < cLine) (ho : PE X o td) (he : PE X e ty) (m : M1 X o "get" apos e cpos) : PE X (.Call (.Attribute o "get" apos) [e] [] cpos) (tDGet1 td ty) := by
  intro pins s σ H Q I h
  refine wpAny_Call_method m.base m.few m.line PySem.F.plainAttrs_dict PySem.F.slot_dict_get PySem.F.type_dict_get (thn (ho pins s σ H _ I h) fun u s1 ⟨x, H1, I1, rx, a, ex, d, q1⟩ => ?_)
  subst ex
  obtain rfl : u = Value.ref a := rx
  obtain ⟨t1, t2, _⟩ := isD_at I1 d
  refine ⟨t1, t2, ?_⟩
  rw [m.trees]
  refine Calls.callWith_builtin rfl (Calls.evalArgs_plain (Calls.spliced_cons (thn (he pins s1 σ H1 _ I1 q1) fun iv s2 ⟨y, H2, I2, ry, ov, g, q2⟩ => Calls.spliced_nil ?_)))
  exact d_get1 hu I2 g ry fun w' s3 I3 rw' => ⟨_, H2, I3, rw', q2⟩
theorem pe_dget2 (hu : X.A.units + 1 < cLine) (ho : PE X o td) (he : PE X e ty) (hf : PE X f tx) (m : M2 X o "get" apos e f cpos) : PE X (.Call (.Attribute o "get" apos) [e, f] [] cpos) (tDGet2 td ty tx) := by
  intro pins s σ H Q I h
  refine wpAny_Call_method m.base m.few m.line PySem.F.plainAttrs_dict PySem.F.slot_dict_get PySem.F.type_dict_get (thn (ho pins s σ H _ I h) fun u s1 ⟨x, H1, I1, rx, a, ex, d, q1⟩ => ?_)
  subst ex
  obtain rfl : u = Value.ref a := rx
  obtain ⟨t1, t2, _⟩ := isD_at I1 d
  refine ⟨t1, t2, ?_⟩
  rw [m.trees]
  refine Calls.callWith_builtin rfl (Calls.evalArgs_plain (Calls.spliced_cons (thn (he pins s1 σ H1 _ I1 q1) fun iv s2 ⟨y, H2, I2, ry, q2⟩ =>
    Calls.spliced_cons (thn (hf pins s2 σ H2 _ I2 q2) fun fv s3 ⟨z, H3, I3, rz, ov, g, q3⟩ => Calls.spliced_nil ?_))))
  exact d_get2 hu I3 g ry rz fun w' s4 I4 rw' => ⟨_, H3, I4, rw', q3⟩
end
/-! ### dict(d): a copy -/
section
variable {X : Cx} {pins : List (Addr × Obj)} {σ : St} {H : Hp} {s : Shared} {a : Addr} {kvs : List (Key × V)} {A : Around} {E : Value → Shared → Prop}
end
section
variable {X : Cx} {pins : List (Addr × Obj)} {σ : St} {H : Hp} {s : Shared} {a : Addr} {y : V} {u : Value} {A : Around} {E : Value → Shared → Prop}
end
end L2
namespace L2
open PySem PySem.Spec PyProof.Rows
section
variable {prog : Program} {w : World} {A : Around} {E : Value → Shared → Prop}
end
section
variable {X : Cx}
end
end L2
namespace L2
open PySem PySem.Spec PyProof.Rows
section
variable {X : Cx} {pins : List (Addr × Obj)} {σ : St} {H : Hp} {s : Shared} {h' : Heap}
/-- .. and one new object is laid -/
theorem Inv.turnedNew {t' : Nat} {ch : List Addr} {T : Addr} {ob : HO} (I : Inv X pins σ H s) (k : ∀ b o, b ∉ ch → s.heap.get? b = some o → h'.get? b = some o) (hf : ∀ b ∈ ch, FpOk X pins H b) (hT : s.heap.objs.size ≤ T)
    (new : ObjOk X.prog X.w (upd H T ob) h' T ob) : Inv X pins σ (upd H T ob) { s with heap := h', toks := t' } := by
  have hn : H T = none := I.hok.fresh hT
  have nit : ∀ b u, H b = some u → b ∉ ch := fun b u e z => by
    have q := (hf b z).1
    rw [q] at e; cases e
  refine I.step (g' := s.gens) (d' := s.drawn) (ch := ch) (fun b hb => ⟨(hf b hb).2.2.2.1, (hf b hb).2.1, (hf b hb).2.2.2.2.1, (hf b hb).2.2.2.2.2⟩) (fun b o _ _ hc e _ => k b o hc e) (fun b o _ _ hc e _ => ⟨o.slots, k b o hc e⟩)
    (fun b o _ e n => ?_) (fun b o hc e => ⟨o, k b o hc e⟩) (fun b xs e => ?_) (fun b o u e => ?_) (fun b ps e => ⟨#[], ?_⟩) (fun m hm => ?_) (fun b u e => ?_) I.bare
  · rw [upd_ne (Nat.ne_of_lt (Nat.lt_of_lt_of_le (Heap.lt_size e) hT))]; exact n
  · rw [upd_ne (ne_of_none e hn)]; exact e
  · rw [upd_ne (ne_of_none e hn)]; exact e
  · rw [upd_ne (ne_of_none e hn), e]; simp
  · obtain ⟨o, es, ep, ho, r⟩ := hm
    exact ⟨o, es, ep, k _ o (fun z => (hf _ z).2.1 rfl) ho, r⟩
  · by_cases hb : b = T
    · subst hb
      rw [upd_same] at e
      cases e
      exact new
    · rw [upd_ne hb] at e
      refine (I.hok b u e).stay (fun c v hc q => k c v ?_ q) (fun c q => by rw [upd_ne (ne_of_none q hn)]; exact q) fun c xs q => by rw [upd_ne (ne_of_none q hn)]; exact q
      rcases hc with z | z
      · rw [z]; exact nit b u e
      · exact nit c _ z
/-! ### locking a thing while a statement runs -/
theorem Inv.lock {d : Addr} {u : HO} (I : Inv X pins σ H s) (h : H d = some u) (mu : Mut (some u)) : ∃ od, Inv X pins σ (upd H d (.frz od u)) s := by
  have x := I.hok d u h
  have ex : ∃ od, s.heap.get? d = some od := by
    cases u with
    | lst xs => obtain ⟨_, _, _, _, e⟩ := x; exact ⟨_, e⟩
    | dK kvs => obtain ⟨_, _, _, _, o, _, _, e, _⟩ := x; exact ⟨o, e⟩
    | dT kvs => obtain ⟨_, _, _, _, o, _, _, e, _⟩ := x; exact ⟨o, e⟩
    | set S n => obtain ⟨o, _, _, _, e, _⟩ := x; exact ⟨o, e⟩
    | ins C dx fs => obtain ⟨_, _, _, e, _⟩ := x; exact ⟨_, e⟩
    | ext φ => obtain ⟨_, ⟨_, e⟩, _⟩ := x; exact ⟨_, e⟩
    | _ => exact False.elim mu
  obtain ⟨od, e⟩ := ex
  have new : ObjOk X.prog X.w (upd H d (.frz od u)) s.heap d (.frz od u) := by
    refine ⟨e, x.stay (fun b v _ q => q) (fun b q => ?_) fun b xs q => ?_⟩
    · rw [upd_ne (fun z => by rw [z, h] at q; cases q; exact mu)]; exact q
    · rw [upd_ne (fun z => by rw [z, h] at q; cases q; exact mu)]; exact q
  exact ⟨od, I.write (x := d) (e := d) (t' := s.toks) (h' := s.heap) (by rw [h]; exact mu) (.inl rfl) (fun b v _ q => q) ⟨od, e⟩ new⟩
theorem Inv.nofrz {d : Addr} {u : HO} (I : Inv X pins σ H s) (h : H d = some u) (mu : Mut (some u)) : ∀ o' u', X.H_0 d ≠ some (.frz o' u') := fun o' u' e => by
  have q := I.base.frzs d o' u' e
  rw [h] at q
  cases q
  exact mu
theorem Inv.unlock {d : Addr} {od : Obj} {u : HO} (I : Inv X pins σ H s) (h : H d = some (.frz od u)) (hn : ∀ o' u', X.H_0 d ≠ some (.frz o' u')) : Inv X pins σ (upd H d u) s := by
  have neH : ∀ b o, H b = some o → (∀ o' u', o ≠ .frz o' u') → b ≠ d := fun b o e hne z => by
    rw [z, h] at e
    cases e
    exact hne _ _ rfl
  have neN : ∀ b, H b = none → b ≠ d := fun b e z => by rw [z, h] at e; cases e
  refine ⟨I.ok, I.os, I.bare, ⟨I.base.keep, I.base.slot, fun b o e n hx => ?_, I.base.there, fun b xs e => ?_, fun b o x e => ?_, fun b ps e => ?_⟩, I.loc, I.cell, ?_, fun x c e => ?_, fun p hp => ?_, fun b o e => ?_, I.len⟩
  · rw [upd_ne (neN b (I.base.free b o e n hx))]; exact I.base.free b o e n hx
  · have q := I.base.tups b xs e
    rw [upd_ne (neH b _ q (fun _ _ z => nomatch z))]; exact q
  · have q := I.base.frzs b o x e
    rw [upd_ne (fun z => by rw [z] at e; exact hn _ _ e)]; exact q
  · obtain ⟨m, q⟩ := I.base.tbls b ps e
    exact ⟨m, by rw [upd_ne (neH b _ q (fun _ _ z => nomatch z))]; exact q⟩
  · rw [upd_ne (neN _ I.free)]; exact I.free
  · rw [upd_ne (neN c (I.freeC x c e))]; exact I.freeC x c e
  · obtain ⟨e, n, r⟩ := I.pin p hp
    exact ⟨e, by rw [upd_ne (neN _ n)]; exact n, r⟩
  · by_cases hb : b = d
    · rw [hb, upd_same] at e
      cases e
      rw [hb]
      obtain ⟨_, x⟩ := I.hok d _ h
      exact x.stay (fun c v _ q => q) (fun c q => by rw [upd_ne (neH c _ q (fun _ _ z => nomatch z))]; exact q) fun c xs q => by rw [upd_ne (neH c _ q (fun _ _ z => nomatch z))]; exact q
    · rw [upd_ne hb] at e
      exact (I.hok b o e).stay (fun c v _ q => q) (fun c q => by rw [upd_ne (neH c _ q (fun _ _ z => nomatch z))]; exact q) fun c xs q => by rw [upd_ne (neH c _ q (fun _ _ z => nomatch z))]; exact q
end
/-- the statement runs while the thing at d is locked (read, not written); d and what stands there are the reading's choice -/
def tLock (t : TS) : TS := fun D σ H => ∃ d u, H d = some u ∧ Mut (some u) ∧ ∀ od, t ⟨fun σ' H' => H' d = some (.frz od u) ∧ D.nx σ' (upd H' d u), fun v H' => H' d = some (.frz od u) ∧ D.rt v (upd H' d u), fun σ' H' => H' d = some (.frz od u) ∧ D.bk σ' (upd H' d u), fun σ' H' => H' d = some (.frz od u) ∧ D.ct σ' (upd H' d u)⟩ σ (upd H d (.frz od u))
section
variable {X : Cx}
theorem ps_lock {st : Stmt} {t : TS} (h : PS X st t) : PS X st (tLock t) := by
  intro pins s σ H D I hw
  obtain ⟨d, u, hd, mu, hw⟩ := hw
  obtain ⟨od, I1⟩ := I.lock hd mu
  refine thn (h pins s σ _ _ I1 (hw od)) fun f s1 q => ?_
  cases f with
  | next => obtain ⟨σ', H', I2, e, q⟩ := q; exact ⟨σ', _, I2.unlock e (I.nofrz hd mu), q⟩
  | brk => obtain ⟨σ', H', I2, e, q⟩ := q; exact ⟨σ', _, I2.unlock e (I.nofrz hd mu), q⟩
  | cont => obtain ⟨σ', H', I2, e, q⟩ := q; exact ⟨σ', _, I2.unlock e (I.nofrz hd mu), q⟩
  | ret v => obtain ⟨x, σ', H', I2, r, e, q⟩ := q; exact ⟨x, σ', _, I2.unlock e (I.nofrz hd mu), r, q⟩
/-! ### one iterator just laid -/
theorem pi_one {tg : Expr} {pins : List (Addr × Obj)} {σ : St} {H : Hp} {s : Shared} {R : It → Hp → Prop} {J : It} {tn : Nat → Heap → Prop} {tk : Nat} (I : Inv X pins σ H s) (o : Obj)
    (T : Turn X.prog X.w X.K tg J [s.heap.objs.size] s.heap.objs.size tn) (st : tn 0 (s.heap.push o)) (q : R J H) : PIE X pins σ tg R (.ref s.heap.objs.size) { s with heap := s.heap.push o, toks := tk } := by
  refine ⟨s.heap.objs.size, [s.heap.objs.size], tn, J, H, rfl, I.kept fun b ob e => Heap.get?_push_of_some _ e, T, st, fun b hb => ?_, q⟩
  have e : b = s.heap.objs.size := by simpa using hb
  subst e
  exact I.fpOk (Nat.le_refl _) (I.hok.fresh (Nat.le_refl _))
end
/-! ### range with a step -/
section
variable {X : Cx} {tg : Expr}
end
/-! ### reversed(list) -/
section
variable {X : Cx} {tg : Expr}
end
/-! ### a str -/
def Its (x : Str) : It := ⟨fun i _ => i < x.cps.size, fun i H v H' => H' = H ∧ ∃ c, x.cps[i]? = some c ∧ v = .str ⟨#[c]⟩, fun i _ => x.cps.size ≤ i⟩
theorem turn_str {P : Program} {w : World} {K : PySem.W.Frag} {tg : Expr} (it : Addr) (x : Str) (t : Tok) (ty : String) (hty : ty = "str_ascii_iterator" ∨ ty = "str_iterator") :
    Turn P w K tg (Its x) [it] it (fun i h => h.IsStrIter it ty x t i) where
  mem := by simp
  obj := fun i h st b hb => by
    have e : b = it := by simpa using hb
    subst e
    obtain ⟨o, e, c, d⟩ := st
    exact ⟨o, e, fun v z => by rw [d] at z; cases z⟩
  keep := fun i h h' st k => let ⟨o, ho, r⟩ := st; ⟨o, k it (by simp) o ho, r⟩
  item := by
    intro X hP hw hK hc i pins s σ H E I hf st hg
    subst hP hw hK
    obtain ⟨f0, f1, f2, f3, f4, f5⟩ := hf it (by simp)
    have W : Walks X.prog X.w X.A it [it] [it] x.cps.size (SignAt x) (fun i h => h.IsStrIter it ty x t i) := by
      rcases hty with e | e
      · rw [e]; exact Walks.strAscii (I.ok.hd hc) it x t
      · rw [e]; exact Walks.strWide (I.ok.hd hc) it x t
    have hno : ["enumerate", "zip", "dict_itemiterator", "dict_reverseitemiterator", "odict_iterator", "itertools.zip_longest", "itertools.pairwise"].contains ty = false := by
      rcases hty with e | e
      · rw [e]; decide
      · rw [e]; decide
    refine W.item i s _ _ hg st fun v h' tk hv st' kk => ?_
    obtain ⟨c, u, hcx, rfl⟩ := hv
    have I1 : Inv X pins σ H { s with heap := h', toks := tk } := I.turned (fun b o hb e => kk b o (by simpa using hb) e) f0 f1 f3 f4 f5
    obtain ⟨oi, e, cc, dd⟩ := id st'
    exact ⟨_, rfl, go_of (s := { s with heap := h', toks := tk }) e cc dd hno ⟨.str ⟨#[c]⟩, H, I1, ⟨u, rfl⟩, ⟨rfl, c, hcx, rfl⟩, st', fun b hb => (hf b hb).1⟩⟩
  done := by
    intro X hP hw hK hc i pins s σ H E I hf st hg
    subst hP hw hK
    obtain ⟨f0, f1, f2, f3, f4, f5⟩ := hf it (by simp)
    have hx : x.cps[i]? = none := Array.getElem?_eq_none hg
    rcases hty with e | e
    · rw [e] at st
      exact wpAny_pyNext_ascii_end (I.ok.hd hc) st hx fun h' eb => ⟨rfl, I.turned (t' := s.toks) (fun b o hb e => eb b o hb e) f0 f1 f3 f4 f5⟩
    · rw [e] at st
      exact wpAny_pyNext_wide_end (I.ok.hd hc) st hx fun h' eb => ⟨rfl, I.turned (t' := s.toks) (fun b o hb e => eb b o hb e) f0 f1 f3 f4 f5⟩
  self := fun A i s Q E st h => by
    rcases hty with e | e
    · rw [e] at st; exact wpAny_pyIter_striter_ascii st h
    · rw [e] at st; exact wpAny_pyIter_striter_wide st h
def iStr (te : TE) : TI := fun σ H R => te σ H fun v H1 => ∃ x, v = .str x ∧ R (Its x) H1
theorem pi_str {X : Cx} {tg e : Expr} {te : TE} (he : PE X e te) : PI X tg e (iStr te) := by
  intro pins s σ H R I h
  refine thn (he pins s σ H _ I h) fun v s1 ⟨y, H1, I1, r1, x, ex, q⟩ => ?_
  subst ex
  obtain ⟨t, rfl⟩ := r1
  cases ha : x.cps.all (· < 128)
  · exact wpAny_pyIter_wide ha (pi_one (tk := s1.toks) I1 _ (turn_str _ x t "str_iterator" (.inr rfl)) ⟨_, Heap.get?_push_size _ rfl, rfl, rfl⟩ q)
  · exact wpAny_pyIter_ascii ha (pi_one (tk := s1.toks) I1 _ (turn_str _ x t "str_ascii_iterator" (.inl rfl)) ⟨_, Heap.get?_push_size _ rfl, rfl, rfl⟩ q)
/-! ### a dict's keys: any dict's entries -/
section
variable {prog : Program} {w : World} {A : Around} {E : Value → Shared → Prop} {s : Shared}
theorem iter_keys {d : Addr} {o : Obj} {es : Array DictEntry} {ep : Nat} {Q : Value → Shared → Prop} (hd : (d == sysModules) = false) (ho : s.heap.get? d = some o) (hc : o.ExactDict) (hdat : o.data = .dict es ep)
    (hQ : Q (.ref s.heap.objs.size) { s with heap := s.heap.push { cls := .type "dict_keyiterator", data := .fields #[.ref d, .int 0 0, .int es.size 0, .int ep 0] } }) :
    wpAny (model prog w) A (pyIter (.ref d)) Q E s := by
  have hT : s.TypeIs (.ref d) "dict" := ⟨o, ho, hc.1⟩
  refine wpAny_pyIter_slot hT F.slot_dict_iter (wpAny_call_entry F.slot_dict_iter hT F.entry_dict_iter ?_ (F.args_dict_iter_1 _))
  unfold Builtin.«dict.__iter__»
  refine wpAny_bind ?_
  unfold Builtin.Dict.dictSlotNone
  refine wpAny_bind (wpAny_notOrdered_dict hT ?_)
  show wpAny _ _ (pure (Value.ref d)) _ _ s
  refine wpAny_pure ?_
  show wpAny _ _ (Builtin.Dict.showsAll d >>= _) _ _ s
  unfold Builtin.Dict.showsAll
  rw [if_neg (by rw [hd]; exact Bool.false_ne_true)]
  refine wpAny_bind (wpAny_pure ?_)
  refine wpAny_bind (wpAny_dictEntries ho hdat ?_)
  refine wpAny_bind (wpAny_dictEpoch ho hdat ?_)
  refine wpAny_bind (wpAny_newObj_type (wpAny_pure ⟨_, rfl, "dict_keyiterator", _, ⟨_, Heap.get?_push_size _ rfl, rfl⟩, F.slot_dict_keyiterator_next.lookup, ?_⟩))
  simpa [rawInt] using hQ
theorem next_key_item {it d : Addr} {i n ep : Nat} {od : Obj} {es : Array DictEntry} {en : DictEntry} {Q : Option Value → Shared → Prop} (hit : s.heap.IsKeyIter it d i n ep) (hod : s.heap.get? d = some od) (hdd : od.data = .dict es ep)
    (hsz : es.size = n) (hx : es[i]? = some en) (hQ : ∀ h', h'.IsKeyIter it d (i + 1) n ep → Heap.SameBut it s.heap h' → Q (some en.key) { s with heap := h' }) : wpAny (model prog w) A (pyNext (.ref it)) Q E s := by
  obtain ⟨o, ho, hc, hd⟩ := id hit
  unfold pyNext
  refine wpAny_bind (wpAny_attempt (wpAny_callSpecial?_slot (name := Str.ofString "__next__") hit.typeIs F.slot_dict_keyiterator_next
    (wpAny_call_entry F.slot_dict_keyiterator_next hit.typeIs F.entry_dict_keyiterator_next ?_ (F.args_dict_keyiterator_next_1 _))))
  refine wpAny_bind (wpAny_pure ?_)
  refine wpAny_bind ?_
  refine wpAny_bind ?_
  first | refine wpAny_bind (wpAny_typeNameOfWhole_keyiter hit.typeIs (wpAny_pure ?_)) | refine wpAny_bind (wpAny_typeNameOf_keyiter hit.typeIs (wpAny_pure ?_))
  refine wpAny_bind (wpAny_fieldsOf ho hd ?_)
  have hown : Builtin.Dict_items.ownsTuple "dict_keyiterator" = false := by decide
  simp only [hown, Bool.false_eq_true, if_false]
  show wpAny _ _ (if (Value.ref d == Value.none) = true then _ else _) _ _ s
  rw [if_neg (show ¬ ((Value.ref d == Value.none) = true) from Bool.false_ne_true)]
  refine wpAny_bind (wpAny_pure ?_)
  refine wpAny_bind (wpAny_dictEntries hod hdd ?_)
  rw [if_neg (by rw [hsz]; simp)]
  refine wpAny_bind (wpAny_pure ?_)
  refine wpAny_bind (wpAny_dictEpoch hod hdd ?_)
  rw [if_neg (by simp)]
  refine wpAny_pure ?_
  obtain ⟨hlt', hen⟩ := Array.getElem?_eq_some_iff.mp hx
  simp only [show ¬ ((i : Int) < 0) from by omega, if_false, Int.toNat_natCast, Array.getElem?_eq_getElem hlt']
  refine wpAny_bind ?_
  first | refine wpAny_bind (wpAny_typeNameOfWhole_keyiter hit.typeIs (wpAny_pure ?_)) | refine wpAny_bind (wpAny_typeNameOf_keyiter hit.typeIs (wpAny_pure ?_))
  refine wpAny_bind (wpAny_isOneOf_keyiter hit.typeIs ?_)
  show wpAny _ _ (setField (.ref it) 1 (rawInt ((i : Int) + 1)) >>= _) _ _ s
  refine wpAny_bind (wpAny_setField ho hd (by simp) ?_)
  have hit' : (s.heap.update it (Obj.mapFields (·.setIfInBounds 1 (rawInt ((i : Int) + 1))))).IsKeyIter it d (i + 1) n ep :=
    ⟨_, Heap.get?_update_self _ ho (Obj.isFreed_of_fields (Obj.data_mapFields hd _)), (Obj.cls_mapFields ..).trans hc, by rw [Obj.data_mapFields hd]; simp [rawInt]⟩
  refine wpAny_bind (wpAny_holding ?_)
  refine wpAny_bind (wpAny_isOneOf_keyiter (s := { s with heap := s.heap.update it (Obj.mapFields (·.setIfInBounds 1 (rawInt ((i : Int) + 1)))) }) hit'.typeIs ?_)
  show wpAny _ _ (pure es[i].key) _ _ _
  rw [hen]
  exact wpAny_pure (wpAny_pure ⟨_, rfl, wpAny_pure (hQ _ hit' (Heap.SameBut.update ..))⟩)
theorem next_key_end {it d : Addr} {i n ep : Nat} {od : Obj} {es : Array DictEntry} {Q : Option Value → Shared → Prop} (hh : A.handled = none) (hit : s.heap.IsKeyIter it d i n ep) (hod : s.heap.get? d = some od) (hdd : od.data = .dict es ep)
    (hsz : es.size = n) (hge : n ≤ i) (hQ : ∀ h', Heap.ExtBut it s.heap h' → Q none { s with heap := h' }) : wpAny (model prog w) A (pyNext (.ref it)) Q E s := by
  obtain ⟨o, ho, hc, hd⟩ := id hit
  unfold pyNext
  refine wpAny_bind (wpAny_attempt (wpAny_callSpecial?_slot (name := Str.ofString "__next__") hit.typeIs F.slot_dict_keyiterator_next
    (wpAny_call_entry F.slot_dict_keyiterator_next hit.typeIs F.entry_dict_keyiterator_next ?_ (F.args_dict_keyiterator_next_1 _))))
  refine wpAny_bind (wpAny_pure ?_)
  refine wpAny_bind ?_
  refine wpAny_bind ?_
  first | refine wpAny_bind (wpAny_typeNameOfWhole_keyiter hit.typeIs (wpAny_pure ?_)) | refine wpAny_bind (wpAny_typeNameOf_keyiter hit.typeIs (wpAny_pure ?_))
  refine wpAny_bind (wpAny_fieldsOf ho hd ?_)
  have hown : Builtin.Dict_items.ownsTuple "dict_keyiterator" = false := by decide
  simp only [hown, Bool.false_eq_true, if_false]
  show wpAny _ _ (if (Value.ref d == Value.none) = true then _ else _) _ _ s
  rw [if_neg (show ¬ ((Value.ref d == Value.none) = true) from Bool.false_ne_true)]
  refine wpAny_bind (wpAny_pure ?_)
  refine wpAny_bind (wpAny_dictEntries hod hdd ?_)
  rw [if_neg (by rw [hsz]; simp)]
  refine wpAny_bind (wpAny_pure ?_)
  refine wpAny_bind (wpAny_dictEpoch hod hdd ?_)
  rw [if_neg (by simp)]
  refine wpAny_pure ?_
  have hge' : es.size ≤ i := by rw [hsz]; exact hge
  simp only [show ¬ ((i : Int) < 0) from by omega, if_false, Int.toNat_natCast, Array.getElem?_eq_none hge']
  refine wpAny_bind ?_
  first | refine wpAny_bind (wpAny_typeNameOfWhole_keyiter hit.typeIs (wpAny_pure ?_)) | refine wpAny_bind (wpAny_typeNameOf_keyiter hit.typeIs (wpAny_pure ?_))
  show wpAny _ _ (setField (.ref it) 0 .none >>= _) _ _ s
  refine wpAny_bind (wpAny_setField ho hd (by simp) ?_)
  show wpAny _ _ (newExc (.type "StopIteration") [] >>= _) _ _ _
  refine wpAny_bind ?_
  simp only [newExc, newTuple]
  refine wpAny_bind (wpAny_newObj_type ?_ (by size_fits))
  refine wpAny_bind (m := firstArgMember _ _) (wpAny_of_eq (a := Value.none) (by first | rfl | (simp only [firstArgMember]; rfl)) ?_)
  refine wpAny_newObj_type ?_ (by size_fits)
  simp only [raiseNew]
  refine wpAny_bind (wpAny_handled ?_)
  rw [show A.in1.handled = none from hh]
  refine wpAny_bind (wpAny_pure (wpAny_throw ?_))
  refine wpAny_bind (wpAny_isInstance (T := "StopIteration") (b := true) ⟨_, Heap.get?_push_size _ rfl, rfl⟩ isSubtype_stop ?_)
  exact wpAny_pure (hQ _ (((Heap.SameBut.update ..).extBut.push _).push _))
end
/-! ### a locked dict -/
theorem kv_get {κ : Type} {kvs : List (κ × V)} {vs : List (κ × Value)} (h : KV kvs vs) : ∀ {i : Nat} {k : κ} {v : V}, kvs[i]? = some (k, v) → ∃ u, vs[i]? = some (k, u) ∧ RelV v u := by
  unfold KV at h
  induction h with
  | nil => intro i k v e; simp at e
  | @cons a b l₁ l₂ r t ih =>
    intro i k v e
    cases i with
    | zero =>
      simp only [List.getElem?_cons_zero, Option.some.injEq] at e
      subst e
      refine ⟨b.2, ?_, r.2⟩
      simp only [List.getElem?_cons_zero]
      exact congrArg some (Prod.ext r.1.symm rfl)
    | succ j =>
      simp only [List.getElem?_cons_succ] at e ⊢
      exact ih e
theorem paired_get {α β : Type} {G : α → β → Prop} {l₁ : List α} {l₂ : List β} (h : Paired G l₁ l₂) : ∀ {i : Nat} {a : α}, l₁[i]? = some a → ∃ b, l₂[i]? = some b ∧ G a b := by
  induction h with
  | nil => intro i a e; simp at e
  | @cons a b l₁ l₂ r t ih =>
    intro i a' e
    cases i with
    | zero =>
      simp only [List.getElem?_cons_zero, Option.some.injEq] at e
      subst e
      exact ⟨b, rfl, r⟩
    | succ j =>
      simp only [List.getElem?_cons_succ] at e ⊢
      exact ih e
theorem relV_key {k : Key} {u : Value} (h : keyIs k u = true) : RelV (kV k) u := by
  rcases keyIs_shape h with ⟨i, t, rfl, rfl⟩ | ⟨x, t, rfl, rfl⟩
  · exact ⟨t, rfl⟩
  · exact ⟨t, rfl⟩
section
variable {X : Cx} {pins : List (Addr × Obj)} {σ : St} {H : Hp} {s : Shared} {d : Addr} {o : Obj}
theorem Inv.frzK {kvs : List (Key × V)} (I : Inv X pins σ H s) (h : H d = some (.frz o (.dK kvs))) :
    (d == sysModules) = false ∧ s.heap.get? d = some o ∧ o.ExactDict ∧ ∃ (es : Array DictEntry) (ep : Nat) (vs : List (Key × Value)), o.data = .dict es ep ∧ es.size = kvs.length ∧ KV kvs vs ∧ s.heap.DictAt (mixKind X.prog X.w) d vs ep := by
  obtain ⟨hd, z, hs, vs, kv, o', es, ep, ho, hx, hdt, r⟩ := I.hok d _ h
  rw [hd] at ho
  cases ho
  refine ⟨hs, hd, hx, es, ep, vs, hdt, ?_, kv, o, es, hd, hx, hdt, r⟩
  have l1 := r.2.1.length
  have l2 : kvs.length = vs.length := Paired.length kv
  rw [Array.length_toList] at l1
  omega
/-- the same for tuple keys -/
theorem Inv.frzT {kvs : List (List Key × V)} (I : Inv X pins σ H s) (h : H d = some (.frz o (.dT kvs))) :
    (d == sysModules) = false ∧ s.heap.get? d = some o ∧ o.ExactDict ∧ ∃ (es : Array DictEntry) (ep : Nat), o.data = .dict es ep ∧ es.size = kvs.length ∧
      ∀ (i : Nat) (k : List Key) (v : V), kvs[i]? = some (k, v) → ∃ (en : DictEntry) (q : Addr), es[i]? = some en ∧ en.key = .ref q ∧ H q = some (.tup (k.map kV)) := by
  obtain ⟨hd, z, hs, xs, pr, o', es, ep, ho, hx, hdt, he, _⟩ := I.hok d _ h
  rw [hd] at ho
  cases ho
  refine ⟨hs, hd, hx, es, ep, hdt, ?_, fun i k v e => ?_⟩
  · have l1 : es.size = xs.length := size_of_entries he
    have l2 : kvs.length = xs.length := Paired.length pr
    omega
  · obtain ⟨b, hb, e1, e2, _⟩ := paired_get pr e
    have q := entry_at he i
    rw [hb] at q
    exact ⟨_, b.2.1, q, rfl, e2⟩
end
/-- the keys of the locked dict at d, in their order -/
def Itk (d : Addr) (o : Obj) (kvs : List (Key × V)) : It :=
  ⟨fun i H => H d = some (.frz o (.dK kvs)) ∧ i < kvs.length, fun i H x H' => H' = H ∧ ∃ k v, kvs[i]? = some (k, v) ∧ x = kV k, fun i H => H d = some (.frz o (.dK kvs)) ∧ kvs.length ≤ i⟩
/-- .. of tuple keys: the key's own tuple -/
def Itkt (d : Addr) (o : Obj) (kvs : List (List Key × V)) : It :=
  ⟨fun i H => H d = some (.frz o (.dT kvs)) ∧ i < kvs.length, fun i H x H' => H' = H ∧ ∃ (k : List Key) (v : V) (q : Addr), kvs[i]? = some (k, v) ∧ x = .ref q ∧ H q = some (.tup (k.map kV)), fun i H => H d = some (.frz o (.dT kvs)) ∧ kvs.length ≤ i⟩
theorem dict_ep {o : Obj} {es es' : Array DictEntry} {ep ep' : Nat} (h : o.data = .dict es ep) (h' : o.data = .dict es' ep') : es' = es ∧ ep' = ep := by
  rw [h] at h'
  cases h'
  exact ⟨rfl, rfl⟩
section
variable {P : Program} {w : World} {K : PySem.W.Frag} {tg : Expr} {d : Addr} {o : Obj} {es : Array DictEntry} {ep : Nat}
theorem turn_keys {kvs : List (Key × V)} (it : Addr) (hod : o.data = .dict es ep) : Turn P w K tg (Itk d o kvs) [it] it (fun i h => h.IsKeyIter it d i kvs.length ep) where
  mem := by simp
  obj := fun i h st b hb => by
    have e : b = it := by simpa using hb
    subst e
    obtain ⟨oi, e, c, dd⟩ := st
    exact ⟨oi, e, fun v z => by rw [dd] at z; cases z⟩
  keep := fun i h h' st k => st.at fun oi e => k it (by simp) oi e
  item := by
    intro X hP hw hK hc i pins s σ H E I hf st hg
    subst hP hw hK
    obtain ⟨hd, hi⟩ := hg
    obtain ⟨f0, f1, f2, f3, f4, f5⟩ := hf it (by simp)
    obtain ⟨hs, hgd, hx, es', ep', vs, hdt, hsz, kv, hm⟩ := I.frzK hd
    obtain ⟨rfl, rfl⟩ := dict_ep hod hdt
    obtain ⟨⟨k, v⟩, hkv⟩ : ∃ p, kvs[i]? = some p := ⟨kvs[i], List.getElem?_eq_getElem hi⟩
    obtain ⟨u, hu, ru⟩ := kv_get kv hkv
    have hl : kvs.length = vs.length := Paired.length kv
    rw [hl] at st
    refine wpAny_pyNext_dict_item st hm hu fun key h' hkey st' sb => ?_
    have I1 : Inv X pins σ H { s with heap := h' } := I.turned (t' := s.toks) (fun b ob hb e => (sb.2 b hb).trans e) f0 f1 f3 f4 f5
    obtain ⟨oi, e, c, dd⟩ := id st'
    refine ⟨key, rfl, go_of (s := { s with heap := h' }) e c dd (by decide) ⟨kV k, H, I1, relV_key (show keyIs k key = true from hkey), ⟨rfl, k, v, hkv, rfl⟩, ?_, fun b hb => (hf b hb).1⟩⟩
    show h'.IsKeyIter it d (i + 1) kvs.length _
    rw [hl]
    exact st'
  done := by
    intro X hP hw hK hc i pins s σ H E I hf st hg
    subst hP hw hK
    obtain ⟨hd, hi⟩ := hg
    obtain ⟨f0, f1, f2, f3, f4, f5⟩ := hf it (by simp)
    obtain ⟨hs, hgd, hx, es', ep', vs, hdt, hsz, kv, hm⟩ := I.frzK hd
    obtain ⟨rfl, rfl⟩ := dict_ep hod hdt
    exact next_key_end (I.ok.hd hc) st hgd hdt hsz hi fun h' eb => ⟨rfl, I.turned (t' := s.toks) (fun b ob hb e => eb b ob hb e) f0 f1 f3 f4 f5⟩
  self := fun A i s Q E st h => wpAny_pyIter_keyiter st h
theorem turn_keysT {kvs : List (List Key × V)} (it : Addr) (hod : o.data = .dict es ep) : Turn P w K tg (Itkt d o kvs) [it] it (fun i h => h.IsKeyIter it d i kvs.length ep) where
  mem := by simp
  obj := fun i h st b hb => by
    have e : b = it := by simpa using hb
    subst e
    obtain ⟨oi, e, c, dd⟩ := st
    exact ⟨oi, e, fun v z => by rw [dd] at z; cases z⟩
  keep := fun i h h' st k => st.at fun oi e => k it (by simp) oi e
  item := by
    intro X hP hw hK hc i pins s σ H E I hf st hg
    subst hP hw hK
    obtain ⟨hd, hi⟩ := hg
    obtain ⟨f0, f1, f2, f3, f4, f5⟩ := hf it (by simp)
    obtain ⟨hs, hgd, hx, es', ep', hdt, hsz, ent⟩ := I.frzT hd
    obtain ⟨rfl, rfl⟩ := dict_ep hod hdt
    obtain ⟨⟨k, v⟩, hkv⟩ : ∃ p, kvs[i]? = some p := ⟨kvs[i], List.getElem?_eq_getElem hi⟩
    obtain ⟨en, q, hen, hkey, hq⟩ := ent i k v hkv
    refine next_key_item st hgd hdt hsz hen fun h' st' sb => ?_
    have I1 : Inv X pins σ H { s with heap := h' } := I.turned (t' := s.toks) (fun b ob hb e => (sb.2 b hb).trans e) f0 f1 f3 f4 f5
    obtain ⟨oi, e, c, dd⟩ := id st'
    exact ⟨en.key, rfl, go_of (s := { s with heap := h' }) e c dd (by decide) ⟨.ref q, H, I1, hkey, ⟨rfl, k, v, q, hkv, rfl, hq⟩, st', fun b hb => (hf b hb).1⟩⟩
  done := by
    intro X hP hw hK hc i pins s σ H E I hf st hg
    subst hP hw hK
    obtain ⟨hd, hi⟩ := hg
    obtain ⟨f0, f1, f2, f3, f4, f5⟩ := hf it (by simp)
    obtain ⟨hs, hgd, hx, es', ep', hdt, hsz, ent⟩ := I.frzT hd
    obtain ⟨rfl, rfl⟩ := dict_ep hod hdt
    exact next_key_end (I.ok.hd hc) st hgd hdt hsz hi fun h' eb => ⟨rfl, I.turned (t' := s.toks) (fun b ob hb e => eb b ob hb e) f0 f1 f3 f4 f5⟩
  self := fun A i s Q E st h => by
    refine wpAny_pyIter_slot st.typeIs F.slot_dict_keyiterator_iter (wpAny_call_entry F.slot_dict_keyiterator_iter st.typeIs F.entry_dict_keyiterator_iter ?_ (F.args_dict_keyiterator_iter_1 _))
    show wpAny _ _ (ret (.ref it)) _ _ s
    exact wpAny_pure ⟨_, rfl, "dict_keyiterator", _, st.typeIs, F.slot_dict_keyiterator_next.lookup, h⟩
end
/-! ### for k in d, d.keys(), d.values(), d.items() -/
/-- the dict is locked (tLock, or by the caller) -/
def iKeys (td : TE) : TI := fun σ H R => td σ H fun x H1 => ∃ d o, x = .ref d ∧ ((∃ kvs, H1 d = some (.frz o (.dK kvs)) ∧ R (Itk d o kvs) H1) ∨ ∃ kvs, H1 d = some (.frz o (.dT kvs)) ∧ R (Itkt d o kvs) H1)
section
variable {X : Cx} {tg e : Expr} {td : TE} {apos cpos : Pos}
theorem pi_keys (he : PE X e td) : PI X tg e (iKeys td) := by
  intro pins s σ H R I h
  refine thn (he pins s σ H _ I h) fun u s1 ⟨x, H1, I1, rx, d, o, ex, q⟩ => ?_
  subst ex
  obtain rfl : u = Value.ref d := rx
  rcases q with ⟨kvs, hd, q⟩ | ⟨kvs, hd, q⟩
  · obtain ⟨hs, hgd, hx, es, ep, vs, hdt, hsz, kv, hm⟩ := I1.frzK hd
    refine iter_keys hs hgd hx hdt (pi_one (tk := s1.toks) I1 _ (turn_keys _ hdt) ⟨_, Heap.get?_push_size _ rfl, rfl, ?_⟩ q)
    rw [hsz] <;> rfl
  · obtain ⟨hs, hgd, hx, es, ep, hdt, hsz, ent⟩ := I1.frzT hd
    refine iter_keys hs hgd hx hdt (pi_one (tk := s1.toks) I1 _ (turn_keysT _ hdt) ⟨_, Heap.get?_push_size _ rfl, rfl, ?_⟩ q)
    rw [hsz] <;> rfl
end
/-! ### enumerate(list) -/
/-- the list at a as it stands at each turn, each item in a new pair -/
def Ite (K : PySem.W.Frag) (a : Addr) : It :=
  ⟨fun i H => ∃ (xs : List V) (x : V), SqL K H a xs ∧ xs[i]? = some x, fun i H v H' => ∃ T x, v = .ref T ∧ H T = none ∧ H' = upd H T (.tup [.int (i : Nat), x]) ∧ ∀ xs, SqL K H a xs → xs[i]? = some x, fun i H => ∃ xs : List V, SqL K H a xs ∧ xs.length ≤ i⟩
theorem turn_enum {P : Program} {w : World} {K : PySem.W.Frag} {elts : List Expr} {kk : Nat} {tpos : Pos} (a e it : Addr) :
    Turn P w K (.Tuple elts kk tpos) (Ite K a) [e, it] e (fun i h => (∃ old, IsEnum h e it ((i : Nat) : Int) old) ∧ h.IsListIter it a i ∧ e ≠ it) where
  mem := by simp
  obj := fun i h st b hb => by
    obtain ⟨⟨old, he⟩, ⟨o, ho, hc, hd⟩, _⟩ := st
    have e' : b = e ∨ b = it := by simpa using hb
    rcases e' with z | z
    · rw [z]; exact ⟨_, he, fun v q => nomatch q⟩
    · rw [z]; exact ⟨o, ho, fun v q => by rw [hd] at q; cases q⟩
  keep := fun i h h' st k => let ⟨⟨old, he⟩, hi, hne⟩ := st; ⟨⟨old, k e (by simp) _ he⟩, hi.at fun o q => k it (by simp) o q, hne⟩
  item := by
    intro X hP hw hK hc i pins s σ H E I hf st hg
    subst hP hw hK
    obtain ⟨⟨old, he⟩, hit, hne⟩ := st
    obtain ⟨xs, x, hq, hx⟩ := hg
    obtain ⟨its, rv, p, hz⟩ := I.list hq
    obtain ⟨u, hu, ru⟩ := rv.get hx
    have hel : e < s.heap.objs.size := Heap.lt_size he
    have hil : it < s.heap.objs.size := by obtain ⟨_, q, _⟩ := hit; exact Heap.lt_size q
    refine wpAny_pyNext_enum_item he hit p.isList (x := u) (by simpa using hu) hne fun h' ho hit' hT hsz hk => ?_
    refine ⟨_, rfl, wpAny_letOwnedTupleGo_enum (s := { s with heap := h', toks := s.toks + 1 }) ho fun h'' he' sb => ?_⟩
    have hT2 : h''.get? s.heap.objs.size = some { cls := .type "tuple", data := .seq #[.int i s.toks, u] } := (sb.2 _ (Nat.ne_of_gt hel)).trans hT
    have new : ObjOk X.prog X.w (upd H s.heap.objs.size (.tup [.int (i : Nat), x])) h'' s.heap.objs.size (.tup [.int (i : Nat), x]) :=
      ⟨by show 2 ≤ sizeLine; decide, [.int i s.toks, u], .cons ⟨_, rfl⟩ (.cons ru .nil), ⟨_, hT2, rfl, _, rfl⟩⟩
    have I1 : Inv X pins σ (upd H s.heap.objs.size (.tup [.int (i : Nat), x])) { s with heap := h'', toks := s.toks + 1 } :=
      I.turnedNew (ch := [e, it]) (fun b ob hb q => (sb.2 b (fun z => hb (by simp [z]))).trans (hk b ob (fun z => hb (by simp [z])) (fun z => hb (by simp [z])) q)) hf (Nat.le_refl _) new
    refine ⟨.ref s.heap.objs.size, _, I1, rfl, ⟨_, x, rfl, I.hok.fresh (Nat.le_refl _), rfl, fun ys hy => by rw [I.list_inj hy hq]; exact hx⟩, ⟨⟨u, ?_⟩, hit'.at fun o q => (sb.2 it (Ne.symm hne)).trans q, hne⟩, fun b hb => ?_⟩
    · have e1 : ((i + 1 : Nat) : Int) = (i : Int) + 1 := by omega
      rw [e1]; exact he'
    · have hb' : b < s.heap.objs.size := by
        have e' : b = e ∨ b = it := by simpa using hb
        rcases e' with z | z
        · rw [z]; exact hel
        · rw [z]; exact hil
      rw [upd_ne (Nat.ne_of_lt hb')]
      exact (hf b hb).1
  done := by
    intro X hP hw hK hc i pins s σ H E I hf st hg
    subst hP hw hK
    obtain ⟨⟨old, he⟩, hit, hne⟩ := st
    obtain ⟨xs, hq, hx⟩ := hg
    obtain ⟨its, rv, p, hz⟩ := I.list hq
    obtain ⟨f0, f1, f2, f3, f4, f5⟩ := hf it (by simp)
    have hl := rv.length
    exact wpAny_pyNext_enum_end (I.ok.hd hc) he hit p.isList (by simp; omega) fun h' eb => ⟨rfl, I.turned (t' := s.toks) (fun b o hb q => eb b o hb q) f0 f1 f3 f4 f5⟩
  self := fun A i s Q E st h => let ⟨⟨_, he⟩, _⟩ := st; wpAny_pyIter_enum he h
def iEnum (K : PySem.W.Frag) (ta : TA) : TI := fun σ H R => ta σ H fun vs H1 => ∃ a xs, vs = [.ref a] ∧ SqL K H1 a xs ∧ R (Ite K a) H1
theorem pi_enum {X : Cx} {e : Expr} {ta : TA} {p pos tpos : Pos} {elts : List Expr} {kk : Nat} (hg : Gl X "enumerate") (hm : X.mg "enumerate" = none) (ha : PA X [e] ta) (hs : starEach [e] X.env = [(false, eval e X.env)] := by rfl) :
    PI X (.Tuple elts kk tpos) (.Call (.Name "enumerate" p) [e] [] pos) (iEnum X.K ta) := by
  intro pins s σ H R I h
  refine Call_ (ld_blt I hg hm boot_enumerate (PyProof.Rows.callWith_type1 (thn (ha pos pins s σ H _ I h) fun us s1 ⟨vs, H1, I1, r1, q1⟩ => ?_) hs rfl))
  obtain ⟨a, xs, ex, hq, q⟩ := q1
  subst ex
  cases r1 with
  | cons r rr =>
    cases rr
    cases r
    obtain ⟨its, rv, p', hz⟩ := I1.list hq
    refine call_enumerate_list p'.isList fun h' he hit hsz hk => wpAny_pyIter_enum he ?_
    have I2 : Inv X pins σ H1 { s1 with heap := h' } := I1.kept (t' := s1.toks) hk
    refine ⟨s1.heap.objs.size + 1, [s1.heap.objs.size + 1, s1.heap.objs.size], _, _, H1, rfl, I2, turn_enum a (s1.heap.objs.size + 1) s1.heap.objs.size, ⟨⟨.none, he⟩, hit, Nat.succ_ne_self _⟩, fun b hb => ?_, q⟩
    have e' : b = s1.heap.objs.size + 1 ∨ b = s1.heap.objs.size := by simpa using hb
    have hle : s1.heap.objs.size ≤ b := by
      rcases e' with z | z
      · rw [z]; exact Nat.le_add_right _ _
      · rw [z]; exact Nat.le_refl _
    exact I1.fpOk hle (I1.hok.fresh hle)
/-! ### zip(list, list) -/
end L2
section 
namespace Bits
open PySem PyProof.Rows
end Bits
end 
section 
namespace TL
open PySem PySem.Builtin PySem.Builtin.Str PySem.StrLaws
/-! ### the list functions -/
/-! ### the model's split and partition are these -/
/-! ### computing spl and par -/
/-! ### digits -/
/-! ### words: x.split() -/
end TL
end 
namespace L2
open PySem PySem.Spec PyProof.Rows
section
variable {X : Cx} {pins : List (Addr × Obj)} {σ : St} {H : Hp} {s : Shared} {Q : VK}
end
section
variable {X : Cx}
/-! ### of a text alone -/
/-! ### of a text and a text -/
end
section
variable {X : Cx} {o e : Expr} {to te : TE}
end
end L2
namespace L2
open PySem PySem.Spec PyProof.Rows
section
variable {X : Cx}
end
/-! ### slices of a text -/
theorem IsPart.raw {v : Value} {o : Option Int} (p : IsPart v o) : ∃ l : Option (Int × Tok), v = partValue l ∧ l.map (·.1) = o := by
  cases p with
  | none => exact ⟨none, rfl, rfl⟩
  | int i t => exact ⟨some (i, t), rfl, rfl⟩
/-- a part, clipped, as the text's slice reckons it -/
def clipS (n d : Nat) : Option Int → Int
  | none => (d : Int)
  | some i => max 0 (min (if i < 0 then i + (n : Int) else i) (n : Int))
theorem clipS_eq (n d : Nat) (o : Option Int) : clipS n d o = ((HT.sIx n d o : Nat) : Int) := by
  cases o with
  | none => rfl
  | some v =>
    show max (0 : Int) (min (if v < 0 then v + (n : Int) else v) (n : Int)) = (((if v < 0 then (v + (n : Int)).toNat else min v.toNat n) : Nat) : Int)
    by_cases hv : v < 0
    · simp only [if_pos hv]
      omega
    · simp only [if_neg hv]
      omega
theorem sidx_clip (a b : Option Int) (n : Nat) : Builtin.Str.strSliceIndices a b 1 n = sliceRange (clipS n 0 a) (clipS n n b) 1 := by
  have h1 : ((1 : Int) > 0) = True := by simp
  cases a <;> cases b <;> first
    | rfl
    | (simp only [Builtin.Str.strSliceIndices, clipS, h1, if_true]; rfl)
    | simp [Builtin.Str.strSliceIndices, clipS]
theorem sidx (a b : Option Int) (n : Nat) : Builtin.Str.strSliceIndices a b 1 n = (List.range (HT.sIx n n b - HT.sIx n 0 a)).map (fun k => HT.sIx n 0 a + k) := by
  rw [sidx_clip, clipS_eq, clipS_eq]
  generalize HT.sIx n 0 a = p
  generalize HT.sIx n n b = q
  simp only [sliceRange, show ((1 : Int) > 0) = True from by simp, if_true]
  by_cases hlt : (p : Int) < q
  · have e3 : (((q : Int) - p + 1 - 1) / 1).toNat = q - p := by first | omega | (simp; done) | (simp; omega)
    simp only [hlt, if_true, e3]
    refine List.map_congr_left fun k _ => ?_
    omega
  · have : q - p = 0 := by omega
    simp [hlt, this]
/-- z[lo:hi] -/
def cutS (z : Str) (lo hi : Option Int) : Str :=
  ⟨((z.cps.toList.drop (HT.sIx z.length 0 lo)).take (HT.sIx z.length z.length hi - HT.sIx z.length 0 lo)).toArray⟩
theorem sliceText_cut (z : Str) (lo hi : Option Int) : PySem.StrLaws.sliceText z lo hi = cutS z lo hi := by
  have h1 : HT.sIx z.length 0 lo ≤ z.length := HT.sIx_le _ _ (Nat.zero_le _) _
  have h2 : HT.sIx z.length z.length hi ≤ z.length := HT.sIx_le _ _ (Nat.le_refl _) _
  have hp : HT.sIx z.length 0 lo ≤ max (HT.sIx z.length 0 lo) (HT.sIx z.length z.length hi) := Nat.le_max_left _ _
  have hq : max (HT.sIx z.length 0 lo) (HT.sIx z.length z.length hi) ≤ z.length := Nat.max_le.mpr ⟨h1, h2⟩
  have hd : max (HT.sIx z.length 0 lo) (HT.sIx z.length z.length hi) - HT.sIx z.length 0 lo = HT.sIx z.length z.length hi - HT.sIx z.length 0 lo := by omega
  have e : Builtin.Str.strSliceIndices lo hi 1 z.length =
      Builtin.Str.strSliceIndices (some ((HT.sIx z.length 0 lo : Nat) : Int)) (some ((max (HT.sIx z.length 0 lo) (HT.sIx z.length z.length hi) : Nat) : Int)) 1 z.length := by
    rw [PySem.StrLaws.strSliceIndices_plain hp hq, hd, sidx]
  have e2 : PySem.StrLaws.sliceText z lo hi =
      PySem.StrLaws.sliceText z (some ((HT.sIx z.length 0 lo : Nat) : Int)) (some ((max (HT.sIx z.length 0 lo) (HT.sIx z.length z.length hi) : Nat) : Int)) := by
    unfold PySem.StrLaws.sliceText
    rw [e]
  rw [e2, PySem.StrLaws.sliceText_nat z hp hq, hd]
  rfl
theorem cutS_length (z : Str) (lo hi : Option Int) : (cutS z lo hi).length ≤ z.length := by
  show (((z.cps.toList.drop (HT.sIx z.length 0 lo)).take (HT.sIx z.length z.length hi - HT.sIx z.length 0 lo)).toArray).size ≤ z.cps.size
  rw [List.size_toArray, List.length_take, List.length_drop, Array.length_toList]
  omega
def rSlS : V → Option Int → Option Int → Hp → VK → Prop := fun x lo hi H Q => ∃ z, x = .str z ∧ z.length ≤ sizeLine ∧ Q (.str (cutS z lo hi)) H
theorem sl_str {X : Cx} : SlR X rSlS := by
  intro pins s σ H x v vl vu lo hi sl Q I rx hs pl pu h
  obtain ⟨z, rfl, hz, q⟩ := h
  obtain ⟨t, rfl⟩ := rx
  obtain ⟨os, hos, hcs, hds⟩ := hs
  obtain ⟨l, rfl, rfl⟩ := IsPart.raw pl
  obtain ⟨u, rfl, rfl⟩ := IsPart.raw pu
  refine ⟨"str", _, F.slot_str_getitem.lookup, typeIs_str _ _ _, ?_⟩
  refine wpAny_getItem_str_slice (l := l) (u := u) (st := none) ⟨os, hos, hcs, hds⟩ rfl ?_
  have hl : (PySem.StrLaws.sliceText z (l.map (·.1)) (u.map (·.1))).length ≤ sizeLine := by
    rw [sliceText_cut]
    exact Nat.le_trans (cutS_length z _ _) hz
  rw [← sliceText_cut] at q
  unfold PySem.StrLaws.sliceText at q hl
  show Made.post (if ((1 : Int) == 1 && (Builtin.Str.strSliceIndices (l.map (·.1)) (u.map (·.1)) 1 z.length).length == z.length) = true then Made.val (.str z t)
    else Made.str ⟨((Builtin.Str.strSliceIndices (l.map (·.1)) (u.map (·.1)) 1 z.length).filterMap (z.cps[·]?)).toArray⟩) (EP X pins σ Q) s
  by_cases c : ((1 : Int) == 1 && (Builtin.Str.strSliceIndices (l.map (·.1)) (u.map (·.1)) 1 z.length).length == z.length) = true
  · rw [if_pos c] at q ⊢
    exact ⟨.str z, H, I, ⟨t, rfl⟩, q⟩
  · rw [if_neg c] at q hl ⊢
    exact ⟨hl, .str _, H, I.tok _, ⟨_, rfl⟩, q⟩
end L2
namespace Att
open PySem PySem.W PySem.Calls PyProof.Rows
/-! ### the script -/
/-! ### the attachment: holds_open's last premise (the goal 'hc' behind k_head) from a wpAny of the law's body -/
/-! ### rules over ANY heap (no ledger) from facts about the written part K: the library's own take a ledger (News) for what they write -/
section
variable {prog : Program} {w : World} {A : Around} {E : Value → Shared → Prop} {s : Shared} {K : Frag}
/-! the whole heap as the ledger: makes every rule that writes through a ledger a rule over any heap -/
end
end Att
namespace L2
open PySem PySem.Spec PyProof.Rows
end L2
namespace L2
open PySem PySem.Spec PyProof.Rows
end L2
/- THE LAST THEOREM (shape; LID, My.* are yours):
   My.Adr: a structure of the addresses that your layer names (classes, functions); My.Txt K t: a structure (Prop) of the equations over K;
   My.txt_mk : {K} {implicit addresses ..} (e1 : nsIn K mainGlobals "law" = some (some (.ref f))) (e2 : K.lookup f = some ⟨oc, od, .func (fnOf "law" "law" params body scope dV kV doc pm an cdv ct), sl⟩) (e3 : codeIn K cdv "law" = true) .. : ∃ t, My.Txt K t
set_option maxRecDepth 100000 in
set_option maxHeartbeats 0 in
theorem PySem.Challenge.cw_LID_holds : PySem.Challenge.rw_LID.Holds := by
  w_on; o_law; k_head; (case hw => w_witness2)
  k_fill
  refine L2.walk_of (l := PySem.Challenge.rw_LID) (n := 63) (k := 40) (x := "script") (CX := fun w => ..) (sp := fun _ => My.sp_law) rfl (by decide) rfl ⟨rfl, by decide, by decide⟩ (fun w h Y => PySem.W.kIn_of Y) ?F ?S ?C
  case F =>
    intro w mg fa h KX G hmg
    have T : ∃ t, My.Txt (L2.KOf KX) t := by
      dsimp only [L2.KOf]                          -- K must stand as «<heap const> w.params» for k_is
      refine' My.txt_mk ?e1 ?e2 ?e3 ..
      (case e1 => PySem.W.k_is)                    -- in the order: a name -> its address -> its object -> its parts
      (case e2 => PySem.W.k_is)
      ..
    obtain ⟨t, T⟩ := T
    have e0 := hmg.symm.trans (PySem.W.mg_of KX G T.law)
    cases e0                                       -- fa is the law's own address
    exact ⟨_, fun s u => .of_eq rfl, fun base kb nb => My.law_fn T kb nb⟩     -- if «.of_eq rfl» comes too early: refine' ⟨_, ?b, fun base kb nb => My.law_fn T kb nb⟩; exact fun s u => .of_eq rfl
  case S => exact fun w H a ns hl hO hS => ..
  case C => exact ..
(the tactic k_is has no namespace: write k_is) -/
/-! SHORT WORDS over the layer: a def of the text, its body, what a loop and a test want. -/
namespace L2
open PySem PySem.Spec PyProof.Rows
/-! ### the text by places -/
/-- the j-th statement of a class's body -/
def inClass (s : Stmt) (j : Nat) : Stmt := match s with
  | .ClassDef _ _ _ body _ _ _ _ _ _ _ => body.getD j (.Pass ⟨0, 0, 0, 0⟩)
  | _ => .Pass ⟨0, 0, 0, 0⟩
def defArgs (s : Stmt) : Arguments := match s with
  | .FunctionDef _ a _ _ _ _ _ _ _ _ => a
  | _ => { posonlyargs := [], args := [], vararg := none, kwonlyargs := [], kw_defaults := [], kwarg := none, defaults := [] }
def defBody (s : Stmt) : List Stmt := match s with
  | .FunctionDef _ _ b _ _ _ _ _ _ _ => b
  | _ => []
def defScope (s : Stmt) : Scope := match s with
  | .FunctionDef _ _ _ _ _ _ sc _ _ _ => sc
  | _ => { kind := .function, names := [], isGenerator := false, isCoroutine := false }
/-! ### no exception leaves a def -/
abbrev CX0 : CXT := fun _ _ _ _ _ _ => False
abbrev E0 : XK := fun _ _ _ => False
theorem pass0 {X : Cx} : Passes CX0 X E0 := fun _ _ _ _ _ _ _ h => h.elim
/-! ### a def (or method) of the text as it stands behind the top -/
structure Fun (K : PySem.W.Frag) (x qual : Str) (st : Stmt) (f : Addr) (fd : FuncData) : Prop where
  ex : ∃ (oc : Value) (od : Option Addr) (kV doc pm : Value) (an : Option Addr) (cdv ct : Value) (osl : Array (Option Value)),
    fd = PySem.W.fnOf x qual (defArgs st) (defBody st) (defScope st) .none kV doc pm an cdv ct ∧ K.lookup f = some ⟨oc, od, .func fd, osl⟩ ∧ PySem.W.codeIn K cdv qual = true
  kp : PySem.W.keepIn K (.ref f) = true
section
variable {P : Program} {w : World} {K : PySem.W.Frag} {mg : Str → Option Value} {base : Heap}
/-- THE RULE for a def: its body as a term of rules, and the reading of that term -/
theorem Fun.ok {x qual : Str} {st : Stmt} {f : Addr} {fd : FuncData} {N ps : List Str} {k : Nat} {sp : Sp} (F : Fun K x qual st f fd) (S : FnScope N ps (defScope st)) (len : ∀ vs H Q E, sp vs H Q E → vs.length = ps.length)
    (hbody : ∀ (cdv : Value) (A : Around) (outer : List Env) (s : Shared) (H : Hp) (vs : List V) (Q : VK) (E : XK), Room k (A.deeper (envOfC qual (defScope st) s.heap.objs.size f cdv)) → sp vs H Q E →
      ∃ t, PSs (cxOf CX0 P w K mg base N qual (defScope st) f cdv A outer s H E).nox (defBody st) t ∧ t { nx := fun _ H' => Q .non H', rt := Q } (start N vs) H) : FnOk P w K mg base CX0 (k + 1) f fd ps sp := by
  obtain ⟨oc, od, kV, doc, pm, an, cdv, ct, osl, rfl, lk, hcd⟩ := F.ex
  refine fn_of lk hcd S len fun A outer s H vs Q E hr hsp => ?_
  obtain ⟨t, h, q⟩ := hbody cdv A outer s H vs Q E hr hsp
  exact ⟨t, h.nox, q⟩
/-- how its arguments bind (no defaults): h is «fun _ _ _ _ _ _ us hl => match us, hl with | [_, _], _ => rfl», one _ a parameter -/
theorem Fun.binds {x qual : Str} {st : Stmt} {f : Addr} {fd : FuncData} {ps : List Str} (F : Fun K x qual st f fd)
    (h : ∀ (kV doc pm : Value) (an : Option Addr) (cdv ct : Value) (us : List Value), us.length = ps.length → bindArgs (PySem.W.fnOf x qual (defArgs st) (defBody st) (defScope st) .none kV doc pm an cdv ct) ⟨us, []⟩ = pure (ps.zip us)) : Binds K fd ps [] := by
  obtain ⟨oc, od, kV, doc, pm, an, cdv, ct, osl, rfl, lk, hcd⟩ := F.ex
  exact .all (h kV doc pm an cdv ct)
theorem fun_mk {x qual : Str} {st : Stmt} {f : Addr} {oc : Value} {od an : Option Addr} {osl : Array (Option Value)} {kV doc pm cdv ct : Value} (l : K.lookup f = some ⟨oc, od, .func (PySem.W.fnOf x qual (defArgs st) (defBody st) (defScope st) .none kV doc pm an cdv ct), osl⟩)
    (c : PySem.W.codeIn K cdv qual = true) (k : PySem.W.keepIn K (.ref f) = true) : Fun K x qual st f (PySem.W.fnOf x qual (defArgs st) (defBody st) (defScope st) .none kV doc pm an cdv ct) := ⟨⟨oc, od, kV, doc, pm, an, cdv, ct, osl, rfl, l, c⟩, k⟩
end
theorem hu_of {A : Around} {k : Nat} (hr : Room k A) : A.units + 1 < cLine := Nat.lt_of_le_of_lt (Nat.add_le_add_left (by decide : 1 ≤ 64) _) hr.units
/-! ### expressions in short: the name that stands in the i-th slot -/
section
variable {X : Cx}
theorem pv (i : Nat) {x : Str} {pos : Pos} (hN : X.N[i]? = some x := by rfl) (hv : Vis X.env.scope x := by first | exact Or.inl rfl | exact Or.inr (Or.inl rfl) | exact Or.inr (Or.inr rfl)) (hd : (x == ("__debug__" : Str)) = false := by decide)
    (hcd : (x == ("__classdict__" : Str)) = false := by decide) : PE X (.Name x pos) (tVar i) := pe_var hN hv hd hcd
end
/-! ### tests -/
theorem ite2 {c A B : Prop} [Decidable c] (h1 : c → A) (h2 : ¬ c → B) : if c then A else B := by
  by_cases h : c
  · rw [if_pos h]
    exact h1 h
  · rw [if_neg h]
    exact h2 h
/-! ### heaps -/
/-- all that was tracked is as it was -/
def Same (H H' : Hp) : Prop := ∀ b o, H b = some o → H' b = some o
theorem Same.refl (H : Hp) : Same H H := fun _ _ h => h
theorem Same.trans {H H1 H2 : Hp} (a : Same H H1) (b : Same H1 H2) : Same H H2 := fun c o h => b c o (a c o h)
theorem Same.free {H H' : Hp} (e : Same H H') {l : Addr} (h : H' l = Option.none) : H l = Option.none := by
  cases q : H l with
  | none => rfl
  | some o =>
    rw [e l o q] at h
    cases h
/-! ### a dict's pairs: keys that differ -/
section
variable {κ : Type} [DecidableEq κ]
theorem dropK_pos {p : κ × V} {r : List (κ × V)} {k : κ} (e : p.1 = k) : dropK (p :: r) k = dropK r k := by
  unfold dropK
  rw [List.filter_cons, if_neg (by simp [e])]
theorem dropK_neg {p : κ × V} {r : List (κ × V)} {k : κ} (e : ¬ p.1 = k) : dropK (p :: r) k = p :: dropK r k := by
  unfold dropK
  rw [List.filter_cons, if_pos (by simp [e])]
theorem dropK_no : ∀ {kvs : List (κ × V)} {k : κ}, ¬ k ∈ kvs.map (·.1) → dropK kvs k = kvs
  | [], _, _ => rfl
  | p :: r, k, h => by
    have h' : ¬ k ∈ r.map (·.1) := fun m => by
      obtain ⟨q, hq, e⟩ := List.mem_map.mp m
      exact h (List.mem_map.mpr ⟨q, List.mem_cons.mpr (Or.inr hq), e⟩)
    rw [dropK_neg fun e => h (List.mem_map.mpr ⟨p, List.mem_cons.mpr (Or.inl rfl), e⟩), dropK_no h']
end
/-! ### lists -/
theorem nd_ix {α : Type} {l : List α} (hN : l.Nodup) {i j : Nat} {x : α} (a : l[i]? = some x) (b : l[j]? = some x) : i = j := by
  obtain ⟨h1, e1⟩ := List.getElem?_eq_some_iff.mp a
  obtain ⟨h2, e2⟩ := List.getElem?_eq_some_iff.mp b
  exact (List.getElem_inj hN).mp (e1.trans e2.symm)
end L2
section
set_option Elab.async false
set_option linter.all false
set_option maxRecDepth 100000
set_option maxHeartbeats 2000000
namespace L2
open PySem PySem.Spec PyProof.Rows
open PySem.W (WData Codec OpenSpec Well WellAll ReadsW ReadsAllW)
/-! ### an answer as data -/
mutual
/-- x stands for the datum d, lists and tuples all the way -/
inductive Dw (K : PySem.W.Frag) (H : Hp) : V → WData → Prop
  | non : Dw K H .non .none
  | bl (b : Bool) : Dw K H (.bl b) (.bool b)
  | int (i : Int) : Dw K H (.int i) (.int i)
  | str (x : Str) : Dw K H (.str x) (.str x)
  | byt (b : Array UInt8) : Dw K H (.byt b) (.bytes b.toList)
  | lst {a : Addr} {xs : List V} {ds : List WData} : SqL K H a xs → DwAll K H xs ds → Dw K H (.ref a) (.list ds)
  | tup {a : Addr} {xs : List V} {ds : List WData} : SqT K H a xs → DwAll K H xs ds → Dw K H (.ref a) (.tuple ds)
inductive DwAll (K : PySem.W.Frag) (H : Hp) : List V → List WData → Prop
  | nil : DwAll K H [] []
  | cons {v : V} {vs : List V} {d : WData} {ds : List WData} : Dw K H v d → DwAll K H vs ds → DwAll K H (v :: vs) (d :: ds)
end
theorem dw_ints {K : PySem.W.Frag} {H : Hp} : ∀ ns : List Int, DwAll K H (ns.map V.int) (ns.map WData.int)
  | [] => .nil
  | n :: r => .cons (.int n) (dw_ints r)
theorem ints_dw {K : PySem.W.Frag} {H : Hp} : ∀ (ns : List Int) (xs : List V), DwAll K H xs (ns.map WData.int) → xs = ns.map V.int
  | [], xs, h => by
    cases h
    rfl
  | n :: r, xs, h => by
    cases h with
    | cons h1 h2 =>
      cases h1
      rw [ints_dw r _ h2] <;> rfl
section
variable {P : Program} {w : World} {K : PySem.W.Frag} {H : Hp} {h : Heap} {R : PySem.W.WRecords} {cl : Str → Option Addr}
theorem sqL_at {a : Addr} {xs : List V} (hok : HOk P w H h) (KX : K.In h) (q : SqL K H a xs) : ∃ (its : List Value) (o : Obj) (n : Nat), Vals xs its ∧ h.get? a = some o ∧ o.cls = .type "list" ∧ o.data = .seq its.toArray n := by
  rcases q with q | ⟨o, its, n, e, hc, _, hd, _, hv⟩
  · obtain ⟨_, its, n, hv, e⟩ := (show ObjOk P w H h a (.lst xs) from q.ok hok)
    exact ⟨its, _, n, hv, e, rfl, rfl⟩
  · exact ⟨its.toList, o, n, hv, KX _ _ e, hc, by simp [hd]⟩
theorem sqT_at {a : Addr} {xs : List V} (hok : HOk P w H h) (KX : K.In h) (q : SqT K H a xs) : ∃ (its : List Value) (o : Obj) (n : Nat), Vals xs its ∧ h.get? a = some o ∧ o.cls = .type "tuple" ∧ o.data = .seq its.toArray n := by
  rcases q with q | ⟨o, its, n, e, hc, hd, _, hv⟩
  · obtain ⟨_, its, hv, o, e, hc, n, hd⟩ := (show ObjOk P w H h a (.tup xs) from q.ok hok)
    exact ⟨its, o, n, hv, e, hc, hd⟩
  · exact ⟨its.toList, o, n, hv, KX _ _ e, hc, by simp [hd]⟩
mutual
theorem Dw.reads (hok : HOk P w H h) (KX : K.In h) : ∀ (d : WData) (v : V) (u : Value), Dw K H v d → RelV v u → ∃ as, ReadsW R cl h u d as
  | .none, _, _, x, r => by
    cases x
    cases r
    exact ⟨_, ReadsW.none⟩
  | .bool b, _, _, x, r => by
    cases x
    cases r
    exact ⟨_, ReadsW.bool b⟩
  | .int i, _, _, x, r => by
    cases x
    obtain ⟨t, rfl⟩ := r
    exact ⟨_, ReadsW.int i t⟩
  | .str s, _, _, x, r => by
    cases x
    obtain ⟨t, rfl⟩ := r
    exact ⟨_, ReadsW.str s t⟩
  | .bytes b, _, _, x, r => by
    cases x
    obtain ⟨t, rfl⟩ := r
    exact ⟨_, ReadsW.bytes _ t⟩
  | .list ds, _, _, x, r => by
    cases x with
    | lst hs ha =>
      cases r
      obtain ⟨its, o, n, rv, ho, hc, hd⟩ := sqL_at hok KX hs
      obtain ⟨as, hr⟩ := Dw.readsAll hok KX ds _ its ha rv
      exact ⟨_, ReadsW.list ho hc hd hr⟩
  | .tuple ds, _, _, x, r => by
    cases x with
    | tup hs ha =>
      cases r
      obtain ⟨its, o, n, rv, ho, hc, hd⟩ := sqT_at hok KX hs
      obtain ⟨as, hr⟩ := Dw.readsAll hok KX ds _ its ha rv
      exact ⟨_, ReadsW.tuple ho hc hd hr⟩
  | .float _, _, _, x, _ => by cases x
  | .dict _, _, _, x, _ => by cases x
  | .bytearray _, _, _, x, _ => by cases x
  | .set _, _, _, x, _ => by cases x
  | .frozenset _, _, _, x, _ => by cases x
  | .obj _ _, _, _, x, _ => by cases x
theorem Dw.readsAll (hok : HOk P w H h) (KX : K.In h) : ∀ (ds : List WData) (vs : List V) (us : List Value), DwAll K H vs ds → Vals vs us → ∃ as, ReadsAllW R cl h us ds as
  | [], _, _, x, r => by
    cases x
    cases r
    exact ⟨_, ReadsAllW.nil⟩
  | d :: ds, _, _, x, r => by
    cases x with
    | cons h1 h2 =>
      cases r with
      | cons r1 r2 =>
        obtain ⟨as, q1⟩ := Dw.reads hok KX d _ _ h1 r1
        obtain ⟨bs, q2⟩ := Dw.readsAll hok KX ds _ _ h2 r2
        exact ⟨_, ReadsAllW.cons q1 q2⟩
end
end
/-! ### the arguments -/
mutual
/-- data that a codec tells -/
def plW : WData → Bool
  | .none => true
  | .bool _ => true
  | .int _ => true
  | .str _ => true
  | .bytes _ => true
  | .list xs => plWs xs
  | .tuple xs => plWs xs
  | _ => false
def plWs : List WData → Bool
  | [] => true
  | x :: r => plW x && plWs r
end
theorem plWs_map {α : Type} {f : α → WData} (h : ∀ a, plW (f a) = true) : ∀ l : List α, plWs (l.map f) = true
  | [] => rfl
  | x :: r => by
    show (plW (f x) && plWs (r.map f)) = true
    rw [h x, plWs_map h r] <;> rfl
theorem pl_enc : ∀ (c : Codec) (a : c.denote), plW (c.enc a) = true
  | .unit, _ => rfl
  | .bool, _ => rfl
  | .int _ _, _ => rfl
  | .nat _ _, _ => rfl
  | .u8, _ => rfl
  | .bytes _ _, _ => rfl
  | .text _ _ _ _, _ => rfl
  | .list _ _ c, a => plWs_map (fun x => pl_enc c x) a
  | .pair c d, a => by
    show (plW (c.enc a.1) && (plW (d.enc a.2) && true)) = true
    rw [pl_enc c a.1, pl_enc d a.2] <;> rfl
  | .triple c d e, a => by
    show (plW (c.enc a.1) && (plW (d.enc a.2.1) && (plW (e.enc a.2.2) && true))) = true
    rw [pl_enc c a.1, pl_enc d a.2.1, pl_enc e a.2.2] <;> rfl
  | .option c, none => rfl
  | .option c, some x => pl_enc c x
theorem pl_encAll : ∀ (cs : List Codec) (a : Codec.denoteAll cs), plWs (Codec.encAll cs a) = true
  | [], _ => rfl
  | c :: cs, a => by
    show (plW (c.enc a.1) && plWs (Codec.encAll cs a.2)) = true
    rw [pl_enc c a.1, pl_encAll cs a.2] <;> rfl
theorem weight_mem : ∀ {xs : List WData} {d : WData}, d ∈ xs → d.weight ≤ WData.weightAll xs
  | [], d, h => absurd h (by simp)
  | x :: r, d, h => by
    show d.weight ≤ x.weight + 1 + WData.weightAll r
    rcases List.mem_cons.mp h with e | m
    · rw [e]
      omega
    · have z := weight_mem m
      omega
def toV : Value → V
  | .none => .non
  | .bool b => .bl b
  | .int i _ => .int i
  | .str x _ => .str x
  | .bytes b _ => .byt b
  | .ref a => .ref a
  | _ => .non
/-- a value of the arguments, its objects among A -/
def OkU (A : List Addr) : Value → Prop
  | .none => True
  | .bool _ => True
  | .int _ _ => True
  | .str _ _ => True
  | .bytes _ _ => True
  | .ref a => a ∈ A
  | _ => False
theorem OkU.mono {A B : List Addr} (h : ∀ a ∈ A, a ∈ B) : ∀ {u : Value}, OkU A u → OkU B u := fun {u} x => by
  cases u with
  | ref a => exact h a x
  | none => trivial
  | bool b => trivial
  | int i t => trivial
  | str s t => trivial
  | bytes b t => trivial
  | _ => exact False.elim x
theorem relV_toV {A : List Addr} {u : Value} (x : OkU A u) : RelV (toV u) u := by
  cases u with
  | ref a => rfl
  | none => rfl
  | bool b => rfl
  | int i t => exact ⟨t, rfl⟩
  | str s t => exact ⟨t, rfl⟩
  | bytes b t => exact ⟨t, rfl⟩
  | _ => exact False.elim x
theorem vals_toV {A : List Addr} : ∀ {vs : List Value}, (∀ u ∈ vs, OkU A u) → Vals (vs.map toV) vs
  | [], _ => .nil
  | u :: r, h => .cons (relV_toV (h u (List.mem_cons_self ..))) (vals_toV fun x hx => h x (List.mem_cons_of_mem _ hx))
/-- an object of the arguments -/
def ArgOb (h : Heap) (A : List Addr) (a : Addr) : Prop := ∃ vs : List Value, vs.length ≤ sizeLine ∧ (∀ u ∈ vs, OkU A u) ∧
  (h.get? a = some { cls := .type "list", data := .seq vs.toArray } ∨ h.get? a = some { cls := .type "tuple", data := .seq vs.toArray })
theorem ArgOb.mono {h : Heap} {A B : List Addr} {a : Addr} (k : ∀ a ∈ A, a ∈ B) (x : ArgOb h A a) : ArgOb h B a := by
  obtain ⟨vs, h1, h2, h3⟩ := x
  exact ⟨vs, h1, fun u hu => (h2 u hu).mono k, h3⟩
theorem wellAll_len {P : Params} {h : Heap} : ∀ {vs : List Value} {ds : List WData}, WellAll P h vs ds → vs.length = ds.length
  | _, _, .nil => rfl
  | _, _, .cons _ b => by
    show _ + 1 = _ + 1
    rw [wellAll_len b]
theorem well_list {P : Params} {h : Heap} {v : Value} {ds : List WData} (x : Well P h v (.list ds)) : ∃ (a : Addr) (vs : List Value), v = .ref a ∧ h.get? a = some { cls := .type "list", data := .seq vs.toArray } ∧ WellAll P h vs ds := by
  cases x with
  | list ho hall => exact ⟨_, _, rfl, ho, hall⟩
theorem well_tuple {P : Params} {h : Heap} {v : Value} {ds : List WData} (x : Well P h v (.tuple ds)) : ∃ (a : Addr) (vs : List Value), v = .ref a ∧ h.get? a = some { cls := .type "tuple", data := .seq vs.toArray } ∧ WellAll P h vs ds := by
  cases x with
  | tuple ho hall => exact ⟨_, _, rfl, ho, hall⟩
theorem well_cons {P : Params} {h : Heap} {us : List Value} {d : WData} {ds : List WData} (x : WellAll P h us (d :: ds)) : ∃ (v : Value) (vs : List Value), us = v :: vs ∧ Well P h v d ∧ WellAll P h vs ds := by
  cases x with
  | cons a b => exact ⟨_, _, rfl, a, b⟩
theorem line_of {n : Nat} (h : n ≤ 1048576) : n ≤ sizeLine := Nat.le_trans h (by decide)
section
variable {P : Params} {h : Heap}
mutual
theorem area_one : ∀ (d : WData) (v : Value), Well P h v d → plW d = true → d.weight ≤ 1048576 → ∃ A : List Addr, OkU A v ∧ ∀ a ∈ A, ArgOb h A a
  | .none, _, x, _, _ => by
    cases x
    exact ⟨[], trivial, fun a m => absurd m (by simp)⟩
  | .bool b, _, x, _, _ => by
    cases x
    exact ⟨[], trivial, fun a m => absurd m (by simp)⟩
  | .int i, _, x, _, _ => by
    cases x
    exact ⟨[], trivial, fun a m => absurd m (by simp)⟩
  | .str s, _, x, _, _ => by
    cases x
    exact ⟨[], trivial, fun a m => absurd m (by simp)⟩
  | .bytes b, _, x, _, _ => by
    cases x
    exact ⟨[], trivial, fun a m => absurd m (by simp)⟩
  | .list ds, _, x, p, z => by
    obtain ⟨a, vs, rfl, ho, hall⟩ := well_list x
    have z2 : WData.weightAll ds ≤ 1048576 := z
    obtain ⟨A, h1, h2⟩ := area_all ds _ hall p fun d hd => Nat.le_trans (weight_mem hd) z2
    have k : ∀ b ∈ A, b ∈ a :: A := fun b hb => List.mem_cons_of_mem _ hb
    refine ⟨a :: A, List.mem_cons_self .., fun b hb => ?_⟩
    rcases List.mem_cons.mp hb with e | m
    · rw [e]
      exact ⟨vs, line_of (by rw [wellAll_len hall]; exact Nat.le_trans (PySem.W.length_le_weightAllW ds) z2), fun u hu => (h1 u hu).mono k, .inl ho⟩
    · exact (h2 b m).mono k
  | .tuple ds, _, x, p, z => by
    obtain ⟨a, vs, rfl, ho, hall⟩ := well_tuple x
    have z2 : WData.weightAll ds ≤ 1048576 := z
    obtain ⟨A, h1, h2⟩ := area_all ds _ hall p fun d hd => Nat.le_trans (weight_mem hd) z2
    have k : ∀ b ∈ A, b ∈ a :: A := fun b hb => List.mem_cons_of_mem _ hb
    refine ⟨a :: A, List.mem_cons_self .., fun b hb => ?_⟩
    rcases List.mem_cons.mp hb with e | m
    · rw [e]
      exact ⟨vs, line_of (by rw [wellAll_len hall]; exact Nat.le_trans (PySem.W.length_le_weightAllW ds) z2), fun u hu => (h1 u hu).mono k, .inr ho⟩
    · exact (h2 b m).mono k
  | .float _, _, _, p, _ => Bool.noConfusion (show false = true from p)
  | .dict _, _, _, p, _ => Bool.noConfusion (show false = true from p)
  | .bytearray _, _, _, p, _ => Bool.noConfusion (show false = true from p)
  | .set _, _, _, p, _ => Bool.noConfusion (show false = true from p)
  | .frozenset _, _, _, p, _ => Bool.noConfusion (show false = true from p)
  | .obj _ _, _, _, p, _ => Bool.noConfusion (show false = true from p)
theorem area_all : ∀ (ds : List WData) (vs : List Value), WellAll P h vs ds → plWs ds = true → (∀ d ∈ ds, d.weight ≤ 1048576) → ∃ A : List Addr, (∀ u ∈ vs, OkU A u) ∧ ∀ a ∈ A, ArgOb h A a
  | [], _, x, _, _ => by
    cases x
    exact ⟨[], fun u m => absurd m (by simp), fun a m => absurd m (by simp)⟩
  | d :: ds, _, x, p, z => by
    obtain ⟨v, vs, rfl, x1, x2⟩ := well_cons x
    have q : plW d = true ∧ plWs ds = true := Bool.and_eq_true_iff.mp p
    obtain ⟨A, a1, a2⟩ := area_one d v x1 q.1 (z d (List.mem_cons_self ..))
    obtain ⟨B, b1, b2⟩ := area_all ds vs x2 q.2 fun e he => z e (List.mem_cons_of_mem _ he)
    have kA : ∀ b ∈ A, b ∈ A ++ B := fun b hb => List.mem_append.mpr (.inl hb)
    have kB : ∀ b ∈ B, b ∈ A ++ B := fun b hb => List.mem_append.mpr (.inr hb)
    refine ⟨A ++ B, fun u hu => ?_, fun b hb => ?_⟩
    · rcases List.mem_cons.mp hu with e | m
      · rw [e]
        exact a1.mono kA
      · exact (b1 u m).mono kB
    · rcases List.mem_append.mp hb with m | m
      · exact (a2 b m).mono kA
      · exact (b2 b m).mono kB
end
end
/-- what is tracked of an argument's object -/
def hoOf (o : Obj) : Option HO := match o.data with
  | .seq vs _ => if (o.cls == Value.type "list") = true then some (.frz o (.lst (vs.toList.map toV))) else some (.frz o (.tup (vs.toList.map toV)))
  | _ => none
def argH (K : PySem.W.Frag) (h : Heap) (A : List Addr) : Hp := fun b => if b ∈ A then (if (K.lookup b).isNone = true then (h.get? b).bind hoOf else none) else none
/-- nothing is tracked but what is known to the object -/
def OnlyF (H : Hp) : Prop := ∀ b, H b = none ∨ ∃ o u, H b = some (.frz o u)
theorem hoOf_lst (vs : List Value) : hoOf { cls := .type "list", data := .seq vs.toArray } = some (.frz { cls := .type "list", data := .seq vs.toArray } (.lst (vs.map toV))) := by
  show (if (Value.type "list" == Value.type "list") = true then some (HO.frz { cls := .type "list", data := .seq vs.toArray } (.lst (vs.toArray.toList.map toV))) else some (HO.frz { cls := .type "list", data := .seq vs.toArray } (.tup (vs.toArray.toList.map toV)))) = _
  rw [if_pos (beq_self_eq_true _)]
theorem hoOf_tup (vs : List Value) : hoOf { cls := .type "tuple", data := .seq vs.toArray } = some (.frz { cls := .type "tuple", data := .seq vs.toArray } (.tup (vs.map toV))) := by
  show (if (Value.type "tuple" == Value.type "list") = true then some (HO.frz { cls := .type "tuple", data := .seq vs.toArray } (.lst (vs.toArray.toList.map toV))) else some (HO.frz { cls := .type "tuple", data := .seq vs.toArray } (.tup (vs.toArray.toList.map toV)))) = _
  rw [if_neg (by decide)]
section
variable {P : Program} {w : World} {K : PySem.W.Frag} {h : Heap} {A : List Addr}
theorem argH_at {b : Addr} {o : Obj} (hb : b ∈ A) (hk : K.lookup b = none) (e : h.get? b = some o) : argH K h A b = hoOf o := by
  unfold argH
  rw [if_pos hb, hk, if_pos (show (none : Option Obj).isNone = true from rfl), e] <;> rfl
theorem of_argH {b : Addr} {u : HO} (q : argH K h A b = some u) : b ∈ A ∧ K.lookup b = none := by
  unfold argH at q
  by_cases hb : b ∈ A
  · rw [if_pos hb] at q
    cases hk : K.lookup b with
    | none => exact ⟨hb, rfl⟩
    | some o =>
      rw [hk, if_neg (by simp)] at q
      cases q
  · rw [if_neg hb] at q
    cases q
/-- what stands tracked -/
theorem argH_is (ar : ∀ a ∈ A, ArgOb h A a) {b : Addr} {u : HO} (q : argH K h A b = some u) : K.lookup b = none ∧ ∃ vs : List Value, vs.length ≤ sizeLine ∧ (∀ u ∈ vs, OkU A u) ∧
    ((h.get? b = some { cls := .type "list", data := .seq vs.toArray } ∧ u = .frz { cls := .type "list", data := .seq vs.toArray } (.lst (vs.map toV))) ∨
     (h.get? b = some { cls := .type "tuple", data := .seq vs.toArray } ∧ u = .frz { cls := .type "tuple", data := .seq vs.toArray } (.tup (vs.map toV)))) := by
  obtain ⟨hb, hk⟩ := of_argH q
  obtain ⟨vs, h1, h2, h3⟩ := ar b hb
  refine ⟨hk, vs, h1, h2, ?_⟩
  rcases h3 with e | e
  · rw [argH_at hb hk e, hoOf_lst] at q
    exact .inl ⟨e, (Option.some.inj q).symm⟩
  · rw [argH_at hb hk e, hoOf_tup] at q
    exact .inr ⟨e, (Option.some.inj q).symm⟩
theorem argH_only (ar : ∀ a ∈ A, ArgOb h A a) : OnlyF (argH K h A) := fun b => by
  cases q : argH K h A b with
  | none => exact .inl rfl
  | some u =>
    obtain ⟨_, vs, _, _, ⟨_, e⟩ | ⟨_, e⟩⟩ := argH_is ar q
    · exact .inr ⟨_, _, by rw [e]⟩
    · exact .inr ⟨_, _, by rw [e]⟩
theorem argH_ok (ar : ∀ a ∈ A, ArgOb h A a) : HOk P w (argH K h A) h := fun b u q => by
  obtain ⟨_, vs, h1, h2, ⟨e, rfl⟩ | ⟨e, rfl⟩⟩ := argH_is ar q
  · exact ⟨e, by rw [List.length_map]; exact h1, vs, _, vals_toV h2, e⟩
  · exact ⟨e, by rw [List.length_map]; exact h1, vs, vals_toV h2, _, e, rfl, _, rfl⟩
theorem seq_inj {c c' : Value} {vs us : List Value} (e : (some { cls := c, data := .seq vs.toArray } : Option Obj) = some { cls := c', data := .seq us.toArray }) : c = c' ∧ vs = us := by
  have e1 := Option.some.inj e
  have e2 : c = c' := congrArg Obj.cls e1
  have e3 : Data.seq vs.toArray = Data.seq us.toArray := congrArg Obj.data e1
  injection e3 with e4
  refine ⟨e2, ?_⟩
  have e5 := congrArg Array.toList e4
  simpa using e5
/-- a list argument -/
theorem argL (KX : K.In h) (ar : ∀ a ∈ A, ArgOb h A a) {a : Addr} {vs : List Value} (ha : a ∈ A) (e : h.get? a = some { cls := .type "list", data := .seq vs.toArray }) : (∀ u ∈ vs, OkU A u) ∧ SqL K (argH K h A) a (vs.map toV) := by
  obtain ⟨us, h1, h2, h3⟩ := ar a ha
  have hu : us = vs := by
    rcases h3 with q | q
    · rw [e] at q
      exact (seq_inj q).2.symm
    · rw [e] at q
      exact absurd (Value.type.inj (seq_inj q).1) (by decide)
  subst hu
  refine ⟨h2, ?_⟩
  cases hk : K.lookup a with
  | none => exact .inl (.inr ⟨_, by rw [argH_at ha hk e, hoOf_lst]⟩)
  | some o =>
    have e2 := KX a o hk
    rw [e] at e2
    obtain rfl := Option.some.inj e2
    exact .inr ⟨_, us.toArray, _, hk, rfl, rfl, rfl, by rw [List.size_toArray]; exact h1, by simpa using vals_toV h2⟩
theorem argT (KX : K.In h) (ar : ∀ a ∈ A, ArgOb h A a) {a : Addr} {vs : List Value} (ha : a ∈ A) (e : h.get? a = some { cls := .type "tuple", data := .seq vs.toArray }) : (∀ u ∈ vs, OkU A u) ∧ SqT K (argH K h A) a (vs.map toV) := by
  obtain ⟨us, h1, h2, h3⟩ := ar a ha
  have hu : us = vs := by
    rcases h3 with q | q
    · rw [e] at q
      exact absurd (Value.type.inj (seq_inj q).1) (by decide)
    · rw [e] at q
      exact (seq_inj q).2.symm
  subst hu
  refine ⟨h2, ?_⟩
  cases hk : K.lookup a with
  | none => exact .inl (.inr ⟨_, by rw [argH_at ha hk e, hoOf_tup]⟩)
  | some o =>
    have e2 := KX a o hk
    rw [e] at e2
    obtain rfl := Option.some.inj e2
    exact .inr ⟨_, us.toArray, _, hk, rfl, rfl, by rw [List.size_toArray]; exact h1, by simpa using vals_toV h2⟩
mutual
theorem dw_one {Pm : Params} (KX : K.In h) (ar : ∀ a ∈ A, ArgOb h A a) : ∀ (d : WData) (v : Value), Well Pm h v d → plW d = true → OkU A v → Dw K (argH K h A) (toV v) d
  | .none, _, x, _, _ => by
    cases x
    exact .non
  | .bool b, _, x, _, _ => by
    cases x
    exact .bl b
  | .int i, _, x, _, _ => by
    cases x
    exact .int i
  | .str s, _, x, _, _ => by
    cases x
    exact .str s
  | .bytes b, _, x, _, _ => by
    cases x
    have z := Dw.byt (K := K) (H := argH K h A) b.toArray
    exact z
  | .list ds, _, x, p, hu => by
    obtain ⟨a, vs, rfl, ho, hall⟩ := well_list x
    obtain ⟨h2, hs⟩ := argL KX ar hu ho
    exact .lst hs (dw_all KX ar ds _ hall p h2)
  | .tuple ds, _, x, p, hu => by
    obtain ⟨a, vs, rfl, ho, hall⟩ := well_tuple x
    obtain ⟨h2, hs⟩ := argT KX ar hu ho
    exact .tup hs (dw_all KX ar ds _ hall p h2)
  | .float _, _, _, p, _ => Bool.noConfusion (show false = true from p)
  | .dict _, _, _, p, _ => Bool.noConfusion (show false = true from p)
  | .bytearray _, _, _, p, _ => Bool.noConfusion (show false = true from p)
  | .set _, _, _, p, _ => Bool.noConfusion (show false = true from p)
  | .frozenset _, _, _, p, _ => Bool.noConfusion (show false = true from p)
  | .obj _ _, _, _, p, _ => Bool.noConfusion (show false = true from p)
theorem dw_all {Pm : Params} (KX : K.In h) (ar : ∀ a ∈ A, ArgOb h A a) : ∀ (ds : List WData) (vs : List Value), WellAll Pm h vs ds → plWs ds = true → (∀ u ∈ vs, OkU A u) → DwAll K (argH K h A) (vs.map toV) ds
  | [], _, x, _, _ => by
    cases x
    exact .nil
  | d :: ds, _, x, p, hu => by
    obtain ⟨v, vs, rfl, x1, x2⟩ := well_cons x
    have q : plW d = true ∧ plWs ds = true := Bool.and_eq_true_iff.mp p
    exact .cons (dw_one KX ar d v x1 q.1 (hu _ (List.mem_cons_self ..))) (dw_all KX ar ds vs x2 q.2 fun u m => hu u (List.mem_cons_of_mem _ m))
end
end
/-! ### the call -/
/-! ### the row -/
theorem layable_weight {ds : List WData} (h : WData.layableAll ds = true) : ∀ d ∈ ds, d.weight ≤ 1048576 := fun d hd =>
  (PySem.W.layableW_iff.mp (List.all_eq_true.mp h d hd)).2.2
theorem encAll_len : ∀ (cs : List Codec) (a : Codec.denoteAll cs), (Codec.encAll cs a).length = cs.length
  | [], _ => rfl
  | c :: cs, a => by
    show (Codec.encAll cs a.2).length + 1 = cs.length + 1
    rw [encAll_len cs a.2]
end L2
-- rests on (row put in by the clerk, for the bench that shows a file only what it spells): KE.SpHead KE.OsShapes
end
set_option Elab.async false
set_option linter.all false
set_option maxRecDepth 100000
set_option maxHeartbeats 2000000
namespace Kin
open PySem PySem.Spec PyProof.Rows L2
open PySem.W (Codec)
/-! ### rules that the layer lacks -/
section
variable {X : Cx}
/-- list(d): the keys, in their order -/
theorem call_list_dK (hc : X.calm = true) : CallR X (.type "list") (fun xs H Q => ∃ (a : Addr) (kvs : List (Key × V)), xs = [.ref a] ∧ H a = some (.dK kvs) ∧ ∀ l, H l = none → Q (.ref l) (upd H l (.lst (kvs.map fun p => kV p.1)))) := by
  intro pins s σ H xs us Q I r h
  obtain ⟨a, kvs, rfl, ha, q⟩ := h
  rw [Vals.ref1 r]
  obtain ⟨z, hs, vs, kv, dd⟩ := I.hok a _ ha
  obtain ⟨ep, hat⟩ := dd.dictAt
  have hlen : kvs.length = vs.length := Paired.length kv
  refine PySem.W.kdl_call (PySem.W.kdl_dict (knd := mixKind X.prog X.w) (kvs := vs) (ep := ep) hs) (I.ok.hd hc) hat (by rw [← hlen]; exact z) fun h' tk acc' c' hk hD hacc => ?_
  refine ⟨.ref s.heap.objs.size, upd H s.heap.objs.size (.lst (kvs.map fun p => kV p.1)), I.laid (t' := tk) hk (Nat.le_refl _) ⟨by rw [List.length_map]; exact z, acc'.toList, c', ?_, by simpa using hD⟩, rfl, q _ (I.hok.fresh (Nat.le_refl _))⟩
  obtain ⟨h1, h2⟩ := hacc
  have h1' : acc'.toList.length = vs.length := by rw [Array.length_toList]; exact h1
  have h2' : ∀ (j : Nat) (v : Value), acc'.toList[j]? = some v → ∃ (k : Key) (x : Value), vs[j]? = some (k, x) ∧ keyIs k v = true := fun j v e => h2 j v (by rw [← Array.getElem?_toList]; exact e)
  clear h1 h2 hD hat dd q ha hk z hlen
  revert h1' h2'
  generalize acc'.toList = as
  unfold KV at kv
  induction kv generalizing as with
  | nil =>
    intro h1 _
    cases as with
    | nil => exact .nil
    | cons b as => simp at h1
  | @cons p q l1 l2 rr t ih =>
    intro h1 h2
    cases as with
    | nil => simp at h1
    | cons b as =>
      obtain ⟨k, x, e, hk⟩ := h2 0 b rfl
      simp only [List.getElem?_cons_zero, Option.some.injEq] at e
      subst e
      refine .cons ?_ (ih as (by simpa using h1) fun j v e => by simpa using h2 (j + 1) v (by simpa using e))
      show L2.RelV (kV p.1) b
      rw [rr.1]
      exact relV_key hk
end
theorem b_list : bootBuiltins "list" = some (.type "list") := by decide +kernel
theorem b_any : bootBuiltins "any" = some (.builtin "any") := by decide +kernel
theorem b_all : bootBuiltins "all" = some (.builtin "all") := by decide +kernel
theorem b_min : bootBuiltins "min" = some (.builtin "min") := by decide +kernel
theorem b_max : bootBuiltins "max" = some (.builtin "max") := by decide +kernel
theorem b_len : bootBuiltins "len" = some (.builtin "len") := by decide +kernel
theorem b_sum : bootBuiltins "sum" = some (.builtin "sum") := by decide +kernel
theorem b_sorted : bootBuiltins "sorted" = some (.builtin "sorted") := by decide +kernel
theorem b_ord : bootBuiltins "ord" = some (.builtin "ord") := by decide +kernel
theorem b_str : bootBuiltins "str" = some (.type "str") := by decide +kernel
theorem b_range : bootBuiltins "range" = some (.type "range") := by decide +kernel
theorem take_snoc {α : Type} {l : List α} {i : Nat} {x : α} (h : l[i]? = some x) : l.take (i + 1) = l.take i ++ [x] := by
  rw [List.take_add_one, h]; rfl
theorem map_get {α : Type} {f : α → V} {l : List α} {i : Nat} {y : V} (h : (l.map f)[i]? = some y) : ∃ x, l[i]? = some x ∧ y = f x := by
  rw [List.getElem?_map] at h
  cases e : l[i]? with
  | none => rw [e] at h; cases h
  | some x => rw [e] at h; exact ⟨x, rfl, (Option.some.inj h).symm⟩
theorem go_ite {c : Bool} {A B : Prop} (ht : c = true → A) (hf : c = false → B) : if c = true then A else B := by
  cases c with
  | true => rw [if_pos rfl]; exact ht rfl
  | false => rw [if_neg Bool.false_ne_true]; exact hf rfl
theorem go_dec {p : Prop} [Decidable p] {A B : Prop} (ht : p → A) (hf : ¬ p → B) : if decide p = true then A else B := go_ite (fun h => ht (of_decide_eq_true h)) (fun h => hf (of_decide_eq_false h))
/-! ### numbers as values -/
def nv (n : Nat) : V := .int n
theorem nv_inj {a b : Nat} (h : nv a = nv b) : a = b := by
  unfold nv at h
  injection h with h
  exact Int.ofNat.inj h
/-- a list of lists of numbers stands at a, its rows at as -/
structure RowsAt (H : Hp) (a : Addr) (as : List Addr) (rows : List (List Nat)) : Prop where
  lst : H a = some (.lst (as.map V.ref))
  len : as.length = rows.length
  at_ : ∀ (j : Nat) (c : Addr), as[j]? = some c → H c = some (.lst ((rows.getD j []).map nv))
theorem RowsAt.same {H H' : Hp} {a : Addr} {as : List Addr} {rows : List (List Nat)} (R : RowsAt H a as rows) (s : Same H H') : RowsAt H' a as rows :=
  ⟨s _ _ R.lst, R.len, fun j c h => s _ _ (R.at_ j c h)⟩
theorem RowsAt.get {H : Hp} {a : Addr} {as : List Addr} {rows : List (List Nat)} (R : RowsAt H a as rows) {j : Nat} (h : j < rows.length) : ∃ c, as[j]? = some c ∧ H c = some (.lst ((rows.getD j []).map nv)) := by
  have h' : j < as.length := by rw [R.len]; exact h
  exact ⟨as[j], List.getElem?_eq_getElem h', R.at_ j _ (List.getElem?_eq_getElem h')⟩
end Kin
set_option Elab.async false
set_option linter.all false
set_option maxRecDepth 100000
set_option maxHeartbeats 2000000
namespace Kin
open PySem PySem.Spec PyProof.Rows L2
/-! ### a dict whose keys are tuples: len, clear, pop -/
section
variable {prog : Program} {w : World} {A : Around} {E : Value → Shared → Prop} {s : Shared}
theorem meets_len_raw (d : Addr) (hd : (d == sysModules) = false) :
    MeetsIn prog w (Builtin.«dict.__len__» ⟨[.ref d], []⟩) (fun _ R s => ∃ (o : Obj) (es : Array DictEntry) (ep : Nat), s.heap.get? d = some o ∧ o.ExactDict ∧ o.data = .dict es ep ∧ R (.ok (.ret (.int es.size s.toks))) { s with toks := s.toks + 1 }) :=
  .of_wp fun A R s ⟨o, es, ep, ho, hc, hdat, h⟩ => by
    show wpAny _ _ (dictSize d >>= _) _ _ s
    unfold dictSize
    refine wpAny_bind (wpAny_bind (wpAny_dictEntries ho hdat (wpAny_pure ?_)))
    show wpAny _ _ (Builtin.Dict.pendingCount d >>= _) _ _ s
    refine wpAny_bind (wpAny_pendingCount_other hd ?_)
    refine wpAny_ret_mkInt ?_
    rw [Nat.add_zero]; exact h
theorem call_len_raw {d : Addr} {o : Obj} {es : Array DictEntry} {ep : Nat} {Q : Value → Shared → Prop} (hd : (d == sysModules) = false) (ho : s.heap.get? d = some o) (hc : o.ExactDict) (hdat : o.data = .dict es ep) (hfit : (es.size : Int) < 2 ^ 63)
    (h : Q (.int es.size (s.toks + 1)) { s with toks := s.toks + 1 + 1 }) : wpAny (model prog w) A (call (.builtin "len") [.ref d]) Q E s := by
  refine Calls.call_function_entry kind_len plain_len entry_len (args_len1 _) ?_
  have hT : s.TypeIs (.ref d) "dict" := ⟨o, ho, hc.1⟩
  unfold Builtin.«len»
  refine wpAny_bind (m := oneArg "len" _) (wpAny_pure ?_)
  refine wpAny_bind (m := callSpecial? (.ref d) (Str.ofString "__len__")) (wpAny_callSpecial?_slot (name := Str.ofString "__len__") hT F.slot_dict_len
    (call_meetsIn F.slot_dict_len hT F.entry_dict_len (F.args_dict_len_1 _) (meets_len_raw d hd) ⟨o, es, ep, ho, hc, hdat, ?_⟩))
  show wpAny _ _ _ _ _ { s with toks := s.toks + 1 }
  refine wpAny_bind (wpAny_holding (wpAny_pure ?_))
  refine wpAny_bind (wpAny_letGo ?_)
  show wpAny _ _ (if ((es.size : Nat) : Int) < 0 then _ else _) _ _ _
  rw [if_neg (by omega)]
  show wpAny _ _ (if ((es.size : Nat) : Int) ≥ 2 ^ 63 then _ else _) _ _ _
  rw [if_neg (by omega)]
  exact wpAny_bind (wpAny_mkInt (wpAny_pure ⟨_, rfl, h⟩))
theorem meets_clear_raw (d : Addr) :
    MeetsIn prog w (Builtin.«dict.clear» ⟨[.ref d], []⟩) (fun _ R s => ∃ (o : Obj) (es : Array DictEntry) (ep : Nat), s.heap.get? d = some o ∧ o.ExactDict ∧ o.data = .dict es ep ∧ es.size ≤ sizeLine ∧
      ∀ h' o' ep', h'.get? d = some o' → o'.ExactDict → o'.data = .dict #[] ep' → Heap.SameBut d s.heap h' → R (.ok (.ret .none)) { s with heap := h' }) :=
  .of_wp fun A R s ⟨o, es, ep, ho, hc, hdat, hes, h⟩ => by
    have hT : s.TypeIs (.ref d) "dict" := ⟨o, ho, hc.1⟩
    unfold Builtin.«dict.clear»
    refine wpAny_bind ?_
    unfold Builtin.Dict.noArgs
    refine wpAny_bind (wpAny_notOrdered_dict hT ?_)
    show wpAny _ _ (pure d) _ _ s
    refine wpAny_pure ?_
    refine wpAny_bind (wpAny_dictEntries ho hdat ?_)
    refine wpAny_bind ?_
    unfold bearsInstanceDictMark
    refine wpAny_bind (wpAny_load ho (wpAny_pure ?_))
    refine wpAny_bind (wpAny_updateDictKeys (hz := hes) ho hdat ?_)
    have h2 := h (s.heap.update d (Obj.mapDictKeys fun _ => #[])) _ (ep + 1) (Heap.get?_update_self _ ho (Obj.isFreed_of_dict (Obj.data_mapDictKeys hdat _))) (hc.mapDictKeys _) (Obj.data_mapDictKeys hdat _) (Heap.SameBut.update ..)
    split
    · exact wpAny_bind (wpAny_letGo (wpAny_pure ⟨.none, rfl, h2⟩))
    · exact wpAny_bind (wpAny_pure (wpAny_pure ⟨.none, rfl, h2⟩))
end
section
variable {X : Cx}
/-- len(d), whatever its keys -/
theorem call_lenT : CallR X (.builtin "len") (fun xs H Q => ∃ a kvs, xs = [V.ref a] ∧ H a = some (.dT kvs) ∧ Q (.int kvs.length) H) := by
  intro pins s σ H xs us Q I r h
  obtain ⟨a, kvs, rfl, ha, q⟩ := h
  rw [Vals.ref1 r]
  obtain ⟨z, hd, xs, rel, o, es, ep, h1, h2, h3, h4, _⟩ := dt_of I.hok ha
  have hsz : es.size = kvs.length := by rw [size_of_entries h4, ← Paired.length rel]
  refine call_len_raw hd h1 h2 h3 (by rw [hsz]; rw [sizeLine_eq] at z; omega) ?_
  rw [hsz]
  exact ⟨.int kvs.length, H, I.tok _, ⟨_, rfl⟩, q⟩
/-- d.clear() -/
theorem mt_clearT : MtR X "dict.clear" (fun x xs H Q => ∃ a kvs, x = V.ref a ∧ xs = [] ∧ H a = some (.dT kvs) ∧ Q .non (upd H a (.dT []))) := by
  intro pins s σ H x xs v us Q I rx rs h
  obtain ⟨a, kvs, rfl, rfl, ha, q⟩ := h
  obtain rfl : v = Value.ref a := rx
  cases rs
  obtain ⟨z, hd, xs, rel, o, es, ep, h1, h2, h3, h4, _⟩ := dt_of I.hok ha
  have hsz : es.size = kvs.length := by rw [size_of_entries h4, ← Paired.length rel]
  refine call_meetsIn PySem.F.slot_dict_clear ⟨o, h1, h2.1⟩ PySem.F.entry_dict_clear (PySem.F.args_dict_clear_1 _) (meets_clear_raw a) ⟨o, es, ep, h1, h2, h3, by rw [hsz]; exact z, fun h' o' ep' g1 g2 g3 hs => ?_⟩
  exact ⟨.non, _, d_write (ob := .dT []) (t' := s.toks) I (by rw [ha]; exact True.intro) hs ⟨o', g1⟩ ⟨Nat.zero_le _, hd, [], .nil, o', #[], ep', g1, g2, g3, rfl, List.nodup_nil⟩, rfl, q⟩
end
/-! ### pop -/
theorem map_erase {α β : Type} (f : α → β) : ∀ (l : List α) (j : Nat), (l.eraseIdx j).map f = (l.map f).eraseIdx j
  | [], _ => rfl
  | _ :: _, 0 => rfl
  | a :: l, j + 1 => by
    show f a :: (l.eraseIdx j).map f = f a :: (l.map f).eraseIdx j
    rw [map_erase f l j]
section
variable {prog : Program} {w : World} {K : Type} [DecidableEq K] {knd : HeapKind prog w K} {A : Around} {E : Value → Shared → Prop} {s : Shared}
theorem takeOut_heap {d a : Addr} {xs : List (K × Addr × Value)} {k : K} {p : Addr × Value} {Q : Option DictEntry → Shared → Prop} (hu : knd.room A) (hkey : knd.is s.heap k a) (hm : s.heap.DictOfH knd d xs) (hp : atKey xs k = some p) (hsz : xs.length ≤ sizeLine)
    (hQ : ∀ (j : Nat) (h' : Heap) (e : DictEntry), xs[j]? = some (k, p) → e.val = p.2 → h'.DictOfH knd d (xs.eraseIdx j) → Heap.SameBut d s.heap h' → Q (some e) { s with heap := h', toks := s.toks + knd.draws k }) :
    wpAny (model prog w) A (Builtin.Dict.takeOut d (.ref a)) Q E s := by
  obtain ⟨o, es, ep, ho, hc, hd, he, his, hn⟩ := hm
  unfold Builtin.Dict.takeOut
  try with_reducible refine wpAny_holding ?_
  refine wpAny_bind (knd.pyHash hu hkey (wpAny_bind (wpAny_dictFind_heap (s := { s with toks := s.toks + knd.draws k }) hu hkey ho hd he his hn ?_ ?_)))
  · intro hno
    rw [atKey_none_of_get hno] at hp
    cases hp
  · intro j q hj
    have hq : q = p := by
      rw [atKey_of_get hn hj] at hp
      exact Option.some.inj hp
    subst hq
    refine wpAny_bind (wpAny_dictEntries (s := { s with toks := s.toks + knd.draws k }) ho hd ?_)
    rw [entry_at he j, hj]
    refine wpAny_bind (wpAny_updateDictKeys (hz := by rw [size_of_entries he]; exact hsz) (s := { s with toks := s.toks + knd.draws k }) ho hd (wpAny_pure (hQ j _ (entryOfKey knd (k, q)) hj rfl ⟨_, _, ep + 1, Heap.get?_update_self _ ho (Obj.isFreed_of_dict (Obj.data_mapDictKeys hd _)),
      hc.mapDictKeys _, Obj.data_mapDictKeys hd _, ?_, ?_, ?_⟩ (Heap.SameBut.update ..))))
    · obtain ⟨l⟩ := es
      have he : l = xs.map (entryOfKey knd) := he
      subst he
      have hjl : j < (xs.map (entryOfKey knd)).length := by rw [List.length_map]; exact (List.getElem?_eq_some_iff.mp hj).1
      simp [Array.eraseIdxIfInBounds, hjl, (List.getElem?_eq_some_iff.mp hj).1, map_erase]
    · intro x hx
      exact knd.keeps (his x (List.mem_of_mem_eraseIdx hx)) ho hd (Heap.SameBut.update ..)
    · rw [map_erase]
      exact hn.sublist (List.eraseIdx_sublist _ _)
theorem meetsH_pop (d a : Addr) :
    MeetsIn prog w (Builtin.«dict.pop» ⟨[.ref d, .ref a], []⟩) (fun A R s => knd.room A.in1 ∧ ∃ k xs p, knd.is s.heap k a ∧ s.heap.DictOfH knd d xs ∧ atKey xs k = some p ∧ xs.length ≤ sizeLine ∧
      ∀ (j : Nat) (h' : Heap), xs[j]? = some (k, p) → h'.DictOfH knd d (xs.eraseIdx j) → Heap.SameBut d s.heap h' → R (.ok (.ret p.2)) { s with heap := h', toks := s.toks + knd.draws k }) :=
  .of_wp fun A R s ⟨hu, k, xs, p, hkey, hm, hp, hsz, h⟩ => by
    unfold Builtin.«dict.pop»
    refine wpAny_bind ?_
    unfold Builtin.Dict.keyAndDefault
    refine wpAny_bind (wpAny_notOrdered_dict hm.typeIs ?_)
    show wpAny _ _ (pure (d, Value.ref a, none)) _ _ s
    refine wpAny_pure ?_
    obtain ⟨o, es, ep, ho, hc, hd, he, his, hn⟩ := id hm
    have hne : es.isEmpty = false := by
      cases q : es.isEmpty with
      | false => rfl
      | true =>
        have h0 : es.size = 0 := by simpa [Array.isEmpty] using q
        rw [size_of_entries he] at h0
        have : xs = [] := List.eq_nil_of_length_eq_zero h0
        subst this
        cases hp
    simp only [keyPart, Option.isSome_none, Bool.false_eq_true, if_false]
    refine wpAny_bind (wpAny_dictEntries ho hd (wpAny_bind (wpAny_pure ?_)))
    rw [hne]
    simp only [Bool.false_eq_true, if_false]
    refine wpAny_bind (takeOut_heap hu hkey hm hp hsz fun j h' e hj hev hm' hs' => ?_)
    simp only [Option.isNone_some, Bool.false_eq_true, if_false]
    exact wpAny_bind (wpAny_letGo (wpAny_pure ⟨e.val, rfl, by rw [hev]; exact h j h' hj hm' hs'⟩))
end
theorem KT.erase {H : Hp} {k : List Key} {p : Addr × Value} : ∀ {kvs : List (List Key × V)} {xs : List (List Key × Addr × Value)} {j : Nat}, KT H kvs xs → (xs.map (·.1)).Nodup → xs[j]? = some (k, p) → KT H (dropK kvs k) (xs.eraseIdx j)
  | _, _, j, .nil, _, hj => by simp at hj
  | pv :: ps, q :: qs, 0, .cons h t, hn, hj => by
    simp only [List.getElem?_cons_zero, Option.some.injEq] at hj
    subst hj
    rw [List.map_cons, List.nodup_cons] at hn
    rw [dropK_pos h.1, dropK_no]
    · exact t
    · intro m
      have e : ps.map (·.1) = qs.map (·.1) := by
        clear hn m
        induction t with
        | nil => rfl
        | cons h' _ ih => rw [List.map_cons, List.map_cons, h'.1, ih]
      rw [e] at m
      exact hn.1 m
  | pv :: ps, q :: qs, j + 1, .cons h t, hn, hj => by
    simp only [List.getElem?_cons_succ] at hj
    rw [List.map_cons, List.nodup_cons] at hn
    have hmem : k ∈ qs.map (·.1) := List.mem_map.mpr ⟨(k, p), List.mem_of_getElem? hj, rfl⟩
    have hne : ¬ pv.1 = k := fun e => hn.1 (by rw [← h.1, e]; exact hmem)
    rw [dropK_neg hne]
    exact .cons h (KT.erase t hn.2 hj)
section
variable {X : Cx}
/-- d.pop(t), there -/
theorem mt_popT (hu : X.A.units + 1 < cLine) : MtR X "dict.pop" (fun x xs H Q => ∃ a b kvs k v, x = V.ref a ∧ xs = [V.ref b] ∧ H a = some (.dT kvs) ∧ H b = some (.tup (k.map kV)) ∧ valV kvs k = some v ∧ Q v (upd H a (.dT (dropK kvs k)))) := by
  intro pins s σ H x xs v us Q I rx rs h
  obtain ⟨a, b, kvs, k, y, rfl, rfl, ha, hb, hv, q⟩ := h
  obtain rfl : v = Value.ref a := rx
  rw [Vals.ref1 rs]
  obtain ⟨z, hd, xs, rel, dd⟩ := dt_of I.hok ha
  have hz : xs.length ≤ sizeLine := by rw [← Paired.length rel]; exact z
  have r0 := KT.val rel k
  rw [hv] at r0
  cases hp : atKey xs k with
  | none => rw [hp] at r0; exact r0.elim
  | some p =>
    rw [hp] at r0
    have hn : (xs.map (·.1)).Nodup := by obtain ⟨_, _, _, _, _, _, _, _, hn⟩ := id dd; exact hn
    refine call_meetsIn PySem.F.slot_dict_pop dd.typeIs PySem.F.entry_dict_pop (PySem.F.args_dict_pop_2 _ _) (meetsH_pop (knd := tupleKind (mixKind X.prog X.w)) a b)
      ⟨tupleKind_room_in1 hu, k, xs, p, key_of I.hok hb, dd, hp, hz, fun j h' hj dd' hs => ?_⟩
    obtain ⟨o', es', ep', g1, g2, g3, g4, _, g5⟩ := dd'
    refine ⟨y, _, d_write (ob := .dT (dropK kvs k)) I (by rw [ha]; exact True.intro) hs ⟨o', g1⟩ ⟨Nat.le_trans (dropK_le kvs k) z, hd, _, (KT.erase rel hn hj).keeps fun c ys ec => ?_, o', es', ep', g1, g2, g3, g4, g5⟩, r0, q⟩
    rw [upd_ne (ne_of ec ha (fun z => nomatch z))]
    exact ec
end
/-! ### a dict of the module: keys ints -/
theorem rel_abs {u : Value} {v : V} (h : absV u = some v) : L2.RelV v u := by
  cases u <;> simp only [absV, Option.some.injEq, reduceCtorEq] at h <;> subst h <;> first | exact ⟨_, rfl⟩ | rfl
def entOk (e : DictEntry) (kv : Int × V) : Bool := Value.isInt kv.1 e.key && decide (e.hash = hashInt kv.1) && decide (absV e.val = some kv.2)
def entsOk : List DictEntry → List (Int × V) → Bool
  | [], [] => true
  | e :: es, kv :: kvs => entOk e kv && entsOk es kvs
  | _, _ => false
/-- the module's dict at a -/
structure KDict (K : PySem.W.Frag) (a : Addr) (tab : List (Int × V)) : Prop where
  ex : ∃ (o : Obj) (es : Array DictEntry) (ep : Nat), K.lookup a = some o ∧ o.ExactDict ∧ o.data = .dict es ep ∧ entsOk es.toList tab = true
  nd : (tab.map (·.1)).Nodup
theorem entsOk_pairs {P : Program} {w : World} : ∀ {es : List DictEntry} {tab : List (Int × V)}, entsOk es tab = true →
    (∀ e ∈ es, ∃ k, (intKind P w).is k e.key = true ∧ e.hash = (intKind P w).hash k) ∧ ∃ vs : List (Int × Value), Pairs (intKind P w) es vs ∧ vs.map (·.1) = tab.map (·.1) ∧ ∀ k v, (tab.find? fun kv => decide (kv.1 = k)).map (·.2) = some v → ∃ u, valueAt vs k = some u ∧ L2.RelV v u
  | [], [], _ => ⟨by simp, [], .nil, rfl, by simp⟩
  | [], _ :: _, h => by simp [entsOk] at h
  | _ :: _, [], h => by simp [entsOk] at h
  | e :: es, kv :: tab, h => by
    unfold entsOk at h
    rw [Bool.and_eq_true] at h
    obtain ⟨h1, h2⟩ := h
    unfold entOk at h1
    simp only [Bool.and_eq_true, decide_eq_true_eq] at h1
    obtain ⟨⟨g1, g2⟩, g3⟩ := h1
    obtain ⟨i1, vs, i2, i3, i4⟩ := entsOk_pairs (P := P) (w := w) h2
    refine ⟨fun x hx => ?_, (kv.1, e.val) :: vs, .cons g1 rfl i2, by rw [List.map_cons, List.map_cons, i3], fun k v hk => ?_⟩
    · rcases List.mem_cons.mp hx with rfl | hx
      · exact ⟨kv.1, g1, g2⟩
      · exact i1 x hx
    · by_cases q : kv.1 = k
      · rw [List.find?_cons_of_pos (by simp [q])] at hk
        have : kv.2 = v := Option.some.inj hk
        subst this
        exact ⟨e.val, by simp [valueAt, q], rel_abs g3⟩
      · rw [List.find?_cons_of_neg (by simp [q])] at hk
        obtain ⟨u, h3, h4⟩ := i4 k v hk
        exact ⟨u, by simpa [valueAt, List.find?_cons, q] using h3, h4⟩
/-- d[y], d the module's -/
def tKGet (tab : List (Int × V)) (ty : TE) : TE := fun σ H Q => ty σ H fun y H1 => ∃ k v, y = V.int k ∧ (tab.find? fun kv => decide (kv.1 = k)).map (·.2) = some v ∧ Q v H1
section
variable {X : Cx} {i : Expr} {ty : TE} {pos p : Pos}
theorem pe_kget {x : Str} {a : Addr} {tab : List (Int × V)} (D : KDict X.K a tab) (hm : X.mg x = some (.ref a)) (hi : PE X i ty) (hs : NoSl i) (hg : Gl X x := by rfl) (hdb : (x == ("__debug__" : Str)) = false := by decide) : PE X (.Subscript (.Name x p) i pos) (tKGet tab ty) := by
  intro pins s σ H Q I h
  refine subD_of PySem.F.slot_dict_getitem.lookup hs (thn (pe_glob (v := .ref a) hg hm rfl hdb pins s σ H (fun x H1 => x = .ref a ∧ tKGet tab ty σ H1 Q) I ⟨rfl, h⟩) fun u s1 ⟨x, H1, I1, rx, ex, q1⟩ => thn (hi pins s1 σ H1 _ I1 q1) fun iv s2 ⟨y, H2, I2, ry, k, v, ey, hv, q2⟩ => ?_)
  subst ex ey
  obtain rfl : u = Value.ref a := rx
  obtain ⟨o, es, ep, hk, hx, hd, he⟩ := D.ex
  obtain ⟨i1, vs, i2, i3, i4⟩ := entsOk_pairs (P := X.prog) (w := X.w) he
  have ho := I2.kIn a o hk
  have dd : s2.heap.DictOf (intKind X.prog X.w) a vs := ⟨o, es, ep, ho, hx, hd, fun e hmem => i1 e (by simpa using hmem), i2, by rw [i3]; exact D.nd⟩
  obtain ⟨u, hu, ru⟩ := i4 k v hv
  obtain ⟨t, rfl⟩ := ry
  exact ⟨dd.typeIs, wpAny_getItem_of (knd := intKind X.prog X.w) (k := k) (by simp [PySem.intKind, Value.isInt]) dd.mapOf hu ⟨v, H2, I2.tok _, ru, q2⟩⟩
end
end Kin
set_option Elab.async false
set_option linter.all false
set_option maxRecDepth 100000
set_option maxHeartbeats 2000000
namespace Kin
open PySem PySem.Spec PyProof.Rows L2
/-! ### walks of n turns, whatever is walked -/
theorem for_n {J : It} {n : Nat} {g : TG} {tb : TS} {D : Ends} {σ : L2.St} {H : Hp} (Pv : Nat → L2.St → Hp → Prop) (h0 : Pv 0 σ H) (hgo : ∀ i σ H, i < n → Pv i σ H → J.go i H) (hst : ∀ σ H, Pv n σ H → J.stop n H)
    (hs : ∀ i σ H x H', i < n → Pv i σ H → J.yld i H x H' → g x σ H' fun σ2 H2 => tb { D with nx := Pv (i + 1), ct := Pv (i + 1), bk := D.nx } σ2 H2) (hd : ∀ σ H, Pv n σ H → D.nx σ H) :
    ∃ W : Nat → Nat → L2.St → Hp → Prop, (∃ m, W 0 m σ H) ∧ ∀ i m σ H, W i m σ H →
      (J.stop i H ∧ D.nx σ H) ∨ (J.go i H ∧ ∃ N : L2.St → Hp → Prop, (∀ σ' H', N σ' H' → ∃ m', m' < m ∧ W (i + 1) m' σ' H') ∧ ∀ x H', J.yld i H x H' → g x σ H' fun σ2 H2 => tb { D with nx := N, ct := N, bk := D.nx } σ2 H2) := by
  refine ⟨fun i m σ H => m + i = n ∧ Pv i σ H, ⟨n, rfl, h0⟩, fun i m σ H ⟨hm, p⟩ => ?_⟩
  cases m with
  | zero =>
    have e : i = n := by omega
    subst e
    exact .inl ⟨hst σ H p, hd σ H p⟩
  | succ m => exact .inr ⟨hgo i σ H (by omega) p, Pv (i + 1), fun σ' H' q => ⟨m, Nat.lt_succ_self _, by omega, q⟩, fun x H' y => hs i σ H x H' (by omega) p y⟩
theorem lc_n {J : It} {n : Nat} {g : TG} {tt : TT} {te : TE} {vs : List Nat} {σ : L2.St} {H1 : Hp} {D : Addr} {Qd : Hp → Prop} (Pv : Nat → Hp → Prop) (h0 : Pv 0 (upd H1 D (.lst []))) (hgo : ∀ i H, i < n → Pv i H → J.go i H) (hst : ∀ H, Pv n H → J.stop n H)
    (hs : ∀ i H x H', i < n → Pv i H → J.yld i H x H' → g x (wipe σ vs) H' fun σ2 H2 => wipe σ2 vs = wipe σ vs ∧ tt σ2 H2 fun b H3 =>
      if b = true then te σ2 H3 fun y H4 => ∃ acc, H4 D = some (.lst acc) ∧ acc.length < sizeLine ∧ Pv (i + 1) (upd H4 D (.lst (acc ++ [y]))) else Pv (i + 1) H3) (hd : ∀ H, Pv n H → Qd H) :
    ∃ W : Nat → Nat → Hp → Prop, (∃ m, W 0 m (upd H1 D (.lst []))) ∧ ∀ i m H, W i m H →
      (J.stop i H ∧ Qd H) ∨ (J.go i H ∧ ∃ Nx : Hp → Prop, (∀ H', Nx H' → ∃ m', m' < m ∧ W (i + 1) m' H') ∧ ∀ x H', J.yld i H x H' → g x (wipe σ vs) H' fun σ2 H2 => wipe σ2 vs = wipe σ vs ∧ tt σ2 H2 fun b H3 =>
        if b = true then te σ2 H3 fun y H4 => ∃ acc, H4 D = some (.lst acc) ∧ acc.length < sizeLine ∧ Nx (upd H4 D (.lst (acc ++ [y]))) else Nx H3) := by
  refine ⟨fun i m H => m + i = n ∧ Pv i H, ⟨n, rfl, h0⟩, fun i m H ⟨hm, p⟩ => ?_⟩
  cases m with
  | zero =>
    have e : i = n := by omega
    subst e
    exact .inl ⟨hst H p, hd H p⟩
  | succ m => exact .inr ⟨hgo i H (by omega) p, Pv (i + 1), fun H' q => ⟨m, Nat.lt_succ_self _, by omega, q⟩, fun x H' y => hs i H x H' (by omega) p y⟩
/-! ### a dict whose keys are numbers -/
def encD {β : Type} (f : β → V) (E : List (Nat × β)) : List (Key × V) := E.map fun p => ((Sum.inl (p.1 : Int) : Key), f p.2)
def encN (E : List (Nat × Nat)) : List (Key × V) := encD nv E
theorem inl_inj {a b : Nat} (h : (Sum.inl (a : Int) : Key) = Sum.inl (b : Int)) : a = b := by
  injection h with h
  exact Int.ofNat.inj h
theorem inl_iff {a b : Nat} : (Sum.inl (a : Int) : Key) = Sum.inl (b : Int) ↔ a = b := ⟨inl_inj, fun h => by rw [h]⟩
theorem encD_val {β : Type} (f : β → V) (E : List (Nat × β)) (x : Nat) : valV (encD f E) (Sum.inl (x : Int)) = (KM.getE E x).map f := by
  unfold valV KM.getE encD
  rw [List.find?_map, Option.map_map, Option.map_map]
  have e : ((fun kv : Key × V => decide (kv.1 = Sum.inl (x : Int))) ∘ fun p : Nat × β => ((Sum.inl (p.1 : Int) : Key), f p.2)) = fun p => decide (p.1 = x) := funext fun p => by
    show decide ((Sum.inl (p.1 : Int) : Key) = Sum.inl (x : Int)) = decide (p.1 = x)
    exact decide_eq_decide.mpr inl_iff
  rw [e]
  rfl
theorem encD_len {β : Type} (f : β → V) (E : List (Nat × β)) : (encD f E).length = E.length := List.length_map _
theorem encD_any {β : Type} (f : β → V) (E : List (Nat × β)) (x : Nat) : ((encD f E).any fun kv => decide (kv.1 = (Sum.inl (x : Int) : Key))) = decide (x ∈ E.map (·.1)) := by
  unfold encD
  rw [List.any_map, Bool.eq_iff_iff, List.any_eq_true, decide_eq_true_eq, List.mem_map]
  constructor
  · rintro ⟨p, hp, e⟩
    exact ⟨p, hp, inl_inj (of_decide_eq_true e)⟩
  · rintro ⟨p, hp, e⟩
    exact ⟨p, hp, decide_eq_true (by show (Sum.inl (p.1 : Int) : Key) = _; rw [e])⟩
/-- put at the end, where it wasn't -/
theorem encD_new {β : Type} (f : β → V) {E : List (Nat × β)} {x : Nat} (y : β) (h : x ∉ E.map (·.1)) : putK (encD f E) (Sum.inl (x : Int)) (f y) = encD f (E ++ [(x, y)]) := by
  unfold putK
  rw [encD_any, if_neg (by simpa using h)]
  unfold encD
  rw [List.map_append]
  rfl
/-- put where it was -/
def putE {β : Type} (E : List (Nat × β)) (x : Nat) (y : β) : List (Nat × β) := if x ∈ E.map (·.1) then E.map fun p => if p.1 = x then (x, y) else p else E ++ [(x, y)]
theorem encD_put {β : Type} (f : β → V) (E : List (Nat × β)) (x : Nat) (y : β) : putK (encD f E) (Sum.inl (x : Int)) (f y) = encD f (putE E x y) := by
  unfold putE
  by_cases h : x ∈ E.map (·.1)
  · rw [if_pos h]
    unfold putK
    rw [encD_any, if_pos (decide_eq_true h)]
    unfold encD
    rw [List.map_map, List.map_map]
    refine List.map_congr_left fun p _ => ?_
    show (if (Sum.inl (p.1 : Int) : Key) = Sum.inl (x : Int) then ((Sum.inl (p.1 : Int) : Key), f y) else ((Sum.inl (p.1 : Int) : Key), f p.2)) = ((Sum.inl ((if p.1 = x then (x, y) else p).1 : Int) : Key), f (if p.1 = x then (x, y) else p).2)
    by_cases e : p.1 = x
    · rw [if_pos (by rw [e]), if_pos e, e]
    · rw [if_neg (fun z => e (inl_inj z)), if_neg e]
  · rw [if_neg h, encD_new f y h]
theorem putE_keys {β : Type} (E : List (Nat × β)) (x : Nat) (y : β) : (putE E x y).map (·.1) = if x ∈ E.map (·.1) then E.map (·.1) else E.map (·.1) ++ [x] := by
  unfold putE
  by_cases h : x ∈ E.map (·.1)
  · rw [if_pos h, if_pos h, List.map_map]
    refine List.map_congr_left fun p _ => ?_
    show (if p.1 = x then (x, y) else p).1 = p.1
    by_cases e : p.1 = x
    · rw [if_pos e, e]
    · rw [if_neg e]
  · rw [if_neg h, if_neg h, List.map_append]; rfl
theorem getE_cons {β : Type} (p : Nat × β) (E : List (Nat × β)) (z : Nat) : KM.getE (p :: E) z = if p.1 = z then some p.2 else KM.getE E z := by
  unfold KM.getE
  by_cases h : p.1 = z
  · rw [if_pos h, List.find?_cons_of_pos (by simp [h])]; rfl
  · rw [if_neg h, List.find?_cons_of_neg (by simp [h])]
theorem getE_map {β : Type} (x z : Nat) (y : β) : ∀ E : List (Nat × β), KM.getE (E.map fun p => if p.1 = x then (x, y) else p) z = if z = x then (KM.getE E x).map fun _ => y else KM.getE E z
  | [] => by
    show none = _
    split <;> rfl
  | p :: E => by
    rw [List.map_cons, getE_cons, getE_cons, getE_cons, getE_map x z y E]
    by_cases h : p.1 = x
    · rw [if_pos h, if_pos h]
      by_cases e : z = x
      · rw [if_pos e.symm, if_pos e]; rfl
      · rw [if_neg (fun q : x = z => e q.symm), if_neg e, if_neg e, if_neg (fun q => e (by rw [← q, h]))]
    · rw [if_neg h, if_neg h]
      by_cases e : z = x
      · rw [if_pos e, if_pos e, if_neg (fun q => h (by rw [q, e]))]
      · rw [if_neg e, if_neg e]
theorem getE_snoc {β : Type} (x z : Nat) (y : β) : ∀ E : List (Nat × β), x ∉ E.map (·.1) → KM.getE (E ++ [(x, y)]) z = if z = x then some y else KM.getE E z
  | [], _ => by
    rw [List.nil_append, getE_cons]
    by_cases e : z = x
    · rw [if_pos e.symm, if_pos e]
    · rw [if_neg (fun q : x = z => e q.symm), if_neg e]
  | p :: E, h => by
    rw [List.map_cons, List.mem_cons, not_or] at h
    rw [List.cons_append, getE_cons, getE_cons, getE_snoc x z y E h.2]
    by_cases e : z = x
    · rw [if_pos e, if_pos e, if_neg (fun q => h.1 (by rw [q, e]))]
    · rw [if_neg e, if_neg e]
theorem putE_get {β : Type} (E : List (Nat × β)) (x z : Nat) (y : β) : KM.getE (putE E x y) z = if z = x then some y else KM.getE E z := by
  unfold putE
  by_cases h : x ∈ E.map (·.1)
  · rw [if_pos h, getE_map]
    cases e : KM.getE E x with
    | none => exact absurd h (KM.getE_none.mp e)
    | some v => rfl
  · rw [if_neg h, getE_snoc x z y E h]
theorem encD_keys {β : Type} (f : β → V) (E : List (Nat × β)) {i : Nat} {k : Key} {v : V} (h : (encD f E)[i]? = some (k, v)) : ∃ p, E[i]? = some p ∧ kV k = nv p.1 ∧ v = f p.2 := by
  unfold encD at h
  rw [List.getElem?_map] at h
  cases e : E[i]? with
  | none => rw [e] at h; cases h
  | some p =>
    rw [e] at h
    have h := Option.some.inj h
    cases h
    exact ⟨p, rfl, rfl, rfl⟩
end Kin
set_option Elab.async false
set_option linter.all false
set_option maxRecDepth 100000
set_option maxHeartbeats 2000000
namespace Kin
open PySem PySem.Spec PyProof.Rows L2
open PySem.W (Codec)
/-! ### the text by places -/
def top (i : Nat) : Stmt := PySem.Challenge.pw_kinwordsdesk_s01_answers.main.body.getD i (.Pass ⟨0, 0, 0, 0⟩)
abbrev sOne : Stmt := top 1
abbrev sLevels : Stmt := top 2
abbrev sFewest : Stmt := top 3
abbrev sLongest : Stmt := top 4
abbrev sWithin : Stmt := top 5
/-! ### one_step -/
def onceF (r : List Nat) (x : Nat) : List Nat := if r.contains x = true then r else r ++ [x]
theorem once_eq (l : List Nat) : Sz31.once l = l.foldl onceF [] := rfl
def kvsOf (l : List Nat) : List (Key × V) := l.map fun (x : Nat) => ((Sum.inl (x : Int) : Key), V.bl true)
theorem kvs_any (l : List Nat) (x : Nat) : ((kvsOf l).any fun kv => decide (kv.1 = (Sum.inl (x : Int) : Key))) = l.contains x := by
  unfold kvsOf
  rw [List.any_map, Bool.eq_iff_iff, List.any_eq_true, List.contains_iff_mem]
  constructor
  · rintro ⟨y, hy, e⟩
    have e := of_decide_eq_true e
    have e : (Sum.inl (y : Int) : Key) = Sum.inl (x : Int) := e
    injection e with e
    rw [← show y = x from Int.ofNat.inj e]; exact hy
  · intro h
    exact ⟨x, h, decide_eq_true rfl⟩
theorem kvs_put (l : List Nat) (x : Nat) : putK (kvsOf l) (Sum.inl (x : Int)) (V.bl true) = kvsOf (onceF l x) := by
  unfold putK onceF
  rw [kvs_any]
  by_cases h : l.contains x = true
  · rw [if_pos h, if_pos h]
    unfold kvsOf
    rw [List.map_map]
    refine List.map_congr_left fun y _ => ?_
    show (if (Sum.inl (y : Int) : Key) = Sum.inl (x : Int) then ((Sum.inl (y : Int) : Key), V.bl true) else ((Sum.inl (y : Int) : Key), V.bl true)) = _
    rw [ite_self]
  · rw [if_neg h, if_neg h]
    unfold kvsOf
    rw [List.map_append]
    rfl
theorem kvs_keys (l : List Nat) : (kvsOf l).map (fun p => kV p.1) = l.map nv := by
  unfold kvsOf
  rw [List.map_map]
  exact List.map_congr_left fun y _ => rfl
theorem onceF_bound {r : List Nat} {n : Nat} : ∀ (l : List Nat), r.Nodup → (∀ x, x ∈ r → x < n) → (∀ x, x ∈ l → x < n) → (l.foldl onceF r).Nodup ∧ ∀ x, x ∈ l.foldl onceF r → x < n := by
  intro l hr h1 h2
  have h := KM.once_go l r
  refine ⟨h.2 hr, fun x hx => ?_⟩
  rcases (h.1 x).mp hx with q | q
  · exact h1 x q
  · exact h2 x q
theorem nodup_bound {l : List Nat} {n : Nat} (h : l.Nodup) (hb : ∀ x, x ∈ l → x < n) : l.length ≤ n := by
  have := KM.nodup_len_le (m := List.range n) h fun x hx => List.mem_range.mpr (hb x hx)
  rwa [List.length_range] at this
abbrev rowOf (rows : List (List Nat)) (i : Nat) : List Nat := rows.getD i []
/-- links that stay among so many -/
structure Within (rows : List (List Nat)) : Prop where
  few : rows.length ≤ 1024
  lt : ∀ i x, x ∈ rowOf rows i → x < rows.length
def spOne : Sp := fun vs H Q _ => ∃ (a b : Addr) (as : List Addr) (rows : List (List Nat)) (lev : List Nat), vs = [.ref a, .ref b] ∧ RowsAt H a as rows ∧ Within rows ∧ H b = some (.lst (lev.map nv)) ∧ (∀ x, x ∈ lev → x < rows.length) ∧
  ∀ (H' : Hp) (l : Addr), Same H H' → H l = none → H' l = some (.lst ((Sz31.once (lev.flatMap (rowOf rows))).map nv)) → Q (.ref l) H'
section
variable {P : Program} {w : World} {K : PySem.W.Frag} {mg : Str → Option Value} {base : Heap}
theorem scOne : FnScope ["links", "level", "reached", "person", "other"] ["links", "level"] (defScope sOne) := ⟨rfl, rfl, rfl, by decide +kernel, rfl, by decide +kernel, by decide +kernel⟩
theorem ok_one {f : Addr} {fd : FuncData} (F : Fun K "one_step" "one_step" sOne f fd) (hL : mg "list" = none) : FnOk P w K mg base CX0 1 f fd ["links", "level"] spOne := by
  refine F.ok scOne (fun vs H Q E h => ?_) (fun cdv A outer s H vs Q E hr h => ?_)
  · obtain ⟨a, b, as, rows, lev, rfl, _⟩ := h
    rfl
  · obtain ⟨a, b, as, rows, lev, rfl, R, W, hb, hlev, k⟩ := h
    have hu := hu_of hr
    refine ⟨_, pss_cons (ps_set (i := 2) scOne.nd rfl (Or.inl rfl) pe_dnewK)
      (pss_cons (ps_for PassesOwn.never rfl (pi_list (pv 1)) (pg_name (i := 3) scOne.nd rfl (Or.inl rfl))
        (pss_one (ps_for PassesOwn.never rfl (pi_list (pe_ix ix_list (pv 0) (pv 3) (fun _ _ => rfl))) (pg_name (i := 4) scOne.nd rfl (Or.inl rfl))
          (pss_one (ps_dput hu (pv 2) (pv 4) pe_bl rfl)))))
      (pss_one (ps_ret (pe_callTy (call_list_dK rfl) (by rfl) hL b_list (pa_cons (pv 2) pa_nil))))), ?_⟩
    intro d hd
    have s0 : Same H (upd H d (.dK [])) := fun c o e => by rw [upd_ne (ne_of_none e hd)]; exact e
    refine ⟨_, rfl, b, rfl, ⟨_, SqL.of (s0 _ _ hb)⟩, for_list (K := K) (a := b) (xs := lev.map nv) (fun i σ H' => ∃ v3 v4 : Option V, σ = [some (.ref a), some (.ref b), some (.ref d), v3, v4] ∧ Same H H' ∧ H' d = some (.dK (kvsOf (((lev.take i).flatMap (rowOf rows)).foldl onceF []))))
      ⟨none, none, rfl, s0, upd_same⟩ (fun i σ H' _ ⟨_, _, _, s1, _⟩ => SqL.of (s1 _ _ hb)) ?_ ?_⟩
    · rintro i y σ H' hi ⟨v3, v4, rfl, s1, h1⟩
      obtain ⟨p, hp, rfl⟩ := map_get hi
      have hpl : p < rows.length := hlev p (List.mem_of_getElem? hp)
      obtain ⟨c, hc, hc'⟩ := (R.same s1).get hpl
      have R1 := R.same s1
      have hall : ∀ x, x ∈ (lev.take i).flatMap (rowOf rows) → x < rows.length := fun x hx => by
        obtain ⟨q, _, hq⟩ := List.mem_flatMap.mp hx
        exact W.lt q x hq
      have b0 := onceF_bound (r := []) (n := rows.length) _ List.nodup_nil (by simp) hall
      refine ⟨_, rfl, _, rfl, a, _, _, _, rfl, rfl, SqL.of R1.lst, atI_nat (j := p) (v := V.ref c) (by rw [List.getElem?_map, hc]; rfl), c, rfl, ⟨_, SqL.of hc'⟩, ?_⟩
      refine for_list (K := K) (a := c) (xs := (rowOf rows p).map nv) (fun j σ H2 => ∃ v4 : Option V, σ = [some (.ref a), some (.ref b), some (.ref d), some (nv p), v4] ∧ Same H H2 ∧ H2 d = some (.dK (kvsOf (((rowOf rows p).take j).foldl onceF (((lev.take i).flatMap (rowOf rows)).foldl onceF [])))) ∧ H2 c = some (.lst ((rowOf rows p).map nv)))
        ⟨v4, rfl, s1, h1, hc'⟩ (fun j σ H2 _ ⟨_, _, _, _, q⟩ => SqL.of q) ?_ ?_
      · rintro j y σ H2 hj ⟨v4', rfl, s2, h2, h3⟩
        obtain ⟨o, ho, rfl⟩ := map_get hj
        have b1 := onceF_bound (n := rows.length) ((rowOf rows p).take j) b0.1 b0.2 fun x hx => W.lt p x (List.mem_of_mem_take hx)
        have hlen : (kvsOf (((rowOf rows p).take j).foldl onceF (((lev.take i).flatMap (rowOf rows)).foldl onceF []))).length < sizeLine := by
          unfold kvsOf
          rw [List.length_map]
          exact Nat.lt_of_le_of_lt (Nat.le_trans (nodup_bound b1.1 b1.2) W.few) (by decide)
        refine ⟨_, rfl, _, rfl, d, _, rfl, DPut.k (k := Sum.inl (o : Int)) h2 hlen, ?_⟩
        refine ⟨some (nv o), rfl, fun q u e => ?_, ?_, ?_⟩
        · rw [upd_ne (ne_of_none e hd)]; exact s2 _ _ e
        · rw [upd_same, kvs_put, take_snoc ho, List.foldl_append]; rfl
        · rw [upd_ne (ne_of h3 h2 (by intro z; cases z))]; exact h3
      · rintro σ H2 ⟨v4', rfl, s2, h2, _⟩
        refine ⟨some (nv p), v4', rfl, s2, ?_⟩
        rw [h2, List.length_map, List.take_length, take_snoc hp, List.flatMap_append, List.foldl_append, List.flatMap_cons, List.flatMap_nil, List.append_nil]
    · rintro σ H' ⟨v3, v4, rfl, s1, h1⟩
      rw [List.length_map, List.take_length] at h1
      refine ⟨_, rfl, d, _, rfl, h1, fun l hl => ?_⟩
      rw [kvs_keys]
      exact k _ l (fun c o e => by rw [upd_ne (ne_of_none (s1 _ _ e) hl)]; exact s1 _ _ e) (s1.free hl) upd_same
/-- a def that is called by its name -/
structure Callee (P : Program) (w : World) (K : PySem.W.Frag) (mg : Str → Option Value) (base : Heap) (k : Nat) (x : Str) (ps : List Str) (sp : Sp) : Prop where
  ex : ∃ f fd, FnOk P w K mg base CX0 k f fd ps sp ∧ mg x = some (.ref f) ∧ PySem.W.keepIn K (.ref f) = true ∧ Binds K fd ps []
/-! ### levels_from -/
def spLevels : Sp := fun vs H Q _ => ∃ (a : Addr) (i : Nat) (as : List Addr) (rows : List (List Nat)), vs = [.ref a, nv i] ∧ RowsAt H a as rows ∧ Within rows ∧ i < rows.length ∧ KM.reach (rowOf rows) 29 i = [] ∧
  ∀ (H' : Hp) (l : Addr) (ls : List Addr) (n : Nat), Same H H' → H l = none → (∀ c, c ∈ ls → H c = none) → RowsAt H' l ls ((List.range n).map (KM.lv (rowOf rows) i)) → 0 < n → n ≤ 29 → (∀ j, j < n → KM.lv (rowOf rows) i j ≠ []) → KM.lv (rowOf rows) i n = [] → Q (.ref l) H'
theorem getD_range {f : Nat → List Nat} {n j : Nat} (h : j < n) : ((List.range n).map f).getD j [] = f j := by
  rw [List.getD_eq_getElem?_getD, List.getElem?_map, List.getElem?_range h]; rfl
theorem lv_lt {rows : List (List Nat)} {i k x : Nat} (W : Within rows) (hi : i < rows.length) (h : x ∈ KM.lv (rowOf rows) i k) : x < rows.length := by
  have h := KM.mem_lv.mp h
  cases k with
  | zero => rw [KM.mem_zero.mp h]; exact hi
  | succ k =>
    obtain ⟨c, _, hc⟩ := KM.mem_snoc.mp h
    exact W.lt c x hc
theorem scLevels : FnScope ["links", "start", "levels", "level"] ["links", "start"] (defScope sLevels) := ⟨rfl, rfl, rfl, by decide +kernel, rfl, by decide +kernel, by decide +kernel⟩
theorem ok_levels {f : Addr} {fd : FuncData} (F : Fun K "levels_from" "levels_from" sLevels f fd) (hLen : mg "len" = none) (c1 : Callee P w K mg base 1 "one_step" ["links", "level"] spOne) : FnOk P w K mg base CX0 2 f fd ["links", "start"] spLevels := by
  obtain ⟨f1, fd1, G1, m1, k1, b1⟩ := c1.ex
  refine F.ok scLevels (fun vs H Q E h => ?_) (fun cdv A outer s H vs Q E hr h => ?_)
  · obtain ⟨a, i, as, rows, rfl, _⟩ := h
    rfl
  · obtain ⟨a, i, as, rows, rfl, R, W, hi, h29, k⟩ := h
    refine ⟨_, pss_cons (ps_set (i := 2) scLevels.nd rfl (Or.inl rfl) (pe_lst pa_nil))
      (pss_cons (ps_set (i := 3) scLevels.nd rfl (Or.inl rfl) (pe_lst (pa_cons (pv 1) pa_nil)))
      (pss_cons (ps_while PassesOwn.never (pt_cmpR op_gt (pe_callB call_len_seq (by rfl) hLen b_len (pa_cons (pv 3) pa_nil)) pe_int (nomark _))
        (pss_cons (ps_expr (pe_bm PySem.F.plainAttrs_list PySem.F.slot_list_append PySem.F.type_list_append mt_append (pv 2) (pa_cons (pv 3) pa_nil)))
        (pss_one (ps_set (i := 3) scLevels.nd rfl (Or.inl rfl) (pe_call G1 hr rfl m1 k1 b1 .nil pass0 (pa_cons (pv 0) (pa_cons (pv 3) pa_nil)))))))
      (pss_one (ps_ret (pv 2))))), ?_⟩
    refine ⟨Nat.zero_le _, fun l hl => ?_⟩
    refine ⟨_, rfl, (by show 1 ≤ sizeLine; decide), fun c hc => ?_⟩
    have hcl : c ≠ l := fun e => by rw [e, upd_same] at hc; cases hc
    have hc0 : H c = none := by rw [upd_ne hcl] at hc; exact hc
    refine ⟨fun m σ H' => ∃ (n : Nat) (ls : List Addr) (c : Addr), m + n = 30 ∧ n ≤ 29 ∧ σ = [some (.ref a), some (nv i), some (.ref l), some (.ref c)] ∧ Same H H' ∧ H c = none ∧ (∀ c, c ∈ ls → H c = none) ∧
      RowsAt H' l ls ((List.range n).map (KM.lv (rowOf rows) i)) ∧ H' c = some (.lst ((KM.lv (rowOf rows) i n).map nv)) ∧ c ≠ l ∧ ¬ l ∈ ls ∧ ∀ j, j < n → KM.lv (rowOf rows) i j ≠ [], ⟨30, 0, [], c, rfl, by omega, rfl, ?_, hc0, by simp, ⟨?_, rfl, by simp⟩, ?_, hcl, by simp, by omega⟩, ?_⟩
    · intro b o e
      rw [upd_ne (ne_of_none e hc0), upd_ne (ne_of_none e hl)]; exact e
    · rw [upd_ne (fun e => hcl e.symm), upd_same]; rfl
    · rw [upd_same]; rfl
    rintro m σ H1 ⟨n, ls, c1, hm, hn, rfl, s1, hcn, hlsn, R1, h1, hcl1, hnl, hne⟩
    refine ⟨_, rfl, c1, _, rfl, .inl (SqL.of h1), _, _, rfl, rfl, _, rfl, ite2 (fun hd => ?_) (fun hd => ?_)⟩
    · have hd := of_decide_eq_true hd
      rw [List.length_map] at hd
      have hnn : KM.lv (rowOf rows) i n ≠ [] := fun e => by rw [e] at hd; exact absurd hd (by decide)
      have hn28 : n ≤ 28 := by
        by_cases q : n ≤ 28
        · exact q
        · exact absurd (KM.lv_nil.mpr (KM.nil_le h29 (show 29 ≤ n by omega))) hnn
      refine ⟨fun σ' H' => ∃ (ls : List Addr) (c : Addr), σ' = [some (.ref a), some (nv i), some (.ref l), some (.ref c)] ∧ Same H H' ∧ H c = none ∧ (∀ c, c ∈ ls → H c = none) ∧
        RowsAt H' l ls ((List.range (n + 1)).map (KM.lv (rowOf rows) i)) ∧ H' c = some (.lst ((KM.lv (rowOf rows) i (n + 1)).map nv)) ∧ c ≠ l ∧ ¬ l ∈ ls, ?_, ?_⟩
      · rintro σ' H' ⟨ls', c', e1, e2, e2a, e2b, e3, e4, e5, e6⟩
        refine ⟨29 - n, by omega, n + 1, ls', c', by omega, by omega, e1, e2, e2a, e2b, e3, e4, e5, e6, fun j hj => ?_⟩
        by_cases q : j = n
        · rw [q]; exact hnn
        · exact hne j (by omega)
      · have hls : ls.length = n := by rw [R1.len, List.length_map, List.length_range]
        refine ⟨_, rfl, .inl ⟨rfl, _, SqL.of R1.lst⟩, _, rfl, l, _, _, rfl, rfl, R1.lst, (by rw [List.length_map, hls]; exact Nat.lt_of_le_of_lt hn (by decide)), ?_⟩
        have s2 : Same H (upd H1 l (.lst (ls.map V.ref ++ [V.ref c1]))) := fun b o e => by rw [upd_ne (ne_of_none e hl)]; exact s1 _ _ e
        have hc1' : upd H1 l (.lst (ls.map V.ref ++ [V.ref c1])) c1 = some (.lst ((KM.lv (rowOf rows) i n).map nv)) := by rw [upd_ne hcl1]; exact h1
        refine ⟨_, rfl, _, rfl, a, c1, as, rows, _, rfl, R.same s2, W, hc1', fun x hx => lv_lt W hi hx, fun H3 l3 s3 hl3 h3 => ?_⟩
        refine ⟨ls ++ [c1], l3, rfl, s2.trans s3, s2.free hl3, fun d hd => ?_, ⟨?_, ?_, fun j d hjd => ?_⟩, h3, fun e => ?_, fun e => ?_⟩
        · rcases List.mem_append.mp hd with q | q
          · exact hlsn d q
          · rw [List.mem_singleton.mp q]; exact hcn
        · rw [s3 l _ upd_same, List.map_append]; rfl
        · rw [List.length_append, hls, List.length_map, List.length_range]; rfl
        · have hjn : j < n + 1 := by
            have := (List.getElem?_eq_some_iff.mp hjd).1
            rw [List.length_append, hls] at this
            exact this
          rw [getD_range hjn]
          by_cases q : j < n
          · rw [List.getElem?_append_left (by rw [hls]; exact q)] at hjd
            have z := R1.at_ j d hjd
            rw [getD_range q] at z
            refine s3 _ _ ?_
            rw [upd_ne (fun e => hnl (by rw [← e]; exact List.mem_of_getElem? hjd))]
            exact z
          · have : j = n := by omega
            subst this
            rw [List.getElem?_append_right (by rw [hls]; exact Nat.le_refl _), hls, Nat.sub_self] at hjd
            have : c1 = d := Option.some.inj hjd
            subst this
            exact s3 _ _ hc1'
        · rw [e, upd_same] at hl3; cases hl3
        · rcases List.mem_append.mp e with q | q
          · exact hnl q
          · exact hcl1 (List.mem_singleton.mp q).symm
    · have hz : KM.lv (rowOf rows) i n = [] := by
        cases e : KM.lv (rowOf rows) i n with
        | nil => rfl
        | cons x r =>
          exfalso
          apply hd
          rw [e]
          exact decide_eq_true (by show (0 : Int) < (((x :: r).map nv).length : Nat); rw [List.length_map, List.length_cons]; omega)
      have hn0 : 0 < n := by
        cases n with
        | zero => simp [KM.lv] at hz
        | succ n => omega
      exact ⟨_, rfl, k H1 l ls n s1 hl hlsn R1 hn0 hn hne hz⟩
/-! ### longest -/
def spLongest : Sp := fun vs H Q _ => ∃ (a : Addr) (xs : List V), vs = [.ref a] ∧ H a = some (.lst xs) ∧ Q (.int ((xs.length : Int) - 1)) H
theorem scLongest : FnScope ["levels"] ["levels"] (defScope sLongest) := ⟨rfl, rfl, rfl, by decide +kernel, rfl, by decide +kernel, by decide +kernel⟩
theorem ok_longest {f : Addr} {fd : FuncData} (F : Fun K "longest" "longest" sLongest f fd) (hLen : mg "len" = none) : FnOk P w K mg base CX0 1 f fd ["levels"] spLongest := by
  refine F.ok scLongest (fun vs H Q E h => ?_) (fun cdv A outer s H vs Q E hr h => ?_)
  · obtain ⟨a, xs, rfl, _⟩ := h
    rfl
  · obtain ⟨a, xs, rfl, ha, k⟩ := h
    refine ⟨_, pss_one (ps_ret (pe_op op_sub (pe_callB call_len_seq (by rfl) hLen b_len (pa_cons (pv 0) pa_nil)) pe_int)), ?_⟩
    exact ⟨_, rfl, a, _, rfl, .inl (SqL.of ha), _, _, rfl, rfl, k⟩
/-! ### is_within -/
def spWithin : Sp := fun vs H Q _ => ∃ (a : Addr) (ls : List Addr) (rows : List (List Nat)) (p : Nat), vs = [.ref a, nv p] ∧ RowsAt H a ls rows ∧ rows.length ≤ 1024 ∧ ∀ H', Same H H' → Q (.bl (rows.any fun r => r.contains p)) H'
theorem inV_nats (p : Nat) (r : List Nat) : inV (nv p) (r.map nv) = r.contains p := by
  unfold inV
  rw [List.any_map, Bool.eq_iff_iff, List.any_eq_true, List.contains_iff_mem]
  constructor
  · rintro ⟨x, hx, e⟩
    have : x = p := by
      have e : eqV (nv x) (nv p) = true := e
      have e : (x : Int) = (p : Int) := by simpa [nv, eqV] using e
      omega
    rw [← this]; exact hx
  · intro h
    exact ⟨p, h, by show eqV (nv p) (nv p) = true; simp [nv, eqV]⟩
theorem flat_nats (r : List Nat) : (r.map nv).all flatV = true := by
  rw [List.all_map, List.all_eq_true]
  intro x _; rfl
theorem scWithin : FnScope ["levels", "person", "level"] ["levels", "person"] (defScope sWithin) := ⟨rfl, rfl, rfl, by decide +kernel, rfl, by decide +kernel, by decide +kernel⟩
theorem ok_within {f : Addr} {fd : FuncData} (F : Fun K "is_within" "is_within" sWithin f fd) (hAny : mg "any" = none) : FnOk P w K mg base CX0 1 f fd ["levels", "person"] spWithin := by
  refine F.ok scWithin (fun vs H Q E h => ?_) (fun cdv A outer s H vs Q E hr h => ?_)
  · obtain ⟨a, ls, rows, p, rfl, _⟩ := h
    rfl
  · obtain ⟨a, ls, rows, p, rfl, R, hr0, k⟩ := h
    refine ⟨_, pss_one (ps_ret (pe_callB (cr_any rfl) (by rfl) hAny b_any (pa_cons (pe_lc (te := tOp (rIn K false) (tVar 1) (tVar 2)) (own := [("level", 2)]) rfl scWithin.nd (pi_list (pv 0)) (blkOk_by (by show blkC ["levels", "person", "level"] (defScope sWithin) _ _ = true; decide +kernel))
      (fun s H C cl fp => pg_name (i := 2) scWithin.nd rfl (Or.inl rfl)) (fun s H C cl fp => pts_nil) (fun s H C cl fp => pe_cmpR op_in_seq (pv 1) (pv 2) (by with_unfolding_all rfl))) pa_nil))), ?_⟩
    refine ⟨_, rfl, a, rfl, ⟨_, SqL.of R.lst⟩, fun D hD => ?_⟩
    have s0 : Same H (upd H D (.lst [])) := fun b o e => by rw [upd_ne (ne_of_none e hD)]; exact e
    refine lc_list (K := K) (a := a) (xs := ls.map V.ref) (fun i H' => Same H H' ∧ H' D = some (.lst (((rows.take i).map fun r => r.contains p).map V.bl))) ⟨s0, upd_same⟩ (fun i H' _ ⟨s1, _⟩ => SqL.of (s1 _ _ R.lst)) ?_ ?_
    · rintro i y H' hi ⟨s1, h1⟩
      obtain ⟨c, hc, rfl⟩ := map_get hi
      have hil : i < rows.length := by rw [← R.len]; exact (List.getElem?_eq_some_iff.mp hc).1
      refine ⟨rfl, ?_⟩
      dsimp only [tYes]
      rw [if_pos rfl]
      refine ⟨_, rfl, _, rfl, c, _, rfl, .inl (SqL.of (s1 _ _ (R.at_ i c hc))), rfl, flat_nats _, _, h1, ?_, ?_, ?_⟩
      · rw [List.length_map, List.length_map, List.length_take]
        exact Nat.lt_of_le_of_lt (Nat.le_trans (Nat.min_le_right _ _) hr0) (by decide)
      · intro b o e; rw [upd_ne (ne_of_none e hD)]; exact s1 _ _ e
      · have hri : rows[i]? = some (rows.getD i []) := by rw [List.getD_eq_getElem?_getD, List.getElem?_eq_getElem hil]; rfl
        rw [upd_same, take_snoc hri, List.map_append, List.map_append]
        show some (HO.lst (_ ++ [V.bl (if false = true then _ else inV (nv p) ((rows.getD i []).map nv))])) = _
        rw [if_neg Bool.false_ne_true, inV_nats]
        rfl
    · rintro H' ⟨s1, h1⟩
      refine ⟨D, _, rfl, SqL.of h1, ?_⟩
      rw [List.length_map, R.len, List.take_length, List.any_map]
      exact k H' s1
end
end Kin
set_option Elab.async false
set_option linter.all false
set_option maxRecDepth 100000
set_option maxHeartbeats 2000000
namespace Kin
open PySem PySem.Spec PyProof.Rows L2
open PySem.W (Codec)
/-! ### the text by places -/
abbrev sPair : Stmt := top 22
abbrev sFam : Stmt := top 23
abbrev sInit : Stmt := inClass sFam 0
abbrev sForget : Stmt := inClass sFam 1
abbrev sHas : Stmt := inClass sFam 2
abbrev sPerson : Stmt := inClass sFam 3
abbrev sParent : Stmt := inClass sFam 4
abbrev sAre : Stmt := inClass sFam 5
abbrev sPartners : Stmt := inClass sFam 6
abbrev sPartner : Stmt := inClass sFam 7
abbrev sPart : Stmt := inClass sFam 8
/-! ### a family stands at p -/
def ff (aS aP aC aD : Addr) : List (Str × V) := putF "pairs" (.ref aD) (putF "children" (.ref aC) (putF "parents" (.ref aP) (putF "sexes" (.ref aS) [])))
theorem ff_sexes (aS aP aC aD : Addr) : (ff aS aP aC aD).lookup ("sexes" : Str) = some (.ref aS) := by
  unfold ff
  rw [lookup_putF, if_neg (by decide +kernel), lookup_putF, if_neg (by decide +kernel), lookup_putF, if_neg (by decide +kernel), lookup_putF, if_pos rfl]
theorem ff_parents (aS aP aC aD : Addr) : (ff aS aP aC aD).lookup ("parents" : Str) = some (.ref aP) := by
  unfold ff
  rw [lookup_putF, if_neg (by decide +kernel), lookup_putF, if_neg (by decide +kernel), lookup_putF, if_pos rfl]
theorem ff_children (aS aP aC aD : Addr) : (ff aS aP aC aD).lookup ("children" : Str) = some (.ref aC) := by
  unfold ff
  rw [lookup_putF, if_neg (by decide +kernel), lookup_putF, if_pos rfl]
theorem ff_pairs (aS aP aC aD : Addr) : (ff aS aP aC aD).lookup ("pairs" : Str) = some (.ref aD) := by
  unfold ff
  rw [lookup_putF, if_pos rfl]
theorem ff_no (aS aP aC aD : Addr) {m : Str} (h1 : ¬ m = "pairs") (h2 : ¬ m = "children") (h3 : ¬ m = "parents") (h4 : ¬ m = "sexes") : (ff aS aP aC aD).lookup m = none := by
  unfold ff
  rw [lookup_putF, if_neg h1, lookup_putF, if_neg h2, lookup_putF, if_neg h3, lookup_putF, if_neg h4]
  rfl
def pairKey (p : Nat × Nat) : List Key := [Sum.inl ((min p.1 p.2 : Nat) : Int), Sum.inl ((max p.1 p.2 : Nat) : Int)]
def pairsKv (l : List (Nat × Nat)) : List (List Key × V) := l.map fun p => (pairKey p, V.bl true)
structure FamX (C : Addr) (H : Hp) (p : Addr) (s : Sz31.St) (fp : List Addr) (aS aP aC aD dx : Addr) (ps cs : List Addr) (kids : List (List Nat)) : Prop where
  efp : fp = aS :: aP :: aC :: aD :: (ps ++ cs)
  ins : H p = some (.ins C dx (ff aS aP aC aD))
  sex : H aS = some (.lst (s.persons.map fun q => nv q.sex))
  par : RowsAt H aP ps (s.persons.map (·.parents))
  kid : RowsAt H aC cs kids
  prs : H aD = some (.dT (pairsKv s.partners))
  nd : (aS :: aP :: aC :: (ps ++ cs)).Nodup
  klen : kids.length = s.persons.length
  kmem : ∀ i c, c ∈ rowOf kids i ↔ i ∈ KM.par s c
  knd : ∀ i, (rowOf kids i).Nodup
structure Fam (C : Addr) (H : Hp) (p : Addr) (s : Sz31.St) (fp : List Addr) : Prop where
  wf : KM.WF s
  ex : ∃ (aS aP aC aD dx : Addr) (ps cs : List Addr) (kids : List (List Nat)), FamX C H p s fp aS aP aC aD dx ps cs kids
/-- what is not the family's stays; what is new in it was nothing's -/
structure Frm (H H' : Hp) (fp fp' : List Addr) : Prop where
  keep : ∀ b o, H b = some o → ¬ b ∈ fp → H' b = some o
  new : ∀ b, b ∈ fp' → b ∈ fp ∨ H b = none
theorem Frm.same {H H' : Hp} {fp : List Addr} (s : Same H H') : Frm H H' fp fp := ⟨fun b o e _ => s b o e, fun _ h => .inl h⟩
theorem FamX.same {C : Addr} {H H' : Hp} {p : Addr} {s : Sz31.St} {fp : List Addr} {aS aP aC aD dx : Addr} {ps cs : List Addr} {kids : List (List Nat)} (X : FamX C H p s fp aS aP aC aD dx ps cs kids) (e : Same H H') : FamX C H' p s fp aS aP aC aD dx ps cs kids :=
  ⟨X.efp, e _ _ X.ins, e _ _ X.sex, X.par.same e, X.kid.same e, e _ _ X.prs, X.nd, X.klen, X.kmem, X.knd⟩
theorem Fam.same {C : Addr} {H H' : Hp} {p : Addr} {s : Sz31.St} {fp : List Addr} (F : Fam C H p s fp) (e : Same H H') : Fam C H' p s fp := by
  obtain ⟨aS, aP, aC, aD, dx, ps, cs, kids, X⟩ := F.ex
  exact ⟨F.wf, aS, aP, aC, aD, dx, ps, cs, kids, X.same e⟩
theorem row_par (s : Sz31.St) (i : Nat) : rowOf (s.persons.map (·.parents)) i = KM.par s i := by
  show (s.persons.map (·.parents)).getD i [] = (s.get i).parents
  unfold Sz31.St.get
  rw [List.getD_eq_getElem?_getD, List.getD_eq_getElem?_getD, List.getElem?_map]
  cases s.persons[i]? <;> rfl
theorem within_par {s : Sz31.St} (W : KM.WF s) : Within (s.persons.map (·.parents)) :=
  ⟨by rw [List.length_map]; exact W.few, fun i x h => by rw [row_par] at h; rw [List.length_map]; exact W.lt i x h⟩
theorem within_kid {s : Sz31.St} (W : KM.WF s) {kids : List (List Nat)} (hl : kids.length = s.persons.length) (hm : ∀ i c, c ∈ rowOf kids i ↔ i ∈ KM.par s c) : Within kids :=
  ⟨by rw [hl]; exact W.few, fun i x h => by rw [hl]; exact KM.lt_of_par ((hm i x).mp h)⟩
theorem reach_congr {L M : Nat → List Nat} (h : ∀ i x, x ∈ L i ↔ x ∈ M i) : ∀ {k i a : Nat}, a ∈ KM.reach L k i ↔ a ∈ KM.reach M k i
  | 0, i, a => by rw [KM.mem_zero, KM.mem_zero]
  | k + 1, i, a => by
    rw [KM.mem_succ, KM.mem_succ]
    constructor
    · rintro ⟨p, h1, h2⟩; exact ⟨p, (h i p).mp h1, (reach_congr h).mp h2⟩
    · rintro ⟨p, h1, h2⟩; exact ⟨p, (h i p).mpr h1, (reach_congr h).mpr h2⟩
theorem par_row_fun (s : Sz31.St) : rowOf (s.persons.map (·.parents)) = KM.par s := funext fun i => row_par s i
theorem kid_down {s : Sz31.St} {kids : List (List Nat)} (hm : ∀ i c, c ∈ rowOf kids i ↔ i ∈ KM.par s c) {k a c : Nat} : c ∈ KM.reach (rowOf kids) k a ↔ a ∈ KM.reach (KM.par s) k c := by
  rw [← KM.mem_down]
  exact reach_congr fun i x => by rw [hm, KM.mem_children]
theorem kid_deep {s : Sz31.St} (W : KM.WF s) {kids : List (List Nat)} (hm : ∀ i c, c ∈ rowOf kids i ↔ i ∈ KM.par s c) (i : Nat) : KM.reach (rowOf kids) 29 i = [] := by
  rw [KM.nil_iff]
  intro a ha
  have := (kid_down hm).mp ha
  rw [W.deep a] at this
  cases this
/-! ### promises -/
/-- a call that answers one number -/
def spDo (C : Addr) (n : Nat) (mk : List Int → Sz31.Call) : Sp := fun vs H Q _ => ∃ (p : Addr) (s : Sz31.St) (fp : List Addr) (ns : List Int), vs = .ref p :: ns.map V.int ∧ ns.length = n ∧ Fam C H p s fp ∧
  ∀ (H' : Hp) (fp' : List Addr), Fam C H' p (Sz31.does s (mk ns)).1 fp' → Frm H H' fp fp' → Q (.int (Sz31.does s (mk ns)).2.value) H'
def spHas (C : Addr) : Sp := fun vs H Q _ => ∃ (p : Addr) (s : Sz31.St) (fp : List Addr) (a b : Int), vs = [.ref p, .int a, .int b] ∧ Fam C H p s fp ∧ Q (.bl (Sz31.both s a b)) H
def spPair : Sp := fun vs H Q _ => ∃ (a b : Int), vs = [.int a, .int b] ∧ ∀ t, H t = none → Q (.ref t) (upd H t (.tup [.int (min a b), .int (max a b)]))
def spInit (C : Addr) : Sp := fun vs H Q _ => ∃ (p dx : Addr), vs = [.ref p] ∧ H p = some (.ins C dx []) ∧ ∀ (H' : Hp) (fp : List Addr), Fam C H' p ⟨[], []⟩ fp → (∀ b o, H b = some o → b ≠ p → H' b = some o) → (∀ b, b ∈ fp → H b = none) → Q .non H'
structure Txt (K : PySem.W.Frag) (mg : Str → Option Value) (C : Addr) : Prop where
  cl : Cls K C
  nS : NoAttr K C "sexes"
  nP : NoAttr K C "parents"
  nC : NoAttr K C "children"
  nD : NoAttr K C "pairs"
  mgC : mg "Family" = some (.ref C)
  len : mg "len" = none
  mn : mg "min" = none
  mx : mg "max" = none
  cPersons : ∃ t, mg "MOST_PERSONS" = some (.int 1024 t)
  cParents : ∃ t, mg "MOST_PARENTS" = some (.int 2 t)
  cPairs : ∃ t, mg "MOST_PAIRS" = some (.int 4096 t)
  cSteps : ∃ t, mg "MOST_STEPS" = some (.int 28 t)
  cSex : ∃ t, mg "LAST_SEX" = some (.int 2 t)
/-- a method that is called on a family -/
structure Mth (P : Program) (w : World) (K : PySem.W.Frag) (mg : Str → Option Value) (base : Heap) (C : Addr) (k : Nat) (m : Str) (ps : List Str) (sp : Sp) : Prop where
  ex : ∃ f fd, FnOk P w K mg base CX0 k f fd ps sp ∧ Meth K C m f ∧ Binds K fd ps []
theorem wf_empty : KM.WF ⟨[], []⟩ where
  few := by decide
  sex := fun i => by rw [KM.get_out (Nat.zero_le _)]; decide
  two := fun i => by rw [KM.par_out (Nat.zero_le _)]; decide
  nodup := fun i => by rw [KM.par_out (Nat.zero_le _)]; exact List.nodup_nil
  lt := fun i p h => by rw [KM.par_out (Nat.zero_le _)] at h; cases h
  deep := fun i => by
    rw [KM.nil_iff]
    intro a ha
    obtain ⟨p, hp, _⟩ := KM.mem_succ.mp ha
    rw [KM.par_out (Nat.zero_le _)] at hp; cases hp
  plt := fun p h => by cases h
  pnodup := List.nodup_nil
  pfew := by decide
section
variable {P : Program} {w : World} {K : PySem.W.Frag} {mg : Str → Option Value} {base : Heap} {C : Addr}
theorem scPair : FnScope ["a", "b"] ["a", "b"] (defScope sPair) := ⟨rfl, rfl, rfl, by decide +kernel, rfl, by decide +kernel, by decide +kernel⟩
theorem ok_pair {f : Addr} {fd : FuncData} (F : Fun K "pair_of" "pair_of" sPair f fd) (T : Txt K mg C) : FnOk P w K mg base CX0 1 f fd ["a", "b"] spPair := by
  refine F.ok scPair (fun vs H Q E h => ?_) (fun cdv A outer s H vs Q E hr h => ?_)
  · obtain ⟨a, b, rfl, _⟩ := h
    rfl
  · obtain ⟨a, b, rfl, k⟩ := h
    refine ⟨_, pss_one (ps_ret (pe_tup (pa_cons (pe_callB (call_min2 rfl) (by rfl) T.mn b_min (pa_cons (pv 0) (pa_cons (pv 1) pa_nil))) (pa_cons (pe_callB (call_max2 rfl) (by rfl) T.mx b_max (pa_cons (pv 0) (pa_cons (pv 1) pa_nil))) pa_nil)))), ?_⟩
    refine ⟨_, rfl, _, rfl, a, b, rfl, _, rfl, _, rfl, a, b, rfl, (by show 2 ≤ sizeLine; decide), fun t ht => ?_⟩
    have e1 : (if b < a then b else a) = min a b := by rw [Int.min_def]; split <;> split <;> omega
    have e2 : (if b > a then b else a) = max a b := by rw [Int.max_def]; split <;> split <;> omega
    rw [e1, e2]
    exact k t ht
theorem scInit : FnScope ["self"] ["self"] (defScope sInit) := ⟨rfl, rfl, rfl, by decide +kernel, rfl, by decide +kernel, by decide +kernel⟩
theorem ok_init {f : Addr} {fd : FuncData} (F : Fun K "__init__" "Family.__init__" sInit f fd) (T : Txt K mg C) : FnOk P w K mg base CX0 1 f fd ["self"] (spInit C) := by
  refine F.ok scInit (fun vs H Q E h => ?_) (fun cdv A outer s H vs Q E hr h => ?_)
  · obtain ⟨p, dx, rfl, _⟩ := h
    rfl
  · obtain ⟨p, dx, rfl, hp, k⟩ := h
    refine ⟨_, pss_cons (ps_fld (pv 0) (pe_lst pa_nil) rfl) (pss_cons (ps_fld (pv 0) (pe_lst pa_nil) rfl) (pss_cons (ps_fld (pv 0) (pe_lst pa_nil) rfl) (pss_one (ps_fld (pv 0) pe_dnewT rfl)))), ?_⟩
    refine ⟨Nat.zero_le _, fun aS hS => ?_⟩
    have n1 : p ≠ aS := ne_of_none hp hS
    refine ⟨_, rfl, p, C, dx, [], rfl, (by rw [upd_ne n1]; exact hp), T.cl, T.nS, (by show 0 < 1000; decide), ?_⟩
    refine ⟨Nat.zero_le _, fun aP hP => ?_⟩
    have n2 : p ≠ aP := ne_of_none upd_same hP
    have n2S : aP ≠ aS := fun e => by rw [e, upd_ne n1.symm, upd_same] at hP; cases hP
    refine ⟨_, rfl, p, C, dx, _, rfl, (by rw [upd_ne n2]; exact upd_same), T.cl, T.nP, (by show 1 < 1000; decide), ?_⟩
    refine ⟨Nat.zero_le _, fun aC hC => ?_⟩
    have n3 : p ≠ aC := ne_of_none upd_same hC
    have n3P : aC ≠ aP := fun e => by rw [e, upd_ne n2.symm, upd_same] at hC; cases hC
    have n3S : aC ≠ aS := fun e => by rw [e, upd_ne n1.symm, upd_ne n2S.symm, upd_ne n1.symm, upd_same] at hC; cases hC
    refine ⟨_, rfl, p, C, dx, _, rfl, (by rw [upd_ne n3]; exact upd_same), T.cl, T.nC, (by show 2 < 1000; decide), ?_⟩
    intro aD hD
    have n4 : p ≠ aD := ne_of_none upd_same hD
    have n4C : aD ≠ aC := fun e => by rw [e, upd_ne n3.symm, upd_same] at hD; cases hD
    have n4P : aD ≠ aP := fun e => by rw [e, upd_ne n2.symm, upd_ne n3P.symm, upd_ne n2.symm, upd_same] at hD; cases hD
    have n4S : aD ≠ aS := fun e => by rw [e, upd_ne n1.symm, upd_ne n3S.symm, upd_ne n1.symm, upd_ne n2S.symm, upd_ne n1.symm, upd_same] at hD; cases hD
    refine ⟨_, rfl, p, C, dx, _, rfl, (by rw [upd_ne n4]; exact upd_same), T.cl, T.nD, (by show 3 < 1000; decide), ?_⟩
    have hP0 : H aP = none := by rw [upd_ne n2.symm, upd_ne n2S] at hP; exact hP
    have hC0 : H aC = none := by rw [upd_ne n3.symm, upd_ne n3P, upd_ne n3.symm, upd_ne n3S] at hC; exact hC
    have hD0 : H aD = none := by rw [upd_ne n4.symm, upd_ne n4C, upd_ne n4.symm, upd_ne n4P, upd_ne n4.symm, upd_ne n4S] at hD; exact hD
    refine k _ [aS, aP, aC, aD] ⟨wf_empty, aS, aP, aC, aD, dx, [], [], [], ?_⟩ (fun b o e hb => ?_) (fun b hb => ?_)
    · refine ⟨rfl, upd_same, ?_, ⟨?_, rfl, by simp⟩, ⟨?_, rfl, by simp⟩, ?_, by simp [n2S.symm, n3S.symm, n3P.symm], rfl, fun i c => ?_, fun i => List.nodup_nil⟩
      · simp [upd, n1.symm, n2S.symm, n3S.symm, n4S.symm]
      · simp [upd, n2.symm, n3P.symm, n4P.symm]
      · simp [upd, n3.symm, n4C.symm]
      · simp [upd, n4.symm]; rfl
      · rw [KM.par_out (Nat.zero_le _)]; simp
    · have m1 := ne_of_none e hS
      have m2 := ne_of_none e hP0
      have m3 := ne_of_none e hC0
      have m4 := ne_of_none e hD0
      simp [upd, hb, m1, m2, m3, m4, e]
    · simp only [List.mem_cons, List.not_mem_nil, or_false] at hb
      rcases hb with rfl | rfl | rfl | rfl
      · exact hS
      · exact hP0
      · exact hC0
      · exact hD0
theorem scForget : FnScope ["self"] ["self"] (defScope sForget) := ⟨rfl, rfl, rfl, by decide +kernel, rfl, by decide +kernel, by decide +kernel⟩
theorem ok_forget {f : Addr} {fd : FuncData} (F : Fun K "forget_all" "Family.forget_all" sForget f fd) (T : Txt K mg C) : FnOk P w K mg base CX0 1 f fd ["self"] (spDo C 0 fun _ => .clear) := by
  refine F.ok scForget (fun vs H Q E h => ?_) (fun cdv A outer s H vs Q E hr h => ?_)
  · obtain ⟨p, s, fp, ns, rfl, hn, _⟩ := h
    simp [hn]
  · obtain ⟨p, s0, fp, ns, rfl, hn, ⟨W, aS, aP, aC, aD, dx, ps, cs, kids, X⟩, k⟩ := h
    have : ns = [] := List.eq_nil_of_length_eq_zero hn
    subst this
    refine ⟨_, pss_cons (ps_expr (pe_bm0 PySem.F.plainAttrs_list PySem.F.slot_list_clear PySem.F.type_list_clear mt_clear (pe_fld (pv 0) rfl)))
      (pss_cons (ps_expr (pe_bm0 PySem.F.plainAttrs_list PySem.F.slot_list_clear PySem.F.type_list_clear mt_clear (pe_fld (pv 0) rfl)))
      (pss_cons (ps_expr (pe_bm0 PySem.F.plainAttrs_list PySem.F.slot_list_clear PySem.F.type_list_clear mt_clear (pe_fld (pv 0) rfl)))
      (pss_cons (ps_expr (pe_bm0 PySem.F.plainAttrs_dict PySem.F.slot_dict_clear PySem.F.type_dict_clear mt_clearT (pe_fld (pv 0) rfl)))
      (pss_one (ps_ret pe_int))))), ?_⟩
    have nd := X.nd
    simp only [List.nodup_cons, List.mem_cons, not_or] at nd
    obtain ⟨⟨nSP, nSC, _⟩, ⟨nPC, _⟩, _⟩ := nd
    have pS := ne_of X.ins X.sex (by intro z; cases z)
    have pP := ne_of X.ins X.par.lst (by intro z; cases z)
    have pC := ne_of X.ins X.kid.lst (by intro z; cases z)
    have pD := ne_of X.ins X.prs (by intro z; cases z)
    have DS := ne_of X.prs X.sex (by intro z; cases z)
    have DP := ne_of X.prs X.par.lst (by intro z; cases z)
    have DC := ne_of X.prs X.kid.lst (by intro z; cases z)
    refine ⟨_, rfl, p, C, dx, _, _, rfl, X.ins, T.cl, T.nS, ff_sexes _ _ _ _, .inl ⟨rfl, _, SqL.of X.sex⟩, aS, _, rfl, rfl, X.sex, ?_⟩
    have i1 : upd H aS (.lst []) p = some (.ins C dx (ff aS aP aC aD)) := by rw [upd_ne pS]; exact X.ins
    have l1 : upd H aS (.lst []) aP = some (.lst (ps.map V.ref)) := by rw [upd_ne (fun e => nSP e.symm)]; exact X.par.lst
    refine ⟨_, rfl, p, C, dx, _, _, rfl, i1, T.cl, T.nP, ff_parents _ _ _ _, .inl ⟨rfl, _, SqL.of l1⟩, aP, _, rfl, rfl, l1, ?_⟩
    have i2 : upd (upd H aS (.lst [])) aP (.lst []) p = some (.ins C dx (ff aS aP aC aD)) := by rw [upd_ne pP]; exact i1
    have l2 : upd (upd H aS (.lst [])) aP (.lst []) aC = some (.lst (cs.map V.ref)) := by rw [upd_ne (fun e => nPC e.symm), upd_ne (fun e => nSC e.symm)]; exact X.kid.lst
    refine ⟨_, rfl, p, C, dx, _, _, rfl, i2, T.cl, T.nC, ff_children _ _ _ _, .inl ⟨rfl, _, SqL.of l2⟩, aC, _, rfl, rfl, l2, ?_⟩
    have i3 : upd (upd (upd H aS (.lst [])) aP (.lst [])) aC (.lst []) p = some (.ins C dx (ff aS aP aC aD)) := by rw [upd_ne pC]; exact i2
    have l3 : upd (upd (upd H aS (.lst [])) aP (.lst [])) aC (.lst []) aD = some (.dT (pairsKv s0.partners)) := by rw [upd_ne DC, upd_ne DP, upd_ne DS]; exact X.prs
    refine ⟨_, rfl, p, C, dx, _, _, rfl, i3, T.cl, T.nD, ff_pairs _ _ _ _, .inr (.inr (.inl ⟨rfl, .inr ⟨_, l3⟩⟩)), aD, _, rfl, rfl, l3, ?_⟩
    refine k _ [aS, aP, aC, aD] ⟨wf_empty, aS, aP, aC, aD, dx, [], [], [], ?_⟩ ⟨fun b o e hb => ?_, fun b hb => ?_⟩
    · refine ⟨rfl, by rw [upd_ne pD]; exact i3, ?_, ⟨?_, rfl, by simp⟩, ⟨?_, rfl, by simp⟩, upd_same, by simp [nSP, nSC, nPC], rfl, fun i c => ?_, fun i => List.nodup_nil⟩
      · simp [upd, nSP, nSC, DS.symm]; rfl
      · simp [upd, nPC, DP.symm]
      · simp [upd, DC.symm]
      · rw [KM.par_out (Nat.zero_le _)]; simp
    · rw [X.efp] at hb
      simp only [List.mem_cons, not_or] at hb
      simp [upd, hb.1, hb.2.1, hb.2.2.1, hb.2.2.2.1, e]
    · left
      rw [X.efp]
      simp only [List.mem_cons, List.not_mem_nil, or_false] at hb ⊢
      rcases hb with rfl | rfl | rfl | rfl <;> simp
theorem has_iff (s : Sz31.St) (a b : Int) : (decide (0 ≤ min a b) && decide (max a b < (s.persons.length : Int))) = Sz31.both s a b := by
  unfold Sz31.both Sz31.St.has
  rw [Bool.eq_iff_iff]
  simp only [Bool.and_eq_true, decide_eq_true_eq]
  omega
theorem scHas : FnScope ["self", "a", "b"] ["self", "a", "b"] (defScope sHas) := ⟨rfl, rfl, rfl, by decide +kernel, rfl, by decide +kernel, by decide +kernel⟩
theorem ok_has {f : Addr} {fd : FuncData} (F : Fun K "has_both" "Family.has_both" sHas f fd) (T : Txt K mg C) : FnOk P w K mg base CX0 1 f fd ["self", "a", "b"] (spHas C) := by
  refine F.ok scHas (fun vs H Q E h => ?_) (fun cdv A outer s H vs Q E hr h => ?_)
  · obtain ⟨p, s, fp, a, b, rfl, _⟩ := h
    rfl
  · obtain ⟨p, s0, fp, a, b, rfl, ⟨W, aS, aP, aC, aD, dx, ps, cs, kids, X⟩, k⟩ := h
    refine ⟨_, pss_one (ps_ret (pe_and (pe_cmpR op_le pe_int (pe_callB (call_min2 rfl) (by rfl) T.mn b_min (pa_cons (pv 1) (pa_cons (pv 2) pa_nil))) (nomark _))
      (pe_one (pe_cmpR op_lt (pe_callB (call_max2 rfl) (by rfl) T.mx b_max (pa_cons (pv 1) (pa_cons (pv 2) pa_nil))) (pe_callB call_len_seq (by rfl) T.len b_len (pa_cons (pe_fld (pv 0) rfl) pa_nil)) (nomark _))))), ?_⟩
    have e1 : (if b < a then b else a) = min a b := by rw [Int.min_def]; split <;> split <;> omega
    have e2 : (if b > a then b else a) = max a b := by rw [Int.max_def]; split <;> split <;> omega
    refine ⟨_, rfl, _, rfl, a, b, rfl, _, _, rfl, rfl, _, rfl, ?_⟩
    rw [e1]
    rw [← has_iff] at k
    by_cases h0 : 0 ≤ min a b
    · rw [decide_eq_true h0, if_pos rfl]
      refine ⟨_, rfl, _, rfl, a, b, rfl, _, rfl, p, C, dx, _, _, rfl, X.ins, T.cl, T.nS, ff_sexes _ _ _ _, aS, _, rfl, .inl (SqL.of X.sex), _, _, rfl, rfl, ?_⟩
      rw [e2, List.length_map]
      rw [decide_eq_true h0, Bool.true_and] at k
      exact k
    · rw [decide_eq_false h0, if_neg Bool.false_ne_true]
      rw [decide_eq_false h0, Bool.false_and] at k
      exact k
theorem pe_gint {X : Cx} {x : Str} {i : Int} {t : Tok} {pos : Pos} (hm : X.mg x = some (.int i t)) (hg : Gl X x := by rfl) (hd : (x == ("__debug__" : Str)) = false := by decide) : PE X (.Name x pos) (tC (.int i)) := pe_glob (v := .int i) hg hm ⟨t, rfl⟩ hd
theorem does_one {C : Addr} {H : Hp} {p : Addr} {s s' : Sz31.St} {fp : List Addr} {c : Sz31.Call} {n : Int} {Q : VK} (k : ∀ (H' : Hp) (fp' : List Addr), Fam C H' p (Sz31.does s c).1 fp' → Frm H H' fp fp' → Q (.int (Sz31.does s c).2.value) H') (e : Sz31.does s c = (s', Sz31.only n)) :
    ∀ (H' : Hp) (fp' : List Addr), Fam C H' p s' fp' → Frm H H' fp fp' → Q (.int n) H' := by
  rw [e] at k
  exact k
/-! ### add_person -/
def addPerson (s : Sz31.St) (x : Nat) : Sz31.St := { s with persons := s.persons ++ [⟨x, []⟩] }
theorem par_person (s : Sz31.St) (x : Nat) : KM.par (addPerson s x) = KM.par s := by
  funext i
  show (Sz31.St.get (addPerson s x) i).parents = (Sz31.St.get s i).parents
  unfold Sz31.St.get addPerson
  dsimp only
  rw [List.getD_eq_getElem?_getD, List.getD_eq_getElem?_getD]
  by_cases h : i < s.persons.length
  · rw [List.getElem?_append_left h]
  · rw [List.getElem?_append_right (by omega), List.getElem?_eq_none (l := s.persons) (by omega)]
    cases q : i - s.persons.length with
    | zero => rfl
    | succ n => rfl
theorem wf_person {s : Sz31.St} (W : KM.WF s) {x : Nat} (hx : x ≤ 2) (hn : s.persons.length < 1024) : KM.WF (addPerson s x) where
  few := by show (s.persons ++ [_]).length ≤ 1024; rw [List.length_append]; exact hn
  sex := fun i => by
    unfold Sz31.St.get addPerson
    dsimp only
    rw [List.getD_eq_getElem?_getD]
    by_cases h : i < s.persons.length
    · rw [List.getElem?_append_left h]
      have := W.sex i
      unfold Sz31.St.get at this
      rw [List.getD_eq_getElem?_getD] at this
      exact this
    · rw [List.getElem?_append_right (by omega)]
      cases q : i - s.persons.length with
      | zero => exact hx
      | succ n => exact Nat.zero_le _
  two := fun i => by rw [par_person]; exact W.two i
  nodup := fun i => by rw [par_person]; exact W.nodup i
  lt := fun i p h => by
    rw [par_person] at h
    have := W.lt i p h
    show p < (s.persons ++ [_]).length
    rw [List.length_append]
    omega
  deep := fun i => by rw [par_person]; exact W.deep i
  plt := fun p h => by
    have := W.plt p h
    show p.1 < (s.persons ++ [_]).length ∧ p.2 < (s.persons ++ [_]).length ∧ _
    rw [List.length_append]
    exact ⟨by omega, by omega, this.2.2⟩
  pnodup := W.pnodup
  pfew := W.pfew
theorem RowsAt.push {H H' : Hp} {a c : Addr} {as : List Addr} {rows : List (List Nat)} {r : List Nat} (R : RowsAt H a as rows) (h1 : H' a = some (.lst (as.map V.ref ++ [V.ref c]))) (h2 : ∀ d, d ∈ as → H' d = H d) (h3 : H' c = some (.lst (r.map nv))) : RowsAt H' a (as ++ [c]) (rows ++ [r]) := by
  refine ⟨by rw [h1, List.map_append]; rfl, by rw [List.length_append, List.length_append, R.len]; rfl, fun j d hd => ?_⟩
  by_cases q : j < as.length
  · rw [List.getElem?_append_left q] at hd
    rw [h2 d (List.mem_of_getElem? hd), R.at_ j d hd, List.getD_eq_getElem?_getD, List.getD_eq_getElem?_getD, List.getElem?_append_left (by rw [← R.len]; exact q)]
  · have hj : j < (as ++ [c]).length := (List.getElem?_eq_some_iff.mp hd).1
    rw [List.length_append] at hj
    have hj : j = as.length := by simp only [List.length_cons, List.length_nil] at hj; omega
    subst hj
    rw [List.getElem?_append_right (Nat.le_refl _), Nat.sub_self] at hd
    have : c = d := Option.some.inj hd
    subst this
    rw [h3, List.getD_eq_getElem?_getD, R.len, List.getElem?_append_right (Nat.le_refl _), Nat.sub_self]
    rfl
theorem scPerson : FnScope ["self", "sex"] ["self", "sex"] (defScope sPerson) := ⟨rfl, rfl, rfl, by decide +kernel, rfl, by decide +kernel, by decide +kernel⟩
theorem ok_person {f : Addr} {fd : FuncData} (F : Fun K "add_person" "Family.add_person" sPerson f fd) (T : Txt K mg C) : FnOk P w K mg base CX0 1 f fd ["self", "sex"] (spDo C 1 fun ns => .person (ns.getD 0 0)) := by
  obtain ⟨t1, c1⟩ := T.cSex
  obtain ⟨t2, c2⟩ := T.cPersons
  refine F.ok scPerson (fun vs H Q E h => ?_) (fun cdv A outer s H vs Q E hr h => ?_)
  · obtain ⟨p, s, fp, ns, rfl, hn, _⟩ := h
    simp [hn]
  · obtain ⟨p, s0, fp, ns, rfl, hn, FF, k⟩ := h
    obtain ⟨W, aS, aP, aC, aD, dx, ps, cs, kids, X⟩ := id FF
    obtain ⟨x, rfl⟩ : ∃ x, ns = [x] := match ns, hn with | [x], _ => ⟨x, rfl⟩
    refine ⟨_, pss_cons (ps_if (PW.pt (pw_or (pt_cmpR op_lt (pv 1) pe_int (nomark _)) (pw_or1 (pt_cmpR op_gt (pv 1) (pe_gint c1) (nomark _))))) (pss_one (ps_ret (pe_un un_neg pe_int))) pss_nil)
      (pss_cons (ps_if (pt_cmpR op_ge (pe_callB call_len_seq (by rfl) T.len b_len (pa_cons (pe_fld (pv 0) rfl) pa_nil)) (pe_gint c2) (nomark _)) (pss_one (ps_ret (pe_un un_neg pe_int))) pss_nil)
      (pss_cons (ps_expr (pe_bm PySem.F.plainAttrs_list PySem.F.slot_list_append PySem.F.type_list_append mt_append (pe_fld (pv 0) rfl) (pa_cons (pv 1) pa_nil)))
      (pss_cons (ps_expr (pe_bm PySem.F.plainAttrs_list PySem.F.slot_list_append PySem.F.type_list_append mt_append (pe_fld (pv 0) rfl) (pa_cons (pe_lst pa_nil) pa_nil)))
      (pss_cons (ps_expr (pe_bm PySem.F.plainAttrs_list PySem.F.slot_list_append PySem.F.type_list_append mt_append (pe_fld (pv 0) rfl) (pa_cons (pe_lst pa_nil) pa_nil)))
      (pss_one (ps_ret (pe_op op_sub (pe_callB call_len_seq (by rfl) T.len b_len (pa_cons (pe_fld (pv 0) rfl) pa_nil)) pe_int))))))), ?_⟩
    refine ⟨_, rfl, _, _, rfl, rfl, _, rfl, ?_⟩
    have bad : x < 0 ∨ 2 < x → Q (.int (-1)) H := fun hb => does_one (c := .person x) k (if_pos hb) H fp FF (Frm.same (Same.refl H))
    refine go_dec (fun h0 => go_ite (fun _ => ⟨_, rfl, bad (.inl h0)⟩) (fun h => Bool.noConfusion h)) (fun h0 => ?_)
    refine ⟨_, rfl, _, _, rfl, rfl, _, rfl, ?_⟩
    refine go_dec (fun h2 => ⟨_, rfl, bad (.inr h2)⟩) (fun h2 => ?_)
    refine ⟨_, rfl, p, C, dx, _, _, rfl, X.ins, T.cl, T.nS, ff_sexes _ _ _ _, aS, _, rfl, .inl (SqL.of X.sex), _, _, rfl, rfl, _, rfl, ?_⟩
    rw [List.length_map]
    have hx : ¬ (x < 0 ∨ 2 < x) := by omega
    refine go_dec (fun h3 => ?_) (fun h3 => ?_)
    · refine ⟨_, rfl, does_one (c := .person x) (n := -2) (s' := s0) k ?_ H fp FF (Frm.same (Same.refl H))⟩
      show (if x < 0 ∨ 2 < x then _ else if Sz31.MOST ≤ s0.persons.length then _ else _) = _
      rw [if_neg hx, if_pos (show Sz31.MOST ≤ s0.persons.length by show 1024 ≤ _; omega)]
    have hlen : s0.persons.length < 1024 := by omega
    have k := does_one (c := .person x) (n := s0.persons.length) (s' := addPerson s0 x.toNat) k (by
      show (if x < 0 ∨ 2 < x then _ else if Sz31.MOST ≤ s0.persons.length then _ else _) = _
      rw [if_neg hx, if_neg (show ¬ Sz31.MOST ≤ s0.persons.length by show ¬ 1024 ≤ _; omega)]
      rfl)
    have nd := X.nd
    simp only [List.nodup_cons, List.mem_cons, not_or] at nd
    obtain ⟨⟨nSP, nSC, nSr⟩, ⟨nPC, nPr⟩, nCr, ndr⟩ := nd
    have pS := ne_of X.ins X.sex (by intro z; cases z)
    have pP := ne_of X.ins X.par.lst (by intro z; cases z)
    have pC := ne_of X.ins X.kid.lst (by intro z; cases z)
    have hps : ps.length = s0.persons.length := by rw [X.par.len, List.length_map]
    have hcs : cs.length = s0.persons.length := by rw [X.kid.len, X.klen]
    have big : s0.persons.length < sizeLine := Nat.lt_trans hlen (by decide)
    refine ⟨_, rfl, p, C, dx, _, _, rfl, X.ins, T.cl, T.nS, ff_sexes _ _ _ _, .inl ⟨rfl, _, SqL.of X.sex⟩, _, rfl, aS, _, _, rfl, rfl, X.sex, (by rw [List.length_map]; exact big), ?_⟩
    generalize e1 : upd H aS (.lst (s0.persons.map (fun q => nv q.sex) ++ [V.int x])) = H1
    have i1 : H1 p = some (.ins C dx (ff aS aP aC aD)) := by rw [← e1, upd_ne pS]; exact X.ins
    have l1 : H1 aP = some (.lst (ps.map V.ref)) := by rw [← e1, upd_ne (fun e => nSP e.symm)]; exact X.par.lst
    refine ⟨_, rfl, p, C, dx, _, _, rfl, i1, T.cl, T.nP, ff_parents _ _ _ _, .inl ⟨rfl, _, SqL.of l1⟩, Nat.zero_le _, fun r1 hr1 => ?_⟩
    have hr1P : aP ≠ r1 := ne_of_none l1 hr1
    have l1' : upd H1 r1 (.lst []) aP = some (.lst (ps.map V.ref)) := by rw [upd_ne hr1P]; exact l1
    refine ⟨aP, _, _, rfl, rfl, l1', (by rw [List.length_map, hps]; exact big), ?_⟩
    generalize e2 : upd (upd H1 r1 (.lst [])) aP (.lst (ps.map V.ref ++ [V.ref r1])) = H2
    have pr1 : p ≠ r1 := ne_of_none i1 hr1
    have i2 : H2 p = some (.ins C dx (ff aS aP aC aD)) := by rw [← e2, upd_ne pP, upd_ne pr1]; exact i1
    have c1' : H1 aC = some (.lst (cs.map V.ref)) := by rw [← e1, upd_ne (fun e => nSC e.symm)]; exact X.kid.lst
    have Cr1 : aC ≠ r1 := ne_of_none c1' hr1
    have l2 : H2 aC = some (.lst (cs.map V.ref)) := by rw [← e2, upd_ne (fun e => nPC e.symm), upd_ne Cr1]; exact c1'
    refine ⟨_, rfl, p, C, dx, _, _, rfl, i2, T.cl, T.nC, ff_children _ _ _ _, .inl ⟨rfl, _, SqL.of l2⟩, Nat.zero_le _, fun r2 hr2 => ?_⟩
    have Cr2 : aC ≠ r2 := ne_of_none l2 hr2
    have l2' : upd H2 r2 (.lst []) aC = some (.lst (cs.map V.ref)) := by rw [upd_ne Cr2]; exact l2
    refine ⟨aC, _, _, rfl, rfl, l2', (by rw [List.length_map, hcs]; exact big), ?_⟩
    generalize e3 : upd (upd H2 r2 (.lst [])) aC (.lst (cs.map V.ref ++ [V.ref r2])) = H3
    have pr2 : p ≠ r2 := ne_of_none i2 hr2
    have i3 : H3 p = some (.ins C dx (ff aS aP aC aD)) := by rw [← e3, upd_ne pC, upd_ne pr2]; exact i2
    -- where the lists stand
    have hS1 : H1 aS = some (.lst (s0.persons.map (fun q => nv q.sex) ++ [V.int x])) := by rw [← e1]; exact upd_same
    have Sr1 : aS ≠ r1 := ne_of_none hS1 hr1
    have hS2 : H2 aS = some (.lst (s0.persons.map (fun q => nv q.sex) ++ [V.int x])) := by rw [← e2, upd_ne nSP, upd_ne Sr1]; exact hS1
    have Sr2 : aS ≠ r2 := ne_of_none hS2 hr2
    have hS3 : H3 aS = some (.lst (s0.persons.map (fun q => nv q.sex) ++ [V.int x])) := by rw [← e3, upd_ne nSC, upd_ne Sr2]; exact hS2
    have hr1' : H r1 = none := by rw [← e1, upd_ne Sr1.symm] at hr1; exact hr1
    have h2r1 : H2 r1 = some (.lst []) := by rw [← e2, upd_ne hr1P.symm]; exact upd_same
    have r12 : r1 ≠ r2 := ne_of_none h2r1 hr2
    have hP2 : H2 aP = some (.lst (ps.map V.ref ++ [V.ref r1])) := by rw [← e2]; exact upd_same
    have Pr2 : aP ≠ r2 := ne_of_none hP2 hr2
    have hr2' : H r2 = none := by rw [← e2, upd_ne Pr2.symm, upd_ne r12.symm, ← e1, upd_ne Sr2.symm] at hr2; exact hr2
    -- all else stays
    have st : ∀ b, b ≠ aS → b ≠ aP → b ≠ aC → b ≠ r1 → b ≠ r2 → H3 b = H b := fun b n1 n2 n3 n4 n5 => by
      rw [← e3, upd_ne n3, upd_ne n5, ← e2, upd_ne n2, upd_ne n4, ← e1, upd_ne n1]
    have inps : ∀ d, d ∈ ps → ∃ o, H d = some o := fun d hd => by
      obtain ⟨j, hj⟩ := List.mem_iff_getElem?.mp hd
      exact ⟨_, X.par.at_ j d hj⟩
    have incs : ∀ d, d ∈ cs → ∃ o, H d = some o := fun d hd => by
      obtain ⟨j, hj⟩ := List.mem_iff_getElem?.mp hd
      exact ⟨_, X.kid.at_ j d hj⟩
    have rows_st : ∀ d, d ∈ ps ++ cs → H3 d = H d := fun d hd => by
      obtain ⟨o, ho⟩ : ∃ o, H d = some o := by
        rcases List.mem_append.mp hd with q | q
        · exact inps d q
        · exact incs d q
      exact st d (fun e => nSr (by rw [← e]; exact hd)) (fun e => nPr (by rw [← e]; exact hd)) (fun e => nCr (by rw [← e]; exact hd)) (ne_of_none ho hr1') (ne_of_none ho hr2')
    have nr1 : ¬ r1 ∈ ps ++ cs := fun hd => by
      have : ∃ o, H r1 = some o := by
        rcases List.mem_append.mp hd with q | q
        · exact inps r1 q
        · exact incs r1 q
      obtain ⟨o, ho⟩ := this
      rw [hr1'] at ho; cases ho
    have nr2 : ¬ r2 ∈ ps ++ cs := fun hd => by
      have : ∃ o, H r2 = some o := by
        rcases List.mem_append.mp hd with q | q
        · exact inps r2 q
        · exact incs r2 q
      obtain ⟨o, ho⟩ := this
      rw [hr2'] at ho; cases ho
    refine ⟨_, rfl, p, C, dx, _, _, rfl, i3, T.cl, T.nS, ff_sexes _ _ _ _, aS, _, rfl, .inl (SqL.of hS3), _, _, rfl, rfl, ?_⟩
    have ev : (((s0.persons.map (fun q => nv q.sex) ++ [V.int x]).length : Nat) : Int) - 1 = (s0.persons.length : Int) := by rw [List.length_append, List.length_map]; simp only [List.length_cons, List.length_nil]; omega
    show Q (V.int ((((s0.persons.map (fun q => nv q.sex) ++ [V.int x]).length : Nat) : Int) - 1)) H3
    rw [ev]
    refine k H3 (aS :: aP :: aC :: aD :: ((ps ++ [r1]) ++ (cs ++ [r2]))) ⟨wf_person W (by omega) hlen, aS, aP, aC, aD, dx, ps ++ [r1], cs ++ [r2], kids ++ [[]], ?_⟩ ⟨fun b o e hb => ?_, fun b hb => ?_⟩
    · refine ⟨rfl, i3, ?_, ?_, ?_, ?_, ?_, ?_, fun i c => ?_, fun i => ?_⟩
      · rw [hS3]
        show _ = some (HO.lst ((s0.persons ++ [(⟨x.toNat, []⟩ : Sz31.Person)]).map fun q => nv q.sex))
        rw [List.map_append]
        show _ = some (HO.lst (_ ++ [V.int ((x.toNat : Nat) : Int)]))
        rw [Int.toNat_of_nonneg (by omega)]
      · show RowsAt H3 aP (ps ++ [r1]) ((s0.persons ++ [(⟨x.toNat, []⟩ : Sz31.Person)]).map (·.parents))
        rw [List.map_append]
        refine X.par.push ?_ (fun d hd => rows_st d (List.mem_append_left _ hd)) ?_
        · rw [← e3, upd_ne nPC, upd_ne Pr2]; exact hP2
        · rw [← e3, upd_ne Cr1.symm, upd_ne r12]; exact h2r1
      · refine X.kid.push ?_ (fun d hd => rows_st d (List.mem_append_right _ hd)) ?_
        · rw [← e3]; exact upd_same
        · rw [← e3, upd_ne Cr2.symm]; exact upd_same
      · rw [st aD (ne_of X.prs X.sex (by intro z; cases z)) (ne_of X.prs X.par.lst (by intro z; cases z)) (ne_of X.prs X.kid.lst (by intro z; cases z)) (ne_of_none X.prs hr1') (ne_of_none X.prs hr2')]
        exact X.prs
      · have p1 : List.Perm ((ps ++ [r1]) ++ (cs ++ [r2])) (r1 :: r2 :: (ps ++ cs)) := by
          have q1 : List.Perm ((ps ++ [r1]) ++ (cs ++ [r2])) ((r1 :: ps) ++ (r2 :: cs)) := (List.perm_append_singleton r1 ps).append (List.perm_append_singleton r2 cs)
          refine q1.trans ?_
          show List.Perm (r1 :: (ps ++ (r2 :: cs))) _
          exact (List.perm_middle).cons r1
        have p2 : List.Perm (aS :: aP :: aC :: ((ps ++ [r1]) ++ (cs ++ [r2]))) (aS :: aP :: aC :: r1 :: r2 :: (ps ++ cs)) := ((p1.cons _).cons _).cons _
        rw [p2.nodup_iff]
        simp only [List.nodup_cons, List.mem_cons, not_or]
        exact ⟨⟨nSP, nSC, Sr1, Sr2, nSr⟩, ⟨nPC, hr1P, Pr2, nPr⟩, ⟨Cr1, Cr2, nCr⟩, ⟨r12, nr1⟩, nr2, ndr⟩
      · show (kids ++ [[]]).length = (s0.persons ++ [_]).length
        rw [List.length_append, List.length_append, X.klen]; rfl
      · rw [par_person, ← X.kmem]
        show c ∈ (kids ++ [[]]).getD i [] ↔ c ∈ kids.getD i []
        rw [List.getD_eq_getElem?_getD, List.getD_eq_getElem?_getD]
        by_cases q : i < kids.length
        · rw [List.getElem?_append_left q]
        · rw [List.getElem?_append_right (by omega), List.getElem?_eq_none (l := kids) (by omega)]
          cases z : i - kids.length with
          | zero => exact Iff.rfl
          | succ n => exact Iff.rfl
      · show ((kids ++ [[]]).getD i []).Nodup
        rw [List.getD_eq_getElem?_getD]
        by_cases q : i < kids.length
        · rw [List.getElem?_append_left q, ← List.getD_eq_getElem?_getD]; exact X.knd i
        · rw [List.getElem?_append_right (by omega)]
          cases z : i - kids.length with
          | zero => exact List.nodup_nil
          | succ n => exact List.nodup_nil
    · rw [X.efp] at hb
      simp only [List.mem_cons, not_or] at hb
      rw [st b hb.1 hb.2.1 hb.2.2.1 (ne_of_none e hr1') (ne_of_none e hr2')]
      exact e
    · rw [X.efp]
      simp only [List.mem_cons, List.mem_append, List.not_mem_nil, or_false] at hb ⊢
      rcases hb with q | q | q | q | (q | q) | (q | q)
      · exact .inl (.inl q)
      · exact .inl (.inr (.inl q))
      · exact .inl (.inr (.inr (.inl q)))
      · exact .inl (.inr (.inr (.inr (.inl q))))
      · exact .inl (.inr (.inr (.inr (.inr (.inl q)))))
      · right; rw [q]; exact hr1'
      · exact .inl (.inr (.inr (.inr (.inr (.inr q)))))
      · right; rw [q]; exact hr2'
end
end Kin
set_option Elab.async false
set_option linter.all false
set_option maxRecDepth 100000
set_option maxHeartbeats 2000000
namespace Kin
open PySem PySem.Spec PyProof.Rows L2
/-! ### pairs -/
def keyI (a b : Int) : List Key := [Sum.inl (min a b), Sum.inl (max a b)]
theorem key_same {a b : Int} (ha : 0 ≤ a) (hb : 0 ≤ b) (p : Nat × Nat) : decide (pairKey p = keyI a b) = Sz31.same a b p := by
  rw [Bool.eq_iff_iff, decide_eq_true_eq]
  unfold pairKey keyI Sz31.same
  simp only [List.cons.injEq, Sum.inl.injEq, and_true, Bool.or_eq_true, Bool.and_eq_true, beq_iff_eq]
  omega
theorem key_new {a b : Int} (ha : 0 ≤ a) (hb : 0 ≤ b) : pairKey (a.toNat, b.toNat) = keyI a b := by
  unfold pairKey keyI
  simp only [List.cons.injEq, Sum.inl.injEq, and_true]
  omega
theorem pairs_any {a b : Int} (ha : 0 ≤ a) (hb : 0 ≤ b) (l : List (Nat × Nat)) : (valV (pairsKv l) (keyI a b)).isSome = l.any (Sz31.same a b) := by
  rw [← valV_any]
  unfold pairsKv
  rw [List.any_map]
  exact congrArg (fun f => List.any l f) (funext fun p => key_same ha hb p)
theorem pairs_put {a b : Int} (ha : 0 ≤ a) (hb : 0 ≤ b) {l : List (Nat × Nat)} (h : l.any (Sz31.same a b) = false) : putK (pairsKv l) (keyI a b) (V.bl true) = pairsKv (l ++ [(a.toNat, b.toNat)]) := by
  have h1 : valV (pairsKv l) (keyI a b) = none := by
    rw [← pairs_any ha hb] at h
    cases q : valV (pairsKv l) (keyI a b) with
    | none => rfl
    | some v => rw [q] at h; cases h
  rw [putK_new _ h1]
  unfold pairsKv
  rw [List.map_append, ← key_new ha hb]
  rfl
theorem pairs_drop {a b : Int} (ha : 0 ≤ a) (hb : 0 ≤ b) (l : List (Nat × Nat)) : dropK (pairsKv l) (keyI a b) = pairsKv (l.filter fun p => !Sz31.same a b p) := by
  unfold dropK pairsKv
  rw [List.filter_map]
  refine congrArg (List.map _) (congrArg (fun f => List.filter f l) (funext fun p => ?_))
  show decide (pairKey p ≠ keyI a b) = _
  rw [← key_same ha hb, decide_not]
theorem tup_key (a b : Int) : ([V.int (min a b), V.int (max a b)] : List V) = (keyI a b).map kV := rfl
theorem pairs_len (l : List (Nat × Nat)) : (pairsKv l).length = l.length := List.length_map _
theorem wf_partner {s : Sz31.St} (W : KM.WF s) {a b : Int} (h : Sz31.both s a b = true) (hab : a ≠ b) (hn : s.partners.any (Sz31.same a b) = false) (hl : s.partners.length < 4096) : KM.WF { s with partners := s.partners ++ [(a.toNat, b.toNat)] } := by
  unfold Sz31.both Sz31.St.has at h
  simp only [Bool.and_eq_true, decide_eq_true_eq] at h
  refine ⟨W.few, W.sex, W.two, W.nodup, W.lt, W.deep, fun p hp => ?_, ?_, ?_⟩
  · rcases List.mem_append.mp hp with q | q
    · exact W.plt p q
    · rw [List.mem_singleton.mp q]
      exact ⟨by show a.toNat < s.persons.length; omega, by show b.toNat < s.persons.length; omega, by show a.toNat ≠ b.toNat; omega⟩
  · show ((s.partners ++ [(a.toNat, b.toNat)]).map _).Nodup
    rw [List.map_append, List.nodup_append]
    refine ⟨W.pnodup, by simp, fun x hx y hy e => ?_⟩
    obtain ⟨p, hp, rfl⟩ := List.mem_map.mp hx
    simp only [List.map_cons, List.map_nil, List.mem_singleton] at hy
    subst hy
    have : s.partners.any (Sz31.same a b) = true := List.any_eq_true.mpr ⟨p, hp, by
      rw [← key_same h.1.1 h.2.1, decide_eq_true_eq]
      unfold pairKey keyI
      simp only [Prod.mk.injEq] at e
      simp only [List.cons.injEq, Sum.inl.injEq, and_true]
      omega⟩
    rw [hn] at this
    cases this
  · show (s.partners ++ [_]).length ≤ 4096
    rw [List.length_append]; exact hl
theorem wf_part {s : Sz31.St} (W : KM.WF s) (f : Nat × Nat → Bool) : KM.WF { s with partners := s.partners.filter f } :=
  ⟨W.few, W.sex, W.two, W.nodup, W.lt, W.deep, fun p hp => W.plt p (List.mem_filter.mp hp).1, W.pnodup.sublist (List.filter_sublist.map _), Nat.le_trans (List.length_filter_le _ _) W.pfew⟩
/-- the pairs alone are changed -/
theorem FamX.pairs {C : Addr} {H H' : Hp} {p : Addr} {s : Sz31.St} {fp : List Addr} {aS aP aC aD dx : Addr} {ps cs : List Addr} {kids : List (List Nat)} {l : List (Nat × Nat)} (X : FamX C H p s fp aS aP aC aD dx ps cs kids) (hD : H' aD = some (.dT (pairsKv l)))
    (st : ∀ b o, H b = some o → b ≠ aD → H' b = some o) : FamX C H' p { s with partners := l } fp aS aP aC aD dx ps cs kids := by
  have notD : ∀ b o, H b = some o → (∀ kvs, o ≠ .dT kvs) → H' b = some o := fun b o e n => st b o e (fun q => by rw [q, X.prs] at e; exact n _ (Option.some.inj e).symm)
  refine ⟨X.efp, notD _ _ X.ins (by intro k z; cases z), notD _ _ X.sex (by intro k z; cases z), ⟨notD _ _ X.par.lst (by intro k z; cases z), X.par.len, fun j c h => notD _ _ (X.par.at_ j c h) (by intro k z; cases z)⟩,
    ⟨notD _ _ X.kid.lst (by intro k z; cases z), X.kid.len, fun j c h => notD _ _ (X.kid.at_ j c h) (by intro k z; cases z)⟩, hD, X.nd, X.klen, X.kmem, X.knd⟩
section
variable {P : Program} {w : World} {K : PySem.W.Frag} {mg : Str → Option Value} {base : Heap} {C : Addr}
def spAre (C : Addr) : Sp := fun vs H Q _ => ∃ (p : Addr) (s : Sz31.St) (fp : List Addr) (a b : Int), vs = [.ref p, .int a, .int b] ∧ Fam C H p s fp ∧ 0 ≤ a ∧ 0 ≤ b ∧ ∀ H', Same H H' → Q (.bl (s.partners.any (Sz31.same a b))) H'
theorem scAre : FnScope ["self", "a", "b"] ["self", "a", "b"] (defScope sAre) := ⟨rfl, rfl, rfl, by decide +kernel, rfl, by decide +kernel, by decide +kernel⟩
theorem ok_are {f : Addr} {fd : FuncData} (F : Fun K "are_partners" "Family.are_partners" sAre f fd) (T : Txt K mg C) (cp : Callee P w K mg base 1 "pair_of" ["a", "b"] spPair) : FnOk P w K mg base CX0 2 f fd ["self", "a", "b"] (spAre C) := by
  obtain ⟨f2, fd2, G2, m2, k2, b2⟩ := cp.ex
  refine F.ok scAre (fun vs H Q E h => ?_) (fun cdv A outer s H vs Q E hr h => ?_)
  · obtain ⟨p, s, fp, a, b, rfl, _⟩ := h
    rfl
  · obtain ⟨p, s0, fp, a, b, rfl, ⟨W, aS, aP, aC, aD, dx, ps, cs, kids, X⟩, ha, hb, k⟩ := h
    have hu := hu_of hr
    refine ⟨_, pss_one (ps_ret (pe_cmp (pc_din hu (pe_call G2 hr rfl m2 k2 b2 .nil pass0 (pa_cons (pv 1) (pa_cons (pv 2) pa_nil))) (pe_fld (pv 0) rfl)) (by with_unfolding_all rfl))), ?_⟩
    refine ⟨_, rfl, _, rfl, a, b, rfl, fun t ht => ?_⟩
    have s1 : Same H (upd H t (.tup [.int (min a b), .int (max a b)])) := fun c o e => by rw [upd_ne (ne_of_none e ht)]; exact e
    refine ⟨_, rfl, p, C, dx, _, _, rfl, s1 _ _ X.ins, T.cl, T.nD, ff_pairs _ _ _ _, aD, _, rfl, DGet.t (k := keyI a b) (s1 _ _ X.prs) upd_same, ?_⟩
    rw [pairs_any ha hb]
    exact k _ s1
theorem scPartner : FnScope ["self", "a", "b"] ["self", "a", "b"] (defScope sPartner) := ⟨rfl, rfl, rfl, by decide +kernel, rfl, by decide +kernel, by decide +kernel⟩
theorem ok_partner {f : Addr} {fd : FuncData} (F : Fun K "add_partners" "Family.add_partners" sPartner f fd) (T : Txt K mg C) (mh : Mth P w K mg base C 1 "has_both" ["self", "a", "b"] (spHas C)) (ma : Mth P w K mg base C 2 "are_partners" ["self", "a", "b"] (spAre C)) (cp : Callee P w K mg base 1 "pair_of" ["a", "b"] spPair) :
    FnOk P w K mg base CX0 3 f fd ["self", "a", "b"] (spDo C 2 fun ns => .partner (ns.getD 0 0) (ns.getD 1 0)) := by
  obtain ⟨t1, c1⟩ := T.cPairs
  obtain ⟨f1, fd1, G1, m1, b1⟩ := mh.ex
  obtain ⟨f3, fd3, G3, m3, b3⟩ := ma.ex
  obtain ⟨f2, fd2, G2, m2, k2, b2⟩ := cp.ex
  refine F.ok scPartner (fun vs H Q E h => ?_) (fun cdv A outer s H vs Q E hr h => ?_)
  · obtain ⟨p, s, fp, ns, rfl, hn, _⟩ := h
    simp [hn]
  · obtain ⟨p, s0, fp, ns, rfl, hn, FF, k⟩ := h
    obtain ⟨W, aS, aP, aC, aD, dx, ps, cs, kids, X⟩ := id FF
    obtain ⟨a, b, rfl⟩ : ∃ a b, ns = [a, b] := match ns, hn with | [a, b], _ => ⟨a, b, rfl⟩
    have hu := hu_of hr
    have hr1 : Room 1 _ := hr.mono (by decide)
    refine ⟨_, pss_cons (ps_if (PW.pt (pw_or (pt_not (pt_val (pe_meth (pv 0) T.cl m1 G1 hr1 b1 .nil pass0 (pa_cons (pv 1) (pa_cons (pv 2) pa_nil))))) (pw_or1 (pt_cmpR op_eq (pv 1) (pv 2) (nomark _))))) (pss_one (ps_ret (pe_un un_neg pe_int))) pss_nil)
      (pss_cons (ps_if (pt_val (pe_meth (pv 0) T.cl m3 G3 hr b3 .nil pass0 (pa_cons (pv 1) (pa_cons (pv 2) pa_nil)))) (pss_one (ps_ret pe_int)) pss_nil)
      (pss_cons (ps_if (pt_cmpR op_ge (pe_callB call_lenT (by rfl) T.len b_len (pa_cons (pe_fld (pv 0) rfl) pa_nil)) (pe_gint c1) (nomark _)) (pss_one (ps_ret (pe_un un_neg pe_int))) pss_nil)
      (pss_cons (ps_dput hu (pe_fld (pv 0) rfl) (pe_call G2 hr1 rfl m2 k2 b2 .nil pass0 (pa_cons (pv 1) (pa_cons (pv 2) pa_nil))) pe_bl rfl)
      (pss_one (ps_ret pe_int))))), ?_⟩
    have noHas := ff_no aS aP aC aD (m := "has_both") (by decide +kernel) (by decide +kernel) (by decide +kernel) (by decide +kernel)
    refine ⟨_, rfl, p, dx, _, rfl, X.ins, noHas, _, rfl, _, rfl, p, s0, fp, a, b, rfl, FF, _, rfl, ?_⟩
    have bad : Sz31.both s0 a b = false ∨ a = b → Q (.int (-1)) H := fun hb => does_one (c := .partner a b) k (if_pos hb) H fp FF (Frm.same (Same.refl H))
    refine go_ite (fun hb => go_ite (fun _ => ⟨_, rfl, bad (.inl (by simpa using hb))⟩) (fun h => Bool.noConfusion h)) (fun hb => ?_)
    have hb : Sz31.both s0 a b = true := by simpa using hb
    refine ⟨_, rfl, _, rfl, rfl, _, rfl, ?_⟩
    refine go_dec (fun hab => ⟨_, rfl, bad (.inr (by injection hab))⟩) (fun hab => ?_)
    have hab : a ≠ b := fun e => hab (by rw [e])
    have hnb : ¬ (Sz31.both s0 a b = false ∨ a = b) := by
      rintro (q | q)
      · rw [hb] at q; cases q
      · exact hab q
    have hpos : 0 ≤ a ∧ 0 ≤ b := by
      have h := hb
      unfold Sz31.both Sz31.St.has at h
      simp only [Bool.and_eq_true, decide_eq_true_eq] at h
      exact ⟨h.1.1, h.2.1⟩
    have noAre := ff_no aS aP aC aD (m := "are_partners") (by decide +kernel) (by decide +kernel) (by decide +kernel) (by decide +kernel)
    refine ⟨_, rfl, p, dx, _, rfl, X.ins, noAre, _, rfl, _, rfl, p, s0, fp, a, b, rfl, FF, hpos.1, hpos.2, fun H1 s1 => ⟨_, rfl, ?_⟩⟩
    refine go_ite (fun hs => ?_) (fun hs => ?_)
    · refine does_one (c := .partner a b) (n := 0) (s' := s0) k ?_ _ fp (FF.same s1) (Frm.same s1)
      show (if Sz31.both s0 a b = false ∨ a = b then _ else if (s0.partners.any (Sz31.same a b)) = true then _ else _) = _
      rw [if_neg hnb, if_pos hs]
    refine ⟨_, rfl, p, C, dx, _, _, rfl, s1 _ _ X.ins, T.cl, T.nD, ff_pairs _ _ _ _, aD, _, rfl, s1 _ _ X.prs, _, _, rfl, rfl, _, rfl, ?_⟩
    rw [pairs_len]
    have hns : ¬ s0.partners.any (Sz31.same a b) = true := by rw [hs]; exact Bool.false_ne_true
    refine go_dec (fun hl => ?_) (fun hl => ?_)
    · refine ⟨_, rfl, does_one (c := .partner a b) (n := -2) (s' := s0) k ?_ _ fp (FF.same s1) (Frm.same s1)⟩
      show (if Sz31.both s0 a b = false ∨ a = b then _ else if (s0.partners.any (Sz31.same a b)) = true then _ else if 4096 ≤ s0.partners.length then _ else _) = _
      rw [if_neg hnb, if_neg hns, if_pos (by omega)]
    have hl : s0.partners.length < 4096 := by omega
    refine ⟨_, rfl, p, C, dx, _, _, rfl, s1 _ _ X.ins, T.cl, T.nD, ff_pairs _ _ _ _, ?_⟩
    refine ⟨_, rfl, _, rfl, a, b, rfl, fun t2 ht2 => ?_⟩
    have s2 : Same H1 (upd H1 t2 (.tup [.int (min a b), .int (max a b)])) := fun c o e => by rw [upd_ne (ne_of_none e ht2)]; exact e
    have s3 := s1.trans s2
    refine ⟨aD, _, rfl, DPut.t (k := keyI a b) (s3 _ _ X.prs) upd_same (by rw [pairs_len]; exact Nat.lt_trans hl (by decide)), ?_⟩
    rw [pairs_put hpos.1 hpos.2 hs]
    refine does_one (c := .partner a b) (n := 1) (s' := { s0 with partners := s0.partners ++ [(a.toNat, b.toNat)] }) k ?_ _ fp ⟨wf_partner W hb hab hs hl, aS, aP, aC, aD, dx, ps, cs, kids, X.pairs upd_same fun c o e hc => by rw [upd_ne hc]; exact s3 _ _ e⟩ ⟨fun c o e hc => ?_, fun _ h => .inl h⟩
    · show (if Sz31.both s0 a b = false ∨ a = b then _ else if (s0.partners.any (Sz31.same a b)) = true then _ else if 4096 ≤ s0.partners.length then _ else _) = _
      rw [if_neg hnb, if_neg hns, if_neg (by omega)]
    · rw [upd_ne (fun q => hc (by rw [q, X.efp]; simp))]
      exact s3 _ _ e
theorem scPart : FnScope ["self", "a", "b"] ["self", "a", "b"] (defScope sPart) := ⟨rfl, rfl, rfl, by decide +kernel, rfl, by decide +kernel, by decide +kernel⟩
theorem ok_part {f : Addr} {fd : FuncData} (F : Fun K "part_partners" "Family.part_partners" sPart f fd) (T : Txt K mg C) (mh : Mth P w K mg base C 1 "has_both" ["self", "a", "b"] (spHas C)) (ma : Mth P w K mg base C 2 "are_partners" ["self", "a", "b"] (spAre C)) (cp : Callee P w K mg base 1 "pair_of" ["a", "b"] spPair) :
    FnOk P w K mg base CX0 3 f fd ["self", "a", "b"] (spDo C 2 fun ns => .part (ns.getD 0 0) (ns.getD 1 0)) := by
  obtain ⟨f1, fd1, G1, m1, b1⟩ := mh.ex
  obtain ⟨f3, fd3, G3, m3, b3⟩ := ma.ex
  obtain ⟨f2, fd2, G2, m2, k2, b2⟩ := cp.ex
  refine F.ok scPart (fun vs H Q E h => ?_) (fun cdv A outer s H vs Q E hr h => ?_)
  · obtain ⟨p, s, fp, ns, rfl, hn, _⟩ := h
    simp [hn]
  · obtain ⟨p, s0, fp, ns, rfl, hn, FF, k⟩ := h
    obtain ⟨W, aS, aP, aC, aD, dx, ps, cs, kids, X⟩ := id FF
    obtain ⟨a, b, rfl⟩ : ∃ a b, ns = [a, b] := match ns, hn with | [a, b], _ => ⟨a, b, rfl⟩
    have hu := hu_of hr
    have hr1 : Room 1 _ := hr.mono (by decide)
    refine ⟨_, pss_cons (ps_if (pt_not (pt_val (pe_meth (pv 0) T.cl m1 G1 hr1 b1 .nil pass0 (pa_cons (pv 1) (pa_cons (pv 2) pa_nil))))) (pss_one (ps_ret (pe_un un_neg pe_int))) pss_nil)
      (pss_cons (ps_if (pt_not (pt_val (pe_meth (pv 0) T.cl m3 G3 hr b3 .nil pass0 (pa_cons (pv 1) (pa_cons (pv 2) pa_nil))))) (pss_one (ps_ret pe_int)) pss_nil)
      (pss_cons (ps_expr (pe_bm PySem.F.plainAttrs_dict PySem.F.slot_dict_pop PySem.F.type_dict_pop (mt_popT hu) (pe_fld (pv 0) rfl) (pa_cons (pe_call G2 hr1 rfl m2 k2 b2 .nil pass0 (pa_cons (pv 1) (pa_cons (pv 2) pa_nil))) pa_nil)))
      (pss_one (ps_ret pe_int)))), ?_⟩
    have noHas := ff_no aS aP aC aD (m := "has_both") (by decide +kernel) (by decide +kernel) (by decide +kernel) (by decide +kernel)
    refine ⟨_, rfl, p, dx, _, rfl, X.ins, noHas, _, rfl, _, rfl, p, s0, fp, a, b, rfl, FF, _, rfl, ?_⟩
    refine go_ite (fun hb => ⟨_, rfl, does_one (c := .part a b) k (if_pos (by simpa using hb)) H fp FF (Frm.same (Same.refl H))⟩) (fun hb => ?_)
    have hb : Sz31.both s0 a b = true := by simpa using hb
    have hnb : ¬ Sz31.both s0 a b = false := by rw [hb]; exact fun h => Bool.noConfusion h
    have hpos : 0 ≤ a ∧ 0 ≤ b := by
      have h := hb
      unfold Sz31.both Sz31.St.has at h
      simp only [Bool.and_eq_true, decide_eq_true_eq] at h
      exact ⟨h.1.1, h.2.1⟩
    have noAre := ff_no aS aP aC aD (m := "are_partners") (by decide +kernel) (by decide +kernel) (by decide +kernel) (by decide +kernel)
    refine ⟨_, rfl, p, dx, _, rfl, X.ins, noAre, _, rfl, _, rfl, p, s0, fp, a, b, rfl, FF, hpos.1, hpos.2, fun H1 s1 => ⟨_, rfl, ?_⟩⟩
    refine go_ite (fun hs => ?_) (fun hs => ?_)
    · refine does_one (c := .part a b) (n := 0) (s' := s0) k ?_ _ fp (FF.same s1) (Frm.same s1)
      show (if Sz31.both s0 a b = false then _ else if (s0.partners.any (Sz31.same a b)) = true then _ else _) = _
      rw [if_neg hnb, if_neg (by simpa using hs)]
    have hs : s0.partners.any (Sz31.same a b) = true := by simpa using hs
    refine ⟨_, rfl, p, C, dx, _, _, rfl, s1 _ _ X.ins, T.cl, T.nD, ff_pairs _ _ _ _, .inr (.inr (.inl ⟨rfl, .inr ⟨_, s1 _ _ X.prs⟩⟩)), ?_⟩
    refine ⟨_, rfl, _, rfl, a, b, rfl, fun t2 ht2 => ?_⟩
    have s2 : Same H1 (upd H1 t2 (.tup [.int (min a b), .int (max a b)])) := fun c o e => by rw [upd_ne (ne_of_none e ht2)]; exact e
    have s3 := s1.trans s2
    obtain ⟨v, hv⟩ : ∃ v, valV (pairsKv s0.partners) (keyI a b) = some v := by
      have := pairs_any hpos.1 hpos.2 s0.partners
      rw [hs] at this
      exact Option.isSome_iff_exists.mp this
    refine ⟨aD, t2, _, keyI a b, v, rfl, rfl, s3 _ _ X.prs, upd_same, hv, ?_⟩
    rw [pairs_drop hpos.1 hpos.2]
    refine does_one (c := .part a b) (n := 1) (s' := { s0 with partners := s0.partners.filter fun p => !Sz31.same a b p }) k ?_ _ fp ⟨wf_part W _, aS, aP, aC, aD, dx, ps, cs, kids, X.pairs upd_same fun c o e hc => by rw [upd_ne hc]; exact s3 _ _ e⟩ ⟨fun c o e hc => ?_, fun _ h => .inl h⟩
    · show (if Sz31.both s0 a b = false then _ else if (s0.partners.any (Sz31.same a b)) = true then _ else _) = _
      rw [if_neg hnb, if_pos hs]
    · rw [upd_ne (fun q => hc (by rw [q, X.efp]; simp))]
      exact s3 _ _ e
end
end Kin
set_option Elab.async false
set_option linter.all false
set_option maxRecDepth 100000
set_option maxHeartbeats 2000000
namespace Kin
open PySem PySem.Spec PyProof.Rows L2
/-- one row grows -/
theorem RowsAt.grow {H H' : Hp} {a c : Addr} {as : List Addr} {rows : List (List Nat)} {j x : Nat} (R : RowsAt H a as rows) (nd : as.Nodup) (hc : as[j]? = some c) (ha : H' a = H a) (h1 : H' c = some (.lst ((rows.getD j []).map nv ++ [nv x]))) (h2 : ∀ d, d ∈ as → d ≠ c → H' d = H d) : RowsAt H' a as (rows.set j (rows.getD j [] ++ [x])) := by
  have hj : j < rows.length := by rw [← R.len]; exact (List.getElem?_eq_some_iff.mp hc).1
  refine ⟨by rw [ha]; exact R.lst, by rw [List.length_set]; exact R.len, fun i d hd => ?_⟩
  by_cases q : i = j
  · subst q
    have : c = d := Option.some.inj (hc.symm.trans hd)
    subst this
    rw [h1, List.getD_eq_getElem?_getD (l := rows.set i _), List.getElem?_set_self hj, Option.getD_some, List.map_append]
    rfl
  · have hne : d ≠ c := fun e => q (nd_ix nd hd (by rw [e]; exact hc))
    rw [h2 d (List.mem_of_getElem? hd) hne, R.at_ i d hd, List.getD_eq_getElem?_getD (l := rows.set j _), List.getElem?_set_ne (fun e => q e.symm), List.getD_eq_getElem?_getD]
theorem levels_any {L : Nat → List Nat} {i n p : Nat} (hz : KM.lv L i n = []) : ((List.range n).map (KM.lv L i)).any (fun r => r.contains p) = true ↔ ∃ k, p ∈ KM.reach L k i := by
  rw [List.any_map, List.any_eq_true]
  constructor
  · rintro ⟨k, _, h⟩
    exact ⟨k, KM.mem_lv.mp (List.contains_iff_mem.mp h)⟩
  · rintro ⟨k, h⟩
    have hk : k < n := by
      by_cases q : k < n
      · exact q
      · rw [KM.nil_le (KM.lv_nil.mp hz) (by omega)] at h; cases h
    exact ⟨k, List.mem_range.mpr hk, List.contains_iff_mem.mpr (KM.mem_lv.mpr h)⟩
theorem map_sex (s : Sz31.St) (i j : Nat) : (KM.addPar s i j).persons.map (fun q => nv q.sex) = s.persons.map (fun q => nv q.sex) := by
  unfold KM.addPar
  dsimp only
  rw [List.map_set]
  by_cases h : i < s.persons.length
  · refine List.ext_getElem? fun k => ?_
    rw [List.getElem?_set]
    by_cases q : i = k
    · subst q
      rw [if_pos rfl, if_pos (by rw [List.length_map]; exact h), List.getElem?_map, List.getElem?_eq_getElem h]
      show some (nv (s.get i).sex) = _
      unfold Sz31.St.get
      rw [List.getD_eq_getElem?_getD, List.getElem?_eq_getElem h]
      rfl
    · rw [if_neg q]
  · rw [List.set_eq_of_length_le (by rw [List.length_map]; omega)]
theorem map_par (s : Sz31.St) (i j : Nat) : (KM.addPar s i j).persons.map (·.parents) = (s.persons.map (·.parents)).set i (rowOf (s.persons.map (·.parents)) i ++ [j]) := by
  rw [row_par]
  unfold KM.addPar
  dsimp only
  rw [List.map_set]
section
variable {P : Program} {w : World} {K : PySem.W.Frag} {mg : Str → Option Value} {base : Heap} {C : Addr}
theorem scParent : FnScope ["self", "child", "parent", "above", "below"] ["self", "child", "parent"] (defScope sParent) := ⟨rfl, rfl, rfl, by decide +kernel, rfl, by decide +kernel, by decide +kernel⟩
theorem ok_parent {f : Addr} {fd : FuncData} (F : Fun K "add_parent" "Family.add_parent" sParent f fd) (T : Txt K mg C) (mh : Mth P w K mg base C 1 "has_both" ["self", "a", "b"] (spHas C))
    (cl : Callee P w K mg base 2 "levels_from" ["links", "start"] spLevels) (cg : Callee P w K mg base 1 "longest" ["levels"] spLongest) (cw : Callee P w K mg base 1 "is_within" ["levels", "person"] spWithin) :
    FnOk P w K mg base CX0 3 f fd ["self", "child", "parent"] (spDo C 2 fun ns => .parent (ns.getD 0 0) (ns.getD 1 0)) := by
  obtain ⟨t1, c1⟩ := T.cParents
  obtain ⟨t2, c2⟩ := T.cSteps
  obtain ⟨f1, fd1, G1, m1, b1⟩ := mh.ex
  obtain ⟨f2, fd2, G2, m2, k2, b2⟩ := cl.ex
  obtain ⟨f3, fd3, G3, m3, k3, b3⟩ := cg.ex
  obtain ⟨f4, fd4, G4, m4, k4, b4⟩ := cw.ex
  refine F.ok scParent (fun vs H Q E h => ?_) (fun cdv A outer s H vs Q E hr h => ?_)
  · obtain ⟨p, s, fp, ns, rfl, hn, _⟩ := h
    simp [hn]
  · obtain ⟨p, s0, fp, ns, rfl, hn, FF, k⟩ := h
    obtain ⟨W, aS, aP, aC, aD, dx, ps, cs, kids, X⟩ := id FF
    obtain ⟨a, b, rfl⟩ : ∃ a b, ns = [a, b] := match ns, hn with | [a, b], _ => ⟨a, b, rfl⟩
    have hr1 : Room 1 _ := hr.mono (by decide)
    refine ⟨_, pss_cons (ps_if (pt_not (pt_val (pe_meth (pv 0) T.cl m1 G1 hr1 b1 .nil pass0 (pa_cons (pv 1) (pa_cons (pv 2) pa_nil))))) (pss_one (ps_ret (pe_un un_neg pe_int))) pss_nil)
      (pss_cons (ps_if (pt_cmpR op_in_seq (pv 2) (pe_ix ix_list (pe_fld (pv 0) rfl) (pv 1) (fun _ _ => rfl)) (by with_unfolding_all rfl)) (pss_one (ps_ret pe_int)) pss_nil)
      (pss_cons (ps_if (pt_cmpR op_ge (pe_callB call_len_seq (by rfl) T.len b_len (pa_cons (pe_ix ix_list (pe_fld (pv 0) rfl) (pv 1) (fun _ _ => rfl)) pa_nil)) (pe_gint c1) (nomark _)) (pss_one (ps_ret (pe_un un_neg pe_int))) pss_nil)
      (pss_cons (ps_set (i := 3) scParent.nd rfl (Or.inl rfl) (pe_call G2 hr rfl m2 k2 b2 .nil pass0 (pa_cons (pe_fld (pv 0) rfl) (pa_cons (pv 2) pa_nil))))
      (pss_cons (ps_if (pt_val (pe_call G4 hr1 rfl m4 k4 b4 .nil pass0 (pa_cons (pv 3) (pa_cons (pv 1) pa_nil)))) (pss_one (ps_ret (pe_un un_neg pe_int))) pss_nil)
      (pss_cons (ps_set (i := 4) scParent.nd rfl (Or.inl rfl) (pe_call G2 hr rfl m2 k2 b2 .nil pass0 (pa_cons (pe_fld (pv 0) rfl) (pa_cons (pv 1) pa_nil))))
      (pss_cons (ps_if (pt_cmpR op_gt (pe_op op_add (pe_op op_add (pe_call G3 hr1 rfl m3 k3 b3 .nil pass0 (pa_cons (pv 4) pa_nil)) pe_int) (pe_call G3 hr1 rfl m3 k3 b3 .nil pass0 (pa_cons (pv 3) pa_nil))) (pe_gint c2) (nomark _)) (pss_one (ps_ret (pe_un un_neg pe_int))) pss_nil)
      (pss_cons (ps_expr (pe_bm PySem.F.plainAttrs_list PySem.F.slot_list_append PySem.F.type_list_append mt_append (pe_ix ix_list (pe_fld (pv 0) rfl) (pv 1) (fun _ _ => rfl)) (pa_cons (pv 2) pa_nil)))
      (pss_cons (ps_expr (pe_bm PySem.F.plainAttrs_list PySem.F.slot_list_append PySem.F.type_list_append mt_append (pe_ix ix_list (pe_fld (pv 0) rfl) (pv 2) (fun _ _ => rfl)) (pa_cons (pv 1) pa_nil)))
      (pss_one (ps_ret pe_int)))))))))), ?_⟩
    have noHas := ff_no aS aP aC aD (m := "has_both") (by decide +kernel) (by decide +kernel) (by decide +kernel) (by decide +kernel)
    refine ⟨_, rfl, p, dx, _, rfl, X.ins, noHas, _, rfl, _, rfl, p, s0, fp, a, b, rfl, FF, _, rfl, ?_⟩
    refine go_ite (fun hb => ⟨_, rfl, does_one (c := .parent a b) k (if_pos (by simpa using hb)) H fp FF (Frm.same (Same.refl H))⟩) (fun hb => ?_)
    have hb : Sz31.both s0 a b = true := by simpa using hb
    have hnb : ¬ Sz31.both s0 a b = false := by rw [hb]; exact fun h => Bool.noConfusion h
    obtain ⟨i, j, rfl, rfl, hi, hj⟩ : ∃ i j : Nat, a = (i : Int) ∧ b = (j : Int) ∧ i < s0.persons.length ∧ j < s0.persons.length := by
      have h := hb
      unfold Sz31.both Sz31.St.has at h
      simp only [Bool.and_eq_true, decide_eq_true_eq] at h
      exact ⟨a.toNat, b.toNat, by omega, by omega, by omega, by omega⟩
    have dd : Sz31.does s0 (.parent (i : Int) (j : Int)) = (if (KM.par s0 i).contains j = true then (s0, Sz31.only 0) else if 2 ≤ (KM.par s0 i).length then (s0, Sz31.only (-2)) else if i = j ∨ Sz31.isAbove s0 j i = true then (s0, Sz31.only (-3))
        else if 28 < Sz31.height s0 29 j + 1 + Sz31.fall s0 29 i then (s0, Sz31.only (-4)) else (KM.addPar s0 i j, Sz31.only 1)) := by
      show (if Sz31.both s0 i j = false then _ else _) = _
      rw [if_neg hnb]
      rfl
    have hil : i < (s0.persons.map (·.parents)).length := by rw [List.length_map]; exact hi
    obtain ⟨ri, hri, hri'⟩ := X.par.get hil
    rw [show (s0.persons.map (·.parents)).getD i [] = KM.par s0 i from row_par s0 i] at hri'
    have aix : atI (ps.map V.ref) ((i : Nat) : Int) = some (V.ref ri) := atI_nat (by rw [List.getElem?_map, hri]; rfl)
    refine ⟨_, rfl, _, rfl, p, C, dx, _, _, rfl, X.ins, T.cl, T.nP, ff_parents _ _ _ _, _, rfl, aP, _, _, _, rfl, rfl, SqL.of X.par.lst, aix, ri, _, rfl, .inl (SqL.of hri'), rfl, flat_nats _, _, rfl, ?_⟩
    rw [if_neg Bool.false_ne_true, show inV (V.int (j : Int)) ((KM.par s0 i).map nv) = (KM.par s0 i).contains j from inV_nats j _]
    refine go_ite (fun hin => ?_) (fun hin => ?_)
    · exact does_one (c := .parent (i : Int) (j : Int)) k (by rw [dd, if_pos hin]) H fp FF (Frm.same (Same.refl H))
    have hin' : ¬ (KM.par s0 i).contains j = true := by rw [hin]; exact Bool.false_ne_true
    refine ⟨_, rfl, p, C, dx, _, _, rfl, X.ins, T.cl, T.nP, ff_parents _ _ _ _, _, rfl, aP, _, _, _, rfl, rfl, SqL.of X.par.lst, aix, ri, _, rfl, .inl (SqL.of hri'), _, _, rfl, rfl, _, rfl, ?_⟩
    rw [List.length_map]
    refine go_dec (fun h2 => ?_) (fun h2 => ?_)
    · exact ⟨_, rfl, does_one (c := .parent (i : Int) (j : Int)) (n := -2) (s' := s0) k (by rw [dd, if_neg hin', if_pos (by omega)]) H fp FF (Frm.same (Same.refl H))⟩
    have h2' : ¬ 2 ≤ (KM.par s0 i).length := by omega
    have wP := within_par W
    have dP : ∀ x, KM.reach (rowOf (s0.persons.map (·.parents))) 29 x = [] := fun x => by rw [par_row_fun]; exact W.deep x
    have wK := within_kid W X.klen X.kmem
    refine ⟨_, rfl, p, C, dx, _, _, rfl, X.ins, T.cl, T.nP, ff_parents _ _ _ _, _, rfl, aP, j, ps, _, rfl, X.par, wP, by rw [List.length_map]; exact hj, dP j, fun H1 l1 ls1 n1 s1 hl1 hls1 R1 hn1 hn1' hne1 hz1 => ?_⟩
    rw [par_row_fun] at R1 hne1 hz1
    have X1 := X.same s1
    refine ⟨_, rfl, _, rfl, l1, ls1, _, i, rfl, R1, by rw [List.length_map, List.length_range]; omega, fun H2 s2 => ⟨_, rfl, ?_⟩⟩
    have s12 := s1.trans s2
    have X2 := X.same s12
    have F2 := FF.same s12
    have up_iff := levels_any (L := KM.par s0) (i := j) (n := n1) (p := i) hz1
    have abv : (i = j ∨ Sz31.isAbove s0 j i = true) ↔ ∃ k, i ∈ KM.reach (KM.par s0) k j := by
      rw [W.isAbove]
      constructor
      · rintro (q | q)
        · exact ⟨0, KM.mem_zero.mpr q⟩
        · exact q
      · exact fun q => .inr q
    refine go_ite (fun h3 => ?_) (fun h3 => ?_)
    · exact ⟨_, rfl, does_one (c := .parent (i : Int) (j : Int)) (n := -3) (s' := s0) k (by rw [dd, if_neg hin', if_neg h2', if_pos (abv.mpr (up_iff.mp h3))]) H2 fp F2 (Frm.same s12)⟩
    have h3' : ¬ ∃ k, i ∈ KM.reach (KM.par s0) k j := fun q => by rw [up_iff.mpr q] at h3; cases h3
    refine ⟨_, rfl, p, C, dx, _, _, rfl, X2.ins, T.cl, T.nC, ff_children _ _ _ _, _, rfl, aC, i, cs, kids, rfl, X2.kid, wK, by rw [X.klen]; exact hi, kid_deep W X.kmem i, fun H3 l3 ls3 n3 s3 hl3 hls3 R3 hn3 hn3' hne3 hz3 => ?_⟩
    have s13 := s12.trans s3
    have X3 := X.same s13
    have F3 := FF.same s13
    have R13 := (R1.same s2).same s3
    refine ⟨_, rfl, l3, _, rfl, R3.lst, _, _, rfl, rfl, _, rfl, l1, _, rfl, R13.lst, _, _, rfl, rfl, _, _, rfl, rfl, _, rfl, ?_⟩
    have e1 : ls1.length = n1 := by rw [R1.len, List.length_map, List.length_range]
    have e3 : ls3.length = n3 := by rw [R3.len, List.length_map, List.length_range]
    rw [List.length_map, List.length_map, e1, e3]
    have hup : Sz31.height s0 29 j = n1 - 1 := by
      rw [KM.height_eq]
      refine KM.tall_is (k := n1 - 1) ?_ ?_ (by omega)
      · exact fun q => hne1 (n1 - 1) (by omega) (KM.lv_nil.mpr q)
      · rw [show n1 - 1 + 1 = n1 by omega]; exact KM.lv_nil.mp hz1
    have dn : ∀ k, KM.reach (Sz31.children s0) k i = [] ↔ KM.reach (rowOf kids) k i = [] := fun k => by
      rw [KM.nil_iff, KM.nil_iff]
      have e : ∀ a, a ∈ KM.reach (Sz31.children s0) k i ↔ a ∈ KM.reach (rowOf kids) k i := fun a => by rw [kid_down X.kmem, KM.mem_down]
      exact ⟨fun q a h => q a ((e a).mpr h), fun q a h => q a ((e a).mp h)⟩
    have hdn : Sz31.fall s0 29 i = n3 - 1 := by
      rw [KM.fall_eq]
      refine KM.tall_is (k := n3 - 1) ?_ ?_ (by omega)
      · exact fun q => hne3 (n3 - 1) (by omega) (KM.lv_nil.mpr ((dn _).mp q))
      · rw [show n3 - 1 + 1 = n3 by omega]; exact (dn _).mpr (KM.lv_nil.mp hz3)
    refine go_dec (fun h4 => ?_) (fun h4 => ?_)
    · exact ⟨_, rfl, does_one (c := .parent (i : Int) (j : Int)) (n := -4) (s' := s0) k (by rw [dd, if_neg hin', if_neg h2', if_neg (fun q => h3' (abv.mp q)), if_pos (by rw [hup, hdn]; omega)]) H3 fp F3 (Frm.same s13)⟩
    have h4' : (n1 - 1) + 1 + (n3 - 1) ≤ 28 := by omega
    have k := does_one (c := .parent (i : Int) (j : Int)) (n := 1) (s' := KM.addPar s0 i j) k (by rw [dd, if_neg hin', if_neg h2', if_neg (fun q => h3' (abv.mp q)), if_neg (by rw [hup, hdn]; omega)])
    have W' : KM.WF (KM.addPar s0 i j) := by
      refine W.addPar hi hj (fun q => hin' (List.contains_iff_mem.mpr q)) (by omega) h3' (u := n1 - 1) (d := n3 - 1) (fun k hk => ?_) (fun k hk => ?_) h4'
      · by_cases q : k ≤ n1 - 1
        · exact q
        · exact absurd (KM.nil_le (KM.lv_nil.mp hz1) (by omega)) hk
      · by_cases q : k ≤ n3 - 1
        · exact q
        · exact absurd ((dn k).mpr (KM.nil_le (KM.lv_nil.mp hz3) (by omega))) hk
    -- the two rows grow
    have nd := X.nd
    simp only [List.nodup_cons, List.mem_cons, not_or] at nd
    obtain ⟨⟨nSP, nSC, nSr⟩, ⟨nPC, nPr⟩, nCr, ndr⟩ := nd
    obtain ⟨ndp, ndc, ndx⟩ := List.nodup_append.mp ndr
    have hri3 := s13 _ _ hri'
    have mri : ri ∈ ps ++ cs := List.mem_append_left _ (List.mem_of_getElem? hri)
    refine ⟨_, rfl, p, C, dx, _, _, rfl, X3.ins, T.cl, T.nP, ff_parents _ _ _ _, _, rfl, aP, _, _, _, rfl, rfl, SqL.of X3.par.lst, aix, .inl ⟨rfl, _, SqL.of hri3⟩, _, rfl, ri, _, _, rfl, rfl, hri3, (by rw [List.length_map]; exact Nat.lt_of_lt_of_le (show (KM.par s0 i).length < 2 by omega) (by decide)), ?_⟩
    generalize e4 : upd H3 ri (.lst ((KM.par s0 i).map nv ++ [V.int (j : Int)])) = H4
    have st4 : ∀ d, d ≠ ri → H4 d = H3 d := fun d hd => by rw [← e4, upd_ne hd]
    have hjl : j < kids.length := by rw [X.klen]; exact hj
    obtain ⟨rj, hrj, hrj'⟩ := X3.kid.get hjl
    have mrj : rj ∈ ps ++ cs := List.mem_append_right _ (List.mem_of_getElem? hrj)
    have rij : rj ≠ ri := fun e => ndx ri (List.mem_of_getElem? hri) rj (List.mem_of_getElem? hrj) e.symm
    have ins4 : H4 p = some (.ins C dx (ff aS aP aC aD)) := by rw [st4 p (ne_of X3.ins hri3 (by intro z; cases z))]; exact X3.ins
    have C4 : H4 aC = some (.lst (cs.map V.ref)) := by rw [st4 aC (fun e => nCr (by rw [e]; exact mri))]; exact X3.kid.lst
    have rj4 : H4 rj = some (.lst ((kids.getD j []).map nv)) := by rw [st4 rj rij]; exact hrj'
    have ajx : atI (cs.map V.ref) ((j : Nat) : Int) = some (V.ref rj) := atI_nat (by rw [List.getElem?_map, hrj]; rfl)
    have kshort : (kids.getD j []).length < sizeLine := Nat.lt_of_le_of_lt (Nat.le_trans (nodup_bound (X.knd j) fun x hx => wK.lt j x hx) wK.few) (by decide)
    refine ⟨_, rfl, p, C, dx, _, _, rfl, ins4, T.cl, T.nC, ff_children _ _ _ _, _, rfl, aC, _, _, _, rfl, rfl, SqL.of C4, ajx, .inl ⟨rfl, _, SqL.of rj4⟩, _, rfl, rj, _, _, rfl, rfl, rj4, (by rw [List.length_map]; exact kshort), ?_⟩
    generalize e5 : upd H4 rj (.lst ((kids.getD j []).map nv ++ [V.int (i : Int)])) = H5
    have st5 : ∀ d, d ≠ rj → H5 d = H4 d := fun d hd => by rw [← e5, upd_ne hd]
    have st : ∀ d, d ≠ ri → d ≠ rj → H5 d = H3 d := fun d h1 h2 => by rw [st5 d h2, st4 d h1]
    have notrow : ∀ d, ¬ d ∈ ps ++ cs → H5 d = H3 d := fun d hd => st d (fun e => hd (by rw [e]; exact mri)) (fun e => hd (by rw [e]; exact mrj))
    refine k H5 fp ⟨W', aS, aP, aC, aD, dx, ps, cs, kids.set j (kids.getD j [] ++ [i]), ?_⟩ ⟨fun b o e hb => ?_, fun _ h => .inl h⟩
    · refine ⟨X.efp, ?_, ?_, ?_, ?_, ?_, X.nd, ?_, fun x c => ?_, fun x => ?_⟩
      · rw [st p (ne_of X3.ins hri3 (by intro z; cases z)) (ne_of X3.ins hrj' (by intro z; cases z))]; exact X3.ins
      · rw [map_sex, notrow aS nSr]; exact X3.sex
      · rw [map_par]
        refine X3.par.grow ndp hri (notrow aP nPr) ?_ (fun d hd hne => st d hne (fun e => ndx d hd rj (List.mem_of_getElem? hrj) e))
        rw [st5 ri rij.symm, ← e4, upd_same, show (s0.persons.map (·.parents)).getD i [] = KM.par s0 i from row_par s0 i]
        rfl
      · refine X3.kid.grow ndc hrj (notrow aC nCr) ?_ (fun d hd hne => st d (fun e => ndx ri (List.mem_of_getElem? hri) d hd e.symm) hne)
        rw [← e5, upd_same]
        rfl
      · rw [st aD (ne_of X3.prs hri3 (by intro z; cases z)) (ne_of X3.prs hrj' (by intro z; cases z))]; exact X3.prs
      · rw [List.length_set, KM.len_add]; exact X.klen
      · rw [KM.par_add hi]
        show c ∈ (kids.set j (kids.getD j [] ++ [i])).getD x [] ↔ _
        rw [List.getD_eq_getElem?_getD, List.getElem?_set]
        by_cases hx : j = x
        · subst hx
          rw [if_pos rfl, if_pos hjl, Option.getD_some, List.mem_append, List.mem_singleton, show (c ∈ kids.getD j []) = (c ∈ rowOf kids j) from rfl, X.kmem]
          by_cases hc : c = i
          · rw [if_pos hc]; simp [hc]
          · rw [if_neg hc]; simp [hc]
        · rw [if_neg hx, ← List.getD_eq_getElem?_getD, show (c ∈ kids.getD x []) = (c ∈ rowOf kids x) from rfl, X.kmem]
          by_cases hc : c = i
          · rw [if_pos hc, hc, List.mem_append, List.mem_singleton]
            constructor
            · exact fun q => .inl q
            · rintro (q | q)
              · exact q
              · exact absurd q.symm hx
          · rw [if_neg hc]
      · show ((kids.set j (kids.getD j [] ++ [i])).getD x []).Nodup
        rw [List.getD_eq_getElem?_getD, List.getElem?_set]
        by_cases hx : j = x
        · subst hx
          rw [if_pos rfl, if_pos hjl, Option.getD_some, List.nodup_append]
          refine ⟨X.knd j, by simp, fun y hy z hz e => ?_⟩
          rw [List.mem_singleton] at hz
          subst hz
          subst e
          exact hin' (List.contains_iff_mem.mpr ((X.kmem j y).mp hy))
        · rw [if_neg hx, ← List.getD_eq_getElem?_getD]
          exact X.knd x
    · rw [X.efp] at hb
      simp only [List.mem_cons, not_or] at hb
      rw [notrow b hb.2.2.2.2]
      exact s13 _ _ e
end
end Kin
set_option Elab.async false
set_option linter.all false
set_option maxRecDepth 100000
set_option maxHeartbeats 2000000
namespace Kin
open PySem PySem.Spec PyProof.Rows L2
/-! ### bytes as a text -/
def S (t : Sz31.Bytes) : Str := ⟨(t.map fun b => b.toNat).toArray⟩
theorem S_app (a b : Sz31.Bytes) : S (a ++ b) = S a ++ S b := by
  show (⟨((a ++ b).map fun b => b.toNat).toArray⟩ : Str) = ⟨(a.map fun b => b.toNat).toArray ++ (b.map fun b => b.toNat).toArray⟩
  rw [List.map_append]
  exact congrArg Str.mk (by simp)
theorem S_len (t : Sz31.Bytes) : (S t).length = t.length := by
  show ((t.map fun b => b.toNat).toArray).size = _
  rw [List.size_toArray, List.length_map]
theorem app_len (a b : Str) : (a ++ b).length = a.length + b.length := by
  show (a.cps ++ b.cps).size = _
  rw [Array.size_append]
  rfl
theorem app_assoc (a b c : Str) : a ++ b ++ c = a ++ (b ++ c) := by
  show (⟨a.cps ++ b.cps ++ c.cps⟩ : Str) = ⟨a.cps ++ (b.cps ++ c.cps)⟩
  rw [Array.append_assoc]
theorem nil_app (a : Str) : S [] ++ a = a := by
  show (⟨#[] ++ a.cps⟩ : Str) = a
  rw [Array.empty_append]
/-! ### x * n -/
def rep (x : Str) (n : Nat) : Str := ⟨(List.replicate n x.cps).foldl (· ++ ·) #[]⟩
theorem rep_succ (x : Str) (n : Nat) : rep x (n + 1) = rep x n ++ x := by
  show (⟨(List.replicate (n + 1) x.cps).foldl (· ++ ·) #[]⟩ : Str) = ⟨(List.replicate n x.cps).foldl (· ++ ·) #[] ++ x.cps⟩
  rw [List.replicate_succ', List.foldl_append]
  rfl
theorem rep_nil {x : Str} (h : x.length = 0) : ∀ n, rep x n = Str.empty
  | 0 => rfl
  | n + 1 => by
    rw [rep_succ, rep_nil h n]
    have : x.cps = #[] := Array.eq_empty_of_size_eq_zero h
    show (⟨#[] ++ x.cps⟩ : Str) = ⟨#[]⟩
    rw [this]; rfl
theorem rep_len (x : Str) : ∀ n, (rep x n).length = n * x.length
  | 0 => by rw [Nat.zero_mul]; rfl
  | n + 1 => by rw [rep_succ, app_len, rep_len x n, Nat.succ_mul]
theorem greats_end : ∀ n, Sz31.greats n ++ Sz31.text "great-" = Sz31.text "great-" ++ Sz31.greats n
  | 0 => by show [] ++ _ = _ ++ []; simp
  | n + 1 => by
    show (Sz31.text "great-" ++ Sz31.greats n) ++ Sz31.text "great-" = Sz31.text "great-" ++ (Sz31.text "great-" ++ Sz31.greats n)
    rw [List.append_assoc, greats_end n]
theorem lit_great : ("great-" : Str) = S (Sz31.text "great-") := by decide +kernel
theorem rep_greats : ∀ n, rep "great-" n = S (Sz31.greats n)
  | 0 => rfl
  | n + 1 => by
    rw [rep_succ, rep_greats n, lit_great, ← S_app, greats_end]
    rfl
section
variable {X : Cx}
theorem op_mul_str : OpR X (binaryOp .Mult) (fun x y H Q => ∃ (i : Str) (n : Int), x = .str i ∧ y = .int n ∧ 0 ≤ n ∧ n ≤ 1000 ∧ i.length ≤ 1000 ∧ Q (.str (rep i n.toNat)) H) := by
  intro pins s σ H x y v u Q I rx ry h
  obtain ⟨i, n, rfl, rfl, h0, h1, hl, q⟩ := h
  obtain ⟨t, rfl⟩ := rx
  obtain ⟨t', rfl⟩ := ry
  have fits : i.length * n.toNat ≤ sizeLine := by
    have : i.length * n.toNat ≤ 1000 * 1000 := Nat.mul_le_mul hl (by omega)
    exact Nat.le_trans this (by decide)
  refine PySem.P.mul_str ?_ (fun hn _ => ?_) (fun _ _ => ?_) ?_
  · rw [Bool.or_eq_false_iff, decide_eq_false_iff_not, decide_eq_false_iff_not]
    omega
  · have : (1000 : Int) ≤ (2 ^ 63 - 1) / n := by
      rw [Int.le_ediv_iff_mul_le (by omega)]
      have : (1000 : Int) * n ≤ 1000 * 1000 := Int.mul_le_mul_of_nonneg_left h1 (by decide)
      omega
    omega
  · unfold Builtin.Str.tooLong
    exact decide_eq_false (by omega)
  · by_cases hn : n < 1
    · rw [if_pos hn]
      have : n = 0 := by omega
      subst this
      exact ⟨by decide, .str Str.empty, H, I.tok _, ⟨_, rfl⟩, q⟩
    · rw [if_neg hn]
      by_cases c : (n == 1 || i.length == 0) = true
      · rw [if_pos c]
        refine ⟨.str i, H, I, ⟨t, rfl⟩, ?_⟩
        have : rep i n.toNat = i := by
          rw [Bool.or_eq_true, beq_iff_eq, beq_iff_eq] at c
          rcases c with c | c
          · subst c
            show rep i 1 = i
            rw [rep_succ]
            show (⟨#[] ++ i.cps⟩ : Str) = i
            rw [Array.empty_append]
          · rw [rep_nil c]
            have : i.cps = #[] := Array.eq_empty_of_size_eq_zero c
            show (⟨#[]⟩ : Str) = i
            rw [← this]
        rw [this] at q
        exact q
      · rw [if_neg c]
        exact ⟨by have := rep_len i n.toNat; show (rep i n.toNat).length ≤ _; rw [this, Nat.mul_comm]; exact fits, .str _, H, I.tok _, ⟨_, rfl⟩, q⟩
/-- f'a{e}b' of a small number -/
def tFstr (a b : Str) (te : TE) : TE := fun σ H Q => te σ H fun v H1 => ∃ n : Int, v = .int n ∧ n.natAbs.log2 < 1920 ∧ (Str.empty ++ a ++ (toString n : String)).length ≤ sizeLine ∧ (Str.empty ++ a ++ (toString n : String) ++ b).length ≤ sizeLine ∧ Q (.str (Str.empty ++ a ++ (toString n : String) ++ b)) H1
theorem pe_fstr {a b : Str} {e : Expr} {te : TE} {k1 k2 : Nat} {p1 p2 p3 pos : Pos} (he : PE X e te) (ha : (Str.empty ++ a).length ≤ sizeLine) :
    PE X (.JoinedStr [.Constant (.str a) k1 p1, .FormattedValue e (-1) none p2, .Constant (.str b) k2 p3] pos) (tFstr a b te) := by
  intro pins s σ H Q I h
  refine wpAny_JoinedStr ?_
  show wpAny _ _ (eval (.Constant (.str a) k1 p1) X.env) _ _ s
  refine Calls.Constant_str ⟨a, _, rfl, ha, ?_⟩
  show wpAny _ _ (eval (.FormattedValue e (-1) none p2) X.env) _ _ { s with toks := s.toks + 1 }
  refine wpAny_FormattedValue_plain (thn (he pins _ σ H _ (I.tok _) h) fun u s1 ⟨x, H1, I1, rx, n, ex, hn, l1, l2, q⟩ => ?_)
  subst ex
  obtain ⟨t, rfl⟩ := rx
  refine wpAny_formatField_int hn ⟨_, _, rfl, l1, ?_⟩
  show wpAny _ _ (eval (.Constant (.str b) k2 p3) X.env) _ _ _
  refine Calls.Constant_str ⟨b, _, rfl, l2, l2, ?_⟩
  exact ⟨.str _, H1, I1.tok _, ⟨_, rfl⟩, q⟩
end
end Kin
set_option Elab.async false
set_option linter.all false
set_option maxRecDepth 100000
set_option maxHeartbeats 2000000
namespace Kin
open PySem PySem.Spec PyProof.Rows L2
/-! ### fewest_steps -/
def spFewest : Sp := fun vs H Q _ => ∃ (a : Addr) (i : Nat) (as : List Addr) (rows : List (List Nat)), vs = [.ref a, nv i] ∧ RowsAt H a as rows ∧ Within rows ∧ i < rows.length ∧ KM.reach (rowOf rows) 29 i = [] ∧
  ∀ (H' : Hp) (d : Addr) (D : List (Nat × Nat)), Same H H' → H d = none → H' d = some (.dK (encN D)) → KM.Few (rowOf rows) i D → Q (.ref d) H'
theorem Within.reach {rows : List (List Nat)} (W : Within rows) {i k x : Nat} (hi : i < rows.length) (h : x ∈ KM.reach (rowOf rows) k i) : x < rows.length := by
  cases k with
  | zero => rw [KM.mem_zero.mp h]; exact hi
  | succ k => obtain ⟨c, _, hc⟩ := KM.mem_snoc.mp h; exact W.lt c x hc
theorem fw_few {rows : List (List Nat)} (W : Within rows) {i : Nat} (hi : i < rows.length) (n : Nat) : ((KM.fw (rowOf rows) i n).1.map (·.1)).length ≤ rows.length := by
  obtain ⟨h1, _, h3, _⟩ := KM.fw_is (rowOf rows) i n
  refine nodup_bound h3 fun x hx => ?_
  obtain ⟨k, hk⟩ := KM.keys_mem.mp hx
  exact W.reach hi ((h1 x k).mp hk).2.1
section
variable {P : Program} {w : World} {K : PySem.W.Frag} {mg : Str → Option Value} {base : Heap}
theorem scFewest : FnScope ["links", "start", "steps", "level", "count", "person"] ["links", "start"] (defScope sFewest) := ⟨rfl, rfl, rfl, by decide +kernel, rfl, by decide +kernel, by decide +kernel⟩
theorem ok_fewest {f : Addr} {fd : FuncData} (F : Fun K "fewest_steps" "fewest_steps" sFewest f fd) (hLen : mg "len" = none) (c1 : Callee P w K mg base 1 "one_step" ["links", "level"] spOne) : FnOk P w K mg base CX0 2 f fd ["links", "start"] spFewest := by
  obtain ⟨f1, fd1, G1, m1, k1, b1⟩ := c1.ex
  refine F.ok scFewest (fun vs H Q E h => ?_) (fun cdv A outer s H vs Q E hr h => ?_)
  · obtain ⟨a, i, as, rows, rfl, _⟩ := h
    rfl
  · obtain ⟨a, i, as, rows, rfl, R, W, hi, h29, k⟩ := h
    have hu := hu_of hr
    refine ⟨_, pss_cons (ps_set (i := 2) scFewest.nd rfl (Or.inr rfl) pe_dnewK)
      (pss_cons (ps_set (i := 3) scFewest.nd rfl (Or.inl rfl) (pe_lst (pa_cons (pv 1) pa_nil)))
      (pss_cons (ps_set (i := 4) scFewest.nd rfl (Or.inl rfl) pe_int)
      (pss_cons (ps_while PassesOwn.never (pt_cmpR op_gt (pe_callB call_len_seq (by rfl) hLen b_len (pa_cons (pv 3) pa_nil)) pe_int (nomark _))
        (pss_cons (ps_for PassesOwn.never rfl (pi_list (pv 3)) (pg_name (i := 5) scFewest.nd rfl (Or.inl rfl)) (pss_one (ps_dput hu (pv 2) (pv 5) (pv 4) rfl)))
        (pss_cons (ps_setLc (i := 3) (own := [("person", 5)]) rfl scFewest.nd rfl rfl (sw_true rfl rfl rfl (by decide +kernel)) (pi_list (pe_call G1 hr rfl m1 k1 b1 .nil pass0 (pa_cons (pv 0) (pa_cons (pv 3) pa_nil)))) (blkOk_by (by show blkC ["links", "start", "steps", "level", "count", "person"] (defScope sFewest) _ _ = true; decide +kernel))
          (fun s H C cl fp => pg_name (i := 5) scFewest.nd rfl (Or.inl rfl)) (fun s H C cl fp => pts_one (pt_cmp (pc_dnotin hu (pv 5) (pv 2)) (by with_unfolding_all rfl))) (fun s H C cl fp => pv 5))
        (pss_one (ps_aug (i := 4) scFewest.nd rfl (Or.inl rfl) pe_int ip_add)))))
      (pss_one (ps_ret (pv 2)))))), ?_⟩
    intro d hd
    refine ⟨_, rfl, (by show 1 ≤ sizeLine; decide), fun c hc => ?_⟩
    have hcd : c ≠ d := fun e => by rw [e, upd_same] at hc; cases hc
    have hc0 : H c = none := by rw [upd_ne hcd] at hc; exact hc
    have s0 : Same H (upd (upd H d (.dK [])) c (.lst [nv i])) := fun b o e => by rw [upd_ne (ne_of_none e hc0), upd_ne (ne_of_none e hd)]; exact e
    refine ⟨fun m σ H' => ∃ (n : Nat) (c : Addr) (v5 : Option V), m + n = 30 ∧ n ≤ 29 ∧ σ = [some (.ref a), some (nv i), some (.ref d), some (.ref c), some (nv n), v5] ∧ Same H H' ∧ H' d = some (.dK (encN (KM.fw (rowOf rows) i n).1)) ∧ H' c = some (.lst ((KM.fw (rowOf rows) i n).2.map nv)),
      ⟨30, 0, c, none, rfl, by omega, rfl, s0, ?_, upd_same⟩, ?_⟩
    · rw [upd_ne hcd.symm, upd_same]; rfl
    rintro m σ H1 ⟨n, c1, v5, hm, hn, rfl, s1, hD1, h1⟩
    obtain ⟨f1', f2', f3', f4'⟩ := KM.fw_is (rowOf rows) i n
    have fwlt : ∀ x, x ∈ (KM.fw (rowOf rows) i n).2 → x < rows.length := fun x hx => W.reach hi ((f2' x).mp hx).1
    refine ⟨_, rfl, c1, _, rfl, .inl (SqL.of h1), _, _, rfl, rfl, _, rfl, ite2 (fun hpos => ?_) (fun hpos => ?_)⟩
    · have hpos := of_decide_eq_true hpos
      rw [List.length_map] at hpos
      have hnn : (KM.fw (rowOf rows) i n).2 ≠ [] := fun e => by rw [e] at hpos; exact absurd hpos (by decide)
      have hn28 : n ≤ 28 := by
        by_cases q : n ≤ 28
        · exact q
        · exact absurd (KM.fw_deep (KM.nil_le h29 (show 29 ≤ n by omega))) hnn
      refine ⟨fun σ' H' => ∃ (c : Addr) (v5 : Option V), σ' = [some (.ref a), some (nv i), some (.ref d), some (.ref c), some (nv (n + 1)), v5] ∧ Same H H' ∧ H' d = some (.dK (encN (KM.fw (rowOf rows) i (n + 1)).1)) ∧ H' c = some (.lst ((KM.fw (rowOf rows) i (n + 1)).2.map nv)), ?_, ?_⟩
      · rintro σ' H' ⟨c', v5', e1, e2, e3, e4⟩
        exact ⟨29 - n, by omega, n + 1, c', v5', by omega, by omega, e1, e2, e3, e4⟩
      refine ⟨_, rfl, c1, rfl, ⟨_, SqL.of h1⟩, for_list (K := K) (a := c1) (xs := (KM.fw (rowOf rows) i n).2.map nv) (fun j σ H2 => ∃ v5 : Option V, σ = [some (.ref a), some (nv i), some (.ref d), some (.ref c1), some (nv n), v5] ∧ Same H H2 ∧ H2 d = some (.dK (encN ((KM.fw (rowOf rows) i n).1 ++ ((KM.fw (rowOf rows) i n).2.take j).map fun x => (x, n)))) ∧ H2 c1 = some (.lst ((KM.fw (rowOf rows) i n).2.map nv)))
        ⟨v5, rfl, s1, by rw [List.take_zero, List.map_nil, List.append_nil]; exact hD1, h1⟩ (fun j σ H2 _ ⟨_, _, _, _, q⟩ => SqL.of q) ?_ ?_⟩
      · rintro j y σ H2 hj ⟨v5', rfl, s2, hD2, h2⟩
        obtain ⟨x, hx, rfl⟩ := map_get hj
        have keys : ((KM.fw (rowOf rows) i n).1 ++ ((KM.fw (rowOf rows) i n).2.take j).map fun x => (x, n)).map (·.1) = (KM.fw (rowOf rows) i n).1.map (·.1) ++ (KM.fw (rowOf rows) i n).2.take j := by
          rw [List.map_append, List.map_map]
          show _ ++ ((KM.fw (rowOf rows) i n).2.take j).map id = _
          rw [List.map_id]
        have hnot : x ∉ ((KM.fw (rowOf rows) i n).1 ++ ((KM.fw (rowOf rows) i n).2.take j).map fun x => (x, n)).map (·.1) := by
          rw [keys, List.mem_append]
          rintro (q | q)
          · obtain ⟨k', hk'⟩ := KM.keys_mem.mp q
            have := ((f1' x k').mp hk').2.eq ((f2' x).mp (List.mem_of_getElem? hx))
            have := ((f1' x k').mp hk').1
            omega
          · obtain ⟨j', hj'⟩ := List.mem_iff_getElem?.mp q
            rw [List.getElem?_take] at hj'
            by_cases z : j' < j
            · rw [if_pos z] at hj'
              have := (List.getElem?_inj (List.getElem?_eq_some_iff.mp hj').1 f4').mp (hj'.trans hx.symm)
              omega
            · rw [if_neg z] at hj'; cases hj'
        have hlen : (encN ((KM.fw (rowOf rows) i n).1 ++ ((KM.fw (rowOf rows) i n).2.take j).map fun x => (x, n))).length < sizeLine := by
          unfold encN
          rw [encD_len, List.length_append, List.length_map, List.length_take]
          have a1 := fw_few W hi n
          rw [List.length_map] at a1
          have a2 := nodup_bound f4' fwlt
          have := W.few
          exact Nat.lt_of_le_of_lt (show _ ≤ 2048 by omega) (by decide)
        refine ⟨_, rfl, _, rfl, _, rfl, d, _, rfl, DPut.k (k := Sum.inl (x : Int)) hD2 hlen, ?_⟩
        refine ⟨some (nv x), rfl, fun b o e => ?_, ?_, ?_⟩
        · rw [upd_ne (ne_of_none e hd)]; exact s2 _ _ e
        · rw [upd_same, take_snoc hx, List.map_append, ← List.append_assoc]
          show some (HO.dK (putK (encD nv _) (Sum.inl (x : Int)) (nv n))) = _
          rw [encD_new nv n hnot]
          rfl
        · rw [upd_ne (ne_of h2 hD2 (by intro z; cases z))]; exact h2
      · rintro σ H2 ⟨v5', rfl, s2, hD2, h2⟩
        rw [List.length_map, List.take_length] at hD2
        have hD2 : H2 d = some (.dK (encN (KM.fw (rowOf rows) i (n + 1)).1)) := hD2
        refine ⟨_, rfl, _, rfl, a, c1, as, rows, _, rfl, R.same s2, W, h2, fwlt, fun H3 l3 s3 hl3 h3 => ?_⟩
        refine ⟨l3, rfl, ⟨_, SqL.of h3⟩, fun D hD => ?_⟩
        have hd3 := s3 _ _ hD2
        have DH : H D = none := s2.free (s3.free hD)
        have l3D : l3 ≠ D := ne_of_none h3 hD
        have dD : d ≠ D := ne_of_none hd3 hD
        have s4 : Same H (upd H3 D (.lst [])) := fun b o e => by rw [upd_ne (ne_of_none e DH)]; exact s3 _ _ (s2 _ _ e)
        refine lc_list (K := K) (a := l3) (xs := (Sz31.once ((KM.fw (rowOf rows) i n).2.flatMap (rowOf rows))).map nv) (fun j H' => Same H H' ∧ H' d = some (.dK (encN (KM.fw (rowOf rows) i (n + 1)).1)) ∧ H' l3 = some (.lst ((Sz31.once ((KM.fw (rowOf rows) i n).2.flatMap (rowOf rows))).map nv)) ∧
          H' D = some (.lst ((((Sz31.once ((KM.fw (rowOf rows) i n).2.flatMap (rowOf rows))).take j).filter fun x => !((KM.fw (rowOf rows) i (n + 1)).1.map (·.1)).contains x).map nv)))
          ⟨s4, by rw [upd_ne dD]; exact hd3, by rw [upd_ne l3D]; exact h3, by rw [upd_same]; rfl⟩ (fun j H' _ ⟨_, _, q, _⟩ => SqL.of q) ?_ ?_
        · rintro j y H4 hj ⟨s5, hd4, hl4, hD4⟩
          obtain ⟨x, hx, rfl⟩ := map_get hj
          have hdD : D ≠ d := dD.symm
          refine ⟨rfl, _, rfl, _, rfl, d, _, rfl, DGet.k (k := Sum.inl (x : Int)) hd4, _, rfl, ?_⟩
          have ev : (!(valV (encN (KM.fw (rowOf rows) i (n + 1)).1) (Sum.inl (x : Int))).isSome) = !((KM.fw (rowOf rows) i (n + 1)).1.map (·.1)).contains x := by
            unfold encN
            rw [encD_val, Option.isSome_map]
            cases e : KM.getE (KM.fw (rowOf rows) i (n + 1)).1 x with
            | none =>
              have := KM.getE_none.mp e
              rw [Bool.eq_iff_iff]
              simp only [Option.isSome_none, Bool.not_false, Bool.not_eq_true', ← Bool.not_eq_true, List.contains_iff_mem]
              exact ⟨fun _ => this, fun _ => trivial⟩
            | some v =>
              have : x ∈ (KM.fw (rowOf rows) i (n + 1)).1.map (·.1) := Decidable.byContradiction fun q => by rw [KM.getE_none.mpr q] at e; cases e
              rw [List.contains_iff_mem.mpr this]
              rfl
          rw [ev, take_snoc hx, List.filter_append, List.filter_cons, List.filter_nil]
          refine go_ite (fun hc => ?_) (fun hc => ?_)
          · rw [if_pos hc]
            refine ⟨_, rfl, _, hD4, ?_, fun b o e => ?_, ?_, ?_, ?_⟩
            · rw [List.length_map]
              refine Nat.lt_of_le_of_lt (Nat.le_trans (List.length_filter_le _ _) (Nat.le_trans (by rw [List.length_take]; exact Nat.min_le_right _ _) (nodup_bound (n := rows.length) KM.nodup_once fun z hz => ?_))) (Nat.lt_of_le_of_lt W.few (by decide))
              obtain ⟨c', _, hc'⟩ := List.mem_flatMap.mp (KM.mem_once.mp hz)
              exact W.lt c' z hc'
            · rw [upd_ne (ne_of_none e DH)]; exact s5 _ _ e
            · rw [upd_ne dD]; exact hd4
            · rw [upd_ne l3D]; exact hl4
            · rw [upd_same, List.map_append]; rfl
          · rw [if_neg (by rw [hc]; exact Bool.false_ne_true), List.append_nil]
            exact ⟨s5, hd4, hl4, hD4⟩
        · rintro H4 ⟨s5, hd4, hl4, hD4⟩
          rw [List.length_map, List.take_length] at hD4
          refine ⟨_, rfl, _, _, rfl, rfl, D, v5', ?_, s5, hd4, hD4⟩
          show [some (V.ref a), some (nv i), some (V.ref d), some (V.ref D), some (V.int ((n : Int) + 1)), v5'] = _
          rw [show ((n : Int) + 1) = ((n + 1 : Nat) : Int) by omega]
          rfl
    · have hz : (KM.fw (rowOf rows) i n).2 = [] := by
        cases e : (KM.fw (rowOf rows) i n).2 with
        | nil => rfl
        | cons x r =>
          exfalso
          apply hpos
          rw [e]
          exact decide_eq_true (by show (0 : Int) < (((x :: r).map nv).length : Nat); rw [List.length_map, List.length_cons]; omega)
      exact ⟨_, rfl, k H1 d _ s1 hd hD1 (KM.fw_end hz)⟩
end
end Kin
set_option Elab.async false
set_option linter.all false
set_option maxRecDepth 100000
set_option maxHeartbeats 2000000
namespace Kin
open PySem PySem.Spec PyProof.Rows L2
/-! ### min(xs), the items of the heap: compared as the heap says -/
section
variable {prog : Program} {w : World} {A : Around} {R : Result → Shared → Prop} {I : Addr} {fp wr : List Addr} {n : Nat} {P : Nat → Value → Prop} {St : Nat → Heap → Prop} {G : Heap → Prop}
/-- one after another: the best so far lies twice in S -/
theorem minG (W : Walks prog w A.in1 I fp wr n P St) (bt : Nat → Nat → Bool) {S : Addr} (hSf : S ∉ fp) (hG : ∀ h h', G h → (∀ b o, b ∉ wr → b ≠ S → h.get? b = some o → h'.get? b = some o) → G h')
    (cmp : ∀ (i j : Nat) (x y : Value) (u : Shared) (Q E : Value → Shared → Prop), G u.heap → P i x → P j y → Q (.bool (bt i j)) u → wpAny (model prog w) A.in1 (richCompare .Lt x y) Q E u) :
    ∀ (k j : Nat) (s : Shared) (best : Value) (e : Nat), n = j + 1 + k → St (j + 1) s.heap → G s.heap → P (argBest bt j) best → s.heap.get? S = some { cls := .type "list", dict := none, data := .seq #[best, best] e, slots := #[] } →
    (∀ v g tk, P (argBest bt (n - 1)) v → (∀ b o, b ∉ wr → b ≠ S → s.heap.get? b = some o → g.get? b = some o) → R (.ok (.ret v)) { s with heap := g, toks := tk }) → codeAny (model prog w) A (.builtin "min.loop" ⟨[.ref I, .none, .ref S], []⟩) R s := by
  have nm : (toString "min" ++ toString ".loop" : String) = "min.loop" := by decide
  have Sw : S ∉ wr := fun q => hSf (W.sub _ q)
  intro k
  induction k with
  | zero =>
    intro j s best e hn hst hg hb hS fin
    have last : j + 1 = n := hn.symm
    refine codeAny_builtin F.entry_min_loop ?_
    rw [Around.under_plainId F.plain_min_loop]
    refine wpAny_bind (m := seqItems? (.ref S)) (wpAny_seqItems hS rfl ?_)
    refine wpAny_bind (m := tryCatch (pyNext (.ref I)) _) (wpAny_tryCatch (W.done s _ _ (last ▸ hst) fun g tk kp => ?_))
    refine wpAny_bind (m := updateSeq S (fun _ => #[])) (wpAny_updateSeq (kp S _ Sw hS) rfl (wpAny_bind (wpAny_letGo (wpAny_pure ?_))))
    exact fin best _ tk (by rw [← last]; exact hb) fun b o n1 n2 q => (Heap.get?_update_other _ _ (fun z => n2 z.symm)).trans (kp b o n1 q)
  | succ k ih =>
    intro j s best e hn hst hg hb hS fin
    refine codeAny_builtin F.entry_min_loop ?_
    rw [Around.under_plainId F.plain_min_loop]
    refine wpAny_bind (m := seqItems? (.ref S)) (wpAny_seqItems hS rfl ?_)
    refine wpAny_bind (m := tryCatch (pyNext (.ref I)) _) (wpAny_tryCatch (W.item (j + 1) s _ _ (by omega) hst fun v g tk hv hst' kp => ?_))
    have hS2 := kp S _ Sw hS
    have hg2 : G g := hG _ _ hg fun b o n1 _ q => kp b o n1 q
    refine wpAny_bind (m := tryCatch (holding [v, v] (richCompare .Lt v best >>= _)) _) (wpAny_tryCatch (wpAny_holding (wpAny_bind (cmp (j + 1) (argBest bt j) v best { s with heap := g, toks := tk } _ _ hg2 hv hb ?_))))
    refine wpAny_bind (wpAny_holding (wpAny_truthy_bool (wpAny_bind (wpAny_letGo (wpAny_pure ?_)))))
    by_cases c : bt (j + 1) (argBest bt j) = true
    · rw [c]
      simp only [if_true]
      refine wpAny_bind (wpAny_updateSeq hS2 rfl (wpAny_bind (wpAny_letGo ?_)))
      rw [nm]
      refine wpAny_pure ⟨plainId_quiet F.plain_min_loop _, ih (j + 1) _ v _ (by omega) (W.frame _ _ _ hst' fun b hbf o q => ?_) (hG _ _ hg2 fun b o _ n2 q => ?_) (by simp only [argBest, c, if_true]; exact hv) (Heap.get?_update_self _ hS2 rfl) fun v' g' tk' h1 h2 => ?_⟩
      · exact (Heap.get?_update_other _ _ (fun z : S = b => hSf (z ▸ hbf))).trans q
      · exact (Heap.get?_update_other _ _ (fun z => n2 z.symm)).trans q
      · exact fin v' g' tk' h1 fun b o n1 n2 q => h2 b o n1 n2 ((Heap.get?_update_other _ _ (fun z => n2 z.symm)).trans (kp b o n1 q))
    · have c : bt (j + 1) (argBest bt j) = false := by simpa using c
      rw [c]
      simp only [Bool.false_eq_true, if_false]
      refine wpAny_bind (wpAny_letGo ?_)
      rw [nm]
      refine wpAny_pure ⟨plainId_quiet F.plain_min_loop _, ih (j + 1) _ best e (by omega) hst' hg2 (by simp only [argBest, c, Bool.false_eq_true, if_false]; exact hb) hS2 fun v' g' tk' h1 h2 => ?_⟩
      exact fin v' g' tk' h1 fun b o n1 n2 q => h2 b o n1 n2 (kp b o n1 q)
end
section
variable {prog : Program} {w : World} {A : Around} {E : Value → Shared → Prop} {s : Shared}
theorem min_heap {l : Addr} {its : Array Value} {Q : Value → Shared → Prop} (bt : Nat → Nat → Bool) (hh : A.handled = none) (hl : s.heap.IsList l its) (hne : 0 < its.size)
    (cmp : ∀ (i j : Nat) (x y : Value) (u : Shared) (Q E : Value → Shared → Prop), (∀ b o, s.heap.get? b = some o → u.heap.get? b = some o) → its[i]? = some x → its[j]? = some y → Q (.bool (bt i j)) u → wpAny (model prog w) A.in1 (richCompare .Lt x y) Q E u)
    (h : ∀ v g tk, its[argBest bt (its.size - 1)]? = some v → (∀ b o, s.heap.get? b = some o → g.get? b = some o) → Q v { s with heap := g, toks := tk }) : wpAny (model prog w) A (call (.builtin "min") [.ref l]) Q E s := by
  have nm : (toString "min" ++ toString ".loop" : String) = "min.loop" := by decide
  have llt : l < s.heap.objs.size := by obtain ⟨_, q, _⟩ := hl; exact Heap.lt_size q
  refine call_function_tree F.kind_min F.plain_min F.entry_min (F.args_min1 _) ?_
  refine wpAny_bind (m := Builtin.Builtins.bindParams "min" ["key", "default"] 0 ⟨[], []⟩) (wpAny_of_eq (show _ = pure [none, none] from rfl) (wpAny_bind (wpAny_pure (wpAny_bind (wpAny_pyIter_list hl (wpAny_bind (wpAny_newObj_type ?_)))))))
  rw [nm]
  generalize eh : (s.heap.push { cls := .type "list_iterator", data := .fields #[.ref l, .int 0 0] } : Heap) = h1
  have sz1 : h1.objs.size = s.heap.objs.size + 1 := by rw [← eh, Heap.size_push]
  have kp1 : ∀ b o, s.heap.get? b = some o → h1.get? b = some o := fun b o q => by rw [← eh]; exact Heap.get?_push_of_some _ q
  have it1 : h1.IsListIter s.heap.objs.size l 0 := by rw [← eh]; exact ⟨_, Heap.get?_push_size _ rfl, rfl, rfl⟩
  have l1 : h1.IsList l its := by rw [← eh]; exact hl.push _
  have W := Walks.list (prog := prog) (w := w) (A := A.in1) hh s.heap.objs.size l (Nat.ne_of_lt llt) its
  have ne1 : ∀ b o, s.heap.get? b = some o → b ∉ [s.heap.objs.size] ∧ b ≠ h1.objs.size := fun b o q => by
    have := Heap.lt_size q
    rw [sz1, List.mem_singleton]
    exact ⟨Nat.ne_of_lt this, Nat.ne_of_lt (Nat.lt_succ_of_lt this)⟩
  have Sf : h1.objs.size ∉ [s.heap.objs.size, l] := by
    rw [sz1]
    simp only [List.mem_cons, List.not_mem_nil, or_false, not_or]
    exact ⟨Nat.ne_of_gt (Nat.lt_succ_self _), Nat.ne_of_gt (Nat.lt_succ_of_lt llt)⟩
  have Sw : h1.objs.size ∉ [s.heap.objs.size] := fun q => Sf (W.sub _ q)
  refine wpAny_pure ⟨plainId_quiet F.plain_min_loop _, ?_⟩
  refine codeAny_builtin F.entry_min_loop ?_
  rw [Around.under_plainId F.plain_min_loop]
  have hS0 : (h1.push { cls := .type "list", data := .seq #[] }).get? h1.objs.size = some { cls := .type "list", data := .seq #[] } := Heap.get?_push_size _ rfl
  refine wpAny_bind (m := seqItems? (.ref h1.objs.size)) (wpAny_seqItems hS0 rfl ?_)
  have st0 : (h1.push { cls := .type "list", data := .seq #[] }).IsListIter s.heap.objs.size l 0 ∧ (h1.push { cls := .type "list", data := .seq #[] }).IsList l its := by
    obtain ⟨o, q, r⟩ := it1
    exact ⟨⟨o, Heap.get?_push_of_some _ q, r⟩, l1.push _⟩
  refine wpAny_bind (m := tryCatch (pyNext (.ref s.heap.objs.size)) _) (wpAny_tryCatch (W.item 0 _ _ _ hne st0 fun v g tk hv hst kp => ?_))
  have hS1 := kp h1.objs.size _ Sw hS0
  refine wpAny_bind (m := updateSeq h1.objs.size (fun _ => #[v, v])) (wpAny_updateSeq hS1 rfl ?_)
  rw [nm]
  have kpA : ∀ b o, s.heap.get? b = some o → (g.update h1.objs.size (Obj.mapSeq fun _ => #[v, v])).get? b = some o := fun b o q =>
    (Heap.get?_update_other _ _ (fun z => (ne1 b o q).2 z.symm)).trans (kp b o (ne1 b o q).1 (Heap.get?_push_of_some _ (kp1 b o q)))
  refine wpAny_pure ⟨plainId_quiet F.plain_min_loop _, minG (G := fun h' => ∀ b o, s.heap.get? b = some o → h'.get? b = some o) W bt Sf (fun x y hx hy b o q => hy b o (ne1 b o q).1 (ne1 b o q).2 (hx b o q)) cmp (its.size - 1) 0 _ v _ (by omega) (W.frame _ _ _ hst fun b hbf o q => ?_) kpA hv (Heap.get?_update_self _ hS1 rfl) fun v' g' tk' h1' h2' => ?_⟩
  · exact (Heap.get?_update_other _ _ (fun z : h1.objs.size = b => Sf (z ▸ hbf))).trans q
  · exact h v' g' tk' h1' fun b o q => h2' b o (ne1 b o q).1 (ne1 b o q).2 (kpA b o q)
end
/-- the place that argBest comes to is least -/
theorem argBest_le {bt : Nat → Nat → Bool} (tr : ∀ i j k, bt i j = false → bt j k = false → bt i k = false) (ir : ∀ i, bt i i = false) (as : ∀ i j, bt i j = true → bt j i = false) : ∀ n, argBest bt n ≤ n ∧ ∀ j, j ≤ n → bt j (argBest bt n) = false
  | 0 => ⟨Nat.le_refl _, fun j hj => by rw [show j = 0 by omega]; exact ir 0⟩
  | n + 1 => by
    obtain ⟨h1, h2⟩ := argBest_le tr ir as n
    by_cases c : bt (n + 1) (argBest bt n) = true
    · have e : argBest bt (n + 1) = n + 1 := by simp only [argBest, c, if_true]
      rw [e]
      refine ⟨Nat.le_refl _, fun j hj => ?_⟩
      by_cases q : j = n + 1
      · rw [q]; exact ir _
      · exact tr _ _ _ (h2 j (by omega)) (as _ _ c)
    · have c : bt (n + 1) (argBest bt n) = false := by simpa using c
      have e : argBest bt (n + 1) = argBest bt n := by simp only [argBest, c, Bool.false_eq_true, if_false]
      rw [e]
      refine ⟨by omega, fun j hj => ?_⟩
      by_cases q : j = n + 1
      · rw [q]; exact c
      · exact h2 j (by omega)
section
variable {X : Cx}
/-- min(ts), the items pairs of numbers -/
theorem cr_minT (hc : X.calm = true) (hu : X.A.units + 1 < cLine) : CallR X (.builtin "min") (fun vs H Q => ∃ (a : Addr) (ts : List Addr) (xy : List (Int × Int)), vs = [V.ref a] ∧ SqL X.K H a (ts.map V.ref) ∧ ts.length = xy.length ∧ 0 < ts.length ∧ (∀ (j : Nat) (t : Addr) (p : Int × Int), ts[j]? = some t → xy[j]? = some p → H t = some (.tup [.int p.1, .int p.2])) ∧
    ∀ (j : Nat) (t : Addr) (p : Int × Int), ts[j]? = some t → xy[j]? = some p → (∀ (j' : Nat) (p' : Int × Int), xy[j']? = some p' → p.1 < p'.1 ∨ (p.1 = p'.1 ∧ p.2 ≤ p'.2)) → Q (.ref t) H) := by
  intro pins s σ H vs us Q I r h
  obtain ⟨a, ts, xy, rfl, hs, hlen, hne, ht, q⟩ := h
  obtain ⟨its, rv, hl, _⟩ := I.list hs
  rw [Vals.ref1 r]
  have hsz : its.length = ts.length := by have := rv.length; rw [List.length_map] at this; exact this.symm
  have at' : ∀ (j : Nat) (v : Value), its.toArray[j]? = some v → ∃ (t : Addr) (p : Int × Int), v = .ref t ∧ ts[j]? = some t ∧ xy[j]? = some p := fun j v e => by
    have e : its[j]? = some v := by simpa using e
    have hj : j < ts.length := by rw [← hsz]; exact (List.getElem?_eq_some_iff.mp e).1
    have e1 : (ts.map V.ref)[j]? = some (V.ref ts[j]) := by rw [List.getElem?_map, List.getElem?_eq_getElem hj]; rfl
    obtain ⟨u, hu', ru⟩ := rv.get e1
    rw [e] at hu'
    cases hu'
    exact ⟨ts[j], xy[j]'(by omega), ru, List.getElem?_eq_getElem hj, List.getElem?_eq_getElem (by omega)⟩
  let val : Nat → Int × Int := fun j => xy.getD j (0, 0)
  let bt : Nat → Nat → Bool := fun i j => decide ((val i).1 < (val j).1 ∨ ((val i).1 = (val j).1 ∧ (val i).2 < (val j).2))
  have vg : ∀ {j : Nat} {p : Int × Int}, xy[j]? = some p → val j = p := fun {j p} e => by
    show xy.getD j (0, 0) = p
    rw [List.getD_eq_getElem?_getD, e]; rfl
  refine min_heap bt (I.ok.hd hc) hl.isList (by rw [List.size_toArray, hsz]; exact hne) (fun i j x y u Q' E' kp hi hj hq => ?_) fun v g tk hv kp => ?_
  · obtain ⟨t1, p1, rfl, a1, b1⟩ := at' i x hi
    obtain ⟨t2, p2, rfl, a2, b2⟩ := at' j y hj
    obtain ⟨z1, i1, r1, ob1, o1, c1⟩ := I.hok t1 _ (ht i t1 p1 a1 b1)
    obtain ⟨z2, i2, r2, ob2, o2, c2⟩ := I.hok t2 _ (ht j t2 p2 a2 b2)
    have n1 : IntsAre i1.toArray.toList [p1.1, p1.2] := intsAre_of (ns := [p1.1, p1.2]) r1
    have n2 : IntsAre i2.toArray.toList [p2.1, p2.2] := intsAre_of (ns := [p2.1, p2.2]) r2
    refine HT.lt_tupInts (l := t1) (b := t2) ⟨ob1, kp _ _ o1, c1⟩ ⟨ob2, kp _ _ o2, c2⟩ n1 n2 (by show X.A.units + 1 < cLine; exact hu) ?_
    have e : HT.lexLt [p1.1, p1.2] [p2.1, p2.2] = bt i j := by
      show _ = decide ((val i).1 < (val j).1 ∨ ((val i).1 = (val j).1 ∧ (val i).2 < (val j).2))
      rw [vg b1, vg b2, HT.lexLt_cons, HT.lexLt_cons, HT.lexLt_nil_nil]
      by_cases h1 : p1.1 = p2.1
      · rw [if_pos h1]
        by_cases h2 : p1.2 = p2.2
        · rw [if_pos h2]; exact (decide_eq_false (by omega)).symm
        · rw [if_neg h2]; exact decide_eq_decide.mpr (by omega)
      · rw [if_neg h1]; exact decide_eq_decide.mpr (by omega)
    rw [e]
    exact hq
  · obtain ⟨t, p, rfl, e1, e2⟩ := at' _ v hv
    refine ⟨.ref t, H, I.kept kp, rfl, q _ t p e1 e2 fun j' p' e3 => ?_⟩
    have hj' : j' ≤ its.toArray.size - 1 := by
      have := (List.getElem?_eq_some_iff.mp e3).1
      rw [List.size_toArray, hsz]
      omega
    have ab := (argBest_le (bt := bt) (fun i j k h1 h2 => ?_) (fun i => ?_) (fun i j h1 => ?_) (its.toArray.size - 1)).2 j' hj'
    · have ab := of_decide_eq_false ab
      rw [vg e2, vg e3] at ab
      omega
    · have h1 := of_decide_eq_false h1
      have h2 := of_decide_eq_false h2
      exact decide_eq_false (by omega)
    · exact decide_eq_false (by omega)
    · have h1 := of_decide_eq_true h1
      exact decide_eq_false (by omega)
end
end Kin
set_option Elab.async false
set_option linter.all false
set_option maxRecDepth 100000
set_option maxHeartbeats 2000000
namespace Kin
open PySem PySem.Spec PyProof.Rows L2
open PySem.W (KdlSrc CodeHd tabObj kla_obj kla_fn)
/-! ### sorted(xs), however long -/
section
variable {X : Cx}
theorem cr_sortedAny : CallR X (.builtin "sorted") (fun vs H Q => ∃ (a : Addr) (ns : List Int), vs = [V.ref a] ∧ SqL X.K H a (ns.map V.int) ∧ ns.length ≤ 100000 ∧
    ∀ (ns' : List Int) (p : Addr), ns'.Perm ns → ns'.Pairwise (· ≤ ·) → H p = none → Q (.ref p) (upd H p (.lst (ns'.map V.int)))) := by
  intro pins s σ H vs us Q I r h
  obtain ⟨a, ns, rfl, hs, hz, q⟩ := h
  obtain ⟨its, rv, hl, _⟩ := I.list hs
  rw [Vals.ref1 r]
  have hi := rv.ints
  have big : (100000 : Nat) ≤ sizeLine := by decide
  refine PyProof.Rows.sorted_intsAny hl.isList hi (by rw [hi.length]; exact Nat.le_trans hz big) fun out ns' h1 h2 h3 => ?_
  obtain ⟨ep, he'⟩ := PyProof.Rows.sortedAll_at s.heap its out
  have hlen : (ns'.map V.int).length ≤ sizeLine := by rw [List.length_map, h2.length_eq]; exact Nat.le_trans hz big
  exact ⟨.ref _, upd H (s.heap.objs.size + 1) (.lst (ns'.map V.int)), I.laid (t' := s.toks) (fun _ _ => PyProof.Rows.sortedAll_old) (Nat.le_succ _) ⟨hlen, out.toList, ep, vals_of_ints h1, he'⟩, rfl, q ns' _ h2 h3 (I.hok.fresh (Nat.le_succ _))⟩
end
theorem there {P : Program} {w : World} {H : Hp} {h : Heap} {a : Addr} {o : HO} (x : ObjOk P w H h a o) : ∃ u, h.get? a = some u := by
  cases o with
  | lst xs => obtain ⟨_, _, _, _, e⟩ := x; exact ⟨_, e⟩
  | tup xs => obtain ⟨_, _, _, _, e, _⟩ := x; exact ⟨_, e⟩
  | dK kvs => obtain ⟨_, _, _, _, o, _, _, e, _⟩ := x; exact ⟨_, e⟩
  | dT kvs => obtain ⟨_, _, _, _, o, _, _, e, _⟩ := x; exact ⟨_, e⟩
  | set S n => obtain ⟨o, _, _, _, e, _⟩ := x; exact ⟨_, e⟩
  | ins C dx fs => obtain ⟨_, _, _, e, _⟩ := x; exact ⟨_, e⟩
  | own y => obtain ⟨_, e⟩ := x; exact ⟨_, e⟩
  | xd fs => obtain ⟨_, ⟨_, _, _, e, _⟩, _⟩ := x; exact ⟨_, e⟩
  | rng lo hi => obtain ⟨_, _, _, e⟩ := x; exact ⟨_, e⟩
  | frz ob u => obtain ⟨e, _⟩ := x; exact ⟨_, e⟩
  | tbl ps => exact ⟨_, (show h.get? a = some _ from x)⟩
  | met f y => exact ⟨_, (show h.get? a = some _ from x)⟩
  | ext φ => obtain ⟨_, ⟨_, e⟩, _⟩ := x; exact ⟨_, e⟩
/-! ### what is there beside the base and the frame -/
def allNew (h₀ h : Heap) (L : Addr) : List (Addr × Obj) := (List.range h.objs.size).filterMap fun b => if b = L ∨ (h₀.get? b).isSome = true then none else (h.get? b).map fun o => (b, o)
theorem mem_allNew {h₀ h : Heap} {L b : Addr} {o : Obj} : (b, o) ∈ allNew h₀ h L ↔ b ≠ L ∧ h₀.get? b = none ∧ h.get? b = some o := by
  unfold allNew
  rw [List.mem_filterMap]
  constructor
  · rintro ⟨c, _, e⟩
    by_cases q : c = L ∨ (h₀.get? c).isSome = true
    · rw [if_pos q] at e; cases e
    · rw [if_neg q] at e
      cases z : h.get? c with
      | none => rw [z] at e; cases e
      | some u =>
        rw [z] at e; cases e
        refine ⟨fun y => q (.inl y), ?_, z⟩
        cases y : h₀.get? b with
        | none => rfl
        | some v => exact absurd (.inr (by rw [y]; rfl)) q
  · rintro ⟨n, e0, e⟩
    exact ⟨b, List.mem_range.mpr (Heap.lt_size e), by rw [if_neg (by rw [e0]; rintro (q | q); exact n q; cases q), e]; rfl⟩
theorem news_all {h₀ h : Heap} {L : Addr} : News h₀ L h (allNew h₀ h L) := fun p hp => by
  obtain ⟨b, o⟩ := p
  obtain ⟨a1, a2, a3⟩ := mem_allNew.mp hp
  exact ⟨a3, a1, a2⟩
theorem kept_all {h₀ h h' : Heap} {L : Addr} {m m' : Str → Option Value} {own : List (Addr × Obj)} (F : Fr h₀ L h m) (F' : Fr h₀ L h' m') (N : News h₀ L h' (allNew h₀ h L ++ own)) : ∀ b o, b ≠ L → h.get? b = some o → h'.get? b = some o := fun b o n e => by
  cases q : h₀.get? b with
  | none => exact (N (b, o) (List.mem_append_left _ (mem_allNew.mpr ⟨n, q, e⟩))).1
  | some u =>
    have := F.keep b u q
    rw [e] at this
    cases this
    exact F'.keep b o q
/-! ### sorted(d, key = f) -/
section
variable {prog : Program} {w : World} {A : Around} {E : Value → Shared → Prop} {s : Shared} {T : String} {r d : Addr} {n : Nat} {P : Nat → Value → Prop} {OK : Heap → Prop} {h₀ : Heap} {L : Addr} {m : Str → Option Value} {news : List (Addr × Obj)} {Q : Value → Shared → Prop}
theorem sorted_src {f : Addr} {kz : List Int} (K : KdlSrc prog w T r d n P OK) (hh : A.handled = none) (F : Fr h₀ L s.heap m) (N : News h₀ L s.heap news) (hok : OK s.heap) (hn : n ≤ sizeLine) (hkz : kz.length = n)
    (turn : ∀ (i : Nat) (v : Value) (k : Int), P i v → kz[i]? = some k → ∀ (h : Heap) (tk : Nat) (own : List (Addr × Obj)), Fr h₀ L h m → News h₀ L h (news ++ own) →
      wpAny (model prog w) A.in1.in1 (call (.ref f) [v]) (KskEnd h₀ L m (news ++ own) k { s with heap := h, toks := tk }) (fun _ _ => False) { s with heap := h, toks := tk })
    (h : ∀ D h' tk vs out c, Fr h₀ L h' m → News h₀ L h' ((D, seqObj "list" out c) :: news) → (∀ b o, s.heap.get? b = some o → b < D) → vs.length = n → (∀ (j : Nat) (v : Value), vs[j]? = some v → P j v) → KskOut false kz vs out.toList → Q (.ref D) { s with heap := h', toks := tk }) :
    wpAny (model prog w) A (call (.builtin "sorted") [.ref r] [(Str.ofString "key", .ref f)]) Q E s := by
  refine call_function_entry_kw kind_sorted plain_sorted entry_sorted (ksk_s1 _ _) ?_
  unfold Builtin.«sorted»
  refine wpAny_bind (m := checkCount "sorted" 1 1 _) (wpAny_pure ?_)
  refine wpAny_bind (PySem.W.kdu_collect (A := A.in1) K hh hok hn fun h1 tk1 acc hk hacc => ?_)
  have hl : acc.toList.length = n := by rw [Array.length_toList]; exact hacc.1
  have hP : ∀ (j : Nat) (v : Value), acc.toList[j]? = some v → P j v := fun j v e => hacc.2 j v (by rw [← Array.getElem?_toList]; exact e)
  refine wpAny_bind (wpAny_newList ?_ (by rw [hl]; exact hn))
  have hoL : (h1.push (seqObj "list" acc.toList.toArray 0)).get? h1.objs.size = some (seqObj "list" acc.toList.toArray 0) := Heap.get?_push_size _ rfl
  have keep : ∀ b o, s.heap.get? b = some o → (h1.push (seqObj "list" acc.toList.toArray 0)).get? b = some o := fun b o e => Heap.get?_push_of_some _ (hk b o e)
  have hlt : ∀ b o, s.heap.get? b = some o → b < h1.objs.size := fun b o e => Heap.lt_size (hk b o e)
  obtain ⟨oL, aL, bL, hL, rL⟩ := id F.ns
  show wpAny _ _ _ _ _ { s with heap := h1.push (seqObj "list" acc.toList.toArray 0), toks := tk1 }
  refine wpAny_bind (wpAny_holding (wpAny_call_entry_kw slot_list_sort ⟨_, hoL, rfl⟩ entry_list_sort ?body (ksk_l1 _ _)))
  case body =>
    show wpAny (model prog w) A.in1.in1 (Builtin.«list.sort» ⟨[.ref h1.objs.size], [(Str.ofString "key", .ref f)]⟩) _ _ _
    rw [ksk_t1]
    refine ksk_sortAny (s := { s with heap := h1.push (seqObj "list" acc.toList.toArray 0), toks := tk1 }) (kz := kz) (n := 0) (F.kept keep) (N.grown keep) hoL (Nat.ne_of_gt (hlt _ _ hL)) (Heap.get?_none_of_le (Nat.le_trans F.above (Nat.le_of_lt (hlt _ _ hL))))
      (fun p hp => Nat.ne_of_lt (hlt _ _ (N p hp).1)) (by rw [hkz, hl]) (by rw [hl]; exact hn) (fun i v k hv hk' => turn i v k (hP i v hv) hk') fun h' tk out c F' N' k' => ⟨_, rfl, ?_⟩
    exact wpAny_pure ⟨_, rfl, h _ h' tk acc.toList out c F' N' hlt hl hP k'⟩
end
/-! ### a lambda: its code lies in the table of the def that makes it -/
/-- a code record stands at c -/
def codeX (q : Str) (c : Addr) : HO := .ext fun h => h.CodeRec (.ref c) q
/-- the table of a def that makes one lambda: empty, or with its code -/
def Tab (P : Addr) (pos : Pos) (q : Str) (H : Hp) : Prop := H P = some (.tbl #[]) ∨ ∃ c, H P = some (.tbl #[rawInt pos.line, rawInt pos.col, .ref c]) ∧ H c = some (codeX q c)
/-- what is tracked stays, but the table -/
def SameX (P : Addr) (H H' : Hp) : Prop := ∀ b o, H b = some o → b ≠ P → H' b = some o
theorem SameX.refl (P : Addr) (H : Hp) : SameX P H H := fun _ _ e _ => e
theorem SameX.of {P : Addr} {H H' : Hp} (s : Same H H') : SameX P H H' := fun b o e _ => s b o e
theorem SameX.trans {P : Addr} {H H' H2 : Hp} (s : SameX P H H') (t : SameX P H' H2) : SameX P H H2 := fun b o e n => t b o (s b o e n) n
theorem Tab.some {P : Addr} {pos : Pos} {q : Str} {H : Hp} (t : Tab P pos q H) : ∃ ps, H P = some (.tbl ps) := by
  rcases t with t | ⟨c, t, _⟩
  · exact ⟨_, t⟩
  · exact ⟨_, t⟩
theorem Tab.same {P : Addr} {pos : Pos} {q : Str} {H H' : Hp} (t : Tab P pos q H) (s : Same H H') : Tab P pos q H' := by
  rcases t with t | ⟨c, t, u⟩
  · exact .inl (s _ _ t)
  · exact .inr ⟨c, s _ _ t, s _ _ u⟩
theorem SameX.free {P : Addr} {pos : Pos} {q : Str} {H H' : Hp} (s : SameX P H H') (t : Tab P pos q H') {b : Addr} (h : H' b = none) : H b = none := by
  cases e : H b with
  | none => rfl
  | some o =>
    by_cases z : b = P
    · obtain ⟨ps, y⟩ := t.some
      rw [z, y] at h; cases h
    · rw [s b o e z] at h; cases h
section
variable {X : Cx}
structure LamCx (X : Cx) (c P : Addr) : Prop where
  code : X.env.code = .ref c
  hd : CodeHd X.base c P
  bm : X.base.BuiltinsAt X.mg P
  gP : mainGlobals ≠ P
abbrev lamOb (X : Cx) (q : Str) (params : Arguments) (body : Expr) (scope : Scope) (clos : List (Str × Addr)) (c : Addr) (ctv : Value) : Obj := kla_obj "<lambda>" q params body scope clos ((X.mg "__name__").getD .none) c ctv
def tLam (X : Cx) (P : Addr) (pos : Pos) (params : Arguments) (body : Expr) (scope : Scope) (clos : List (Str × Addr)) : TE := fun _ H Q => Tab P pos (X.env.qual ++ "<lambda>") H ∧
  ∀ (H' : Hp) (f c : Addr) (ctv : Value), SameX P H H' → Tab P pos (X.env.qual ++ "<lambda>") H' → H' c = some (codeX (X.env.qual ++ "<lambda>") c) → H f = none → H' f = some (.ext fun h => h.get? f = some (lamOb X (X.env.qual ++ "<lambda>") params body scope clos c ctv)) → Q (.ref f) H'
theorem codeX_ok {Pr : Program} {w : World} {H : Hp} {h : Heap} {c : Addr} {q : Str} (r : h.CodeRec (.ref c) q) : ObjOk Pr w H h c (codeX q c) := by
  obtain ⟨c2, o, vs, t, e, ho, hd, hv⟩ := id r
  cases e
  refine ⟨r, ⟨o, ho⟩, fun h1 h2 r1 k => ?_⟩
  obtain ⟨c2, o, vs, t, e, ho, hd, hv⟩ := r1
  cases e
  exact ⟨c, o, vs, t, rfl, k _ ho, hd, hv⟩
theorem pe_lam {c P : Addr} {pos : Pos} {params : Arguments} {body : Expr} {scope : Scope} {clos : List (Str × Addr)} (Z : LamCx X c P) (hdef : defaultsOf params X.env = ([], [])) (hcl : closureFor scope X.env = pure clos) :
    PE X (.Lambda params body scope pos) (tLam X P pos params body scope clos) := by
  intro pins s σ H Q I ⟨tab, k⟩
  have hg : s.heap.Ns mainGlobals X.mg := I.mod.glob.keeps I.bk
  have C := Z.hd.keeps I.bk
  have hb := Z.bm.keeps I.bk
  obtain ⟨ps0, hps0⟩ := tab.some
  have nP : ∀ b, H b = none → b ≠ P := fun b e z => by rw [z, hps0] at e; cases e
  rcases tab with tab | ⟨c0, tab, tc⟩
  · have hP : s.heap.get? P = some (tabObj #[]) := I.hok P _ tab
    refine PySem.W.kla_eval hdef (PySem.W.kla_makeFunction (mg := X.mg) (ps := #[]) hcl I.ok.glob hg Z.code C hP True.intro rfl Z.gP hb fun c' ctv h' tk hx hge hlt hrec htb => ?_)
    have nc : H c' = none := I.hok.fresh hge
    have nf : H h'.objs.size = none := I.hok.fresh (Nat.le_trans hge (Nat.le_of_lt hlt))
    have cf : c' ≠ h'.objs.size := Nat.ne_of_lt hlt
    have cP : c' ≠ P := nP _ nc
    have fP : h'.objs.size ≠ P := nP _ nf
    generalize hob : lamOb X (X.env.qual ++ "<lambda>") params body scope clos c' ctv = ob
    have hfree : ob.isFreed = false := by rw [← hob]; rfl
    have hf : (h'.push ob).get? h'.objs.size = some ob := Heap.get?_push_size _ hfree
    have htb' : (h'.push ob).get? P = some (tabObj #[rawInt pos.line, rawInt pos.col, .ref c']) := by
      refine Heap.get?_push_of_some _ ?_
      simpa using htb
    have keep : ∀ b o, b ≠ P → s.heap.get? b = some o → (h'.push ob).get? b = some o := fun b o n e => Heap.get?_push_of_some _ (hx b o n e)
    generalize eH : upd (upd (upd H P (.tbl #[rawInt pos.line, rawInt pos.col, .ref c'])) c' (codeX (X.env.qual ++ "<lambda>") c')) h'.objs.size (.ext fun h => h.get? h'.objs.size = some ob) = H'
    have H'f : H' h'.objs.size = some (.ext fun h => h.get? h'.objs.size = some ob) := by rw [← eH]; exact upd_same
    have H'c : H' c' = some (codeX (X.env.qual ++ "<lambda>") c') := by rw [← eH, upd_ne cf]; exact upd_same
    have H'P : H' P = some (.tbl #[rawInt pos.line, rawInt pos.col, .ref c']) := by rw [← eH, upd_ne fP.symm, upd_ne cP.symm]; exact upd_same
    have H'o : ∀ b, b ≠ P → b ≠ c' → b ≠ h'.objs.size → H' b = H b := fun b n1 n2 n3 => by rw [← eH, upd_ne n3, upd_ne n2, upd_ne n1]
    have sx : SameX P H H' := fun b o e n => by rw [H'o b n (ne_of_none e nc) (ne_of_none e nf)]; exact e
    have J : Inv X pins σ H' { s with heap := h'.push ob, toks := tk } := by
      refine I.step (g' := s.gens) (d' := s.drawn) (t' := tk) (ch := []) (fun _ z => nomatch z) (fun b o _ _ _ e n => keep b o (nP b n) e) (fun b o _ _ _ e n => ⟨o.slots, keep b o (nP b n) e⟩) (fun b o _ e n => ?_) (fun b o _ e => ?_) (fun b xs e => ?_) (fun b o u e => ?_) (fun b ps e => ?_) (fun m hm => ?_) (fun b u e => ?_) I.bare
      · have hb := Heap.lt_size e
        rw [H'o b (nP b n) (fun z => by rw [z] at hb; exact absurd hb (Nat.not_lt.mpr hge)) (fun z => by rw [z] at hb; exact absurd hb (Nat.not_lt.mpr (Nat.le_trans hge (Nat.le_of_lt hlt))))]
        exact n
      · by_cases z : b = P
        · rw [z]; exact ⟨_, htb'⟩
        · exact ⟨o, keep b o z e⟩
      · exact sx b _ e fun z => by rw [z, tab] at e; cases e
      · exact sx b _ e fun z => by rw [z, tab] at e; cases e
      · by_cases z : b = P
        · rw [z, tab] at e
          cases e
          rw [z]
          exact ⟨#[rawInt pos.line, rawInt pos.col, .ref c'], by rw [H'P]; simp⟩
        · exact ⟨#[], by rw [sx b _ e z]; simp⟩
      · obtain ⟨o, es, ep, ho, r⟩ := hm
        exact ⟨o, es, ep, keep _ o (nP _ I.free) ho, r⟩
      · by_cases z1 : b = h'.objs.size
        · subst z1
          rw [H'f] at e
          cases e
          exact ⟨hf, ⟨_, hf⟩, fun h1 h2 r1 k1 => k1 _ r1⟩
        by_cases z2 : b = c'
        · subst z2
          rw [H'c] at e
          cases e
          refine codeX_ok ?_
          obtain ⟨c2, o, vs, t, e2, ho, hd2, hv⟩ := hrec
          exact ⟨c2, o, vs, t, e2, Heap.get?_push_of_some _ ho, hd2, hv⟩
        by_cases z3 : b = P
        · rw [z3, H'P] at e
          cases e
          rw [z3]
          exact htb'
        rw [H'o b z3 z2 z1] at e
        refine (I.hok b u e).stay (fun a v ha q => keep a v ?_ q) (fun a q => ?_) fun a xs q => ?_
        · rcases ha with ha | ha
          · rw [ha]; exact z3
          · intro z; rw [z, tab] at ha; cases ha
        · exact sx a _ q fun z => by rw [z, tab] at q; cases q
        · exact sx a _ q fun z => by rw [z, tab] at q; cases q
    subst hob
    exact ⟨.ref h'.objs.size, H', J, rfl, k H' _ c' ctv sx (.inr ⟨c', H'P, H'c⟩) H'c nf H'f⟩
  · have hP : s.heap.get? P = some (tabObj #[rawInt pos.line, rawInt pos.col, .ref c0]) := I.hok P _ tab
    have hcr : s.heap.CodeRec (.ref c0) (X.env.qual ++ "<lambda>") := (I.hok c0 _ tc).1
    refine PySem.W.kla_eval hdef (PySem.W.kla_makeFunctionHit (mg := X.mg) (ps := #[rawInt pos.line, rawInt pos.col, .ref c0]) (cv := .ref c0) hcl I.ok.glob hg Z.code C hP (by simp [TriplesOk, rawInt]) (by simp [codeAmong, rawInt]) hb fun ctv h' tk hk hsz => ?_)
    have nf : H h'.objs.size = none := I.hok.fresh hsz
    generalize hob : lamOb X (X.env.qual ++ "<lambda>") params body scope clos c0 ctv = ob
    have hfree : ob.isFreed = false := by rw [← hob]; rfl
    have hf : (h'.push ob).get? h'.objs.size = some ob := Heap.get?_push_size _ hfree
    have hk' : ∀ b o, s.heap.get? b = some o → (h'.push ob).get? b = some o := fun b o e => Heap.get?_push_of_some _ (hk b o e)
    have s1 : Same H (upd H h'.objs.size (.ext fun h => h.get? h'.objs.size = some ob)) := fun b o e => by rw [upd_ne (ne_of_none e nf)]; exact e
    have J : Inv X pins σ (upd H h'.objs.size (.ext fun h => h.get? h'.objs.size = some ob)) { s with heap := h'.push ob, toks := tk } := I.laid (t' := tk) (o := .ext fun h => h.get? h'.objs.size = some ob) hk' hsz ⟨hf, ⟨_, hf⟩, fun h1 h2 r1 k1 => k1 _ r1⟩
    subst hob
    exact ⟨.ref h'.objs.size, _, J, rfl, k _ _ c0 ctv (SameX.of s1) (.inr ⟨c0, s1 _ _ tab, s1 _ _ tc⟩) (s1 _ _ tc) nf upd_same⟩
end
/-! ### the lambda, called: -d[x] -/
abbrev lamBody (x y : Str) (p1 p2 p3 p4 : Pos) : Expr := .UnaryOp .USub (.Subscript (.Name x p1) (.Name y p2) p3) p4
structure LamSc (x y : Str) (scope : Scope) : Prop where
  kind : scope.kind = .function
  co : scope.isCoroutine = false
  gen : scope.isGenerator = false
  xf : scope.names.lookup x = some .free
  yl : scope.names.lookup y = some .local
  nc : ∀ z ∈ scope.names, z.2 ≠ .cell
  xd : (x == ("__debug__" : Str)) = false
  xc : (x == ("__classdict__" : Str)) = false
  yd : (y == ("__debug__" : Str)) = false
theorem lam_call {prog : Program} {w : World} {A : Around} {s : Shared} {Kt : Type} [DecidableEq Kt] {knd : KeyKind prog w Kt} {f cl d c : Addr} {q x y : Str} {params : Arguments} {scope : Scope} {p1 p2 p3 p4 : Pos} {pm ctv v : Value} {kvs : List (Kt × Value)} {k : Kt} {n : Int} {t : Tok} {Q : Value → Shared → Prop}
    (S : LamSc x y scope) (hf : s.heap.get? f = some (kla_obj "<lambda>" q params (lamBody x y p1 p2 p3 p4) scope [(x, cl)] pm c ctv)) (hc : s.heap.CodeRec (.ref c) q) (hcell : s.heap.IsCell cl (some (.ref d))) (hd : s.heap.DictOf knd d kvs) (hlim : s.heap.NoLimit)
    (hroom : A.depth < recursionLimit) (hbind : bindArgs (kla_fn "<lambda>" q params (lamBody x y p1 p2 p3 p4) scope [(x, cl)] pm (.ref c) ctv) ⟨[v], []⟩ = pure [(y, v)]) (hv : knd.is k v = true) (hval : valueAt kvs k = some (.int n t))
    (h : ∀ h' tk t', (∀ b o, s.heap.get? b = some o → h'.get? b = some o) → Q (.int (-n) t') { s with heap := h', toks := tk }) :
    wpAny (model prog w) A (call (.ref f) [v]) Q (fun _ _ => False) s := by
  refine wpAny_call (PySem.W.kla_callFunE hroom hf rfl S.co S.gen rfl hc ?_)
  rw [hbind]
  refine wpAny_pure (wpAny_newFunctionEnv S.nc (fun z hz => by rw [List.mem_singleton.mp hz]; exact S.yl) (fun h₁ hns hsb => ⟨hlim.fresh _ hsb, ?_⟩) S.kind)
  have hk₁ : ∀ b o, s.heap.get? b = some o → h₁.get? b = some o := fun b o e => hsb.extBut b o (Nat.ne_of_lt (Heap.lt_size e)) (Heap.get?_push_of_some _ e)
  have hd₁ : h₁.DictOf knd d kvs := let ⟨o, es, ep, e, r⟩ := hd; ⟨o, es, ep, hk₁ _ _ e, r⟩
  have hc₁ : h₁.IsCell cl (some (.ref d)) := let ⟨o, e, r⟩ := hcell; ⟨o, hk₁ _ _ e, r⟩
  refine PySem.W.kla_codeExpr ?_
  refine UnaryOp_ (subD_of PySem.F.slot_dict_getitem.lookup (fun _ _ => rfl) (wpAny_Name (wpAny_loadName_free (c := cl) (v := .ref d) S.kind S.xf (by show ([(x, cl)] : List (Str × Addr)).lookup x = some cl; simp [List.lookup]) hc₁ ?_ S.xc) S.xd))
  refine wpAny_Name (wpAny_loadName_local S.kind S.yl hns (by show ([(y, v)] : List (Str × Value)).lookup y = some v; simp [List.lookup]) ?_) S.yd
  have hd₁' : Heap.DictOf knd ({ s with heap := h₁, toks := s.toks + 1 } : Shared).heap d kvs := hd₁
  exact ⟨hd₁'.typeIs, wpAny_getItem_of hv hd₁'.mapOf hval (neg_int (h h₁ _ _ hk₁))⟩
/-! ### sorted(d, key = lambda y: -d[y]) -/
theorem vals_nth {α : Type} {l : List α} {i : Nat} {x : α} (h : l[i]? = some x) : x ∈ l := List.mem_of_getElem? h
def tSortK (P : Addr) (pos : Pos) (q : Str) (i : Nat) : TE := fun σ H Q => ∃ (d : Addr) (E : List (Nat × Nat)), σ[i]? = some (some (.ref d)) ∧ H d = some (.dK (encN E)) ∧ E.length ≤ 100000 ∧ (E.map (·.1)).Nodup ∧ Tab P pos q H ∧
  ∀ (H' : Hp) (l : Addr) (O : List Nat), O.Perm (E.map (·.1)) → (O.Pairwise fun a b => (KM.getE E b).getD 0 ≤ (KM.getE E a).getD 0) → SameX P H H' → Tab P pos q H' → H l = none → H' l = some (.lst (O.map nv)) → Q (.ref l) H'
theorem paired_get {α β : Type} {R : α → β → Prop} : ∀ {l : List α} {r : List β} {i : Nat} {a : α}, Paired R l r → l[i]? = some a → ∃ b, r[i]? = some b ∧ R a b
  | _, _, _, _, .nil, h => by simp at h
  | _, _, 0, a, .cons h t, e => by
    simp only [List.getElem?_cons_zero, Option.some.injEq] at e
    subst e
    exact ⟨_, rfl, h⟩
  | _, _, i + 1, a, .cons h t, e => by
    simp only [List.getElem?_cons_succ] at e
    obtain ⟨b, h1, h2⟩ := paired_get t e
    exact ⟨b, by simpa using h1, h2⟩
theorem encN_get {E : List (Nat × Nat)} {vs : List (Key × Value)} (r : KV (encN E) vs) {i : Nat} {p : Nat × Nat} (h : E[i]? = some p) : ∃ t, vs[i]? = some (Sum.inl (p.1 : Int), .int (p.2 : Int) t) := by
  have h1 : (encN E)[i]? = some ((Sum.inl (p.1 : Int) : Key), nv p.2) := by unfold encN encD; rw [List.getElem?_map, h]; rfl
  obtain ⟨⟨k, v⟩, e, hk, hv⟩ := paired_get r h1
  obtain ⟨t, ht⟩ := (show ∃ t, v = Value.int (p.2 : Int) t from hv)
  have hk : (Sum.inl (p.1 : Int) : Key) = k := hk
  subst hk
  subst ht
  exact ⟨t, e⟩
theorem encN_keys {E : List (Nat × Nat)} {vs : List (Key × Value)} (r : KV (encN E) vs) : vs.map (·.1) = E.map fun p => (Sum.inl (p.1 : Int) : Key) := by
  have : ∀ {l : List (Key × V)} {vs : List (Key × Value)}, KV l vs → vs.map (·.1) = l.map (·.1) := by
    intro l vs r
    unfold KV at r
    induction r with
    | nil => rfl
    | cons h _ ih => rw [List.map_cons, List.map_cons, ih, h.1]
  rw [this r]
  unfold encN encD
  rw [List.map_map]
  rfl
section
variable {X : Cx}
theorem pe_sortK {c P : Addr} {i : Nat} {x y : Str} {cl : Addr} {pos lpos kpos ps px p1 p2 p3 p4 : Pos} {params : Arguments} {scope : Scope} {k : Nat} (Z : LamCx X c P) (hcalm : X.calm = true) (hr : Room k X.A) (S : LamSc x y scope) (hdef : defaultsOf params X.env = ([], [])) (hcl : closureFor scope X.env = pure [(x, cl)])
    (hN : X.N[i]? = some x) (hkx : X.env.kindOf x = some .cell) (hcx : X.env.cells.lookup x = some cl) (hvx : Vis X.env.scope x)
    (hbind : ∀ (pm ctv v : Value) (c : Addr), bindArgs (kla_fn "<lambda>" (X.env.qual ++ "<lambda>") params (lamBody x y p1 p2 p3 p4) scope [(x, cl)] pm (.ref c) ctv) ⟨[v], []⟩ = pure [(y, v)])
    (hg : Gl X "sorted") (hm : X.mg "sorted" = none) :
    PE X (.Call (.Name "sorted" ps) [.Name x px] [⟨some "key", .Lambda params (lamBody x y p1 p2 p3 p4) scope lpos, kpos⟩] pos) (tSortK P lpos (X.env.qual ++ "<lambda>") i) := by
  intro pins s σ H Q I ⟨d, E, hi, hd, hE, nd, tab, k⟩
  refine wpAny_Call_Name_kw (ld_blt I hg hm b_sorted ?_)
  refine callWith_kw ?_
  refine thn ((pa_cons (pe_var hN hvx S.xd S.xc) pa_nil) pos pins s σ H (fun vs H1 => vs = [V.ref d] ∧ H1 = H) I ⟨_, hi, rfl, rfl⟩) fun us s1 ⟨vs, H1, I1, r1, e1, e2⟩ => ?_
  subst e1 e2
  rw [Vals.ref1 r1]
  refine thn ((pk_cons (pe_lam Z hdef hcl) pk_nil) pos pins s1 σ H1 (fun ws H2 => ∃ (f c : Addr) (ctv : Value), ws = [V.ref f] ∧ SameX P H1 H2 ∧ Tab P lpos (X.env.qual ++ "<lambda>") H2 ∧ H2 c = some (codeX (X.env.qual ++ "<lambda>") c) ∧
    H2 f = some (.ext fun h => h.get? f = some (lamOb X (X.env.qual ++ "<lambda>") params (lamBody x y p1 p2 p3 p4) scope [(x, cl)] c ctv))) I1 ⟨tab, fun H2 f c ctv a1 a2 a3 a4 a5 => ⟨f, c, ctv, rfl, a1, a2, a3, a5⟩⟩) fun ws s2 ⟨zs, H2, I2, r2, f, c', ctv, e3, sx, tab2, hc2, hf2⟩ => ?_
  subst e3
  rw [Vals.ref1 r2]
  show wpAny (model X.prog X.w) X.A (call (.builtin "sorted") [.ref d] [(Str.ofString "key", .ref f)]) (EP X pins σ Q) X.xe s2
  have hd2 : H2 d = some (.dK (encN E)) := sx d _ hd fun z => by obtain ⟨ps, hp⟩ := tab.some; rw [z, hp] at hd; cases hd
  obtain ⟨hz, hS, vs, kv, dd⟩ := I2.hok d _ hd2
  obtain ⟨ep, hat⟩ := dd.dictAt
  obtain ⟨m, F⟩ := I2.fr
  have hlen : vs.length = E.length := by rw [← Paired.length kv]; exact encD_len _ _
  have ndv : (vs.map (·.1)).Nodup := by
    rw [encN_keys kv]
    have e : (E.map fun p => (Sum.inl (p.1 : Int) : Key)) = (E.map (·.1)).map fun x : Nat => (Sum.inl (x : Int) : Key) := by rw [List.map_map]; rfl
    rw [e]
    exact nd.map _ (fun a b h z => h (inl_inj z))
  have hcell : s2.heap.IsCell cl (some (.ref d)) := by
    obtain ⟨m', hn', hl'⟩ := I2.loc
    obtain ⟨u, ru, l⟩ := hl' i x (.ref d) hN hi hvx
    have eu : u = Value.ref d := ru
    subst eu
    rcases l with ⟨q, _⟩ | ⟨_, c3, hc3, z⟩
    · rw [hkx] at q; cases q
    · rw [hcx] at hc3; cases hc3; exact z
  have big : (100000 : Nat) ≤ sizeLine := by decide
  have neL : ∀ b u, H2 b = some u → b ≠ X.env.locals := fun b u e z => by rw [z, I2.free] at e; cases e
  refine sorted_src (f := f) (kz := E.map fun p => -(p.2 : Int)) (PySem.W.kdl_dict (knd := mixKind X.prog X.w) (kvs := vs) (ep := ep) hS) (I2.ok.hd hcalm) F (news_all (L := X.env.locals)) hat (by rw [hlen]; exact Nat.le_trans hE big) (by rw [List.length_map, hlen]) ?turn ?done
  case turn =>
    rintro j v kk ⟨key, val, hj, hkey⟩ hkk h tk own F' N'
    rw [List.getElem?_map] at hkk
    cases ej : E[j]? with
    | none => rw [ej] at hkk; cases hkk
    | some p =>
      rw [ej] at hkk
      have hkk : -(p.2 : Int) = kk := Option.some.inj hkk
      subst hkk
      obtain ⟨t, ht⟩ := encN_get kv ej
      rw [ht] at hj
      cases hj
      have kept := kept_all F F' N'
      have nL : ∀ b o, b ≠ X.env.locals → s2.heap.get? b = some o → h.get? b = some o := kept
      refine lam_call (s := { s2 with heap := h, toks := tk }) (knd := mixKind X.prog X.w) (kvs := vs) (k := Sum.inl (p.1 : Int)) (n := (p.2 : Int)) (t := t) (q := X.env.qual ++ "<lambda>") (c := c') (d := d) (cl := cl) (ctv := ctv) S
        (nL _ _ (neL _ _ hf2) (I2.hok f _ hf2).1) ?_ ?_ ?_ ?_ ?_ (hbind _ _ _ _) hkey (valueAt_of_get ndv ht) fun h' tk' t' hk' => ?_
      · obtain ⟨c3, o, w1, t1, e, ho, r⟩ := (show s2.heap.CodeRec (.ref c') (X.env.qual ++ "<lambda>") from (I2.hok c' _ hc2).1)
        cases e
        exact ⟨_, o, w1, t1, rfl, nL _ _ (neL _ _ hc2) ho, r⟩
      · obtain ⟨o, ho, r⟩ := hcell
        exact ⟨o, nL _ _ (I2.cne x cl hcx) ho, r⟩
      · obtain ⟨o, es, ep', ho, r⟩ := dd
        exact ⟨o, es, ep', nL _ _ (neL _ _ hd2) ho, r⟩
      · exact I2.mod.nolimit.keeps F'.keep
      · exact hr.depth
      · exact ⟨h', tk', t', rfl, rfl, F'.kept hk', N'.grown hk'⟩
  case done =>
    rintro D h' tk us out cc F' N' hlt hul hP ⟨prs, hperm, hout, hpair⟩
    have kept : ∀ b o, b ≠ X.env.locals → s2.heap.get? b = some o → h'.get? b = some o := kept_all (own := []) F F' (by rw [List.append_nil]; exact fun p hp => N' p (List.mem_cons_of_mem _ hp))
    have hDo : h'.get? D = some (seqObj "list" out cc) := (N' (D, seqObj "list" out cc) List.mem_cons_self).1
    have nD : H2 D = none := by
      cases e : H2 D with
      | none => rfl
      | some u =>
        obtain ⟨o, ho⟩ := there (I2.hok D u e)
        exact absurd (hlt D o ho) (Nat.lt_irrefl _)
    -- who they are
    have hus : ∀ (j : Nat) (p : Nat × Nat), E[j]? = some p → ∃ t, us[j]? = some (Value.int (p.1 : Int) t) := fun j p ej => by
      have hj : j < us.length := by rw [hul, hlen]; exact (List.getElem?_eq_some_iff.mp ej).1
      obtain ⟨key, val, e1, e2⟩ := hP j us[j] (List.getElem?_eq_getElem hj)
      obtain ⟨t, ht⟩ := encN_get kv ej
      rw [ht] at e1
      cases e1
      rcases keyIs_shape (show keyIs (Sum.inl (p.1 : Int)) us[j] = true from e2) with ⟨i', t', e3, e4⟩ | ⟨x', t', e3, e4⟩
      · cases e3
        exact ⟨t', by rw [List.getElem?_eq_getElem hj, e4]⟩
      · cases e3
    have hz : ∀ q, q ∈ (E.map fun p => -(p.2 : Int)).zip us → ∃ (p : Nat × Nat) (t : Tok), p ∈ E ∧ q = (-(p.2 : Int), Value.int (p.1 : Int) t) := fun q hq => by
      obtain ⟨j, hj⟩ := List.mem_iff_getElem?.mp hq
      rw [List.getElem?_zip_eq_some] at hj
      obtain ⟨e1, e2⟩ := hj
      rw [List.getElem?_map] at e1
      cases ej : E[j]? with
      | none => rw [ej] at e1; cases e1
      | some p =>
        rw [ej] at e1
        obtain ⟨t, ht⟩ := hus j p ej
        rw [ht] at e2
        have e1 : -(p.2 : Int) = q.1 := Option.some.inj e1
        have e2 : Value.int (p.1 : Int) t = q.2 := Option.some.inj e2
        exact ⟨p, t, List.mem_of_getElem? ej, by rw [e1, e2]⟩
    have hprs : ∀ q, q ∈ prs → ∃ (p : Nat × Nat) (t : Tok), p ∈ E ∧ q = (-(p.2 : Int), Value.int (p.1 : Int) t) := fun q hq => hz q (hperm.mem_iff.mp hq)
    let num : Int × Value → Nat := fun q => (numOf q.2).toNat
    have hO1 : (prs.map num).Perm (E.map (·.1)) := by
      have h1 : (prs.map num).Perm (((E.map fun p => -(p.2 : Int)).zip us).map num) := hperm.map num
      have h2 : ((E.map fun p => -(p.2 : Int)).zip us).map num = E.map (·.1) := by
        refine List.ext_getElem? fun j => ?_
        rw [List.getElem?_map, List.getElem?_map]
        cases ej : E[j]? with
        | none =>
          have : ((E.map fun p => -(p.2 : Int)).zip us)[j]? = none := by
            rw [List.getElem?_eq_none_iff, List.length_zip, List.length_map]
            have := List.getElem?_eq_none_iff.mp ej
            omega
          rw [this]; rfl
        | some p =>
          obtain ⟨t, ht⟩ := hus j p ej
          have : ((E.map fun p => -(p.2 : Int)).zip us)[j]? = some (-(p.2 : Int), Value.int (p.1 : Int) t) := by
            rw [List.getElem?_zip_eq_some]
            exact ⟨by rw [List.getElem?_map, ej]; rfl, ht⟩
          rw [this]
          rfl
      rw [h2] at h1
      exact h1
    have hO2 : (prs.map num).Pairwise fun a b => (KM.getE E b).getD 0 ≤ (KM.getE E a).getD 0 := by
      rw [List.pairwise_map]
      refine hpair.imp_of_mem fun {a b} ha hb hab => ?_
      obtain ⟨p, t, hp, rfl⟩ := hprs a ha
      obtain ⟨p', t', hp', rfl⟩ := hprs b hb
      have hab : -(p.2 : Int) ≤ -(p'.2 : Int) := by simpa using hab
      have e1 : KM.getE E p.1 = some p.2 := (KM.getE_mem nd).mpr hp
      have e2 : KM.getE E p'.1 = some p'.2 := (KM.getE_mem nd).mpr hp'
      show (KM.getE E p'.1).getD 0 ≤ (KM.getE E p.1).getD 0
      rw [e1, e2]
      show p'.2 ≤ p.2
      omega
    have hvals : Vals ((prs.map num).map nv) out.toList := by
      rw [hout]
      clear hpair hperm hO1 hO2 hout
      induction prs with
      | nil => exact .nil
      | cons q prs ih =>
        obtain ⟨p, t, hp, rfl⟩ := hprs q List.mem_cons_self
        exact .cons ⟨t, rfl⟩ (ih fun q hq => hprs q (List.mem_cons_of_mem _ hq))
    have hlen2 : (prs.map num).length = E.length := by rw [hO1.length_eq, List.length_map]
    have new : ObjOk X.prog X.w (upd H2 D (.lst ((prs.map num).map nv))) h' D (.lst ((prs.map num).map nv)) :=
      ⟨by rw [List.length_map, hlen2]; exact Nat.le_trans hE big, out.toList, cc, hvals, hDo⟩
    have DL : D ≠ X.env.locals := fun z => by
      obtain ⟨o, _, _, ho, _⟩ := F.ns
      have := hlt _ o ho
      rw [← z] at this
      exact absurd this (Nat.lt_irrefl _)
    have s3 : Same H2 (upd H2 D (.lst ((prs.map num).map nv))) := fun b o e => by rw [upd_ne (ne_of_none e nD)]; exact e
    have J : Inv X pins σ (upd H2 D (.lst ((prs.map num).map nv))) { s2 with heap := h', toks := tk } := by
      refine I2.step (g' := s2.gens) (d' := s2.drawn) (t' := tk) (ch := []) (fun _ z => nomatch z) (fun b o n _ _ e _ => kept b o n e) (fun b o n _ _ e _ => ⟨o.slots, kept b o n e⟩) (fun b o _ e n => ?_) (fun b o _ e => ?_) (fun b xs e => s3 _ _ e) (fun b o u e => s3 _ _ e) (fun b ps e => ⟨#[], by rw [s3 _ _ e]; simp⟩) (fun m' hm => ?_) (fun b u e => ?_) I2.bare
      · rw [upd_ne (Nat.ne_of_lt (hlt b o e))]; exact n
      · by_cases z : b = X.env.locals
        · obtain ⟨o', _, _, ho', _⟩ := F'.ns
          rw [z]; exact ⟨o', ho'⟩
        · exact ⟨o, kept b o z e⟩
      · obtain ⟨o1, es1, ep1, g1, g2, g3, g4⟩ := hm
        obtain ⟨o2, es2, ep2, j1, j2, j3, j4⟩ := F.ns
        rw [g1] at j1
        cases j1
        rw [g2] at j2
        cases j2
        have : m' = m := funext fun y => by rw [← g4 y, j4 y]
        rw [this]
        exact F'.ns
      · by_cases z : b = D
        · subst z
          rw [upd_same] at e
          cases e
          exact new
        · rw [upd_ne z] at e
          refine (I2.hok b u e).stay (fun a v ha q => kept a v ?_ q) (fun a q => s3 _ _ q) fun a xs q => s3 _ _ q
          rcases ha with ha | ha
          · rw [ha]; exact neL b u e
          · exact neL a _ ha
    refine ⟨.ref D, _, J, rfl, k _ D (prs.map num) hO1 hO2 (sx.trans (SameX.of s3)) (tab2.same s3) (sx.free tab2 nD) upd_same⟩
end
end Kin
set_option Elab.async false
set_option linter.all false
set_option maxRecDepth 100000
set_option maxHeartbeats 2000000
namespace Kin
open PySem PySem.Spec PyProof.Rows L2
abbrev sNearC : Stmt := top 13
abbrev sNInit : Stmt := inClass sNearC 0
abbrev sNearest : Stmt := top 14
abbrev sHalf : Stmt := top 15
/-- the fields of a Nearest -/
def nf (x y z : V) : List (Str × V) := putF "persons" z (putF "n" y (putF "m" x []))
theorem nf_m (x y z : V) : (nf x y z).lookup ("m" : Str) = some x := by
  unfold nf
  rw [lookup_putF, if_neg (by decide +kernel), lookup_putF, if_neg (by decide +kernel), lookup_putF, if_pos rfl]
theorem nf_n (x y z : V) : (nf x y z).lookup ("n" : Str) = some y := by
  unfold nf
  rw [lookup_putF, if_neg (by decide +kernel), lookup_putF, if_pos rfl]
theorem nf_persons (x y z : V) : (nf x y z).lookup ("persons" : Str) = some z := by
  unfold nf
  rw [lookup_putF, if_pos rfl]
structure TxtN (K : PySem.W.Frag) (mg : Str → Option Value) (N : Addr) : Prop where
  cl : Cls K N
  nM : NoAttr K N "m"
  nN : NoAttr K N "n"
  nP : NoAttr K N "persons"
  mgN : mg "Nearest" = some (.ref N)
def spNInit (N : Addr) : Sp := fun vs H Q _ => ∃ (p dx : Addr) (x y z : V), vs = [.ref p, x, y, z] ∧ H p = some (.ins N dx []) ∧ ∀ H', H' p = some (.ins N dx (nf x y z)) → (∀ b, b ≠ p → H' b = H b) → Q .non H'
theorem encN_isSome (E : List (Nat × Nat)) (x : Nat) : (valV (encN E) (Sum.inl (x : Int))).isSome = (E.map (·.1)).contains x := by
  unfold encN
  rw [encD_val, Option.isSome_map]
  cases e : KM.getE E x with
  | none =>
    have := KM.getE_none.mp e
    cases q : (E.map (·.1)).contains x with
    | false => rfl
    | true => exact absurd (List.contains_iff_mem.mp q) this
  | some v =>
    have : x ∈ E.map (·.1) := Decidable.byContradiction fun q => by rw [KM.getE_none.mpr q] at e; cases e
    rw [List.contains_iff_mem.mpr this]
    rfl
theorem encN_get' {E : List (Nat × Nat)} (nd : (E.map (·.1)).Nodup) {x k : Nat} (h : (x, k) ∈ E) : valV (encN E) (Sum.inl (x : Int)) = some (nv k) := by
  unfold encN
  rw [encD_val, (KM.getE_mem nd).mpr h]
  rfl
theorem dgetN {H : Hp} {d : Addr} {kvs : List (Key × V)} {x : Nat} {v : V} (h : H d = some (.dK kvs)) (g : valV kvs (Sum.inl (x : Int)) = some v) : DGet H d (nv x) (some v) := by
  rw [← g]
  exact DGet.k (k := Sum.inl (x : Int)) h
/-- whom both have -/
def sh (l : List (Nat × Nat)) (Db : List (Nat × Nat)) : List Nat := (l.map (·.1)).filter fun x => (Db.map (·.1)).contains x
theorem sh_mem {L M : Nat → List Nat} {a b : Nat} {Da Db : List (Nat × Nat)} (Fa : KM.Few L a Da) (Fb : KM.Few M b Db) {x : Nat} : x ∈ sh Da Db ↔ ∃ k l, (x, k) ∈ Da ∧ (x, l) ∈ Db := by
  unfold sh
  rw [List.mem_filter, List.contains_iff_mem, KM.keys_mem, KM.keys_mem]
  exact ⟨fun ⟨⟨k, h1⟩, l, h2⟩ => ⟨k, l, h1, h2⟩, fun ⟨k, l, h1, h2⟩ => ⟨⟨k, h1⟩, l, h2⟩⟩
theorem few_len {s : Sz31.St} (W : KM.WF s) {a : Nat} (ha : a < s.persons.length) {D : List (Nat × Nat)} (F : KM.Few (KM.par s) a D) : D.length ≤ 1024 := by
  have h := nodup_bound (n := s.persons.length) F.nd fun x hx => by
    obtain ⟨k, hk⟩ := KM.keys_mem.mp hx
    exact KM.reach_lt W ha ((F.mem x k).mp hk).1
  rw [List.length_map] at h
  exact Nat.le_trans h W.few
def spNearest (N : Addr) : Sp := fun vs H Q _ => ∃ (da db : Addr) (Da Db : List (Nat × Nat)) (s : Sz31.St) (a b : Nat), vs = [.ref da, .ref db] ∧ H da = some (.dK (encN Da)) ∧ H db = some (.dK (encN Db)) ∧ da ≠ db ∧ KM.WF s ∧ KM.Few (KM.par s) a Da ∧ KM.Few (KM.par s) b Db ∧ a < s.persons.length ∧ b < s.persons.length ∧
  (Sz31.nearest s a b = none → ∀ H', Same H H' → Q .non H') ∧
  ∀ (H' : Hp) (p dx l : Addr) (m n : Nat), Same H H' → H p = none → H' p = some (.ins N dx (nf (nv m) (nv n) (.ref l))) → H' l = some (.lst ((KM.coms s a b m n).map nv)) → KM.Near s a b m n → Q (.ref p) H'
section
variable {P : Program} {w : World} {K : PySem.W.Frag} {mg : Str → Option Value} {base : Heap} {N : Addr}
theorem scNInit : FnScope ["self", "m", "n", "persons"] ["self", "m", "n", "persons"] (defScope sNInit) := ⟨rfl, rfl, rfl, by decide +kernel, rfl, by decide +kernel, by decide +kernel⟩
theorem ok_ninit {f : Addr} {fd : FuncData} (F : Fun K "__init__" "Nearest.__init__" sNInit f fd) (T : TxtN K mg N) : FnOk P w K mg base CX0 1 f fd ["self", "m", "n", "persons"] (spNInit N) := by
  refine F.ok scNInit (fun vs H Q E h => ?_) (fun cdv A outer s H vs Q E hr h => ?_)
  · obtain ⟨p, dx, x, y, z, rfl, _⟩ := h
    rfl
  · obtain ⟨p, dx, x, y, z, rfl, hp, k⟩ := h
    refine ⟨_, pss_cons (ps_fld (pv 0) (pv 1) rfl) (pss_cons (ps_fld (pv 0) (pv 2) rfl) (pss_one (ps_fld (pv 0) (pv 3) rfl))), ?_⟩
    refine ⟨_, rfl, _, rfl, p, N, dx, [], rfl, hp, T.cl, T.nM, (by show 0 < 1000; decide), ?_⟩
    refine ⟨_, rfl, _, rfl, p, N, dx, _, rfl, upd_same, T.cl, T.nN, (by show 1 < 1000; decide), ?_⟩
    refine ⟨_, rfl, _, rfl, p, N, dx, _, rfl, upd_same, T.cl, T.nP, (by show 2 < 1000; decide), ?_⟩
    exact k _ upd_same fun b hb => by rw [upd_ne hb, upd_ne hb, upd_ne hb]
theorem scNearest : FnScope ["up_a", "up_b", "shared", "least", "m", "n", "person"] ["up_a", "up_b"] (defScope sNearest) := ⟨rfl, rfl, rfl, by decide +kernel, rfl, by decide +kernel, by decide +kernel⟩
theorem ok_nearest {f fN : Addr} {fd fdN : FuncData} (F : Fun K "nearest_common" "nearest_common" sNearest f fd) (T : TxtN K mg N) (hLen : mg "len" = none) (hMin : mg "min" = none) (hSorted : mg "sorted" = none) (M : Mk K N fN) (GN : FnOk P w K mg base CX0 1 fN fdN ["self", "m", "n", "persons"] (spNInit N)) (bN : Binds K fdN ["self", "m", "n", "persons"] []) :
    FnOk P w K mg base CX0 3 f fd ["up_a", "up_b"] (spNearest N) := by
  refine F.ok scNearest (fun vs H Q E h => ?_) (fun cdv A outer s H vs Q E hr h => ?_)
  · obtain ⟨da, db, Da, Db, s, a, b, rfl, _⟩ := h
    rfl
  · obtain ⟨da, db, Da, Db, s0, a, b, rfl, hda, hdb, hne, W, Fa, Fb, ha, hb, k1, k2⟩ := h
    have hu := hu_of hr
    have blk : ∀ (scope : Scope), blkC ["up_a", "up_b", "shared", "least", "m", "n", "person"] (defScope sNearest) scope [("person", 6)] = true → BlkOk ["up_a", "up_b", "shared", "least", "m", "n", "person"] (defScope sNearest) scope [("person", 6)] := fun scope h => blkOk_by h
    refine ⟨_, pss_cons (ps_lock (ps_setLc (i := 2) (own := [("person", 6)]) rfl scNearest.nd rfl rfl (sw_true rfl rfl rfl (by decide +kernel)) (pi_keys (pv 0)) (blk _ (by decide +kernel)) (fun s H C cl fp => pg_name (i := 6) scNearest.nd rfl (Or.inl rfl)) (fun s H C cl fp => pts_one (pt_cmp (pc_din hu (pv 6) (pv 1)) (by with_unfolding_all rfl))) (fun s H C cl fp => pv 6)))
      (pss_cons (ps_if (pt_cmpR op_eq (pe_callB call_len_seq (by rfl) hLen b_len (pa_cons (pv 2) pa_nil)) pe_int (nomark _)) (pss_one (ps_ret pe_non)) pss_nil)
      (pss_cons (ps_set (i := 3) scNearest.nd rfl (Or.inl rfl) (pe_callB (cr_minT rfl hu) (by rfl) hMin b_min (pa_cons (pe_lc (own := [("person", 6)]) rfl scNearest.nd (pi_list (pv 2)) (blk _ (by decide +kernel)) (fun s H C cl fp => pg_name (i := 6) scNearest.nd rfl (Or.inl rfl)) (fun s H C cl fp => pts_nil)
        (fun s H C cl fp => pe_tup (pa_cons (pe_op op_add (pe_dget hu (pv 0) (pv 6) (fun _ _ => rfl)) (pe_dget hu (pv 1) (pv 6) (fun _ _ => rfl))) (pa_cons (pe_dget hu (pv 0) (pv 6) (fun _ _ => rfl)) pa_nil)))) pa_nil)))
      (pss_cons (ps_set (i := 4) scNearest.nd rfl (Or.inr rfl) (pe_ix ix_tup (pv 3) pe_int (fun _ _ => rfl)))
      (pss_cons (ps_set (i := 5) scNearest.nd rfl (Or.inr rfl) (pe_op op_sub (pe_ix ix_tup (pv 3) pe_int (fun _ _ => rfl)) (pv 4)))
      (pss_one (ps_ret (pe_make M GN hr rfl T.mgN bN .nil pass0 (pa_cons (pv 4) (pa_cons (pv 5) (pa_cons (pe_callB cr_sortedAny (by rfl) hSorted b_sorted (pa_cons (pe_lc (own := [("person", 6)]) rfl scNearest.nd (pi_list (pv 2)) (blk _ (by decide +kernel)) (fun s H C cl fp => pg_name (i := 6) scNearest.nd rfl (Or.inl rfl))
        (fun s H C cl fp => pts_one (PW.pt (pw_and (pt_cmpR op_eq (pe_dget hu (pv 0) (pv 6) (fun _ _ => rfl)) (pv 4) (nomark _)) (pw_and1 (pt_cmpR op_eq (pe_dget hu (pv 1) (pv 6) (fun _ _ => rfl)) (pv 5) (nomark _)))))) (fun s H C cl fp => pv 6)) pa_nil)) pa_nil)))))))))), ?_⟩
    refine ⟨da, .dK (encN Da), hda, True.intro, fun od => ⟨_, rfl, da, od, rfl, .inl ⟨_, upd_same, fun D hD => ?_⟩⟩⟩
    have Dda : D ≠ da := fun e => by rw [e, upd_same] at hD; cases hD
    have HD : H D = none := by rw [upd_ne Dda] at hD; exact hD
    have lenA := few_len W ha Fa
    have lenB := few_len W hb Fb
    refine lc_n (J := Itk da od (encN Da)) (n := Da.length) (fun j H' => (∀ b o, H b = some o → b ≠ da → H' b = some o) ∧ H' da = some (.frz od (.dK (encN Da))) ∧ H' D = some (.lst ((sh (Da.take j) Db).map nv)))
      ⟨fun b o e n => by rw [upd_ne (ne_of_none e HD), upd_ne n]; exact e, by rw [upd_ne Dda.symm]; exact upd_same, by rw [upd_same]; rfl⟩ (fun j H' hj q => ⟨q.2.1, by unfold encN; rw [encD_len]; exact hj⟩) (fun H' q => ⟨q.2.1, by unfold encN; rw [encD_len]; exact Nat.le_refl _⟩) ?_ ?_
    · rintro j H' x H'' hj ⟨q1, q2, q3⟩ ⟨rfl, key, v, hkv, rfl⟩
      obtain ⟨p, hp, e1, e2⟩ := encD_keys nv Da hkv
      rw [e1]
      refine ⟨rfl, _, rfl, _, rfl, db, _, rfl, DGet.k (k := Sum.inl (p.1 : Int)) (q1 db _ hdb hne.symm), _, rfl, ?_⟩
      have esh : sh (Da.take (j + 1)) Db = sh (Da.take j) Db ++ if (Db.map (·.1)).contains p.1 = true then [p.1] else [] := by
        unfold sh
        rw [take_snoc hp, List.map_append, List.filter_append, List.map_cons, List.map_nil, List.filter_cons, List.filter_nil]
      rw [encN_isSome, esh]
      refine go_ite (fun hc => ?_) (fun hc => ?_)
      · rw [if_pos hc]
        refine ⟨_, rfl, _, q3, ?_, fun b o e n => ?_, ?_, ?_⟩
        · rw [List.length_map]
          refine Nat.lt_of_le_of_lt (Nat.le_trans (List.length_filter_le _ _) ?_) (show 1024 < sizeLine by decide)
          rw [List.length_map, List.length_take]
          omega
        · rw [upd_ne (ne_of_none e HD)]; exact q1 b o e n
        · rw [upd_ne Dda.symm]; exact q2
        · rw [upd_same, List.map_append]; rfl
      · rw [if_neg (by rw [hc]; exact Bool.false_ne_true), List.append_nil]
        exact ⟨q1, q2, q3⟩
    rintro H1 ⟨q1, q2, q3⟩
    rw [List.take_length] at q3
    refine ⟨q2, ?_⟩
    have s1 : Same H (upd H1 da (.dK (encN Da))) := fun b o e => by
      by_cases z : b = da
      · rw [z, upd_same, ← hda, ← z]; exact e
      · rw [upd_ne z]; exact q1 b o e z
    have h1D : upd H1 da (.dK (encN Da)) D = some (.lst ((sh Da Db).map nv)) := by rw [upd_ne Dda]; exact q3
    generalize upd H1 da (.dK (encN Da)) = H2 at s1 h1D
    clear q1 q2 q3
    have shlen : (sh Da Db).length ≤ 1024 := by
      refine Nat.le_trans (List.length_filter_le _ _) ?_
      rw [List.length_map]; exact lenA
    have shnd : (sh Da Db).Nodup := Fa.nd.sublist List.filter_sublist
    refine ⟨_, rfl, D, _, rfl, .inl (SqL.of h1D), rfl, _, rfl, go_dec (fun h0 => ?_) (fun h0 => ?_)⟩
    · have h0 : sh Da Db = [] := by
        injection h0 with h0
        rw [List.length_map] at h0
        exact List.eq_nil_of_length_eq_zero (by omega)
      refine k1 ((KM.nearest_none W ha).mpr fun m n c hc => ?_) H2 s1
      obtain ⟨k', l', f1, f2⟩ := KM.com_first hc
      have : c ∈ sh Da Db := (sh_mem Fa Fb).mpr ⟨k', l', (Fa.mem c k').mpr f1, (Fb.mem c l').mpr f2⟩
      rw [h0] at this
      cases this
    have hpos : 0 < (sh Da Db).length := by
      cases e : sh Da Db with
      | nil => exact absurd (by rw [e]; rfl) h0
      | cons x r => rw [List.length_cons]; omega
    -- the pairs
    have each : ∀ x, x ∈ sh Da Db → ∃ k l, (x, k) ∈ Da ∧ (x, l) ∈ Db := fun x hx => (sh_mem Fa Fb).mp hx
    let fa : Nat → Nat := fun x => (KM.getE Da x).getD 0
    let fb : Nat → Nat := fun x => (KM.getE Db x).getD 0
    have efa : ∀ {x k}, (x, k) ∈ Da → fa x = k := fun {x k} h => by show (KM.getE Da x).getD 0 = k; rw [(KM.getE_mem Fa.nd).mpr h]; rfl
    have efb : ∀ {x k}, (x, k) ∈ Db → fb x = k := fun {x k} h => by show (KM.getE Db x).getD 0 = k; rw [(KM.getE_mem Fb.nd).mpr h]; rfl
    refine ⟨_, rfl, D, rfl, ⟨_, SqL.of h1D⟩, fun D2 hD2 => ?_⟩
    have HD2 : H D2 = none := s1.free hD2
    have D2D : D ≠ D2 := ne_of_none h1D hD2
    refine lc_list (K := K) (a := D) (xs := (sh Da Db).map nv) (fun j H' => Same H2 H' ∧ ∃ ts : List Addr, H' D2 = some (.lst (ts.map V.ref)) ∧ ts.length = j ∧ ∀ (i : Nat) (t : Addr) (x : Nat), ts[i]? = some t → (sh Da Db)[i]? = some x → t ≠ D2 ∧ H' t = some (.tup [.int ((fa x : Int) + (fb x : Int)), .int (fa x : Int)]))
      ⟨fun b o e => by rw [upd_ne (ne_of_none e hD2)]; exact e, [], by rw [upd_same]; rfl, rfl, fun i t x h => by simp at h⟩ (fun j H' _ q => SqL.of (q.1 _ _ h1D)) ?_ ?_
    · rintro j y H3 hj ⟨s2, ts, hts, htl, hall⟩
      obtain ⟨x, hx, rfl⟩ := map_get hj
      obtain ⟨kx, lx, m1, m2⟩ := each x (List.mem_of_getElem? hx)
      have g1 : valV (encN Da) (Sum.inl (x : Int)) = some (nv kx) := encN_get' Fa.nd m1
      have g2 : valV (encN Db) (Sum.inl (x : Int)) = some (nv lx) := encN_get' Fb.nd m2
      have a3 := s2 _ _ (s1 _ _ hda)
      have b3 := s2 _ _ (s1 _ _ hdb)
      refine ⟨rfl, ?_⟩
      dsimp only [tYes]
      rw [if_pos rfl]
      refine ⟨_, rfl, _, rfl, da, _, rfl, dgetN a3 g1, _, rfl, _, rfl, db, _, rfl, dgetN b3 g2, _, _, rfl, rfl, _, rfl, _, rfl, da, _, rfl, dgetN a3 g1, (by show 2 ≤ sizeLine; decide), fun t ht => ?_⟩
      have tD2 : D2 ≠ t := ne_of_none hts ht
      refine ⟨_, (by rw [upd_ne tD2]; exact hts), ?_, fun b o e => ?_, ts ++ [t], ?_, ?_, fun i t' x' h1 h2 => ?_⟩
      · rw [List.length_map, htl]
        have : j < (sh Da Db).length := (List.getElem?_eq_some_iff.mp hx).1
        exact Nat.lt_of_lt_of_le (Nat.lt_of_lt_of_le this shlen) (by decide)
      · have := s2 _ _ e
        rw [upd_ne (ne_of_none e hD2), upd_ne (ne_of_none this ht)]; exact this
      · rw [upd_same, List.map_append]; rfl
      · rw [List.length_append, htl]; rfl
      · by_cases q : i < ts.length
        · rw [List.getElem?_append_left q] at h1
          obtain ⟨z1, z2⟩ := hall i t' x' h1 h2
          refine ⟨z1, ?_⟩
          rw [upd_ne z1, upd_ne (ne_of_none z2 ht)]; exact z2
        · rw [List.getElem?_append_right (by omega)] at h1
          have hi : i - ts.length = 0 := by
            cases e : i - ts.length with
            | zero => rfl
            | succ n => rw [e] at h1; simp at h1
          rw [hi] at h1
          have e1 : t = t' := Option.some.inj h1
          have e2 : i = j := by omega
          subst e1
          rw [e2, hx] at h2
          have e3 : x = x' := Option.some.inj h2
          subst e3
          refine ⟨tD2.symm, ?_⟩
          rw [upd_ne tD2.symm, upd_same, efa m1, efb m2]
          rfl
    rintro H3 ⟨s2, ts, hts, htl, hall⟩
    rw [List.length_map] at htl
    refine ⟨D2, ts, (sh Da Db).map fun x => (((fa x : Int) + (fb x : Int)), (fa x : Int)), rfl, SqL.of hts, by rw [htl, List.length_map], by omega, fun j t p h1 h2 => ?_, fun j t p h1 h2 hmin => ?_⟩
    · rw [List.getElem?_map] at h2
      cases e : (sh Da Db)[j]? with
      | none => rw [e] at h2; cases h2
      | some x =>
        rw [e] at h2
        have h2 := Option.some.inj h2
        subst h2
        exact (hall j t x h1 e).2
    rw [List.getElem?_map] at h2
    cases e : (sh Da Db)[j]? with
    | none => rw [e] at h2; cases h2
    | some x =>
      rw [e] at h2
      have h2 := Option.some.inj h2
      subst h2
      obtain ⟨kx, lx, m1, m2⟩ := each x (List.mem_of_getElem? e)
      have ht := (hall j t x h1 e).2
      rw [efa m1, efb m2] at ht
      have nr : KM.Near s0 a b kx lx := by
        refine KM.near_of ((Fa.mem x kx).mp m1) ((Fb.mem x lx).mp m2) fun y ky ly f1 f2 => ?_
        have my1 := (Fa.mem y ky).mpr f1
        have my2 := (Fb.mem y ly).mpr f2
        have hy : y ∈ sh Da Db := (sh_mem Fa Fb).mpr ⟨ky, ly, my1, my2⟩
        obtain ⟨j', hj'⟩ := List.mem_iff_getElem?.mp hy
        have := hmin j' _ (by rw [List.getElem?_map, hj']; rfl)
        simp only [efa m1, efb m2, efa my1, efb my2] at this
        omega
      refine ⟨_, rfl, t, _, _, _, rfl, rfl, SqT.of ht, rfl, ?_⟩
      refine ⟨_, rfl, t, _, _, _, rfl, rfl, SqT.of ht, rfl, _, rfl, _, _, rfl, rfl, ?_⟩
      have en : V.int (((kx : Int) + (lx : Int)) - (kx : Int)) = nv lx := by rw [show ((kx : Int) + (lx : Int)) - (kx : Int) = (lx : Int) by omega]; rfl
      have h3D := s2 _ _ h1D
      have s3 : Same H H3 := s1.trans s2
      refine ⟨_, rfl, _, rfl, _, rfl, D, rfl, ⟨_, SqL.of h3D⟩, fun D3 hD3 => ?_⟩
      have HD3 : H D3 = none := s3.free hD3
      have DD3 : D ≠ D3 := ne_of_none h3D hD3
      refine lc_list (K := K) (a := D) (xs := (sh Da Db).map nv) (fun j H' => Same H3 H' ∧ H' D3 = some (.lst ((((sh Da Db).take j).filter fun x => decide (fa x = kx) && decide (fb x = lx)).map nv)))
        ⟨fun b o e => by rw [upd_ne (ne_of_none e hD3)]; exact e, by rw [upd_same]; rfl⟩ (fun j H' _ q => SqL.of (q.1 _ _ h3D)) ?_ ?_
      · rintro j2 y H4 hj2 ⟨s4, h4⟩
        obtain ⟨y, hy, rfl⟩ := map_get hj2
        obtain ⟨ky, ly, n1, n2⟩ := each y (List.mem_of_getElem? hy)
        have g1 : valV (encN Da) (Sum.inl (y : Int)) = some (nv ky) := encN_get' Fa.nd n1
        have g2 : valV (encN Db) (Sum.inl (y : Int)) = some (nv ly) := encN_get' Fb.nd n2
        have a4 := s4 _ _ (s3 _ _ hda)
        have b4 := s4 _ _ (s3 _ _ hdb)
        have cnt : (((sh Da Db).take j2).filter fun x => decide (fa x = kx) && decide (fb x = lx)).length < sizeLine := by
          refine Nat.lt_of_le_of_lt (Nat.le_trans (List.length_filter_le _ _) ?_) (show 1024 < sizeLine by decide)
          rw [List.length_take]; omega
        rw [take_snoc hy, List.filter_append, List.filter_cons, List.filter_nil, efa n1, efb n2]
        refine ⟨rfl, _, rfl, _, rfl, da, _, rfl, dgetN a4 g1, _, rfl, rfl, _, rfl, go_dec (fun c1 => ?_) (fun c1 => ?_)⟩
        · have c1 : ky = kx := nv_inj c1
          refine ⟨_, rfl, _, rfl, db, _, rfl, dgetN b4 g2, _, rfl, rfl, _, rfl, go_dec (fun c2 => ?_) (fun c2 => ?_)⟩
          · have c2 : ly = lx := nv_inj (c2.trans en)
            rw [if_pos (by rw [c1, c2]; simp)]
            refine ⟨_, rfl, _, h4, by rw [List.length_map]; exact cnt, fun b o e => ?_, ?_⟩
            · rw [upd_ne (ne_of_none e hD3)]; exact s4 _ _ e
            · rw [upd_same, List.map_append]; rfl
          · have c2 : ¬ ly = lx := fun z => c2 (by rw [z]; exact en.symm)
            rw [if_neg (by simp [c2]), List.append_nil]
            exact ⟨s4, h4⟩
        · have c1 : ¬ ky = kx := fun z => c1 (by rw [z]; rfl)
          rw [if_neg (by simp [c1]), List.append_nil]
          exact go_ite (fun h => Bool.noConfusion h) (fun _ => ⟨s4, h4⟩)
      rintro H4 ⟨s4, h4⟩
      rw [List.length_map, List.take_length] at h4
      have h4' : H4 D3 = some (.lst ((((sh Da Db).filter fun x => decide (fa x = kx) && decide (fb x = lx)).map fun x : Nat => (x : Int)).map V.int)) := by rw [h4, List.map_map]; rfl
      refine ⟨D3, _, rfl, SqL.of h4', ?_, fun ns' p5 hperm hsort hp5 => ?_⟩
      · rw [List.length_map]
        exact Nat.le_trans (List.length_filter_le _ _) (Nat.le_trans shlen (by decide))
      have ecoms : ns' = (KM.coms s0 a b kx lx).map fun x : Nat => (x : Int) := by
        have nat : ns'.map (fun i : Int => (i.toNat : Int)) = ns' := by
          refine (List.map_congr_left fun i hi => ?_).trans (List.map_id _)
          obtain ⟨x, _, rfl⟩ := List.mem_map.mp (hperm.mem_iff.mp hi)
          rfl
        have hmem : ∀ z, z ∈ ns'.map Int.toNat ↔ KM.First (KM.par s0) a kx z ∧ KM.First (KM.par s0) b lx z := fun z => by
          rw [(hperm.map Int.toNat).mem_iff, List.map_map]
          show z ∈ ((sh Da Db).filter fun x => decide (fa x = kx) && decide (fb x = lx)).map id ↔ _
          rw [List.map_id, List.mem_filter, Bool.and_eq_true, decide_eq_true_eq, decide_eq_true_eq]
          constructor
          · rintro ⟨hz, e1, e2⟩
            obtain ⟨kz, lz, n1, n2⟩ := each z hz
            rw [efa n1] at e1
            rw [efb n2] at e2
            subst e1 e2
            exact ⟨(Fa.mem z _).mp n1, (Fb.mem z _).mp n2⟩
          · rintro ⟨f1, f2⟩
            have n1 := (Fa.mem z kx).mpr f1
            have n2 := (Fb.mem z lx).mpr f2
            exact ⟨(sh_mem Fa Fb).mpr ⟨kx, lx, n1, n2⟩, efa n1, efb n2⟩
        have nd2 : (ns'.map Int.toNat).Nodup := by
          rw [(hperm.map Int.toNat).nodup_iff, List.map_map]
          show (((sh Da Db).filter fun x => decide (fa x = kx) && decide (fb x = lx)).map id).Nodup
          rw [List.map_id]
          exact shnd.sublist List.filter_sublist
        have st2 : (ns'.map Int.toNat).Pairwise (· ≤ ·) := by
          rw [List.pairwise_map]
          exact hsort.imp fun {x y} h => Int.toNat_le_toNat h
        rw [← KM.coms_is W ha nr st2 nd2 hmem, List.map_map]
        exact nat.symm
      have s5 : Same H4 (upd H4 p5 (.lst (ns'.map V.int))) := fun b o e => by rw [upd_ne (ne_of_none e hp5)]; exact e
      refine fun p dx hp hdx hne' => ⟨p, dx, _, _, _, rfl, upd_same, fun H6 h6 hrest => ⟨rfl, ?_⟩⟩
      have h6 : H6 p = some (.ins N dx (nf (nv kx) (V.int (((kx : Int) + (lx : Int)) - (kx : Int))) (.ref p5))) := h6
      rw [en] at h6
      have s6 : Same H (upd H4 p5 (.lst (ns'.map V.int))) := (s3.trans s4).trans s5
      have p5p : p5 ≠ p := ne_of_none upd_same hp
      have p5dx : p5 ≠ dx := ne_of_none upd_same hdx
      refine k2 H6 p dx p5 kx lx (fun b o e => ?_) (s6.free hp) h6 ?_ nr
      · have e6 := s6 _ _ e
        rw [hrest b (ne_of_none e6 hp), upd_ne (ne_of_none e6 hp), upd_ne (ne_of_none e6 hdx)]
        exact e6
      · rw [hrest p5 p5p, upd_ne p5p, upd_ne p5dx, upd_same, ecoms, List.map_map]
        rfl
end
end Kin
set_option Elab.async false
set_option linter.all false
set_option maxRecDepth 100000
set_option maxHeartbeats 2000000
namespace Kin
open PySem PySem.Spec PyProof.Rows L2
/-! ### is_half -/
def spHalf (C N : Addr) : Sp := fun vs H Q _ => ∃ (p q da db dx l : Addr) (Da Db : List (Nat × Nat)) (s : Sz31.St) (fp : List Addr) (a b m n : Nat), vs = [.ref p, .ref q, .ref da, .ref db] ∧ Fam C H p s fp ∧ H q = some (.ins N dx (nf (nv m) (nv n) (.ref l))) ∧ H l = some (.lst ((KM.coms s a b m n).map nv)) ∧
  H da = some (.dK (encN Da)) ∧ H db = some (.dK (encN Db)) ∧ KM.Few (KM.par s) a Da ∧ KM.Few (KM.par s) b Db ∧ a < s.persons.length ∧ b < s.persons.length ∧ KM.Near s a b m n ∧ Q (.bl (Sz31.isHalf s a b m n (KM.coms s a b m n))) H
theorem way_eq {L : Nat → List Nat} {a : Nat} {D : List (Nat × Nat)} (F : KM.Few L a D) {m x : Nat} (hm : 0 < m) : decide ((valV (encN D) (Sum.inl (x : Int))).getD .non = V.int ((m : Int) - 1)) = decide (KM.getE D x = some (m - 1)) := by
  unfold encN
  rw [encD_val]
  cases KM.getE D x with
  | none => exact decide_eq_decide.mpr (Iff.intro (fun h => by have h : V.non = V.int ((m : Int) - 1) := h; cases h) (fun h => by cases h))
  | some k =>
    refine decide_eq_decide.mpr ⟨fun h => ?_, fun h => ?_⟩
    · have h : V.int (k : Int) = V.int ((m : Int) - 1) := h
      injection h with h
      exact congrArg some (by omega)
    · have h := Option.some.inj h
      show V.int (k : Int) = V.int ((m : Int) - 1)
      rw [h, show ((m - 1 : Nat) : Int) = (m : Int) - 1 by omega]
section
variable {P : Program} {w : World} {K : PySem.W.Frag} {mg : Str → Option Value} {base : Heap} {C N : Addr}
theorem scHalf : FnScope ["family", "nearest", "up_a", "up_b", "child", "on_a_way"] ["family", "nearest", "up_a", "up_b"] (defScope sHalf) := ⟨rfl, rfl, rfl, by decide +kernel, rfl, by decide +kernel, by decide +kernel⟩
theorem ok_half {f : Addr} {fd : FuncData} (F : Fun K "is_half" "is_half" sHalf f fd) (T : Txt K mg C) (TN : TxtN K mg N) : FnOk P w K mg base CX0 1 f fd ["family", "nearest", "up_a", "up_b"] (spHalf C N) := by
  refine F.ok scHalf (fun vs H Q E h => ?_) (fun cdv A outer s H vs Q E hr h => ?_)
  · obtain ⟨p, q, da, db, dx, l, Da, Db, s, fp, a, b, m, n, rfl, _⟩ := h
    rfl
  · obtain ⟨p, q, da, db, dq, l, Da, Db, s0, fp, a, b, m, n, rfl, ⟨W, aS, aP, aC, aD, dx, ps, cs, kids, X⟩, hq, hl, hda, hdb, Fa, Fb, ha, hb, nr, k⟩ := h
    have hu := hu_of hr
    refine ⟨_, pss_cons (ps_if (PW.pt (pw_or (pt_cmpR op_eq (pe_fld (pv 1) rfl) pe_int (nomark _)) (pw_or (pt_cmpR op_eq (pe_fld (pv 1) rfl) pe_int (nomark _)) (pw_or1 (pt_cmpR op_gt (pe_callB call_len_seq (by rfl) T.len b_len (pa_cons (pe_fld (pv 1) rfl) pa_nil)) pe_int (nomark _)))))) (pss_one (ps_ret pe_bl)) pss_nil)
      (pss_cons (ps_for PassesOwn.never rfl (pi_list (pe_ix ix_list (pe_fld (pv 0) rfl) (pe_ix ix_list (pe_fld (pv 1) rfl) pe_int (fun _ _ => rfl)) (fun _ _ => rfl))) (pg_name (i := 4) scHalf.nd rfl (Or.inl rfl))
        (pss_cons (ps_set (i := 5) scHalf.nd rfl (Or.inl rfl) (pe_or (pe_cmpR op_eq (pe_dget1 hu (pv 2) (pv 4) ⟨rfl, rfl, rfl, rfl⟩) (pe_op op_sub (pe_fld (pv 1) rfl) pe_int) (nomark _)) (pe_one (pe_cmpR op_eq (pe_dget1 hu (pv 3) (pv 4) ⟨rfl, rfl, rfl, rfl⟩) (pe_op op_sub (pe_fld (pv 1) rfl) pe_int) (nomark _)))))
        (pss_one (ps_if (PW.pt (pw_and (pt_val (pv 5)) (pw_and1 (pt_cmpR op_lt (pe_callB call_len_seq (by rfl) T.len b_len (pa_cons (pe_ix ix_list (pe_fld (pv 0) rfl) (pv 4) (fun _ _ => rfl)) pa_nil)) pe_int (nomark _))))) (pss_one (ps_ret pe_bl)) pss_nil))))
      (pss_one (ps_ret pe_bl))), ?_⟩
    have lenc : (KM.coms s0 a b m n).length ≠ 0 := fun e => KM.coms_ne W ha nr (List.eq_nil_of_length_eq_zero e)
    refine ⟨_, rfl, q, N, dq, _, _, rfl, hq, TN.cl, TN.nM, nf_m _ _ _, rfl, _, rfl, ?_⟩
    refine go_dec (fun h0 => go_ite (fun _ => ?_) (fun h => Bool.noConfusion h)) (fun h0 => ?_)
    · have h0 : m = 0 := nv_inj h0
      show Q (.bl false) H
      rw [← KM.half_no (s := s0) (a := a) (b := b) (m := m) (n := n) (.inl h0)]
      exact k
    have hm : 0 < m := Nat.pos_of_ne_zero fun z => h0 (by rw [z]; rfl)
    refine ⟨_, rfl, q, N, dq, _, _, rfl, hq, TN.cl, TN.nN, nf_n _ _ _, rfl, _, rfl, ?_⟩
    refine go_dec (fun h1 => go_ite (fun _ => ?_) (fun h => Bool.noConfusion h)) (fun h1 => ?_)
    · have h1 : n = 0 := nv_inj h1
      show Q (.bl false) H
      rw [← KM.half_no (s := s0) (a := a) (b := b) (m := m) (n := n) (.inr (.inl h1))]
      exact k
    have hn : 0 < n := Nat.pos_of_ne_zero fun z => h1 (by rw [z]; rfl)
    refine ⟨_, rfl, q, N, dq, _, _, rfl, hq, TN.cl, TN.nP, nf_persons _ _ _, l, _, rfl, .inl (SqL.of hl), _, _, rfl, rfl, _, rfl, ?_⟩
    rw [List.length_map]
    refine go_dec (fun h2 => ?_) (fun h2 => ?_)
    · show Q (.bl false) H
      rw [← KM.half_no (s := s0) (a := a) (b := b) (m := m) (n := n) (.inr (.inr (by omega)))]
      exact k
    obtain ⟨c, hc⟩ : ∃ c, KM.coms s0 a b m n = [c] := by
      cases e : KM.coms s0 a b m n with
      | nil => rw [e] at lenc; exact absurd rfl lenc
      | cons c r =>
        cases r with
        | nil => exact ⟨c, rfl⟩
        | cons d r => rw [e, List.length_cons, List.length_cons] at h2; omega
    have cc : KM.Com s0 a b m n c := (KM.mem_coms W ha).mp (by rw [hc]; simp)
    have hclt : c < s0.persons.length := KM.reach_lt W ha cc.1
    have hiff := KM.half_iff W nr hm hn hc cc
    obtain ⟨kc, hkc, hkc'⟩ := X.kid.get (j := c) (by rw [X.klen]; exact hclt)
    have hl0 : H l = some (.lst ([c].map nv)) := by rw [← hc]; exact hl
    refine ⟨_, rfl, p, C, dx, _, _, rfl, X.ins, T.cl, T.nC, ff_children _ _ _ _, _, rfl, q, N, dq, _, _, rfl, hq, TN.cl, TN.nP, nf_persons _ _ _, l, _, _, _, rfl, rfl, SqL.of hl0, rfl, aC, _, _, _, rfl, rfl, SqL.of X.kid.lst, atI_nat (j := c) (v := V.ref kc) (by rw [List.getElem?_map, hkc]; rfl), kc, rfl, ⟨_, SqL.of hkc'⟩, ?_⟩
    have wayA : ∀ x, KM.getE Da x = some (m - 1) ↔ KM.First (KM.par s0) a (m - 1) x := fun x => Fa.get
    have wayB : ∀ x, KM.getE Db x = some (n - 1) ↔ KM.First (KM.par s0) b (n - 1) x := fun x => Fb.get
    refine for_list (K := K) (a := kc) (xs := (rowOf kids c).map nv) (fun j σ H' => H' = H ∧ ∃ v4 v5 : Option V, σ = [some (.ref p), some (.ref q), some (.ref da), some (.ref db), v4, v5] ∧ ∀ x, x ∈ (rowOf kids c).take j → KM.First (KM.par s0) a (m - 1) x ∨ KM.First (KM.par s0) b (n - 1) x → ¬ (KM.par s0 x).length < 2)
      ⟨rfl, none, none, rfl, fun x hx => by simp at hx⟩ (fun j σ H' _ h => by rw [h.1]; exact SqL.of hkc') ?_ ?_
    · rintro j y σ H' hj ⟨rfl, v4, v5, rfl, hall⟩
      obtain ⟨x, hx, rfl⟩ := map_get hj
      have hxk : x ∈ rowOf kids c := List.mem_of_getElem? hx
      have hcx : c ∈ KM.par s0 x := (X.kmem c x).mp hxk
      have hxl : x < s0.persons.length := KM.lt_of_par hcx
      obtain ⟨px, hpx, hpx'⟩ := X.par.get (j := x) (by rw [List.length_map]; exact hxl)
      have hpx2 : H' px = some (.lst ((KM.par s0 x).map nv)) := by rw [hpx', ← row_par]
      have sc : ∀ (D : List (Nat × Nat)) (i : Int), scal ((valV (encN D) (Sum.inl (x : Int))).getD .non) (.int i) = true := fun D i => by
        unfold encN
        rw [encD_val]
        cases KM.getE D x <;> rfl
      -- the two ways on
      have bad : KM.First (KM.par s0) a (m - 1) x ∨ KM.First (KM.par s0) b (n - 1) x → (KM.par s0 x).length < 2 → Q (.bl false) H' := fun hw h2' => by
        have : Sz31.isHalf s0 a b m n (KM.coms s0 a b m n) = false := by
          cases e : Sz31.isHalf s0 a b m n (KM.coms s0 a b m n) with
          | false => rfl
          | true => exact absurd h2' (hiff.mp e x hcx hw)
        rw [← this]
        exact k
      have good : (KM.First (KM.par s0) a (m - 1) x ∨ KM.First (KM.par s0) b (n - 1) x → ¬ (KM.par s0 x).length < 2) → ∀ y, y ∈ (rowOf kids c).take (j + 1) → KM.First (KM.par s0) a (m - 1) y ∨ KM.First (KM.par s0) b (n - 1) y → ¬ (KM.par s0 y).length < 2 := fun hg y hy hw => by
        rw [take_snoc hx, List.mem_append, List.mem_singleton] at hy
        rcases hy with hy | hy
        · exact hall y hy hw
        · rw [hy] at hw ⊢; exact hg hw
      refine ⟨_, rfl, da, rfl, .inl ⟨_, .inl hda⟩, _, rfl, _, DGet.k (k := Sum.inl (x : Int)) hda, _, rfl, q, N, dq, _, _, rfl, hq, TN.cl, TN.nM, nf_m _ _ _, _, _, rfl, rfl, sc Da _, _, rfl, ?_⟩
      rw [way_eq Fa hm]
      refine go_dec (fun wA => ?_) (fun wA => ?_)
      · have wA := (wayA x).mp wA
        refine ⟨_, rfl, _, rfl, go_ite (fun _ => ?_) (fun h => Bool.noConfusion h)⟩
        refine ⟨_, rfl, p, C, dx, _, _, rfl, X.ins, T.cl, T.nP, ff_parents _ _ _ _, _, rfl, aP, _, _, _, rfl, rfl, SqL.of X.par.lst, atI_nat (j := x) (v := V.ref px) (by rw [List.getElem?_map, hpx]; rfl), px, _, rfl, .inl (SqL.of hpx2), _, _, rfl, rfl, _, rfl, ?_⟩
        rw [List.length_map]
        refine go_dec (fun h3 => bad (.inl wA) (by omega)) (fun h3 => ⟨rfl, _, _, rfl, good fun _ => by omega⟩)
      · have wA : ¬ KM.First (KM.par s0) a (m - 1) x := fun z => wA ((wayA x).mpr z)
        refine ⟨_, rfl, db, rfl, .inl ⟨_, .inl hdb⟩, _, rfl, _, DGet.k (k := Sum.inl (x : Int)) hdb, _, rfl, q, N, dq, _, _, rfl, hq, TN.cl, TN.nN, nf_n _ _ _, _, _, rfl, rfl, sc Db _, ?_⟩
        rw [way_eq Fb hn]
        refine ⟨_, rfl, _, rfl, go_dec (fun wB => ?_) (fun wB => ?_)⟩
        · have wB := (wayB x).mp wB
          refine ⟨_, rfl, p, C, dx, _, _, rfl, X.ins, T.cl, T.nP, ff_parents _ _ _ _, _, rfl, aP, _, _, _, rfl, rfl, SqL.of X.par.lst, atI_nat (j := x) (v := V.ref px) (by rw [List.getElem?_map, hpx]; rfl), px, _, rfl, .inl (SqL.of hpx2), _, _, rfl, rfl, _, rfl, ?_⟩
          rw [List.length_map]
          refine go_dec (fun h3 => bad (.inr wB) (by omega)) (fun h3 => ⟨rfl, _, _, rfl, good fun _ => by omega⟩)
        · have wB : ¬ KM.First (KM.par s0) b (n - 1) x := fun z => wB ((wayB x).mpr z)
          refine go_ite (fun h => Bool.noConfusion h) (fun _ => ⟨rfl, _, _, rfl, good fun hw => ?_⟩)
          rcases hw with z | z
          · exact absurd z wA
          · exact absurd z wB
    · rintro σ H' ⟨rfl, v4, v5, rfl, hall⟩
      rw [List.length_map, List.take_length] at hall
      show Q (.bl true) H'
      have : Sz31.isHalf s0 a b m n (KM.coms s0 a b m n) = true := hiff.mpr fun x hx hw => hall x ((X.kmem c x).mpr hx) hw
      rw [← this]
      exact k
end
end Kin
set_option Elab.async false
set_option linter.all false
set_option maxRecDepth 100000
set_option maxHeartbeats 2000000
namespace Kin
open PySem PySem.Spec PyProof.Rows L2
open Sz31 (text pick greats ordinal times blood)
abbrev sStraight : Stmt := top 33
abbrev sAside : Stmt := top 34
abbrev sCousin : Stmt := top 35
abbrev sBranch : Stmt := top 36
abbrev sBlood : Stmt := top 37
/-- a tuple of texts of the module -/
def WordT (K : PySem.W.Frag) (mg : Str → Option Value) (x : Str) (xs : List Sz31.Bytes) : Prop := ∃ t, mg x = some (.ref t) ∧ ∀ H, SqT K H t (xs.map fun b => V.str (S b))
def cousins : List Sz31.Bytes := ["first", "second", "third", "fourth", "fifth", "sixth", "seventh", "eighth", "ninth", "tenth", "eleventh", "twelfth", "thirteenth", "fourteenth", "fifteenth", "sixteenth", "seventeenth", "eighteenth", "nineteenth", "twentieth"].map text
def removeds : List Sz31.Bytes := ["", " once removed", " twice removed", " thrice removed"].map text
def three (n w m : String) : List Sz31.Bytes := [text n, text w, text m]
structure TxtW (K : PySem.W.Frag) (mg : Str → Option Value) : Prop where
  parent : WordT K mg "PARENT" (three "parent" "mother" "father")
  child : WordT K mg "CHILD" (three "child" "daughter" "son")
  sibling : WordT K mg "SIBLING" (three "sibling" "sister" "brother")
  aunt : WordT K mg "SIBLING_OF_PARENT" (three "parent's sibling" "aunt" "uncle")
  niece : WordT K mg "CHILD_OF_SIBLING" (three "sibling's child" "niece" "nephew")
  partner : WordT K mg "PARTNER" (three "spouse" "wife" "husband")
  cousin : WordT K mg "COUSINS" cousins
  removed : WordT K mg "REMOVED" removeds
  len : mg "len" = none
  mn : mg "min" = none
  abs : mg "abs" = none
theorem three_at {n w m : String} {sex : Nat} (h : sex ≤ 2) : (three n w m)[sex]? = some (pick sex w m n) := by
  have : sex = 0 ∨ sex = 1 ∨ sex = 2 := by omega
  rcases this with rfl | rfl | rfl <;> rfl
theorem word_at {xs : List Sz31.Bytes} {i : Nat} {b : Sz31.Bytes} (h : xs[i]? = some b) : atI (xs.map fun b => V.str (S b)) (i : Int) = some (V.str (S b)) := atI_nat (by rw [List.getElem?_map, h]; rfl)
theorem pick_short {sex : Nat} {w m n : String} (h1 : (text w).length ≤ 20 := by decide +kernel) (h2 : (text m).length ≤ 20 := by decide +kernel) (h3 : (text n).length ≤ 20 := by decide +kernel) : (pick sex w m n).length ≤ 20 := KM.pick_len h1 h2 h3
theorem fits {n : Nat} (h : n ≤ 1000) : n ≤ sizeLine := Nat.le_trans h (by decide)
/-! ### the words by steps -/
def straight (near : Sz31.Bytes) (k : Nat) : Sz31.Bytes := if k = 1 then near else greats (k - 2) ++ (text "grand" ++ near)
def aside (near : Sz31.Bytes) (k : Nat) : Sz31.Bytes := if k = 2 then near else greats (k - 3) ++ (text "grand-" ++ near)
theorem lit_grand : ("grand" : Str) = S (text "grand") := by decide +kernel
theorem lit_grandH : ("grand-" : Str) = S (text "grand-") := by decide +kernel
theorem lit_cousin : (" cousin" : Str) = S (text " cousin") := by decide +kernel
theorem lit_distant : ("distant" : Str) = S (text "distant") := by decide +kernel
theorem lit_self : ("self" : Str) = S (text "self") := by decide +kernel
theorem lit_half : ("half-" : Str) = S (text "half-") := by decide +kernel
def spStraight : Sp := fun vs H Q _ => ∃ (near : Sz31.Bytes) (k : Nat), vs = [.str (S near), nv k] ∧ near.length ≤ 20 ∧ 1 ≤ k ∧ k ≤ 28 ∧ Q (.str (S (straight near k))) H
def spAside : Sp := fun vs H Q _ => ∃ (near : Sz31.Bytes) (k : Nat), vs = [.str (S near), nv k] ∧ near.length ≤ 20 ∧ 2 ≤ k ∧ k ≤ 28 ∧ Q (.str (S (aside near k))) H
section
variable {P : Program} {w : World} {K : PySem.W.Frag} {mg : Str → Option Value} {base : Heap}
theorem scStraight : FnScope ["near", "steps"] ["near", "steps"] (defScope sStraight) := ⟨rfl, rfl, rfl, by decide +kernel, rfl, by decide +kernel, by decide +kernel⟩
theorem ok_straight {f : Addr} {fd : FuncData} (F : Fun K "straight_word" "straight_word" sStraight f fd) : FnOk P w K mg base CX0 1 f fd ["near", "steps"] spStraight := by
  refine F.ok scStraight (fun vs H Q E h => ?_) (fun cdv A outer s H vs Q E hr h => ?_)
  · obtain ⟨near, k, rfl, _⟩ := h
    rfl
  · obtain ⟨near, n, rfl, hl, h1, h2, k⟩ := h
    refine ⟨_, pss_cons (ps_if (pt_cmpR op_eq (pv 1) pe_int (nomark _)) (pss_one (ps_ret (pv 0))) pss_nil) (pss_one (ps_ret (pe_op op_add_str (pe_op op_add_str (pe_op op_mul_str pe_str (pe_op op_sub (pv 1) pe_int)) pe_str) (pv 0)))), ?_⟩
    refine ⟨_, rfl, rfl, _, rfl, go_dec (fun h0 => ?_) (fun h0 => ?_)⟩
    · have h0 : n = 1 := nv_inj h0
      refine ⟨_, rfl, ?_⟩
      unfold straight at k
      rw [if_pos h0] at k
      exact k
    have h0 : n ≠ 1 := fun z => h0 (by rw [z]; rfl)
    have e : ((n : Int) - 2).toNat = n - 2 := by omega
    refine ⟨_, rfl, _, _, rfl, rfl, _, _, rfl, rfl, (by show (0 : Int) ≤ (n : Int) - 2; omega), (by show (n : Int) - 2 ≤ 1000; omega), (by decide +kernel), ?_⟩
    have lg : (rep "great-" ((n : Int) - 2).toNat).length ≤ 200 := by rw [e, rep_greats, S_len, KM.greats_len]; omega
    have l2 : ("grand" : Str).length = 5 := by decide +kernel
    refine ⟨_, _, rfl, rfl, fits (by show (rep "great-" ((n : Int) - 2).toNat).length + ("grand" : Str).length ≤ 1000; omega), _, rfl, _, _, rfl, rfl, fits (by show (rep "great-" ((n : Int) - 2).toNat ++ ("grand" : Str)).length + (S near).length ≤ 1000; rw [app_len, S_len]; omega), ?_⟩
    have fin : (rep "great-" ((n : Int) - 2).toNat ++ ("grand" : Str) ++ S near) = S (straight near n) := by
      rw [e, rep_greats, lit_grand, ← S_app, ← S_app]
      unfold straight
      rw [if_neg h0, List.append_assoc]
    show Q (.str (rep "great-" ((n : Int) - 2).toNat ++ ("grand" : Str) ++ S near)) H
    rw [fin]
    exact k
theorem scAside : FnScope ["near", "steps"] ["near", "steps"] (defScope sAside) := ⟨rfl, rfl, rfl, by decide +kernel, rfl, by decide +kernel, by decide +kernel⟩
theorem ok_aside {f : Addr} {fd : FuncData} (F : Fun K "aside_word" "aside_word" sAside f fd) : FnOk P w K mg base CX0 1 f fd ["near", "steps"] spAside := by
  refine F.ok scAside (fun vs H Q E h => ?_) (fun cdv A outer s H vs Q E hr h => ?_)
  · obtain ⟨near, k, rfl, _⟩ := h
    rfl
  · obtain ⟨near, n, rfl, hl, h1, h2, k⟩ := h
    refine ⟨_, pss_cons (ps_if (pt_cmpR op_eq (pv 1) pe_int (nomark _)) (pss_one (ps_ret (pv 0))) pss_nil) (pss_one (ps_ret (pe_op op_add_str (pe_op op_add_str (pe_op op_mul_str pe_str (pe_op op_sub (pv 1) pe_int)) pe_str) (pv 0)))), ?_⟩
    refine ⟨_, rfl, rfl, _, rfl, go_dec (fun h0 => ?_) (fun h0 => ?_)⟩
    · have h0 : n = 2 := nv_inj h0
      refine ⟨_, rfl, ?_⟩
      unfold aside at k
      rw [if_pos h0] at k
      exact k
    have h0 : n ≠ 2 := fun z => h0 (by rw [z]; rfl)
    have e : ((n : Int) - 3).toNat = n - 3 := by omega
    refine ⟨_, rfl, _, _, rfl, rfl, _, _, rfl, rfl, (by show (0 : Int) ≤ (n : Int) - 3; omega), (by show (n : Int) - 3 ≤ 1000; omega), (by decide +kernel), ?_⟩
    have lg : (rep "great-" ((n : Int) - 3).toNat).length ≤ 200 := by rw [e, rep_greats, S_len, KM.greats_len]; omega
    have l2 : ("grand-" : Str).length = 6 := by decide +kernel
    refine ⟨_, _, rfl, rfl, fits (by show (rep "great-" ((n : Int) - 3).toNat).length + ("grand-" : Str).length ≤ 1000; omega), _, rfl, _, _, rfl, rfl, fits (by show (rep "great-" ((n : Int) - 3).toNat ++ ("grand-" : Str)).length + (S near).length ≤ 1000; rw [app_len, S_len]; omega), ?_⟩
    have fin : (rep "great-" ((n : Int) - 3).toNat ++ ("grand-" : Str) ++ S near) = S (aside near n) := by
      rw [e, rep_greats, lit_grandH, ← S_app, ← S_app]
      unfold aside
      rw [if_neg h0, List.append_assoc]
    show Q (.str (rep "great-" ((n : Int) - 3).toNat ++ ("grand-" : Str) ++ S near)) H
    rw [fin]
    exact k
/-! ### cousins -/
def apartB (r : Nat) : Sz31.Bytes := if r = 0 then [] else text " " ++ (times r ++ text " removed")
def cous (m n : Nat) : Sz31.Bytes := ordinal (min m n - 1) ++ (text " cousin" ++ apartB (if m < n then n - m else m - n))
theorem ord_at {d : Nat} (h1 : 1 ≤ d) (h2 : d ≤ 20) : cousins[d - 1]? = some (ordinal d) := by
  have all : (List.range 21).all (fun d => decide (d = 0) || decide (cousins[d - 1]? = some (ordinal d))) = true := by decide +kernel
  have := List.all_eq_true.mp all d (List.mem_range.mpr (by omega))
  rw [Bool.or_eq_true, decide_eq_true_eq, decide_eq_true_eq] at this
  rcases this with z | z
  · omega
  · exact z
theorem ord_far {d : Nat} (h1 : 21 ≤ d) : ordinal d = text "distant" := by
  unfold ordinal
  rw [List.getD_eq_getElem?_getD, List.getElem?_eq_none (by show 21 ≤ d; exact h1)]
  rfl
theorem apart_at {r : Nat} (h : r < 4) : removeds[r]? = some (apartB r) := by
  have all : (List.range 4).all (fun r => decide (removeds[r]? = some (apartB r))) = true := by decide +kernel
  exact of_decide_eq_true (List.all_eq_true.mp all r (List.mem_range.mpr h))
theorem apart_far {r : Nat} (h1 : 4 ≤ r) (h2 : r ≤ 28) : (Str.empty ++ (" " : Str) ++ ((toString (r : Int) : String) : Str) ++ (" times removed" : Str)) = S (apartB r) := by
  have all : (List.range 29).all (fun r => decide (r < 4) || decide ((Str.empty ++ (" " : Str) ++ ((toString (r : Int) : String) : Str) ++ (" times removed" : Str)) = S (apartB r))) = true := by decide +kernel
  have := List.all_eq_true.mp all r (List.mem_range.mpr (by omega))
  rw [Bool.or_eq_true, decide_eq_true_eq, decide_eq_true_eq] at this
  rcases this with z | z
  · omega
  · exact z
theorem apart_len {r : Nat} (h : r ≤ 28) : (apartB r).length ≤ 40 := by
  unfold apartB
  split
  · exact Nat.zero_le _
  · rw [List.length_append, List.length_append, show (text " ").length = 1 by decide +kernel, show (text " removed").length = 8 by decide +kernel]
    have := KM.times_len h
    omega
theorem small28 {r : Nat} (h : r ≤ 28) : ((r : Nat) : Int).natAbs.log2 < 1920 := by
  have all : (List.range 29).all (fun r => decide (((r : Nat) : Int).natAbs.log2 < 1920)) = true := by decide +kernel
  exact of_decide_eq_true (List.all_eq_true.mp all r (List.mem_range.mpr (by omega)))
theorem short28 {r : Nat} (h : r ≤ 28) : (Str.empty ++ (" " : Str) ++ ((toString (r : Int) : String) : Str)).length ≤ sizeLine ∧ (Str.empty ++ (" " : Str) ++ ((toString (r : Int) : String) : Str) ++ (" times removed" : Str)).length ≤ sizeLine := by
  have all : (List.range 29).all (fun r => decide ((Str.empty ++ (" " : Str) ++ ((toString (r : Int) : String) : Str)).length ≤ 1000) && decide ((Str.empty ++ (" " : Str) ++ ((toString (r : Int) : String) : Str) ++ (" times removed" : Str)).length ≤ 1000)) = true := by decide +kernel
  have := List.all_eq_true.mp all r (List.mem_range.mpr (by omega))
  rw [Bool.and_eq_true, decide_eq_true_eq, decide_eq_true_eq] at this
  exact ⟨fits this.1, fits this.2⟩
def spCousin : Sp := fun vs H Q _ => ∃ m n : Nat, vs = [nv m, nv n] ∧ 2 ≤ m ∧ m ≤ 28 ∧ 2 ≤ n ∧ n ≤ 28 ∧ Q (.str (S (cous m n))) H
theorem b_abs : bootBuiltins "abs" = some (.builtin "abs") := by decide +kernel
theorem scCousin : FnScope ["m", "n", "degree", "degree_word", "removed", "removed_word"] ["m", "n"] (defScope sCousin) := ⟨rfl, rfl, rfl, by decide +kernel, rfl, by decide +kernel, by decide +kernel⟩
theorem ok_cousin {f : Addr} {fd : FuncData} (F : Fun K "cousin_word" "cousin_word" sCousin f fd) (T : TxtW K mg) : FnOk P w K mg base CX0 1 f fd ["m", "n"] spCousin := by
  obtain ⟨tc, hc, sc⟩ := T.cousin
  obtain ⟨tr, hrm, sr⟩ := T.removed
  refine F.ok scCousin (fun vs H Q E h => ?_) (fun cdv A outer s H vs Q E hr h => ?_)
  · obtain ⟨m, n, rfl, _⟩ := h
    rfl
  · obtain ⟨m, n, rfl, m1, m2, n1, n2, k⟩ := h
    refine ⟨_, pss_cons (ps_set (i := 2) scCousin.nd rfl (Or.inl rfl) (pe_op op_sub (pe_callB (call_min2 rfl) (by rfl) T.mn b_min (pa_cons (pv 0) (pa_cons (pv 1) pa_nil))) pe_int))
      (pss_cons (ps_set (i := 3) scCousin.nd rfl (Or.inl rfl) (pe_ifExp (pt_cmpR op_le (pv 2) (pe_callB call_len_seq (by rfl) T.len b_len (pa_cons (pe_glob (v := .ref tc) rfl hc rfl) pa_nil)) (nomark _)) (pe_ix ix_tup (pe_glob (v := .ref tc) rfl hc rfl) (pe_op op_sub (pv 2) pe_int) (fun _ _ => rfl)) pe_str))
      (pss_cons (ps_set (i := 4) scCousin.nd rfl (Or.inl rfl) (pe_callB call_abs (by rfl) T.abs b_abs (pa_cons (pe_op op_sub (pv 0) (pv 1)) pa_nil)))
      (pss_cons (ps_set (i := 5) scCousin.nd rfl (Or.inl rfl) (pe_ifExp (pt_cmpR op_lt (pv 4) (pe_callB call_len_seq (by rfl) T.len b_len (pa_cons (pe_glob (v := .ref tr) rfl hrm rfl) pa_nil)) (nomark _)) (pe_ix ix_tup (pe_glob (v := .ref tr) rfl hrm rfl) (pv 4) (fun _ _ => rfl)) (pe_fstr (pv 4) (by decide +kernel))))
      (pss_one (ps_ret (pe_op op_add_str (pe_op op_add_str (pv 3) pe_str) (pv 5))))))), ?_⟩
    have ed : (if (n : Int) < (m : Int) then (n : Int) else (m : Int)) - 1 = ((min m n - 1 : Nat) : Int) := by split <;> omega
    have er : (if (m : Int) - (n : Int) < 0 then -((m : Int) - (n : Int)) else (m : Int) - (n : Int)) = ((if m < n then n - m else m - n : Nat) : Int) := by split <;> split <;> omega
    have d1 : 1 ≤ min m n - 1 := by omega
    have d2 : min m n - 1 ≤ 27 := by omega
    have r2 : (if m < n then n - m else m - n) ≤ 28 := by split <;> omega
    have last : ∀ (w3 w5 : Str), w3 = S (ordinal (min m n - 1)) → w5 = S (apartB (if m < n then n - m else m - n)) → ∃ i j, (V.str w3 = V.str i ∧ V.str (" cousin" : Str) = V.str j ∧ i.length + j.length ≤ sizeLine ∧ ∃ i' j', V.str (i ++ j) = V.str i' ∧ V.str w5 = V.str j' ∧ i'.length + j'.length ≤ sizeLine ∧ Q (.str (i' ++ j')) H) := fun w3 w5 e3 e5 => by
      have l1 := KM.ordinal_len (min m n - 1)
      have l2 := apart_len r2
      have l3 : (" cousin" : Str).length = 7 := by decide +kernel
      refine ⟨w3, " cousin", rfl, rfl, fits (by rw [e3, S_len, l3]; omega), _, _, rfl, rfl, fits (by rw [app_len, e3, e5, S_len, S_len, l3]; omega), ?_⟩
      have fin : w3 ++ (" cousin" : Str) ++ w5 = S (cous m n) := by
        rw [e3, e5, lit_cousin, ← S_app, ← S_app]
        unfold cous
        rw [List.append_assoc]
      rw [fin]
      exact k
    refine ⟨_, rfl, _, rfl, (m : Int), (n : Int), rfl, _, _, rfl, rfl, ?_⟩
    refine ⟨_, rfl, tc, _, rfl, .inr (sc H), _, _, rfl, rfl, _, rfl, go_dec (fun h1 => ⟨_, rfl, _, _, rfl, rfl, tc, _, _, V.str (S (ordinal (min m n - 1))), rfl, rfl, sc H, ?_, ?_⟩) (fun h1 => ?_)⟩
    · have h1 : (if (n : Int) < (m : Int) then (n : Int) else (m : Int)) - 1 ≤ 20 := h1
      rw [ed] at h1
      have : (if (n : Int) < (m : Int) then (n : Int) else (m : Int)) - 1 - 1 = ((min m n - 1 - 1 : Nat) : Int) := by rw [ed]; omega
      rw [this]
      exact word_at (ord_at d1 (by omega))
    · generalize hw3 : S (ordinal (min m n - 1)) = w3
      refine ⟨_, rfl, _, rfl, _, _, rfl, rfl, _, rfl, ?_⟩
      refine ⟨_, rfl, tr, _, rfl, .inr (sr H), _, _, rfl, rfl, _, rfl, go_dec (fun h2 => ⟨_, rfl, tr, _, _, V.str (S (apartB (if m < n then n - m else m - n))), rfl, rfl, sr H, ?_, ?_⟩) (fun h2 => ⟨_, rfl, _, rfl, ?_, ?_, ?_, ?_⟩)⟩
      · have h2 : (if (m : Int) - (n : Int) < 0 then -((m : Int) - (n : Int)) else (m : Int) - (n : Int)) < 4 := h2
        rw [er] at h2 ⊢
        exact word_at (apart_at (by omega))
      · obtain ⟨i, j, e1, e2, l, i', j', e3, e4, l', q⟩ := last w3 (S (apartB (if m < n then n - m else m - n))) hw3.symm rfl
        exact ⟨_, rfl, i, j, e1, e2, l, _, rfl, i', j', e3, e4, l', q⟩
      · rw [er]; exact small28 r2
      · have : ((if m < n then n - m else m - n : Nat) : Int) = (if (m : Int) - (n : Int) < 0 then -((m : Int) - (n : Int)) else (m : Int) - (n : Int)) := er.symm
        rw [← this]
        exact (short28 r2).1
      · rw [er]; exact (short28 r2).2
      · have h2 : ¬ (if (m : Int) - (n : Int) < 0 then -((m : Int) - (n : Int)) else (m : Int) - (n : Int)) < 4 := h2
        rw [er] at h2 ⊢
        obtain ⟨i, j, e1, e2, l, i', j', e3, e4, l', q⟩ := last w3 _ hw3.symm (apart_far (by omega) r2)
        exact ⟨_, rfl, i, j, e1, e2, l, _, rfl, i', j', e3, e4, l', q⟩
    · have h1 : ¬ (if (n : Int) < (m : Int) then (n : Int) else (m : Int)) - 1 ≤ 20 := h1
      rw [ed] at h1
      have hw3 : S (ordinal (min m n - 1)) = ("distant" : Str) := by rw [ord_far (by omega), lit_distant]
      show gName 3 (V.str ("distant" : Str)) _ _ _
      generalize ("distant" : Str) = w3 at hw3 ⊢
      refine ⟨_, rfl, _, rfl, _, _, rfl, rfl, _, rfl, ?_⟩
      refine ⟨_, rfl, tr, _, rfl, .inr (sr H), _, _, rfl, rfl, _, rfl, go_dec (fun h2 => ⟨_, rfl, tr, _, _, V.str (S (apartB (if m < n then n - m else m - n))), rfl, rfl, sr H, ?_, ?_⟩) (fun h2 => ⟨_, rfl, _, rfl, ?_, ?_, ?_, ?_⟩)⟩
      · have h2 : (if (m : Int) - (n : Int) < 0 then -((m : Int) - (n : Int)) else (m : Int) - (n : Int)) < 4 := h2
        rw [er] at h2 ⊢
        exact word_at (apart_at (by omega))
      · obtain ⟨i, j, e1, e2, l, i', j', e3, e4, l', q⟩ := last w3 (S (apartB (if m < n then n - m else m - n))) hw3.symm rfl
        exact ⟨_, rfl, i, j, e1, e2, l, _, rfl, i', j', e3, e4, l', q⟩
      · rw [er]; exact small28 r2
      · have : ((if m < n then n - m else m - n : Nat) : Int) = (if (m : Int) - (n : Int) < 0 then -((m : Int) - (n : Int)) else (m : Int) - (n : Int)) := er.symm
        rw [← this]
        exact (short28 r2).1
      · rw [er]; exact (short28 r2).2
      · have h2 : ¬ (if (m : Int) - (n : Int) < 0 then -((m : Int) - (n : Int)) else (m : Int) - (n : Int)) < 4 := h2
        rw [er] at h2 ⊢
        obtain ⟨i, j, e1, e2, l, i', j', e3, e4, l', q⟩ := last w3 _ hw3.symm (apart_far (by omega) r2)
        exact ⟨_, rfl, i, j, e1, e2, l, _, rfl, i', j', e3, e4, l', q⟩
/-! ### branch_word, blood_word -/
def branch (m n sex : Nat) : Sz31.Bytes := if m = 1 ∧ n = 1 then pick sex "sister" "brother" "sibling" else if n = 1 then aside (pick sex "aunt" "uncle" "parent's sibling") m else if m = 1 then aside (pick sex "niece" "nephew" "sibling's child") n else cous m n
def spBranch : Sp := fun vs H Q _ => ∃ m n sex : Nat, vs = [nv m, nv n, nv sex] ∧ 1 ≤ m ∧ m ≤ 28 ∧ 1 ≤ n ∧ n ≤ 28 ∧ sex ≤ 2 ∧ Q (.str (S (branch m n sex))) H
theorem scBranch : FnScope ["m", "n", "sex"] ["m", "n", "sex"] (defScope sBranch) := ⟨rfl, rfl, rfl, by decide +kernel, rfl, by decide +kernel, by decide +kernel⟩
theorem ok_branch {f : Addr} {fd : FuncData} (F : Fun K "branch_word" "branch_word" sBranch f fd) (T : TxtW K mg) (ca : Callee P w K mg base 1 "aside_word" ["near", "steps"] spAside) (cc : Callee P w K mg base 1 "cousin_word" ["m", "n"] spCousin) : FnOk P w K mg base CX0 2 f fd ["m", "n", "sex"] spBranch := by
  obtain ⟨t1, h1, q1⟩ := T.sibling
  obtain ⟨t2, h2, q2⟩ := T.aunt
  obtain ⟨t3, h3, q3⟩ := T.niece
  obtain ⟨f1, fd1, G1, m1, k1, b1⟩ := ca.ex
  obtain ⟨f2, fd2, G2, m2, k2, b2⟩ := cc.ex
  refine F.ok scBranch (fun vs H Q E h => ?_) (fun cdv A outer s H vs Q E hr h => ?_)
  · obtain ⟨m, n, sex, rfl, _⟩ := h
    rfl
  · obtain ⟨m, n, sex, rfl, a1, a2, a3, a4, hs, k⟩ := h
    refine ⟨_, pss_cons (ps_if (PW.pt (pw_and (pt_cmpR op_eq (pv 0) pe_int (nomark _)) (pw_and1 (pt_cmpR op_eq (pv 1) pe_int (nomark _))))) (pss_one (ps_ret (pe_ix ix_tup (pe_glob (v := .ref t1) rfl h1 rfl) (pv 2) (fun _ _ => rfl)))) pss_nil)
      (pss_cons (ps_if (pt_cmpR op_eq (pv 1) pe_int (nomark _)) (pss_one (ps_ret (pe_call G1 hr rfl m1 k1 b1 .nil pass0 (pa_cons (pe_ix ix_tup (pe_glob (v := .ref t2) rfl h2 rfl) (pv 2) (fun _ _ => rfl)) (pa_cons (pv 0) pa_nil))))) pss_nil)
      (pss_cons (ps_if (pt_cmpR op_eq (pv 0) pe_int (nomark _)) (pss_one (ps_ret (pe_call G1 hr rfl m1 k1 b1 .nil pass0 (pa_cons (pe_ix ix_tup (pe_glob (v := .ref t3) rfl h3 rfl) (pv 2) (fun _ _ => rfl)) (pa_cons (pv 1) pa_nil))))) pss_nil)
      (pss_one (ps_ret (pe_call G2 hr rfl m2 k2 b2 .nil pass0 (pa_cons (pv 0) (pa_cons (pv 1) pa_nil))))))), ?_⟩
    unfold branch at k
    -- behind the first test
    have two : (m = 1 ∧ n = 1 → False) → ∃ v, some (nv n) = some v ∧ True := fun _ => ⟨_, rfl, trivial⟩
    refine ⟨_, rfl, rfl, _, rfl, go_dec (fun e1 => ?_) (fun e1 => ?_)⟩
    · have e1 : m = 1 := nv_inj e1
      refine ⟨_, rfl, rfl, _, rfl, go_dec (fun e2 => ?_) (fun e2 => ?_)⟩
      · have e2 : n = 1 := nv_inj e2
        rw [if_pos ⟨e1, e2⟩] at k
        exact ⟨_, rfl, t1, _, _, _, rfl, rfl, q1 H, word_at (three_at hs), k⟩
      · have e2 : n ≠ 1 := fun z => e2 (by rw [z]; rfl)
        rw [if_neg (fun z => e2 z.2), if_neg e2, if_pos e1] at k
        refine ⟨_, rfl, rfl, _, rfl, go_dec (fun e3 => absurd (nv_inj e3) e2) (fun _ => ?_)⟩
        refine ⟨_, rfl, rfl, _, rfl, go_dec (fun _ => ?_) (fun e3 => absurd (by rw [e1]; rfl) e3)⟩
        exact ⟨_, rfl, t3, _, _, _, rfl, rfl, q3 H, word_at (three_at hs), _, rfl, _, n, rfl, pick_short, by omega, a4, k⟩
    · have e1 : m ≠ 1 := fun z => e1 (by rw [z]; rfl)
      refine go_ite (fun h => Bool.noConfusion h) (fun _ => ?_)
      refine ⟨_, rfl, rfl, _, rfl, go_dec (fun e2 => ?_) (fun e2 => ?_)⟩
      · have e2 : n = 1 := nv_inj e2
        rw [if_neg (fun z => e1 z.1), if_pos e2] at k
        exact ⟨_, rfl, t2, _, _, _, rfl, rfl, q2 H, word_at (three_at hs), _, rfl, _, m, rfl, pick_short, by omega, a2, k⟩
      · have e2 : n ≠ 1 := fun z => e2 (by rw [z]; rfl)
        rw [if_neg (fun z => e1 z.1), if_neg e2, if_neg e1] at k
        refine ⟨_, rfl, rfl, _, rfl, go_dec (fun e3 => absurd (nv_inj e3) e1) (fun _ => ?_)⟩
        exact ⟨_, rfl, _, rfl, m, n, rfl, by omega, a2, by omega, a4, k⟩
theorem blood_branch {m n sex : Nat} {half : Bool} (h1 : m ≠ 0) (h2 : n ≠ 0) : blood m n sex half = (if half = true then text "half-" else []) ++ branch m n sex := by
  unfold blood branch
  dsimp only
  rw [if_neg (fun z => h1 z.1), if_neg h2, if_neg h1]
  by_cases c1 : m = 1 ∧ n = 1
  · rw [if_pos c1, if_pos c1]
  rw [if_neg c1, if_neg c1]
  by_cases c2 : n = 1
  · rw [if_pos c2, if_pos c2]
    unfold aside
    by_cases c : m = 2
    · rw [if_pos c, if_pos c, List.nil_append]
    · rw [if_neg c, if_neg c, List.append_assoc (greats (m - 3))]
  rw [if_neg c2, if_neg c2]
  by_cases c3 : m = 1
  · rw [if_pos c3, if_pos c3]
    unfold aside
    by_cases c : n = 2
    · rw [if_pos c, if_pos c, List.nil_append]
    · rw [if_neg c, if_neg c, List.append_assoc (greats (n - 3))]
  rw [if_neg c3, if_neg c3]
  rfl
theorem blood_up {m sex : Nat} {half : Bool} (h1 : m ≠ 0) : blood m 0 sex half = straight (pick sex "mother" "father" "parent") m := by
  unfold blood straight
  dsimp only
  rw [if_neg (fun z => h1 z.1), if_pos rfl]
  by_cases c : m = 1
  · rw [if_pos c, if_pos c]
  rw [if_neg c, if_neg c]
  refine congrArg (greats (m - 2) ++ ·) ?_
  unfold pick
  split
  · decide +kernel
  · split
    · decide +kernel
    · decide +kernel
theorem blood_down {n sex : Nat} {half : Bool} (h1 : n ≠ 0) : blood 0 n sex half = straight (pick sex "daughter" "son" "child") n := by
  unfold blood straight
  dsimp only
  rw [if_neg (fun z => h1 z.2), if_neg h1, if_pos rfl]
  by_cases c : n = 1
  · rw [if_pos c, if_pos c]
  rw [if_neg c, if_neg c]
  refine congrArg (greats (n - 2) ++ ·) ?_
  unfold pick
  split
  · decide +kernel
  · split
    · decide +kernel
    · decide +kernel
theorem branch_len {m n sex : Nat} (hm : m ≤ 28) (hn : n ≤ 28) (h1 : m ≠ 0) (h2 : n ≠ 0) : (branch m n sex).length ≤ 300 := by
  have h := KM.blood_len (m := m) (n := n) (sex := sex) (half := false) hm hn
  rw [blood_branch h1 h2, if_neg Bool.false_ne_true, List.nil_append] at h
  exact h
def spBlood : Sp := fun vs H Q _ => ∃ (m n sex : Nat) (half : Bool), vs = [nv m, nv n, .bl half, nv sex] ∧ m ≤ 28 ∧ n ≤ 28 ∧ sex ≤ 2 ∧ Q (.str (S (blood m n sex half))) H
theorem scBlood : FnScope ["m", "n", "half", "sex", "word"] ["m", "n", "half", "sex"] (defScope sBlood) := ⟨rfl, rfl, rfl, by decide +kernel, rfl, by decide +kernel, by decide +kernel⟩
theorem ok_blood {f : Addr} {fd : FuncData} (F : Fun K "blood_word" "blood_word" sBlood f fd) (T : TxtW K mg) (cs : Callee P w K mg base 1 "straight_word" ["near", "steps"] spStraight) (cb : Callee P w K mg base 2 "branch_word" ["m", "n", "sex"] spBranch) : FnOk P w K mg base CX0 3 f fd ["m", "n", "half", "sex"] spBlood := by
  obtain ⟨t1, h1, q1⟩ := T.parent
  obtain ⟨t2, h2, q2⟩ := T.child
  obtain ⟨f1, fd1, G1, m1, k1, b1⟩ := cs.ex
  obtain ⟨f2, fd2, G2, m2, k2, b2⟩ := cb.ex
  refine F.ok scBlood (fun vs H Q E h => ?_) (fun cdv A outer s H vs Q E hr h => ?_)
  · obtain ⟨m, n, sex, half, rfl, _⟩ := h
    rfl
  · obtain ⟨m, n, sex, half, rfl, a1, a2, hs, k⟩ := h
    have hr1 : Room 1 _ := hr.mono (by decide)
    refine ⟨_, pss_cons (ps_if (PW.pt (pw_and (pt_cmpR op_eq (pv 0) pe_int (nomark _)) (pw_and1 (pt_cmpR op_eq (pv 1) pe_int (nomark _))))) (pss_one (ps_ret pe_str)) pss_nil)
      (pss_cons (ps_if (pt_cmpR op_eq (pv 1) pe_int (nomark _)) (pss_one (ps_ret (pe_call G1 hr1 rfl m1 k1 b1 .nil pass0 (pa_cons (pe_ix ix_tup (pe_glob (v := .ref t1) rfl h1 rfl) (pv 3) (fun _ _ => rfl)) (pa_cons (pv 0) pa_nil))))) pss_nil)
      (pss_cons (ps_if (pt_cmpR op_eq (pv 0) pe_int (nomark _)) (pss_one (ps_ret (pe_call G1 hr1 rfl m1 k1 b1 .nil pass0 (pa_cons (pe_ix ix_tup (pe_glob (v := .ref t2) rfl h2 rfl) (pv 3) (fun _ _ => rfl)) (pa_cons (pv 1) pa_nil))))) pss_nil)
      (pss_cons (ps_set (i := 4) scBlood.nd rfl (Or.inl rfl) (pe_call G2 hr rfl m2 k2 b2 .nil pass0 (pa_cons (pv 0) (pa_cons (pv 1) (pa_cons (pv 3) pa_nil)))))
      (pss_one (ps_ret (pe_ifExp (pt_val (pv 2)) (pe_op op_add_str pe_str (pv 4)) (pv 4))))))), ?_⟩
    have rest : m ≠ 0 → n ≠ 0 → Q (.str (S ((if half = true then text "half-" else []) ++ branch m n sex))) H := fun e1 e2 => by rw [← blood_branch e1 e2]; exact k
    refine ⟨_, rfl, rfl, _, rfl, go_dec (fun e1 => ?_) (fun e1 => ?_)⟩
    · have e1 : m = 0 := nv_inj e1
      refine ⟨_, rfl, rfl, _, rfl, go_dec (fun e2 => ?_) (fun e2 => ?_)⟩
      · have e2 : n = 0 := nv_inj e2
        rw [e1, e2] at k
        show Q (.str ("self" : Str)) H
        rw [lit_self]
        exact k
      · have e2 : n ≠ 0 := fun z => e2 (by rw [z]; rfl)
        rw [e1, blood_down e2] at k
        refine ⟨_, rfl, rfl, _, rfl, go_dec (fun e3 => absurd (nv_inj e3) e2) (fun _ => ?_)⟩
        refine ⟨_, rfl, rfl, _, rfl, go_dec (fun _ => ?_) (fun e3 => absurd (by rw [e1]; rfl) e3)⟩
        exact ⟨_, rfl, t2, _, _, _, rfl, rfl, q2 H, word_at (three_at hs), _, rfl, _, n, rfl, pick_short, by omega, a2, k⟩
    · have e1 : m ≠ 0 := fun z => e1 (by rw [z]; rfl)
      refine go_ite (fun h => Bool.noConfusion h) (fun _ => ?_)
      refine ⟨_, rfl, rfl, _, rfl, go_dec (fun e2 => ?_) (fun e2 => ?_)⟩
      · have e2 : n = 0 := nv_inj e2
        rw [e2, blood_up e1] at k
        exact ⟨_, rfl, t1, _, _, _, rfl, rfl, q1 H, word_at (three_at hs), _, rfl, _, m, rfl, pick_short, by omega, a1, k⟩
      · have e2 : n ≠ 0 := fun z => e2 (by rw [z]; rfl)
        have lb := branch_len (sex := sex) a1 a2 e1 e2
        refine ⟨_, rfl, rfl, _, rfl, go_dec (fun e3 => absurd (nv_inj e3) e1) (fun _ => ?_)⟩
        refine ⟨_, rfl, _, rfl, _, rfl, m, n, sex, rfl, by omega, a1, by omega, a2, hs, ?_⟩
        refine ⟨_, rfl, half, rfl, go_ite (fun c => ?_) (fun c => ?_)⟩
        · refine ⟨_, rfl, _, _, rfl, rfl, fits (by rw [S_len, show ("half-" : Str).length = 5 by decide +kernel]; omega), ?_⟩
          have := rest e1 e2
          rw [if_pos c, S_app, ← lit_half] at this
          exact this
        · have := rest e1 e2
          rw [if_neg (by rw [c]; exact Bool.false_ne_true), List.nil_append] at this
          exact ⟨_, rfl, this⟩
end
end Kin
set_option Elab.async false
set_option linter.all false
set_option maxRecDepth 100000
set_option maxHeartbeats 2000000
namespace Kin
open PySem PySem.Spec PyProof.Rows L2
open Sz31 (text pick blood byBlood partnersOf)
abbrev sByBlood : Stmt := top 39
abbrev sByPart : Stmt := top 40
abbrev sWordFor : Stmt := top 41
/-! ### partners_of -/
theorem same_any (l : List (Nat × Nat)) (a b : Nat) : l.any (Sz31.same (a : Int) (b : Int)) = (l.contains (a, b) || l.contains (b, a)) := by
  rw [Bool.eq_iff_iff, List.any_eq_true, Bool.or_eq_true, List.contains_iff_mem, List.contains_iff_mem]
  unfold Sz31.same
  simp only [Bool.or_eq_true, Bool.and_eq_true, beq_iff_eq, Int.toNat_natCast]
  constructor
  · rintro ⟨⟨x, y⟩, h, ⟨e1, e2⟩ | ⟨e1, e2⟩⟩
    · exact .inl (by rw [← e1, ← e2]; exact h)
    · exact .inr (by rw [← e1, ← e2]; exact h)
  · rintro (h | h)
    · exact ⟨_, h, .inl ⟨rfl, rfl⟩⟩
    · exact ⟨_, h, .inr ⟨rfl, rfl⟩⟩
theorem partners_has (s : Sz31.St) {a b : Nat} (hb : b < s.persons.length) : (partnersOf s a).contains b = s.partners.any (Sz31.same (a : Int) (b : Int)) := by
  rw [same_any, Bool.eq_iff_iff, List.contains_iff_mem]
  unfold partnersOf
  rw [List.mem_filter, List.mem_range]
  exact ⟨fun h => h.2, fun h => ⟨hb, h⟩⟩
def spPartners (C : Addr) : Sp := fun vs H Q _ => ∃ (p : Addr) (s : Sz31.St) (fp : List Addr) (a : Nat), vs = [.ref p, nv a] ∧ Fam C H p s fp ∧ ∀ (H' : Hp) (l : Addr), Same H H' → H l = none → H' l = some (.lst ((partnersOf s a).map nv)) → Q (.ref l) H'
section
variable {P : Program} {w : World} {K : PySem.W.Frag} {mg : Str → Option Value} {base : Heap} {C N : Addr}
theorem scPartners : FnScope ["self", "a", "other"] ["self", "a"] (defScope sPartners) := ⟨rfl, rfl, rfl, by decide +kernel, rfl, by decide +kernel, by decide +kernel⟩
theorem ok_partners {f : Addr} {fd : FuncData} (F : Fun K "partners_of" "Family.partners_of" sPartners f fd) (T : Txt K mg C) (hRange : mg "range" = none) (ma : Mth P w K mg base C 2 "are_partners" ["self", "a", "b"] (spAre C)) : FnOk P w K mg base CX0 3 f fd ["self", "a"] (spPartners C) := by
  obtain ⟨f3, fd3, G3, m3, b3⟩ := ma.ex
  refine F.ok scPartners (fun vs H Q E h => ?_) (fun cdv A outer s H vs Q E hr h => ?_)
  · obtain ⟨p, s, fp, a, rfl, _⟩ := h
    rfl
  · obtain ⟨p, s0, fp, a, rfl, FF, k⟩ := h
    obtain ⟨W, aS, aP, aC, aD, dx, ps, cs, kids, X⟩ := id FF
    refine ⟨_, pss_one (ps_ret (pe_lc (own := [("other", 2)]) rfl scPartners.nd (pi_range1 rfl hRange (pa_cons (pe_callB call_len_seq (by rfl) T.len b_len (pa_cons (pe_fld (pv 0) rfl) pa_nil)) pa_nil)) (blkOk_by (by show blkC ["self", "a", "other"] (defScope sPartners) _ _ = true; decide +kernel))
      (fun s H C cl fp => pg_name (i := 2) scPartners.nd rfl (Or.inl rfl)) (fun s H C' cl fp => pts_one (pt_val (pe_meth (pv 0) T.cl m3 G3 hr b3 .nil pass0 (pa_cons (pv 1) (pa_cons (pv 2) pa_nil))))) (fun s H C cl fp => pv 2))), ?_⟩
    have few := W.few
    refine ⟨_, rfl, p, C, dx, _, _, rfl, X.ins, T.cl, T.nS, ff_sexes _ _ _ _, aS, _, rfl, .inl (SqL.of X.sex), _, rfl, ?_, ?_, fun D hD => ?_⟩
    · rw [List.length_map]; omega
    · rw [List.length_map]; omega
    have noAre := ff_no aS aP aC aD (m := "are_partners") (by decide +kernel) (by decide +kernel) (by decide +kernel) (by decide +kernel)
    have en : (((s0.persons.map fun q => nv q.sex).length : Nat) : Int).toNat = s0.persons.length := by rw [List.length_map]; omega
    rw [en]
    refine lc_range (lo := 0) (n := s0.persons.length) (fun j H' => Same H H' ∧ H' D = some (.lst (((List.range j).filter fun b => s0.partners.contains (a, b) || s0.partners.contains (b, a)).map nv))) ⟨fun b o e => by rw [upd_ne (ne_of_none e hD)]; exact e, by rw [upd_same]; rfl⟩ ?_ ?_
    · rintro j H1 hj ⟨s1, h1⟩
      have ej : V.int (0 + (j : Int)) = nv j := by rw [Int.zero_add]; rfl
      rw [ej]
      refine ⟨rfl, _, rfl, p, dx, _, rfl, s1 _ _ X.ins, noAre, _, rfl, _, rfl, p, s0, fp, (a : Int), (j : Int), rfl, FF.same s1, by omega, by omega, fun H2 s2 => ⟨_, rfl, ?_⟩⟩
      rw [same_any, List.range_succ, List.filter_append, List.filter_cons, List.filter_nil]
      refine go_ite (fun hc => ?_) (fun hc => ?_)
      · rw [if_pos hc]
        refine ⟨_, rfl, _, s2 _ _ h1, ?_, fun b o e => ?_, ?_⟩
        · rw [List.length_map]
          refine Nat.lt_of_le_of_lt (Nat.le_trans (List.length_filter_le _ _) ?_) (show 1024 < sizeLine by decide)
          rw [List.length_range]; omega
        · rw [upd_ne (ne_of_none e hD)]; exact s2 _ _ (s1 _ _ e)
        · rw [upd_same, List.map_append]; rfl
      · rw [if_neg (by rw [hc]; exact Bool.false_ne_true), List.append_nil]
        exact ⟨s1.trans s2, s2 _ _ h1⟩
    · rintro H1 ⟨s1, h1⟩
      exact k H1 D s1 hD h1
/-! ### word_by_blood -/
def wordV : Option Sz31.Bytes → V
  | some t => .str (S t)
  | none => .non
def spByBlood (C : Addr) : Sp := fun vs H Q _ => ∃ (p : Addr) (s : Sz31.St) (fp : List Addr) (a b : Nat), vs = [.ref p, nv a, nv b] ∧ Fam C H p s fp ∧ a < s.persons.length ∧ b < s.persons.length ∧ ∀ H', Same H H' → Q (wordV (byBlood s a b)) H'
theorem sex_at {C : Addr} {H : Hp} {p : Addr} {s : Sz31.St} {fp : List Addr} {aS aP aC aD dx : Addr} {ps cs : List Addr} {kids : List (List Nat)} (X : FamX C H p s fp aS aP aC aD dx ps cs kids) {b : Nat} (hb : b < s.persons.length) : (s.persons.map fun q => nv q.sex)[b]? = some (nv (s.get b).sex) := by
  rw [List.getElem?_map, List.getElem?_eq_getElem hb]
  unfold Sz31.St.get
  rw [List.getD_eq_getElem?_getD, List.getElem?_eq_getElem hb]
  rfl
theorem scByBlood : FnScope ["family", "a", "b", "up_a", "up_b", "nearest", "half"] ["family", "a", "b"] (defScope sByBlood) := ⟨rfl, rfl, rfl, by decide +kernel, rfl, by decide +kernel, by decide +kernel⟩
theorem ok_byBlood {f : Addr} {fd : FuncData} (F : Fun K "word_by_blood" "word_by_blood" sByBlood f fd) (T : Txt K mg C) (TN : TxtN K mg N) (cf : Callee P w K mg base 2 "fewest_steps" ["links", "start"] spFewest) (cn : Callee P w K mg base 3 "nearest_common" ["up_a", "up_b"] (spNearest N))
    (ch : Callee P w K mg base 1 "is_half" ["family", "nearest", "up_a", "up_b"] (spHalf C N)) (cb : Callee P w K mg base 3 "blood_word" ["m", "n", "half", "sex"] spBlood) : FnOk P w K mg base CX0 4 f fd ["family", "a", "b"] (spByBlood C) := by
  obtain ⟨f1, fd1, G1, m1, k1, b1⟩ := cf.ex
  obtain ⟨f2, fd2, G2, m2, k2, b2⟩ := cn.ex
  obtain ⟨f3, fd3, G3, m3, k3, b3⟩ := ch.ex
  obtain ⟨f4, fd4, G4, m4, k4, b4⟩ := cb.ex
  refine F.ok scByBlood (fun vs H Q E h => ?_) (fun cdv A outer s H vs Q E hr h => ?_)
  · obtain ⟨p, s, fp, a, b, rfl, _⟩ := h
    rfl
  · obtain ⟨p, s0, fp, a, b, rfl, FF, ha, hb, k⟩ := h
    obtain ⟨W, aS, aP, aC, aD, dx, ps, cs, kids, X⟩ := id FF
    have hr1 : Room 1 _ := hr.mono (by decide)
    have hr2 : Room 2 _ := hr.mono (by decide)
    refine ⟨_, pss_cons (ps_set (i := 3) scByBlood.nd rfl (Or.inl rfl) (pe_call G1 hr2 rfl m1 k1 b1 .nil pass0 (pa_cons (pe_fld (pv 0) rfl) (pa_cons (pv 1) pa_nil))))
      (pss_cons (ps_set (i := 4) scByBlood.nd rfl (Or.inl rfl) (pe_call G1 hr2 rfl m1 k1 b1 .nil pass0 (pa_cons (pe_fld (pv 0) rfl) (pa_cons (pv 2) pa_nil))))
      (pss_cons (ps_set (i := 5) scByBlood.nd rfl (Or.inl rfl) (pe_call G2 hr rfl m2 k2 b2 .nil pass0 (pa_cons (pv 3) (pa_cons (pv 4) pa_nil))))
      (pss_cons (ps_if (pt_cmpR op_isN (pv 5) pe_non (nomark _)) (pss_one (ps_ret pe_non)) pss_nil)
      (pss_cons (ps_set (i := 6) scByBlood.nd rfl (Or.inl rfl) (pe_call G3 hr1 rfl m3 k3 b3 .nil pass0 (pa_cons (pv 0) (pa_cons (pv 5) (pa_cons (pv 3) (pa_cons (pv 4) pa_nil))))))
      (pss_one (ps_ret (pe_call G4 hr rfl m4 k4 b4 .nil pass0 (pa_cons (pe_fld (pv 5) rfl) (pa_cons (pe_fld (pv 5) rfl) (pa_cons (pv 6) (pa_cons (pe_ix ix_list (pe_fld (pv 0) rfl) (pv 2) (fun _ _ => rfl)) pa_nil))))))))))), ?_⟩
    have deep : ∀ i, KM.reach (rowOf (s0.persons.map (·.parents))) 29 i = [] := fun i => by rw [par_row_fun]; exact W.deep i
    have hlen : (s0.persons.map (·.parents)).length = s0.persons.length := List.length_map _
    refine ⟨_, rfl, p, C, dx, _, _, rfl, X.ins, T.cl, T.nP, ff_parents _ _ _ _, _, rfl, aP, a, ps, _, rfl, X.par, within_par W, by rw [hlen]; exact ha, deep a, fun H1 da Da s1 hda0 hda Fa => ?_⟩
    rw [par_row_fun] at Fa
    refine ⟨_, rfl, p, C, dx, _, _, rfl, s1 _ _ X.ins, T.cl, T.nP, ff_parents _ _ _ _, _, rfl, aP, b, ps, _, rfl, X.par.same s1, within_par W, by rw [hlen]; exact hb, deep b, fun H2 db Db s2 hdb0 hdb Fb => ?_⟩
    rw [par_row_fun] at Fb
    have hne : da ≠ db := ne_of_none hda hdb0
    have s12 : Same H H2 := s1.trans s2
    refine ⟨_, rfl, _, rfl, da, db, Da, Db, s0, a, b, rfl, s2 _ _ hda, hdb, hne, W, Fa, Fb, ha, hb, fun hnone H3 s3 => ?_, fun H3 q dq l m n s3 hq0 hq hl nr => ?_⟩
    · refine ⟨_, rfl, rfl, _, rfl, go_dec (fun _ => ?_) (fun z => absurd rfl z)⟩
      have e : byBlood s0 a b = none := by unfold byBlood; rw [hnone]; rfl
      have := k H3 (s12.trans s3)
      rw [e] at this
      exact this
    refine ⟨_, rfl, rfl, _, rfl, go_dec (fun z => nomatch z) (fun _ => ?_)⟩
    have s13 : Same H H3 := s12.trans s3
    obtain ⟨c, hc⟩ := nr.com
    have e : byBlood s0 a b = some (blood m n (s0.get b).sex (Sz31.isHalf s0 a b m n (KM.coms s0 a b m n))) := by
      unfold byBlood
      rw [KM.nearest_of W ha nr]
      rfl
    refine ⟨_, rfl, _, rfl, _, rfl, _, rfl, p, q, da, db, dq, l, Da, Db, s0, fp, a, b, m, n, rfl, FF.same s13, hq, hl, s3 _ _ (s2 _ _ hda), s3 _ _ hdb, Fa, Fb, ha, hb, nr, ?_⟩
    refine ⟨_, rfl, q, N, dq, _, _, rfl, hq, TN.cl, TN.nM, nf_m _ _ _, _, rfl, q, N, dq, _, _, rfl, hq, TN.cl, TN.nN, nf_n _ _ _, _, rfl, _, rfl, p, C, dx, _, _, rfl, s13 _ _ X.ins, T.cl, T.nS, ff_sexes _ _ _ _, _, rfl, aS, _, _, _, rfl, rfl, SqL.of (s13 _ _ X.sex), atI_nat (j := b) (v := nv (s0.get b).sex) (sex_at X hb), m, n, _, _, rfl, W.shallow hc.1, W.shallow hc.2, W.sex b, ?_⟩
    have := k H3 s13
    rw [e] at this
    exact this
end
end Kin
set_option Elab.async false
set_option linter.all false
set_option maxRecDepth 100000
set_option maxHeartbeats 2000000
namespace Kin
open PySem PySem.Spec PyProof.Rows L2
open Sz31 (text pick blood byBlood partnersOf)
theorem find_at {α : Type} {f : Nat → Option α} {l : List Nat} {j x : Nat} {t : α} (h0 : ∀ y, y ∈ l.take j → f y = none) (hx : l[j]? = some x) (ht : f x = some t) : l.findSome? f = some t := by
  induction l generalizing j with
  | nil => simp at hx
  | cons y l ih =>
    rw [List.findSome?_cons]
    cases j with
    | zero =>
      simp only [List.getElem?_cons_zero, Option.some.injEq] at hx
      rw [hx, ht]
    | succ j =>
      simp only [List.getElem?_cons_succ] at hx
      rw [h0 y (by simp)]
      exact ih (fun z hz => h0 z (by simp [hz])) hx
theorem find_none {α : Type} {f : Nat → Option α} {l : List Nat} (h0 : ∀ y, y ∈ l → f y = none) : l.findSome? f = none := by
  rw [List.findSome?_eq_none_iff]; exact h0
def spByPart (C : Addr) : Sp := fun vs H Q _ => ∃ (p : Addr) (s : Sz31.St) (fp : List Addr) (a b : Nat), vs = [.ref p, nv a, nv b] ∧ Fam C H p s fp ∧ a < s.persons.length ∧ b < s.persons.length ∧ byBlood s a b = none ∧ ∀ H', Same H H' → Q (.str (S (Sz31.word s a b))) H'
theorem lit_inlaw : ("-in-law" : Str) = S (text "-in-law") := by decide +kernel
theorem lit_s : ("'s " : Str) = S (text "'s ") := by decide +kernel
theorem lit_not : ("not related" : Str) = S (text "not related") := by decide +kernel
section
variable {P : Program} {w : World} {K : PySem.W.Frag} {mg : Str → Option Value} {base : Heap} {C N : Addr}
theorem scByPart : FnScope ["family", "a", "b", "as_partner", "partner", "word"] ["family", "a", "b"] (defScope sByPart) := ⟨rfl, rfl, rfl, by decide +kernel, rfl, by decide +kernel, by decide +kernel⟩
theorem ok_byPart {f : Addr} {fd : FuncData} (F : Fun K "word_by_partners" "word_by_partners" sByPart f fd) (T : Txt K mg C) (TW : TxtW K mg) (ma : Mth P w K mg base C 2 "are_partners" ["self", "a", "b"] (spAre C)) (mp : Mth P w K mg base C 3 "partners_of" ["self", "a"] (spPartners C))
    (cb : Callee P w K mg base 4 "word_by_blood" ["family", "a", "b"] (spByBlood C)) : FnOk P w K mg base CX0 5 f fd ["family", "a", "b"] (spByPart C) := by
  obtain ⟨tp, hp, qp⟩ := TW.partner
  obtain ⟨f1, fd1, G1, m1, b1⟩ := ma.ex
  obtain ⟨f2, fd2, G2, m2, b2⟩ := mp.ex
  obtain ⟨f3, fd3, G3, m3, k3, b3⟩ := cb.ex
  refine F.ok scByPart (fun vs H Q E h => ?_) (fun cdv A outer s H vs Q E hr h => ?_)
  · obtain ⟨p, s, fp, a, b, rfl, _⟩ := h
    rfl
  · obtain ⟨p, s0, fp, a, b, rfl, FF, ha, hb, hnone, k⟩ := h
    obtain ⟨W, aS, aP, aC, aD, dx, ps, cs, kids, X⟩ := id FF
    have hr2 : Room 2 _ := hr.mono (by decide)
    have hr3 : Room 3 _ := hr.mono (by decide)
    refine ⟨_, pss_cons (ps_set (i := 3) scByPart.nd rfl (Or.inl rfl) (pe_ix ix_tup (pe_glob (v := .ref tp) rfl hp rfl) (pe_ix ix_list (pe_fld (pv 0) rfl) (pv 2) (fun _ _ => rfl)) (fun _ _ => rfl)))
      (pss_cons (ps_if (pt_val (pe_meth (pv 0) T.cl m1 G1 hr2 b1 .nil pass0 (pa_cons (pv 1) (pa_cons (pv 2) pa_nil)))) (pss_one (ps_ret (pv 3))) pss_nil)
      (pss_cons (ps_for PassesOwn.never rfl (pi_list (pe_meth (pv 0) T.cl m2 G2 hr3 b2 .nil pass0 (pa_cons (pv 1) pa_nil))) (pg_name (i := 4) scByPart.nd rfl (Or.inl rfl))
        (pss_cons (ps_set (i := 5) scByPart.nd rfl (Or.inl rfl) (pe_call G3 hr rfl m3 k3 b3 .nil pass0 (pa_cons (pv 0) (pa_cons (pv 4) (pa_cons (pv 2) pa_nil)))))
        (pss_one (ps_if (pt_cmpR op_notN (pv 5) pe_non (nomark _)) (pss_one (ps_ret (pe_op op_add_str (pv 5) pe_str))) pss_nil))))
      (pss_cons (ps_for PassesOwn.never rfl (pi_list (pe_meth (pv 0) T.cl m2 G2 hr3 b2 .nil pass0 (pa_cons (pv 2) pa_nil))) (pg_name (i := 4) scByPart.nd rfl (Or.inl rfl))
        (pss_cons (ps_set (i := 5) scByPart.nd rfl (Or.inl rfl) (pe_call G3 hr rfl m3 k3 b3 .nil pass0 (pa_cons (pv 0) (pa_cons (pv 1) (pa_cons (pv 4) pa_nil)))))
        (pss_one (ps_if (pt_cmpR op_notN (pv 5) pe_non (nomark _)) (pss_one (ps_ret (pe_op op_add_str (pe_op op_add_str (pv 5) pe_str) (pv 3)))) pss_nil))))
      (pss_one (ps_ret pe_str))))), ?_⟩
    have noAre := ff_no aS aP aC aD (m := "are_partners") (by decide +kernel) (by decide +kernel) (by decide +kernel) (by decide +kernel)
    have noPar := ff_no aS aP aC aD (m := "partners_of") (by decide +kernel) (by decide +kernel) (by decide +kernel) (by decide +kernel)
    unfold Sz31.word at k
    rw [hnone] at k
    dsimp only at k
    have lenw : ∀ {x y : Nat} {t : Sz31.Bytes}, x < s0.persons.length → byBlood s0 x y = some t → t.length ≤ 300 := fun hx h => KM.byBlood_len W hx h
    have plen := pick_short (sex := (s0.get b).sex) (w := "wife") (m := "husband") (n := "spouse")
    refine ⟨_, rfl, p, C, dx, _, _, rfl, X.ins, T.cl, T.nS, ff_sexes _ _ _ _, _, rfl, aS, _, _, _, rfl, rfl, SqL.of X.sex, atI_nat (j := b) (v := nv (s0.get b).sex) (sex_at X hb), tp, _, _, _, rfl, rfl, qp H, word_at (three_at (W.sex b)), ?_⟩
    refine ⟨_, rfl, p, dx, _, rfl, X.ins, noAre, _, rfl, _, rfl, p, s0, fp, (a : Int), (b : Int), rfl, FF, by omega, by omega, fun H1 s1 => ⟨_, rfl, ?_⟩⟩
    rw [← partners_has s0 hb]
    refine go_ite (fun hc => ?_) (fun hc => ?_)
    · rw [if_pos hc] at k
      exact ⟨_, rfl, k H1 s1⟩
    rw [if_neg (by rw [hc]; exact Bool.false_ne_true)] at k
    refine ⟨_, rfl, p, dx, _, rfl, s1 _ _ X.ins, noPar, _, rfl, p, s0, fp, a, rfl, FF.same s1, fun H2 l2 s2 hl2 h2 => ⟨l2, rfl, ⟨_, SqL.of h2⟩, ?_⟩⟩
    have s12 : Same H H2 := s1.trans s2
    refine for_list (K := K) (a := l2) (xs := (partnersOf s0 a).map nv) (fun j σ H' => Same H2 H' ∧ (∃ v4 v5 : Option V, σ = [some (.ref p), some (nv a), some (nv b), some (.str (S (pick (s0.get b).sex "wife" "husband" "spouse"))), v4, v5]) ∧ ∀ y, y ∈ (partnersOf s0 a).take j → byBlood s0 y b = none)
      ⟨fun _ _ e => e, ⟨none, none, rfl⟩, fun y hy => by simp at hy⟩ (fun j σ H' _ h => SqL.of (h.1 _ _ h2)) ?_ ?_
    · rintro j y σ H3 hj ⟨s3, ⟨v4, v5, rfl⟩, hall⟩
      obtain ⟨x, hx, rfl⟩ := map_get hj
      have hxl : x < s0.persons.length := KM.partners_lt (List.mem_of_getElem? hx)
      refine ⟨_, rfl, _, rfl, _, rfl, p, s0, fp, x, b, rfl, FF.same (s12.trans s3), hxl, hb, fun H4 s4 => ?_⟩
      cases e : byBlood s0 x b with
      | none =>
        refine ⟨_, rfl, rfl, _, rfl, go_ite (fun z => Bool.noConfusion z) (fun _ => ⟨s3.trans s4, ⟨_, _, rfl⟩, fun y hy => ?_⟩)⟩
        rw [take_snoc hx, List.mem_append, List.mem_singleton] at hy
        rcases hy with hy | hy
        · exact hall y hy
        · rw [hy]; exact e
      | some t =>
        refine ⟨_, rfl, rfl, _, rfl, go_ite (fun _ => ?_) (fun z => Bool.noConfusion z)⟩
        have lt := lenw hxl e
        have ll : ("-in-law" : Str).length = 7 := by decide +kernel
        refine ⟨_, rfl, _, _, rfl, rfl, fits (by show (S t).length + ("-in-law" : Str).length ≤ 1000; rw [S_len, ll]; omega), ?_⟩
        rw [find_at hall hx e] at k
        have := k H4 ((s12.trans s3).trans s4)
        rw [S_app, ← lit_inlaw] at this
        exact this
    rintro σ H3 ⟨s3, ⟨v4, v5, rfl⟩, hall⟩
    rw [List.length_map, List.take_length] at hall
    rw [find_none hall] at k
    dsimp only at k
    have s13 : Same H H3 := s12.trans s3
    refine ⟨_, rfl, p, dx, _, rfl, s13 _ _ X.ins, noPar, _, rfl, p, s0, fp, b, rfl, FF.same s13, fun H4 l4 s4 hl4 h4 => ⟨l4, rfl, ⟨_, SqL.of h4⟩, ?_⟩⟩
    have s14 : Same H H4 := s13.trans s4
    refine for_list (K := K) (a := l4) (xs := (partnersOf s0 b).map nv) (fun j σ H' => Same H4 H' ∧ (∃ v4 v5 : Option V, σ = [some (.ref p), some (nv a), some (nv b), some (.str (S (pick (s0.get b).sex "wife" "husband" "spouse"))), v4, v5]) ∧ ∀ y, y ∈ (partnersOf s0 b).take j → byBlood s0 a y = none)
      ⟨fun _ _ e => e, ⟨_, _, rfl⟩, fun y hy => by simp at hy⟩ (fun j σ H' _ h => SqL.of (h.1 _ _ h4)) ?_ ?_
    · rintro j y σ H5 hj ⟨s5, ⟨v4, v5, rfl⟩, hall2⟩
      obtain ⟨x, hx, rfl⟩ := map_get hj
      have hxl : x < s0.persons.length := KM.partners_lt (List.mem_of_getElem? hx)
      refine ⟨_, rfl, _, rfl, _, rfl, p, s0, fp, a, x, rfl, FF.same (s14.trans s5), ha, hxl, fun H6 s6 => ?_⟩
      cases e : byBlood s0 a x with
      | none =>
        refine ⟨_, rfl, rfl, _, rfl, go_ite (fun z => Bool.noConfusion z) (fun _ => ⟨s5.trans s6, ⟨_, _, rfl⟩, fun y hy => ?_⟩)⟩
        rw [take_snoc hx, List.mem_append, List.mem_singleton] at hy
        rcases hy with hy | hy
        · exact hall2 y hy
        · rw [hy]; exact e
      | some t =>
        refine ⟨_, rfl, rfl, _, rfl, go_ite (fun _ => ?_) (fun z => Bool.noConfusion z)⟩
        have lt := lenw ha e
        have ll : ("'s " : Str).length = 3 := by decide +kernel
        refine ⟨_, rfl, _, _, rfl, rfl, fits (by show (S t).length + ("'s " : Str).length ≤ 1000; rw [S_len, ll]; omega), _, rfl, _, _, rfl, rfl, fits (by show (S t ++ ("'s " : Str)).length + (S (pick (s0.get b).sex "wife" "husband" "spouse")).length ≤ 1000; rw [app_len, S_len, S_len, ll]; omega), ?_⟩
        rw [find_at hall2 hx e] at k
        have := k H6 ((s14.trans s5).trans s6)
        rw [S_app, S_app, ← lit_s, ← app_assoc] at this
        exact this
    rintro σ H5 ⟨s5, ⟨v4, v5, rfl⟩, hall2⟩
    rw [List.length_map, List.take_length] at hall2
    rw [find_none hall2] at k
    have := k H5 (s14.trans s5)
    dsimp only at this
    rw [← lit_not] at this
    exact this
/-! ### word_for -/
def spWord (C : Addr) : Sp := fun vs H Q _ => ∃ (p : Addr) (s : Sz31.St) (fp : List Addr) (a b : Nat), vs = [.ref p, nv a, nv b] ∧ Fam C H p s fp ∧ a < s.persons.length ∧ b < s.persons.length ∧ ∀ H', Same H H' → Q (.str (S (Sz31.word s a b))) H'
theorem scWordFor : FnScope ["family", "a", "b", "word"] ["family", "a", "b"] (defScope sWordFor) := ⟨rfl, rfl, rfl, by decide +kernel, rfl, by decide +kernel, by decide +kernel⟩
theorem ok_wordFor {f : Addr} {fd : FuncData} (F : Fun K "word_for" "word_for" sWordFor f fd) (cb : Callee P w K mg base 4 "word_by_blood" ["family", "a", "b"] (spByBlood C)) (cp : Callee P w K mg base 5 "word_by_partners" ["family", "a", "b"] (spByPart C)) : FnOk P w K mg base CX0 6 f fd ["family", "a", "b"] (spWord C) := by
  obtain ⟨f1, fd1, G1, m1, k1, b1⟩ := cb.ex
  obtain ⟨f2, fd2, G2, m2, k2, b2⟩ := cp.ex
  refine F.ok scWordFor (fun vs H Q E h => ?_) (fun cdv A outer s H vs Q E hr h => ?_)
  · obtain ⟨p, s, fp, a, b, rfl, _⟩ := h
    rfl
  · obtain ⟨p, s0, fp, a, b, rfl, FF, ha, hb, k⟩ := h
    have hr4 : Room 4 _ := hr.mono (by decide)
    refine ⟨_, pss_cons (ps_set (i := 3) scWordFor.nd rfl (Or.inl rfl) (pe_call G1 hr4 rfl m1 k1 b1 .nil pass0 (pa_cons (pv 0) (pa_cons (pv 1) (pa_cons (pv 2) pa_nil)))))
      (pss_cons (ps_if (pt_cmpR op_isN (pv 3) pe_non (nomark _)) (pss_one (ps_ret (pe_call G2 hr rfl m2 k2 b2 .nil pass0 (pa_cons (pv 0) (pa_cons (pv 1) (pa_cons (pv 2) pa_nil)))))) pss_nil)
      (pss_one (ps_ret (pv 3)))), ?_⟩
    refine ⟨_, rfl, _, rfl, _, rfl, p, s0, fp, a, b, rfl, FF, ha, hb, fun H1 s1 => ?_⟩
    cases e : byBlood s0 a b with
    | none =>
      refine ⟨_, rfl, rfl, _, rfl, go_dec (fun _ => ?_) (fun z => absurd rfl z)⟩
      exact ⟨_, rfl, _, rfl, _, rfl, p, s0, fp, a, b, rfl, FF.same s1, ha, hb, e, fun H2 s2 => k H2 (s1.trans s2)⟩
    | some t =>
      refine ⟨_, rfl, rfl, _, rfl, go_dec (fun z => nomatch z) (fun _ => ?_)⟩
      have := k H1 s1
      unfold Sz31.word at this
      rw [e] at this
      exact ⟨_, rfl, this⟩
end
end Kin
set_option Elab.async false
set_option linter.all false
set_option maxRecDepth 100000
set_option maxHeartbeats 2000000
namespace Kin
open PySem PySem.Spec PyProof.Rows L2
abbrev sFirst : Stmt := top 8
def lamPos : Pos := ⟨37, 32, 37, 64⟩
def lamQ : Str := ("parents_first" : Str) ++ ".<locals>." ++ "<lambda>"
/-- the furthest, of what D tells -/
structure FarP (D : Nat → Nat → Prop) (E : List (Nat × Nat)) : Prop where
  nd : (E.map (·.1)).Nodup
  most : ∀ x k, KM.getE E x = some k → D x k ∧ ∀ l, D x l → l ≤ k
  all : ∀ x l, D x l → ∃ k, KM.getE E x = some k
theorem FarP.congr {D D' : Nat → Nat → Prop} {E : List (Nat × Nat)} (F : FarP D E) (h : ∀ x l, D x l ↔ D' x l) : FarP D' E :=
  ⟨F.nd, fun x k e => ⟨(h x k).mp (F.most x k e).1, fun l hl => (F.most x k e).2 l ((h x l).mpr hl)⟩, fun x l hl => F.all x l ((h x l).mpr hl)⟩
theorem FarP.put {D : Nat → Nat → Prop} {E : List (Nat × Nat)} (F : FarP D E) (x k : Nat) : FarP (fun y l => D y l ∨ (y = x ∧ l = k)) (putE E x (max k ((KM.getE E x).getD 0))) := by
  refine ⟨?_, fun y l e => ?_, fun y l h => ?_⟩
  · rw [putE_keys]
    by_cases h : x ∈ E.map (·.1)
    · rw [if_pos h]; exact F.nd
    · rw [if_neg h, List.nodup_append]
      refine ⟨F.nd, by simp, fun a ha b hb e => ?_⟩
      rw [List.mem_singleton] at hb
      rw [e, hb] at ha
      exact h ha
  · rw [putE_get] at e
    by_cases h : y = x
    · subst h
      rw [if_pos rfl] at e
      have e := Option.some.inj e
      subst e
      cases o : KM.getE E y with
      | none =>
        have no : ∀ l, ¬ D y l := fun l hl => by obtain ⟨k', hk'⟩ := F.all y l hl; rw [o] at hk'; cases hk'
        refine ⟨.inr ⟨rfl, by simp⟩, fun l hl => ?_⟩
        rcases hl with hl | ⟨_, hl⟩
        · exact absurd hl (no l)
        · rw [hl]; exact Nat.le_max_left _ _
      | some v =>
        have f := F.most y v o
        show (D y (max k v) ∨ _) ∧ ∀ l, _ → l ≤ max k v
        refine ⟨?_, fun l hl => ?_⟩
        · by_cases c : k ≤ v
          · left; rw [Nat.max_eq_right c]; exact f.1
          · right; exact ⟨rfl, by show max k v = k; omega⟩
        · rcases hl with hl | ⟨_, hl⟩
          · have := f.2 l hl; omega
          · omega
    · rw [if_neg h] at e
      have f := F.most y l e
      refine ⟨.inl f.1, fun l' hl' => ?_⟩
      rcases hl' with hl' | ⟨hl', _⟩
      · exact f.2 l' hl'
      · exact absurd hl' h
  · rw [putE_get]
    by_cases c : y = x
    · exact ⟨_, if_pos c⟩
    · rw [if_neg c]
      rcases h with h | ⟨h, _⟩
      · exact F.all y l h
      · exact absurd h c
theorem FarP.bound {D : Nat → Nat → Prop} {E : List (Nat × Nat)} (F : FarP D E) {n : Nat} (h : ∀ x l, D x l → x < n) : E.length ≤ n := by
  have := nodup_bound (n := n) F.nd fun x hx => by
    cases e : KM.getE E x with
    | none => exact absurd hx (KM.getE_none.mp e)
    | some k => exact h x k (F.most x k e).1
  rwa [List.length_map] at this
def spFirst (Pt : Addr) : Sp := fun vs H Q _ => ∃ (ap : Addr) (as : List Addr) (s : Sz31.St) (a b : Nat), vs = [.ref ap, nv a, nv b] ∧ RowsAt H ap as (s.persons.map (·.parents)) ∧ KM.WF s ∧ a < s.persons.length ∧ b < s.persons.length ∧ Tab Pt lamPos lamQ H ∧
  ∀ (H' : Hp) (l : Addr) (O : List Nat), SameX Pt H H' → Tab Pt lamPos lamQ H' → H l = none → H' l = some (.lst (O.map nv)) → KM.Ordered s a b O → Q (.ref l) H'
theorem b_enum : bootBuiltins "enumerate" = some (.type "enumerate") := by decide +kernel
section
variable {P : Program} {w : World} {K : PySem.W.Frag} {mg : Str → Option Value} {base : Heap}
theorem scFirst : FnScope ["parents", "a", "b", "furthest", "start", "steps", "level", "person"] ["parents", "a", "b"] (defScope sFirst) := ⟨rfl, rfl, rfl, by decide +kernel, rfl, by decide +kernel, by decide +kernel⟩
/-- a def of the top whose code stands at c, its table at Pt -/
structure FunT (K : PySem.W.Frag) (x : Str) (st : Stmt) (f : Addr) (fd : FuncData) (c Pt : Addr) : Prop where
  ex : ∃ (oc : Value) (od : Option Addr) (kV doc pm : Value) (an : Option Addr) (ct : Value) (sl : Array (Option Value)), fd = PySem.W.fnOf x x (defArgs st) (defBody st) (defScope st) .none kV doc pm an (.ref c) ct ∧ K.lookup f = some ⟨oc, od, .func (PySem.W.fnOf x x (defArgs st) (defBody st) (defScope st) .none kV doc pm an (.ref c) ct), sl⟩ ∧ PySem.W.codeIn K (.ref c) x = true
  tab : PySem.W.codeHdIn K c Pt = true
theorem ok_first {f c Pt : Addr} {fd : FuncData} (F : FunT K "parents_first" sFirst f fd c Pt) (KX : K.In base) (bm : base.BuiltinsAt mg Pt) (gP : mainGlobals ≠ Pt) (hEnum : mg "enumerate" = none) (hMax : mg "max" = none) (hSorted : mg "sorted" = none) (cl : Callee P w K mg base 2 "levels_from" ["links", "start"] spLevels) :
    FnOk P w K mg base CX0 4 f fd ["parents", "a", "b"] (spFirst Pt) := by
  obtain ⟨f1, fd1, G1, m1, k1, b1⟩ := cl.ex
  obtain ⟨oc, od, kV, doc, pm, an, ct, sl, rfl, lk, hcd⟩ := F.ex
  refine fn_of lk hcd scFirst (fun vs H Q E h => ?_) (fun A outer s H vs Q E hr h => ?_)
  · obtain ⟨ap, as, s, a, b, rfl, _⟩ := h
    rfl
  · obtain ⟨ap, as, s0, a, b, rfl, R, W, ha, hb, tab, k⟩ := h
    have hu := hu_of hr
    have hr2 : Room 2 _ := hr.mono (by decide)
    refine (fun (z : ∃ t, PSs (cxOf CX0 P w K mg base ["parents", "a", "b", "furthest", "start", "steps", "level", "person"] "parents_first" (defScope sFirst) f (.ref c) A outer s H E).nox (defBody sFirst) t ∧ t { nx := fun _ H' => Q .non H', rt := Q } (start ["parents", "a", "b", "furthest", "start", "steps", "level", "person"] [.ref ap, nv a, nv b]) H) => let ⟨t, h, q⟩ := z; ⟨t, h.nox, q⟩) ?_
    refine ⟨_, pss_cons (ps_set (i := 3) scFirst.nd rfl (Or.inr rfl) pe_dnewK)
      (pss_cons (ps_for PassesOwn.never rfl (pi_tup (pe_tup (pa_cons (pv 1) (pa_cons (pv 2) pa_nil)))) (pg_name (i := 4) scFirst.nd rfl (Or.inl rfl))
        (pss_one (ps_for PassesOwn.never rfl (pi_enum rfl hEnum (pa_cons (pe_call G1 hr2 rfl m1 k1 b1 .nil pass0 (pa_cons (pv 0) (pa_cons (pv 4) pa_nil))) pa_nil)) (pg_tup rfl (pgs_cons (pg_name (i := 5) scFirst.nd rfl (Or.inl rfl)) (pgs_cons (pg_name (i := 6) scFirst.nd rfl (Or.inl rfl)) pgs_nil)))
          (pss_one (ps_for PassesOwn.never rfl (pi_list (pv 6)) (pg_name (i := 7) scFirst.nd rfl (Or.inl rfl))
            (pss_one (ps_dput hu (pv 3) (pv 7) (pe_callB (call_max2 rfl) (by rfl) hMax b_max (pa_cons (pv 5) (pa_cons (pe_dget2 hu (pv 3) (pv 7) pe_int ⟨rfl, rfl, rfl, rfl⟩) pa_nil))) rfl)))))))
      (pss_one (ps_ret (pe_sortK (c := c) (P := Pt) (i := 3) (x := "furthest") (y := "person") ⟨rfl, PySem.W.codeHd_of_K KX F.tab, bm, gP⟩ rfl hr ⟨rfl, rfl, rfl, rfl, rfl, by decide +kernel, by decide +kernel, by decide +kernel, by decide +kernel⟩ rfl rfl rfl rfl rfl (Or.inr (Or.inl rfl)) (fun _ _ _ _ => rfl) rfl hSorted)))), ?_⟩
    intro d hd
    have s0' : Same H (upd H d (.dK [])) := fun c o e => by rw [upd_ne (ne_of_none e hd)]; exact e
    refine ⟨_, rfl, _, rfl, (by show 2 ≤ sizeLine; decide), fun tp htp => ⟨tp, rfl, ⟨_, SqT.of upd_same⟩, ?_⟩⟩
    have dtp : d ≠ tp := ne_of_none upd_same htp
    have Htp : H tp = none := by rw [upd_ne dtp.symm] at htp; exact htp
    have hlen : (s0.persons.map (·.parents)).length = s0.persons.length := List.length_map _
    have deep : ∀ i, KM.reach (rowOf (s0.persons.map (·.parents))) 29 i = [] := fun i => by rw [par_row_fun]; exact W.deep i
    let D0 : List Nat → Nat → Nat → Prop := fun l x k => ∃ i, i ∈ l ∧ x ∈ KM.reach (KM.par s0) k i
    have Dlt : ∀ l : List Nat, (∀ i, i ∈ l → i < s0.persons.length) → ∀ x k, D0 l x k → x < s0.persons.length := fun l hl x k ⟨i, hi, hx⟩ => KM.reach_lt W (hl i hi) hx
    refine for_tup (K := K) (a := tp) (xs := [nv a, nv b]) (fun j σ H' => Same H H' ∧ H' tp = some (.tup [nv a, nv b]) ∧ (∃ v4 v5 v6 v7 : Option V, σ = [some (.ref ap), some (nv a), some (nv b), some (.ref d), v4, v5, v6, v7]) ∧ ∃ E, H' d = some (.dK (encN E)) ∧ FarP (D0 ([a, b].take j)) E)
      ⟨fun c o e => by rw [upd_ne (ne_of_none e Htp)]; exact s0' _ _ e, upd_same, ⟨none, none, none, none, rfl⟩, [], by rw [upd_ne dtp]; exact upd_same, ⟨List.nodup_nil, (fun x k e => by cases e), (fun x l h => by obtain ⟨i, hi, _⟩ := h; simp at hi)⟩⟩ (fun j σ H' _ h => SqT.of h.2.1) ?_ ?_
    · rintro j y σ H1 hj ⟨s1, t1, ⟨v4, v5, v6, v7, rfl⟩, E1, hE1, FE1⟩
      obtain ⟨i, hi, rfl⟩ : ∃ i, ([a, b] : List Nat)[j]? = some i ∧ y = nv i := by
        have : ([a, b] : List Nat).map nv = [nv a, nv b] := rfl
        rw [← this] at hj
        exact map_get hj
      have hil : i < s0.persons.length := by
        have := List.mem_of_getElem? hi
        simp only [List.mem_cons, List.not_mem_nil, or_false] at this
        rcases this with rfl | rfl
        · exact ha
        · exact hb
      have bnd : ∀ i', i' ∈ ([a, b].take j) → i' < s0.persons.length := fun i' h => by
        have := List.mem_of_mem_take h
        simp only [List.mem_cons, List.not_mem_nil, or_false] at this
        rcases this with rfl | rfl
        · exact ha
        · exact hb
      refine ⟨_, rfl, _, rfl, ap, i, as, _, rfl, R.same s1, within_par W, by rw [hlen]; exact hil, deep i, fun H2 L ls n s2 hL hls RL hn0 hn29 hne hnil => ?_⟩
      rw [par_row_fun] at RL hnil
      refine ⟨L, _, rfl, SqL.of RL.lst, ?_⟩
      have s12 : Same H H2 := s1.trans s2
      have hd2 := s2 _ _ hE1
      have Ld : L ≠ d := ne_of RL.lst hd2 (by intro z; cases z)
      have lsl : ls.length = n := by rw [RL.len, List.length_map, List.length_range]
      let D1 : Nat → Nat → Nat → Prop := fun m x k => D0 ([a, b].take j) x k ∨ (k < m ∧ x ∈ KM.reach (KM.par s0) k i)
      refine for_n (J := Ite K L) (n := n) (fun m σ H' => SameX d H2 H' ∧ (∃ v5 v6 v7 : Option V, σ = [some (.ref ap), some (nv a), some (nv b), some (.ref d), some (nv i), v5, v6, v7]) ∧ ∃ E, H' d = some (.dK (encN E)) ∧ FarP (D1 m) E)
        ⟨SameX.refl _ _, ⟨_, _, _, rfl⟩, E1, s2 _ _ hE1, FE1.congr fun x l => ⟨.inl, fun h => h.elim id fun z => absurd z.1 (by omega)⟩⟩ (fun m σ H' hm h => ?_) (fun σ H' h => ?_) ?_ ?_
      · exact ⟨_, V.ref (ls[m]'(by omega)), SqL.of (h.1 _ _ RL.lst Ld), by rw [List.getElem?_map, List.getElem?_eq_getElem (by omega)]; rfl⟩
      · exact ⟨_, SqL.of (h.1 _ _ RL.lst Ld), by rw [List.length_map, lsl]; exact Nat.le_refl _⟩
      · rintro m σ H3 x H3' hm ⟨s3, ⟨v5', v6', v7', rfl⟩, E3, hE3, FE3⟩ ⟨T, v, rfl, hT, rfl, hv⟩
        have hv' := hv _ (SqL.of (s3 _ _ RL.lst Ld))
        obtain ⟨cl, hcl, rfl⟩ := map_get hv'
        have hrow := RL.at_ m cl hcl
        rw [getD_range hm] at hrow
        have s3' : Same H3 (upd H3 T (.tup [.int (m : Nat), V.ref cl])) := fun c o e => by rw [upd_ne (ne_of_none e hT)]; exact e
        have cld : cl ≠ d := ne_of hrow hd2 (by intro z; cases z)
        have hrow3 := s3' _ _ (s3 _ _ hrow cld)
        refine ⟨T, _, rfl, SqT.of upd_same, rfl, _, _, rfl, _, _, rfl, rfl, ?_⟩
        refine ⟨_, rfl, cl, rfl, ⟨_, SqL.of hrow3⟩, for_list (K := K) (a := cl) (xs := (KM.lv (KM.par s0) i m).map nv) (fun r σ H' => SameX d (upd H3 T (.tup [.int (m : Nat), V.ref cl])) H' ∧ H' cl = some (.lst ((KM.lv (KM.par s0) i m).map nv)) ∧ (∃ v7 : Option V, σ = [some (.ref ap), some (nv a), some (nv b), some (.ref d), some (nv i), some (nv m), some (.ref cl), v7]) ∧ ∃ E, H' d = some (.dK (encN E)) ∧ FarP (fun x k => D1 m x k ∨ (k = m ∧ x ∈ (KM.lv (KM.par s0) i m).take r)) E) ?_ (fun r σ H' _ h => SqL.of h.2.1) ?_ ?_⟩
        · exact ⟨SameX.refl _ _, hrow3, ⟨_, rfl⟩, E3, s3' _ _ hE3, FE3.congr fun x l => ⟨.inl, fun h => h.elim id fun z => by simp at z⟩⟩
        · rintro r y σ H4 hr' ⟨s4, c4, ⟨v7'', rfl⟩, E4, hE4, FE4⟩
          obtain ⟨x, hx, rfl⟩ := map_get hr'
          have hxm : x ∈ KM.reach (KM.par s0) m i := KM.mem_lv.mp (List.mem_of_getElem? hx)
          have ev : (valV (encN E4) (Sum.inl (x : Int))).getD (.int 0) = V.int (((KM.getE E4 x).getD 0 : Nat) : Int) := by
            unfold encN
            rw [encD_val]
            cases KM.getE E4 x <;> rfl
          have lenE : E4.length ≤ s0.persons.length := FE4.bound fun x' l h => by
            rcases h with (h | ⟨_, h⟩) | ⟨_, h⟩
            · exact Dlt _ bnd x' l h
            · exact KM.reach_lt W hil h
            · exact KM.reach_lt W hil (KM.mem_lv.mp (List.mem_of_mem_take h))
          refine ⟨_, rfl, _, rfl, d, rfl, .inl ⟨_, .inl hE4⟩, _, rfl, _, DGet.k (k := Sum.inl (x : Int)) hE4, (m : Int), (((KM.getE E4 x).getD 0 : Nat) : Int), by rw [ev]; rfl, _, rfl, _, rfl, d, _, rfl, DPut.k (k := Sum.inl (x : Int)) hE4 ?_, ?_⟩
          · unfold encN
            rw [encD_len]
            exact Nat.lt_of_le_of_lt (Nat.le_trans lenE W.few) (by decide)
          have emax : (if (((KM.getE E4 x).getD 0 : Nat) : Int) > (m : Int) then (((KM.getE E4 x).getD 0 : Nat) : Int) else (m : Int)) = ((max m ((KM.getE E4 x).getD 0) : Nat) : Int) := by split <;> omega
          have eput : putK (encN E4) (Sum.inl (x : Int)) (V.int (if (((KM.getE E4 x).getD 0 : Nat) : Int) > (m : Int) then (((KM.getE E4 x).getD 0 : Nat) : Int) else (m : Int))) = encN (putE E4 x (max m ((KM.getE E4 x).getD 0))) := by
            rw [emax]
            exact encD_put nv E4 x _
          refine ⟨fun c o e z => ?_, ?_, ⟨_, rfl⟩, _, by rw [upd_same, eput], (FE4.put x m).congr fun x' l => ?_⟩
          · rw [upd_ne z]; exact s4 c o e z
          · rw [upd_ne (ne_of c4 hE4 (by intro z; cases z))]; exact c4
          · rw [take_snoc hx, List.mem_append, List.mem_singleton]
            constructor
            · rintro ((h | ⟨h1, h2⟩) | ⟨h1, h2⟩)
              · exact .inl h
              · exact .inr ⟨h1, .inl h2⟩
              · exact .inr ⟨h2, .inr h1⟩
            · rintro (h | ⟨h1, h2 | h2⟩)
              · exact .inl (.inl h)
              · exact .inl (.inr ⟨h1, h2⟩)
              · exact .inr ⟨h2, h1⟩
        · rintro σ H4 ⟨s4, c4, ⟨v7'', rfl⟩, E4, hE4, FE4⟩
          rw [List.length_map, List.take_length] at FE4
          refine ⟨fun c o e z => s4 c o (s3' _ _ (s3 c o e z)) z, ⟨_, _, _, rfl⟩, E4, hE4, FE4.congr fun x l => ?_⟩
          · constructor
            · rintro ((h | ⟨h1, h2⟩) | ⟨h1, h2⟩)
              · exact .inl h
              · exact .inr ⟨by omega, h2⟩
              · exact .inr ⟨by omega, by rw [h1]; exact KM.mem_lv.mp h2⟩
            · rintro (h | ⟨h1, h2⟩)
              · exact .inl (.inl h)
              · by_cases z : l = m
                · exact .inr ⟨z, by rw [z] at h2; exact KM.mem_lv.mpr h2⟩
                · exact .inl (.inr ⟨by omega, h2⟩)
      · rintro σ H3 ⟨s3, ⟨v5', v6', v7', rfl⟩, E3, hE3, FE3⟩
        have nd : ∀ c o, H c = some o → c ≠ d := fun c o e => ne_of_none e hd
        refine ⟨fun c o e => s3 c o (s12 _ _ e) (nd c o e), s3 _ _ (s2 _ _ t1) dtp.symm, ⟨_, _, _, _, rfl⟩, E3, hE3, FE3.congr fun x l => ?_⟩
        show (∃ i', i' ∈ [a, b].take j ∧ x ∈ KM.reach (KM.par s0) l i') ∨ (l < n ∧ x ∈ KM.reach (KM.par s0) l i) ↔ ∃ i', i' ∈ [a, b].take (j + 1) ∧ x ∈ KM.reach (KM.par s0) l i'
        rw [take_snoc hi]
        constructor
        · rintro (⟨i', h1, h2⟩ | ⟨_, h2⟩)
          · exact ⟨i', List.mem_append_left _ h1, h2⟩
          · exact ⟨i, by simp, h2⟩
        · rintro ⟨i', h1, h2⟩
          rcases List.mem_append.mp h1 with h1 | h1
          · exact .inl ⟨i', h1, h2⟩
          · rw [List.mem_singleton] at h1
            subst h1
            refine .inr ⟨?_, h2⟩
            by_cases z : l < n
            · exact z
            · rw [KM.nil_le (KM.lv_nil.mp hnil) (show n ≤ l by omega)] at h2; cases h2
    · rintro σ H1 ⟨s1, t1, ⟨v4, v5, v6, v7, rfl⟩, E1, hE1, FE1⟩
      have FE : KM.Far s0 a b E1 := by
        have F2 : FarP (KM.From s0 a b) E1 := FE1.congr fun x l => by
          show (∃ i', i' ∈ [a, b] ∧ x ∈ KM.reach (KM.par s0) l i') ↔ _
          constructor
          · rintro ⟨i', h1, h2⟩
            simp only [List.mem_cons, List.not_mem_nil, or_false] at h1
            rcases h1 with rfl | rfl
            · exact .inl h2
            · exact .inr h2
          · rintro (h | h)
            · exact ⟨a, by simp, h⟩
            · exact ⟨b, by simp, h⟩
        exact ⟨F2.nd, F2.most, F2.all⟩
      have lenE : E1.length ≤ s0.persons.length := FE1.bound fun x' l h => Dlt _ (fun i' h => by
        have h : i' ∈ [a, b] := h
        simp only [List.mem_cons, List.not_mem_nil, or_false] at h
        rcases h with rfl | rfl
        · exact ha
        · exact hb) x' l h
      refine ⟨d, E1, rfl, hE1, Nat.le_trans lenE (Nat.le_trans W.few (by decide)), FE1.nd, tab.same s1, fun H2 l O hO1 hO2 sx tab2 hl h2 => ?_⟩
      exact k H2 l O ((SameX.of s1).trans sx) tab2 (s1.free hl) h2 (KM.ordered_of W FE hO1 hO2)
end
end Kin
set_option Elab.async false
set_option linter.all false
set_option maxRecDepth 100000
set_option maxHeartbeats 2000000
namespace Kin
open PySem PySem.Spec PyProof.Rows L2
abbrev sSelf : Stmt := top 9
abbrev sRows : Stmt := top 10
abbrev sHow : Stmt := top 11
/-! ### alike_oneself -/
theorem one_eq : Sz31.ONE = 1152921504606846976 := by decide +kernel
def two? : List Nat → Option (Nat × Nat)
  | [p, q] => some (p, q)
  | _ => none
def spSelf : Sp := fun vs H Q _ => ∃ (R l : Addr) (ps : List Nat) (v : Nat), vs = [.ref R, .ref l] ∧ H l = some (.lst (ps.map nv)) ∧ ps.length ≤ 2 ∧
  (∀ p q, ps = [p, q] → ∃ (c : Addr) (kvs kvs' : List (Key × V)), H R = some (.dK kvs) ∧ valV kvs (Sum.inl (p : Int)) = some (.ref c) ∧ H c = some (.dK kvs') ∧ valV kvs' (Sum.inl (q : Int)) = some (nv v)) ∧ (ps.length < 2 → v = 0) ∧ Q (nv ((Sz31.ONE + v) / 2)) H
section
variable {P : Program} {w : World} {K : PySem.W.Frag} {mg : Str → Option Value} {base : Heap}
theorem scSelf : FnScope ["rows", "above"] ["rows", "above"] (defScope sSelf) := ⟨rfl, rfl, rfl, by decide +kernel, rfl, by decide +kernel, by decide +kernel⟩
theorem ok_self {f : Addr} {fd : FuncData} (F : Fun K "alike_oneself" "alike_oneself" sSelf f fd) (hLen : mg "len" = none) (hC : ∃ t, mg "CERTAIN" = some (.int 1152921504606846976 t)) : FnOk P w K mg base CX0 1 f fd ["rows", "above"] spSelf := by
  obtain ⟨tC, hC⟩ := hC
  refine F.ok scSelf (fun vs H Q E h => ?_) (fun cdv A outer s H vs Q E hr h => ?_)
  · obtain ⟨R, l, ps, v, rfl, _⟩ := h
    rfl
  · obtain ⟨R, l, ps, v, rfl, hl, h2, hpq, h0, k⟩ := h
    have hu := hu_of hr
    refine ⟨_, pss_cons (ps_if (pt_cmpR op_lt (pe_callB call_len_seq (by rfl) hLen b_len (pa_cons (pv 1) pa_nil)) pe_int (nomark _)) (pss_one (ps_ret (pe_op op_fdiv (pe_gint hC) pe_int))) pss_nil)
      (pss_one (ps_ret (pe_op op_fdiv (pe_op op_add (pe_gint hC) (pe_dget hu (pe_dget hu (pv 0) (pe_ix ix_list (pv 1) pe_int (fun _ _ => rfl)) (fun _ _ => rfl)) (pe_ix ix_list (pv 1) pe_int (fun _ _ => rfl)) (fun _ _ => rfl))) pe_int))), ?_⟩
    have d2 : CDiv (0 : Int) 2 := ⟨by decide, by decide⟩
    refine ⟨_, rfl, l, _, rfl, .inl (SqL.of hl), _, _, rfl, rfl, _, rfl, ?_⟩
    rw [List.length_map]
    refine go_dec (fun c => ?_) (fun c => ?_)
    · have := h0 (by omega)
      subst this
      refine ⟨_, _, rfl, rfl, ⟨by decide, by decide⟩, ?_⟩
      rw [one_eq] at k
      exact k
    · obtain ⟨p, q, rfl⟩ : ∃ p q, ps = [p, q] := by
        match ps, h2, c with
        | [], _, c => exact absurd (by decide) c
        | [x], _, c => exact absurd (show ((([x] : List Nat).length : Nat) : Int) < 2 by simp) c
        | [x, y], _, _ => exact ⟨x, y, rfl⟩
        | x :: y :: z :: r, h, _ => simp at h
      obtain ⟨cc, kvs, kvs', e1, e2, e3, e4⟩ := hpq p q rfl
      refine ⟨_, rfl, _, rfl, l, _, _, _, rfl, rfl, SqL.of hl, atI_nat (j := 0) (v := nv p) rfl, R, _, rfl, dgetN e1 e2, _, rfl, l, _, _, _, rfl, rfl, SqL.of hl, atI_nat (j := 1) (v := nv q) rfl, cc, _, rfl, dgetN e3 e4, _, _, rfl, rfl, _, _, rfl, rfl, ⟨by decide, by decide⟩, ?_⟩
      have e : ((1152921504606846976 : Int) + (v : Int)) / 2 = (((1152921504606846976 + v) / 2 : Nat) : Int) := by omega
      rw [one_eq] at k
      show Q (.int (((1152921504606846976 : Int) + (v : Int)) / 2)) H
      rw [e]
      exact k
/-! ### alike_rows -/
theorem dgetR {H : Hp} {d : Addr} {kvs : List (Key × V)} {x : Nat} {v : V} (h : Rd H d (.dK kvs)) (g : valV kvs (Sum.inl (x : Int)) = some v) : DGet H d (nv x) (some v) := .inl ⟨kvs, Sum.inl (x : Int), h, rfl, g.symm⟩
/-- the rows of a table: those of the first i of O at cs, the j-th has the first (u j) of O -/
structure TblR (H : Hp) (s : Sz31.St) (O : List Nat) (cs : List Addr) (u : Nat → Nat) : Prop where
  nd : cs.Nodup
  row : ∀ (j : Nat) (x : Nat) (c : Addr), O[j]? = some x → cs[j]? = some c → H c = some (.dK (encN ((O.take (u j)).map fun y => (y, KM.AL s x y))))
theorem zip_keys {O : List Nat} {cs : List Addr} {i : Nat} (h : cs.length = i) (hi : i ≤ O.length) : ((O.take i).zip cs).map (·.1) = O.take i := by
  rw [List.map_fst_zip (by rw [List.length_take]; omega)]
theorem row_keys (l : List Nat) (g : Nat → Nat) : (l.map fun y => (y, g y)).map (·.1) = l := by
  rw [List.map_map]
  show l.map id = l
  rw [List.map_id]
theorem row_val {l : List Nat} {g : Nat → Nat} (nd : l.Nodup) {y : Nat} (h : y ∈ l) : valV (encN (l.map fun y => (y, g y))) (Sum.inl (y : Int)) = some (nv (g y)) := encN_get' (by rw [row_keys]; exact nd) (List.mem_map.mpr ⟨y, h, rfl⟩)
theorem top_val {O : List Nat} {cs : List Addr} {i j x : Nat} {c : Addr} (nd : O.Nodup) (h : cs.length = i) (hi : i ≤ O.length) (hx : O[j]? = some x) (hc : cs[j]? = some c) : valV (encD V.ref ((O.take i).zip cs)) (Sum.inl (x : Int)) = some (.ref c) := by
  rw [encD_val]
  have hj : j < i := by rw [← h]; exact (List.getElem?_eq_some_iff.mp hc).1
  have : KM.getE ((O.take i).zip cs) x = some c := by
    rw [KM.getE_mem (by rw [zip_keys h hi]; exact nd.sublist (List.take_sublist _ _))]
    refine List.mem_of_getElem? (i := j) ?_
    rw [List.getElem?_zip_eq_some]
    exact ⟨by rw [List.getElem?_take, if_pos hj]; exact hx, hc⟩
  rw [this]
  rfl
theorem mem_take_iff {O : List Nat} {i x : Nat} : x ∈ O.take i ↔ ∃ j, j < i ∧ O[j]? = some x := by
  rw [List.mem_iff_getElem?]
  constructor
  · rintro ⟨j, hj⟩
    rw [List.getElem?_take] at hj
    by_cases q : j < i
    · rw [if_pos q] at hj; exact ⟨j, q, hj⟩
    · rw [if_neg q] at hj; cases hj
  · rintro ⟨j, h1, h2⟩
    exact ⟨j, by rw [List.getElem?_take, if_pos h1]; exact h2⟩
theorem not_take {O : List Nat} (nd : O.Nodup) {i x : Nat} (h : O[i]? = some x) : x ∉ O.take i := fun q => by
  obtain ⟨j, h1, h2⟩ := mem_take_iff.mp q
  have := (List.getElem?_inj (List.getElem?_eq_some_iff.mp h2).1 nd).mp (h2.trans h.symm)
  omega
def spRows : Sp := fun vs H Q _ => ∃ (ap o : Addr) (as : List Addr) (s : Sz31.St) (a b : Nat) (O : List Nat), vs = [.ref ap, .ref o] ∧ RowsAt H ap as (s.persons.map (·.parents)) ∧ KM.WF s ∧ a < s.persons.length ∧ b < s.persons.length ∧ H o = some (.lst (O.map nv)) ∧ KM.Ordered s a b O ∧
  ∀ (H' : Hp) (R : Addr) (cs : List Addr), Same H H' → H' R = some (.dK (encD V.ref (O.zip cs))) → cs.length = O.length → TblR H' s O cs (fun _ => O.length) → Q (.ref R) H'
theorem scRows : FnScope ["parents", "order", "rows", "person", "row", "other", "above"] ["parents", "order"] (defScope sRows) := ⟨rfl, rfl, rfl, by decide +kernel, rfl, by decide +kernel, by decide +kernel⟩
theorem ok_rows {f : Addr} {fd : FuncData} (F : Fun K "alike_rows" "alike_rows" sRows f fd) (hSum : mg "sum" = none) (c1 : Callee P w K mg base 1 "alike_oneself" ["rows", "above"] spSelf) : FnOk P w K mg base CX0 2 f fd ["parents", "order"] spRows := by
  obtain ⟨f1, fd1, G1, m1, k1, b1⟩ := c1.ex
  refine F.ok scRows (fun vs H Q E h => ?_) (fun cdv A outer s H vs Q E hr h => ?_)
  · obtain ⟨ap, o, as, s, a, b, O, rfl, _⟩ := h
    rfl
  · obtain ⟨ap, oo, as, s0, a, b, O, rfl, RP, W, ha, hb, ho, OO, k⟩ := h
    have hu := hu_of hr
    refine ⟨_, pss_cons (ps_set (i := 2) scRows.nd rfl (Or.inr rfl) pe_dnewK)
      (pss_cons (ps_for PassesOwn.never rfl (pi_list (pv 1)) (pg_name (i := 3) scRows.nd rfl (Or.inl rfl))
        (pss_cons (ps_set (i := 4) scRows.nd rfl (Or.inl rfl) pe_dnewK)
        (pss_cons (ps_lock (ps_for PassesOwn.never rfl (pi_keys (pv 2)) (pg_name (i := 5) scRows.nd rfl (Or.inr rfl))
          (pss_one (ps_dput hu (pv 4) (pv 5) (pe_op op_fdiv (pe_callB (cr_sum rfl) (by rfl) hSum b_sum (pa_cons (pe_lc (own := [("above", 6)]) rfl scRows.nd (pi_list (pe_ix ix_list (pv 0) (pv 3) (fun _ _ => rfl))) (blkOk_by (by show blkC ["parents", "order", "rows", "person", "row", "other", "above"] (defScope sRows) _ _ = true; decide +kernel))
            (fun s H C cl fp => pg_name (i := 6) scRows.nd rfl (Or.inl rfl)) (fun s H C cl fp => pts_nil) (fun s H C cl fp => pe_dget hu (pe_dget hu (pv 2) (pv 6) (fun _ _ => rfl)) (pv 5) (fun _ _ => rfl))) pa_nil)) pe_int) rfl))))
        (pss_cons (ps_lock (ps_for PassesOwn.never rfl (pi_keys (pv 4)) (pg_name (i := 5) scRows.nd rfl (Or.inr rfl))
          (pss_one (ps_dput hu (pe_dget hu (pv 2) (pv 5) (fun _ _ => rfl)) (pv 3) (pe_dget hu (pv 4) (pv 5) (fun _ _ => rfl)) rfl))))
        (pss_cons (ps_dput hu (pv 4) (pv 3) (pe_call G1 hr rfl m1 k1 b1 .nil pass0 (pa_cons (pv 2) (pa_cons (pe_ix ix_list (pv 0) (pv 3) (fun _ _ => rfl)) pa_nil))) rfl)
        (pss_one (ps_dput hu (pv 2) (pv 3) (pv 4) rfl)))))))
      (pss_one (ps_ret (pv 2)))), ?_⟩
    intro R hR
    have s0' : Same H (upd H R (.dK [])) := fun c o e => by rw [upd_ne (ne_of_none e hR)]; exact e
    have Olt : ∀ x, x ∈ O → x < s0.persons.length := fun x hx => by
      obtain ⟨k', hk'⟩ := (OO.has x).mp hx
      rcases hk' with h | h
      · exact KM.reach_lt W ha h
      · exact KM.reach_lt W hb h
    have Olen : O.length ≤ 1024 := Nat.le_trans (nodup_bound OO.nd Olt) W.few
    have fit : ∀ {n : Nat}, n ≤ 1024 → n < sizeLine := fun h => Nat.lt_of_le_of_lt h (by decide)
    refine ⟨_, rfl, oo, rfl, ⟨_, SqL.of (s0' _ _ ho)⟩, for_list (K := K) (a := oo) (xs := O.map nv) (fun i σ H' => Same H H' ∧ (∃ v3 v4 v5 v6 : Option V, σ = [some (.ref ap), some (.ref oo), some (.ref R), v3, v4, v5, v6]) ∧ ∃ cs : List Addr, H' R = some (.dK (encD V.ref ((O.take i).zip cs))) ∧ cs.length = i ∧ R ∉ cs ∧ TblR H' s0 O cs (fun _ => i) ∧ ∀ c, c ∈ cs → H c = none)
      ⟨s0', ⟨none, none, none, none, rfl⟩, [], upd_same, rfl, by simp, ⟨List.nodup_nil, (fun j x c _ h => by simp at h)⟩, by simp⟩ (fun i σ H' _ h => SqL.of (h.1 _ _ ho)) ?_ ?_⟩
    · rintro i y σ H1 hi' ⟨s1, ⟨v3, v4, v5, v6, rfl⟩, cs, hR1, hcl, Rcs, TB, cnew⟩
      obtain ⟨x, hx, rfl⟩ := map_get hi'
      have hil : i < O.length := (List.getElem?_eq_some_iff.mp hx).1
      have hxl : x < s0.persons.length := Olt x (List.mem_of_getElem? hx)
      have xnot : x ∉ O.take i := not_take OO.nd hx
      have ndi : (O.take i).Nodup := OO.nd.sublist (List.take_sublist _ _)
      have ndi1 : (O.take (i + 1)).Nodup := OO.nd.sublist (List.take_sublist _ _)
      obtain ⟨px, hpx, hpx'⟩ := RP.get (j := x) (by rw [List.length_map]; exact hxl)
      have hpx2 : H px = some (.lst ((KM.par s0 x).map nv)) := by rw [hpx', ← row_par]
      have atc : ∀ y, y ∈ O.take i → ∃ j c, O[j]? = some y ∧ cs[j]? = some c := fun y hy => by
        obtain ⟨j, h1, h2⟩ := mem_take_iff.mp hy
        exact ⟨j, cs[j]'(by omega), h2, List.getElem?_eq_getElem (by omega)⟩
      have lenR : (encD V.ref ((O.take i).zip cs)).length = i := by rw [encD_len, List.length_zip, List.length_take, hcl]; omega
      intro w' hw
      have wR : R ≠ w' := ne_of_none hR1 hw
      have wcs : w' ∉ cs := fun q => by
        obtain ⟨j, hj⟩ := List.mem_iff_getElem?.mp q
        have hjl : j < O.length := by have := (List.getElem?_eq_some_iff.mp hj).1; omega
        have := TB.row j _ w' (List.getElem?_eq_getElem hjl) hj
        rw [hw] at this; cases this
      have cR : ∀ c, c ∈ cs → c ≠ R := fun c hc e => Rcs (by rw [← e]; exact hc)
      have cw : ∀ c, c ∈ cs → c ≠ w' := fun c hc e => wcs (by rw [← e]; exact hc)
      refine ⟨R, .dK (encD V.ref ((O.take i).zip cs)), by rw [upd_ne wR]; exact hR1, True.intro, fun od => ⟨_, rfl, R, od, rfl, .inl ⟨_, upd_same, ?_⟩⟩⟩
      have hs1 : ∀ c o, H1 c = some o → c ≠ R → upd (upd H1 w' (.dK [])) R (.frz od (.dK (encD V.ref ((O.take i).zip cs)))) c = some o := fun c o e n => by rw [upd_ne n, upd_ne (ne_of_none e hw)]; exact e
      have hsR : upd (upd H1 w' (.dK [])) R (.frz od (.dK (encD V.ref ((O.take i).zip cs)))) R = some (.frz od (.dK (encD V.ref ((O.take i).zip cs)))) := upd_same
      have hsw : upd (upd H1 w' (.dK [])) R (.frz od (.dK (encD V.ref ((O.take i).zip cs)))) w' = some (.dK []) := by rw [upd_ne wR.symm]; exact upd_same
      generalize upd (upd H1 w' (.dK [])) R (.frz od (.dK (encD V.ref ((O.take i).zip cs)))) = Hs at hs1 hsR hsw
      refine for_n (J := Itk R od (encD V.ref ((O.take i).zip cs))) (n := i) (fun j σ H' => SameX w' Hs H' ∧ (∃ v5 v6 : Option V, σ = [some (.ref ap), some (.ref oo), some (.ref R), some (nv x), some (.ref w'), v5, v6]) ∧ H' w' = some (.dK (encN ((O.take j).map fun y => (y, KM.AL s0 x y)))))
        ⟨SameX.refl _ _, ⟨_, _, rfl⟩, hsw⟩ (fun j σ H' hj h => ⟨h.1 _ _ hsR wR, by rw [lenR]; exact hj⟩) (fun σ H' h => ⟨h.1 _ _ hsR wR, by rw [lenR]; exact Nat.le_refl _⟩) ?_ ?_
      · rintro j σ H3 z H3' hj ⟨s3, ⟨v5', v6', rfl⟩, hw3⟩ ⟨rfl, key, val, hkv, rfl⟩
        obtain ⟨pr, hpr, e1, e2⟩ := encD_keys V.ref _ hkv
        rw [List.getElem?_zip_eq_some] at hpr
        obtain ⟨hy', hcy⟩ := hpr
        rw [List.getElem?_take, if_pos hj] at hy'
        rw [e1]
        generalize pr.1 = y at hy'
        generalize pr.2 = cy at hcy
        have yin : y ∈ O.take i := mem_take_iff.mpr ⟨j, hj, hy'⟩
        have to3 : ∀ c o, H1 c = some o → c ≠ R → c ≠ w' → H3' c = some o := fun c o e n1 n2 => s3 c o (hs1 c o e n1) n2
        have hap : H3' ap = some (.lst (as.map V.ref)) := by
          have e := s1 _ _ RP.lst
          exact to3 _ _ e (ne_of e hR1 (by intro z; cases z)) (ne_of_none e hw)
        have hpx3 : H3' px = some (.lst ((KM.par s0 x).map nv)) := by
          have e := s1 _ _ hpx2
          exact to3 _ _ e (ne_of e hR1 (by intro z; cases z)) (ne_of_none e hw)
        refine ⟨_, rfl, _, rfl, ap, _, _, _, rfl, rfl, SqL.of hap, atI_nat (j := x) (v := V.ref px) (by rw [List.getElem?_map, hpx]; rfl), px, rfl, ⟨_, SqL.of hpx3⟩, fun D hD => ?_⟩
        refine lc_list (K := K) (a := px) (xs := (KM.par s0 x).map nv) (fun m H' => Same H3' H' ∧ H' D = some (.lst ((((KM.par s0 x).take m).map fun p => ((KM.AL s0 p y : Nat) : Int)).map V.int))) ⟨fun c o e => by rw [upd_ne (ne_of_none e hD)]; exact e, by rw [upd_same]; rfl⟩ (fun m H' _ h => SqL.of (h.1 _ _ hpx3)) ?_ ?_
        · rintro m z H4 hm ⟨s4, h4⟩
          obtain ⟨p, hp, rfl⟩ := map_get hm
          have hpin : p ∈ O.take i := OO.ahead i x p hx (List.mem_of_getElem? hp)
          obtain ⟨jp, cp, o1, o2⟩ := atc p hpin
          have cpin : cp ∈ cs := List.mem_of_getElem? o2
          have hrow := s4 _ _ (to3 _ _ (TB.row jp p cp o1 o2) (cR cp cpin) (cw cp cpin))
          refine ⟨rfl, ?_⟩
          dsimp only [tYes]
          rw [if_pos rfl]
          refine ⟨_, rfl, _, rfl, R, _, rfl, dgetR (.inr ⟨od, s4 _ _ (s3 _ _ hsR wR)⟩) (top_val OO.nd hcl (by omega) o1 o2), _, rfl, cp, _, rfl, dgetN hrow (row_val ndi yin), _, h4, ?_, fun c o e => ?_, ?_⟩
          · rw [List.length_map, List.length_map, List.length_take]
            exact fit (by have := W.two x; omega)
          · rw [upd_ne (ne_of_none e hD)]; exact s4 _ _ e
          · rw [upd_same, take_snoc hp, List.map_append, List.map_append]; rfl
        · rintro H4 ⟨s4, h4⟩
          rw [List.length_map, List.take_length] at h4
          have hw4 := s4 _ _ hw3
          refine ⟨D, _, rfl, SqL.of h4, _, _, rfl, rfl, ⟨by decide, by decide⟩, _, rfl, _, rfl, w', _, rfl, DPut.k (k := Sum.inl (y : Int)) hw4 (by unfold encN; rw [encD_len, List.length_map, List.length_take]; exact fit (by omega)), ?_⟩
          have esum : (((KM.par s0 x).map fun p => ((KM.AL s0 p y : Nat) : Int)).sum) / 2 = ((KM.AL s0 x y : Nat) : Int) := by
            have : ((KM.par s0 x).map fun p => ((KM.AL s0 p y : Nat) : Int)).sum = ((((KM.par s0 x).map fun p => KM.AL s0 p y).sum : Nat) : Int) := by
              generalize KM.par s0 x = l
              induction l with
              | nil => rfl
              | cons p l ih => rw [List.map_cons, List.sum_cons, List.map_cons, List.sum_cons, ih]; omega
            rw [this, ← OO.val W hx yin]
            omega
          refine ⟨fun c o e n => ?_, ⟨_, _, rfl⟩, ?_⟩
          · rw [upd_ne n]; exact s4 _ _ (s3 c o e n)
          · rw [upd_same, take_snoc hy', List.map_append]
            show some (HO.dK (putK (encD nv _) (Sum.inl (y : Int)) (V.int ((((KM.par s0 x).map fun p => ((KM.AL s0 p y : Nat) : Int)).sum) / 2)))) = _
            rw [esum]
            have := encD_new nv (E := (O.take j).map fun y => (y, KM.AL s0 x y)) (x := y) (KM.AL s0 x y) (by rw [row_keys]; exact not_take OO.nd hy')
            exact congrArg (fun z => some (HO.dK z)) this
      rintro σ H3 ⟨s3, ⟨v5', v6', rfl⟩, hw3⟩
      refine ⟨s3 _ _ hsR wR, ?_⟩
      have s5 : Same H1 (upd H3 R (.dK (encD V.ref ((O.take i).zip cs)))) := fun c o e => by
        by_cases z : c = R
        · rw [z, upd_same, ← hR1, ← z]; exact e
        · rw [upd_ne z]; exact s3 c o (hs1 c o e z) (ne_of_none e hw)
      have hw5 : upd H3 R (.dK (encD V.ref ((O.take i).zip cs))) w' = some (.dK (encN ((O.take i).map fun y => (y, KM.AL s0 x y)))) := by rw [upd_ne wR.symm]; exact hw3
      generalize upd H3 R (.dK (encD V.ref ((O.take i).zip cs))) = H5 at s5 hw5
      clear s3 hw3 hs1 hsR hsw
      refine ⟨w', .dK (encN ((O.take i).map fun y => (y, KM.AL s0 x y))), hw5, True.intro, fun od2 => ⟨_, rfl, w', od2, rfl, .inl ⟨_, upd_same, ?_⟩⟩⟩
      have lenW : (encN ((O.take i).map fun y => (y, KM.AL s0 x y))).length = i := by unfold encN; rw [encD_len, List.length_map, List.length_take]; omega
      have hs2 : ∀ c o, H1 c = some o → upd H5 w' (.frz od2 (.dK (encN ((O.take i).map fun y => (y, KM.AL s0 x y))))) c = some o := fun c o e => by rw [upd_ne (ne_of_none e hw)]; exact s5 _ _ e
      have hs2w : upd H5 w' (.frz od2 (.dK (encN ((O.take i).map fun y => (y, KM.AL s0 x y))))) w' = some (.frz od2 (.dK (encN ((O.take i).map fun y => (y, KM.AL s0 x y))))) := upd_same
      generalize upd H5 w' (.frz od2 (.dK (encN ((O.take i).map fun y => (y, KM.AL s0 x y))))) = Hs2 at hs2 hs2w
      refine for_n (J := Itk w' od2 (encN ((O.take i).map fun y => (y, KM.AL s0 x y)))) (n := i) (fun j σ H' => (∀ c o, Hs2 c = some o → c ∉ cs → H' c = some o) ∧ (∃ v5 v6 : Option V, σ = [some (.ref ap), some (.ref oo), some (.ref R), some (nv x), some (.ref w'), v5, v6]) ∧ TblR H' s0 O cs (fun j' => if j' < j then i + 1 else i))
        ⟨fun _ _ e _ => e, ⟨_, _, rfl⟩, TB.nd, (fun j' x' c h1 h2 => by rw [if_neg (Nat.not_lt_zero _)]; exact hs2 _ _ (TB.row j' x' c h1 h2))⟩ (fun j σ H' hj h => ⟨h.1 _ _ hs2w wcs, by rw [lenW]; exact hj⟩) (fun σ H' h => ⟨h.1 _ _ hs2w wcs, by rw [lenW]; exact Nat.le_refl _⟩) ?_ ?_
      · rintro j σ H6 z H6' hj ⟨s6, ⟨v5'', v6'', rfl⟩, TB6⟩ ⟨rfl, key, val, hkv, rfl⟩
        obtain ⟨pr, hpr, e1, e2⟩ := encD_keys nv _ hkv
        rw [List.getElem?_map, List.getElem?_take, if_pos hj] at hpr
        obtain ⟨y, hy', e3⟩ : ∃ y, O[j]? = some y ∧ pr = (y, KM.AL s0 x y) := by
          cases e : O[j]? with
          | none => rw [e] at hpr; cases hpr
          | some y => rw [e] at hpr; exact ⟨y, rfl, (Option.some.inj hpr).symm⟩
        rw [e1, e3]
        have yin : y ∈ O.take i := mem_take_iff.mpr ⟨j, hj, hy'⟩
        obtain ⟨cy, hcy⟩ : ∃ cy, cs[j]? = some cy := ⟨cs[j]'(by omega), List.getElem?_eq_getElem (by omega)⟩
        have hR6 := s6 _ _ (hs2 _ _ hR1) Rcs
        have hrow := TB6.row j y cy hy' hcy
        rw [if_neg (Nat.lt_irrefl _)] at hrow
        refine ⟨_, rfl, _, rfl, w', _, rfl, dgetR (.inr ⟨od2, s6 _ _ hs2w wcs⟩) (row_val ndi yin), _, rfl, _, rfl, R, _, rfl, dgetN hR6 (top_val OO.nd hcl (by omega) hy' hcy), _, rfl, cy, _, rfl, DPut.k (k := Sum.inl (x : Int)) hrow (by unfold encN; rw [encD_len, List.length_map, List.length_take]; exact fit (by omega)), ?_⟩
        have eput : putK (encN ((O.take i).map fun z => (z, KM.AL s0 y z))) (Sum.inl (x : Int)) (nv (KM.AL s0 x y)) = encN ((O.take (i + 1)).map fun z => (z, KM.AL s0 y z)) := by
          rw [KM.AL_comm W x y, take_snoc hx, List.map_append]
          exact encD_new nv (E := (O.take i).map fun z => (z, KM.AL s0 y z)) (x := x) (KM.AL s0 y x) (by rw [row_keys]; exact xnot)
        refine ⟨fun c o e n => ?_, ⟨_, _, rfl⟩, TB.nd, fun j' x' c h1 h2 => ?_⟩
        · rw [upd_ne (fun z => n (by rw [z]; exact List.mem_of_getElem? hcy))]; exact s6 c o e n
        · by_cases q : j' = j
          · subst q
            rw [hcy] at h2
            have h2 := Option.some.inj h2
            subst h2
            rw [hy'] at h1
            have h1 := Option.some.inj h1
            subst h1
            rw [upd_same, if_pos (Nat.lt_succ_self _)]
            exact congrArg (fun z => some (HO.dK z)) eput
          · have ne : c ≠ cy := fun z => q ((List.getElem?_inj (List.getElem?_eq_some_iff.mp h2).1 TB.nd).mp (by rw [h2, hcy, z]))
            rw [upd_ne ne, TB6.row j' x' c h1 h2]
            by_cases q2 : j' < j
            · rw [if_pos q2, if_pos (by omega)]
            · rw [if_neg q2, if_neg (by omega)]
      rintro σ H6 ⟨s6, ⟨v5'', v6'', rfl⟩, TB6⟩
      refine ⟨s6 _ _ hs2w wcs, ?_⟩
      have TB7 : TblR (upd H6 w' (.dK (encN ((O.take i).map fun y => (y, KM.AL s0 x y))))) s0 O cs (fun _ => i + 1) := ⟨TB.nd, fun j' x' c h1 h2 => by
        rw [upd_ne (cw c (List.mem_of_getElem? h2)), TB6.row j' x' c h1 h2, if_pos (by have := (List.getElem?_eq_some_iff.mp h2).1; omega)]⟩
      have s7 : ∀ c o, H1 c = some o → c ∉ cs → upd H6 w' (.dK (encN ((O.take i).map fun y => (y, KM.AL s0 x y)))) c = some o := fun c o e n => by rw [upd_ne (ne_of_none e hw)]; exact s6 _ _ (hs2 _ _ e) n
      have hw7 : upd H6 w' (.dK (encN ((O.take i).map fun y => (y, KM.AL s0 x y)))) w' = some (.dK (encN ((O.take i).map fun y => (y, KM.AL s0 x y)))) := upd_same
      generalize upd H6 w' (.dK (encN ((O.take i).map fun y => (y, KM.AL s0 x y)))) = H7 at TB7 s7 hw7
      have hR7 := s7 _ _ hR1 Rcs
      have old : ∀ c o, H c = some o → H7 c = some o := fun c o e => s7 _ _ (s1 _ _ e) (fun q => by rw [cnew c q] at e; cases e)
      have hap7 := old _ _ RP.lst
      have hpx7 := old _ _ hpx2
      obtain ⟨v, v1, v2, v3'⟩ : ∃ v, (∀ p q, KM.par s0 x = [p, q] → v = KM.AL s0 p q) ∧ ((KM.par s0 x).length < 2 → v = 0) ∧ KM.AL s0 x x = (Sz31.ONE + v) / 2 := by
        have h := KM.AL_self W x
        generalize KM.par s0 x = l at h
        match l, h with
        | [], h => exact ⟨0, (fun p q e => by cases e), (fun _ => rfl), h⟩
        | [y], h => exact ⟨0, (fun p q e => by cases e), (fun _ => rfl), h⟩
        | [p, q], h => exact ⟨_, (fun p' q' e => by cases e; rfl), (fun z => by simp at z), h⟩
        | p :: q :: r :: l, h => exact ⟨0, (fun p q e => by cases e), (fun _ => rfl), h⟩
      refine ⟨_, rfl, _, rfl, _, rfl, ap, _, _, _, rfl, rfl, SqL.of hap7, atI_nat (j := x) (v := V.ref px) (by rw [List.getElem?_map, hpx]; rfl), R, px, KM.par s0 x, v, rfl, hpx7, W.two x, fun p q e => ?_, v2, ?_⟩
      · have pin : p ∈ O.take i := OO.ahead i x p hx (by rw [e]; simp)
        have qin : q ∈ O.take i := OO.ahead i x q hx (by rw [e]; simp)
        obtain ⟨jp, cp, o1, o2⟩ := atc p pin
        refine ⟨cp, _, _, hR7, top_val OO.nd hcl (by omega) o1 o2, TB7.row jp p cp o1 o2, ?_⟩
        rw [v1 p q e]
        exact row_val ndi1 (by rw [take_snoc hx]; exact List.mem_append_left _ qin)
      rw [← v3']
      refine ⟨_, rfl, _, rfl, w', _, rfl, DPut.k (k := Sum.inl (x : Int)) hw7 (by rw [lenW]; exact fit (by omega)), ?_⟩
      have eput : putK (encN ((O.take i).map fun z => (z, KM.AL s0 x z))) (Sum.inl (x : Int)) (nv (KM.AL s0 x x)) = encN ((O.take (i + 1)).map fun z => (z, KM.AL s0 x z)) := by
        rw [take_snoc hx, List.map_append]
        exact encD_new nv (E := (O.take i).map fun z => (z, KM.AL s0 x z)) (x := x) (KM.AL s0 x x) (by rw [row_keys]; exact xnot)
      rw [eput]
      have hR8 : upd H7 w' (.dK (encN ((O.take (i + 1)).map fun z => (z, KM.AL s0 x z)))) R = some (.dK (encD V.ref ((O.take i).zip cs))) := by rw [upd_ne wR]; exact hR7
      refine ⟨_, rfl, _, rfl, _, rfl, R, _, rfl, DPut.k (k := Sum.inl (x : Int)) hR8 (by rw [lenR]; exact fit (by omega)), ?_⟩
      have ezip : (O.take (i + 1)).zip (cs ++ [w']) = (O.take i).zip cs ++ [(x, w')] := by
        rw [take_snoc hx, List.zip_append (by rw [List.length_take, hcl]; omega)]
        rfl
      have eput2 : putK (encD V.ref ((O.take i).zip cs)) (Sum.inl (x : Int)) (.ref w') = encD V.ref ((O.take (i + 1)).zip (cs ++ [w'])) := by
        rw [ezip]
        exact encD_new V.ref (E := (O.take i).zip cs) (x := x) w' (by rw [zip_keys hcl (by omega)]; exact xnot)
      rw [eput2]
      have Hw : H w' = none := s1.free hw
      refine ⟨fun c o e => ?_, ⟨_, _, _, _, rfl⟩, cs ++ [w'], upd_same, by rw [List.length_append, hcl]; rfl, fun q => ?_, ⟨?_, fun j' x' c h1 h2 => ?_⟩, fun c hc => ?_⟩
      · rw [upd_ne (ne_of_none e hR), upd_ne (ne_of_none e Hw)]; exact old c o e
      · rcases List.mem_append.mp q with q | q
        · exact Rcs q
        · exact wR (List.mem_singleton.mp q)
      · rw [List.nodup_append]
        refine ⟨TB.nd, by simp, fun p hp q hq e => ?_⟩
        rw [List.mem_singleton] at hq
        rw [e, hq] at hp
        exact wcs hp
      · by_cases q : j' < cs.length
        · rw [List.getElem?_append_left q] at h2
          have cin := List.mem_of_getElem? h2
          rw [upd_ne (cR c cin), upd_ne (cw c cin)]
          exact TB7.row j' x' c h1 h2
        · rw [List.getElem?_append_right (by omega)] at h2
          have hj0 : j' - cs.length = 0 := by
            cases e : j' - cs.length with
            | zero => rfl
            | succ n => rw [e] at h2; simp at h2
          rw [hj0] at h2
          have e1 : w' = c := Option.some.inj h2
          subst e1
          have e2 : j' = i := by omega
          rw [e2, hx] at h1
          have e3 := Option.some.inj h1
          subst e3
          rw [upd_ne wR.symm]
          exact upd_same
      · rcases List.mem_append.mp hc with q | q
        · exact cnew c q
        · rw [List.mem_singleton.mp q]; exact Hw
    · rintro σ H1 ⟨s1, ⟨v3, v4, v5, v6, rfl⟩, cs, hR1, hcl, Rcs, TB, cnew⟩
      rw [List.length_map] at hcl TB
      rw [List.length_map, List.take_length] at hR1
      exact ⟨_, rfl, k H1 R cs s1 hR1 hcl TB⟩
end
end Kin
set_option Elab.async false
set_option linter.all false
set_option maxRecDepth 100000
set_option maxHeartbeats 2000000
namespace Kin
open PySem PySem.Spec PyProof.Rows L2
abbrev sAbove : Stmt := top 44
abbrev sCommon : Stmt := top 45
abbrev sAlike : Stmt := top 46
abbrev sWordA : Stmt := top 47
theorem tab_ne {P : Addr} {pos : Pos} {q : Str} {H : Hp} (t : Tab P pos q H) {b : Addr} {o : HO} (h : H b = some o) (n : ∀ ps, o ≠ .tbl ps) : b ≠ P := fun e => by
  obtain ⟨ps, hp⟩ := t.some
  rw [e, hp] at h
  exact n ps (Option.some.inj h).symm
theorem RowsAt.sameX {P : Addr} {pos : Pos} {q : Str} {H H' : Hp} {a : Addr} {as : List Addr} {rows : List (List Nat)} (R : RowsAt H a as rows) (t : Tab P pos q H) (s : SameX P H H') : RowsAt H' a as rows :=
  ⟨s _ _ R.lst (tab_ne t R.lst (by intro ps z; cases z)), R.len, fun j c h => s _ _ (R.at_ j c h) (tab_ne t (R.at_ j c h) (by intro ps z; cases z))⟩
theorem Fam.sameX {P : Addr} {pos : Pos} {q : Str} {C : Addr} {H H' : Hp} {p : Addr} {s : Sz31.St} {fp : List Addr} (F : Fam C H p s fp) (t : Tab P pos q H) (e : SameX P H H') : Fam C H' p s fp := by
  obtain ⟨aS, aP, aC, aD, dx, ps, cs, kids, X⟩ := F.ex
  exact ⟨F.wf, aS, aP, aC, aD, dx, ps, cs, kids, X.efp, e _ _ X.ins (tab_ne t X.ins (by intro ps z; cases z)), e _ _ X.sex (tab_ne t X.sex (by intro ps z; cases z)), X.par.sameX t e, X.kid.sameX t e, e _ _ X.prs (tab_ne t X.prs (by intro ps z; cases z)), X.nd, X.klen, X.kmem, X.knd⟩
/-! ### how_alike -/
def spHow (Pt : Addr) : Sp := fun vs H Q _ => ∃ (ap : Addr) (as : List Addr) (s : Sz31.St) (a b : Nat), vs = [.ref ap, nv a, nv b] ∧ RowsAt H ap as (s.persons.map (·.parents)) ∧ KM.WF s ∧ a < s.persons.length ∧ b < s.persons.length ∧ Tab Pt lamPos lamQ H ∧
  ∀ H', SameX Pt H H' → Tab Pt lamPos lamQ H' → Q (nv (KM.AL s a b)) H'
section
variable {P : Program} {w : World} {K : PySem.W.Frag} {mg : Str → Option Value} {base : Heap} {C N Pt : Addr}
theorem scHow : FnScope ["parents", "a", "b"] ["parents", "a", "b"] (defScope sHow) := ⟨rfl, rfl, rfl, by decide +kernel, rfl, by decide +kernel, by decide +kernel⟩
theorem ok_how {f : Addr} {fd : FuncData} (F : Fun K "how_alike" "how_alike" sHow f fd) (c1 : Callee P w K mg base 4 "parents_first" ["parents", "a", "b"] (spFirst Pt)) (c2 : Callee P w K mg base 2 "alike_rows" ["parents", "order"] spRows) : FnOk P w K mg base CX0 5 f fd ["parents", "a", "b"] (spHow Pt) := by
  obtain ⟨f1, fd1, G1, m1, k1, b1⟩ := c1.ex
  obtain ⟨f2, fd2, G2, m2, k2, b2⟩ := c2.ex
  refine F.ok scHow (fun vs H Q E h => ?_) (fun cdv A outer s H vs Q E hr h => ?_)
  · obtain ⟨ap, as, s, a, b, rfl, _⟩ := h
    rfl
  · obtain ⟨ap, as, s0, a, b, rfl, R, W, ha, hb, tab, k⟩ := h
    have hu := hu_of hr
    have hr2 : Room 2 _ := hr.mono (by decide)
    refine ⟨_, pss_one (ps_ret (pe_dget hu (pe_dget hu (pe_call G2 hr2 rfl m2 k2 b2 .nil pass0 (pa_cons (pv 0) (pa_cons (pe_call G1 hr rfl m1 k1 b1 .nil pass0 (pa_cons (pv 0) (pa_cons (pv 1) (pa_cons (pv 2) pa_nil)))) pa_nil))) (pv 1) (fun _ _ => rfl)) (pv 2) (fun _ _ => rfl))), ?_⟩
    refine ⟨_, rfl, _, rfl, _, rfl, _, rfl, ap, as, s0, a, b, rfl, R, W, ha, hb, tab, fun H1 l O sx tab1 hl h1 OO => ?_⟩
    refine ⟨ap, l, as, s0, a, b, O, rfl, R.sameX tab sx, W, ha, hb, h1, OO, fun H2 RR cs s2 hR hcl TB => ?_⟩
    obtain ⟨ja, hja⟩ := List.mem_iff_getElem?.mp ((OO.has a).mpr ⟨0, .inl (KM.mem_zero.mpr rfl)⟩)
    have hbO : b ∈ O := (OO.has b).mpr ⟨0, .inr (KM.mem_zero.mpr rfl)⟩
    obtain ⟨ca, hca⟩ : ∃ c, cs[ja]? = some c := ⟨cs[ja]'(by have := (List.getElem?_eq_some_iff.mp hja).1; omega), List.getElem?_eq_getElem _⟩
    have hR' : H2 RR = some (.dK (encD V.ref ((O.take O.length).zip cs))) := by rw [List.take_length]; exact hR
    have hrow := TB.row ja a ca hja hca
    refine ⟨_, rfl, RR, _, rfl, dgetN hR' (top_val OO.nd hcl (Nat.le_refl _) hja hca), _, rfl, ca, _, rfl, dgetN hrow (row_val (OO.nd.sublist (List.take_sublist _ _)) (by rw [List.take_length]; exact hbO)), ?_⟩
    exact k H2 (sx.trans (SameX.of s2)) (tab1.same s2)
/-! ### what is answered -/
def ansL (r : Sz31.Ans) : List Int := r.value :: (r.numbers ++ r.bytes.map fun (b : UInt8) => (b.toNat : Int))
theorem ansL_only (n : Int) : ansL (Sz31.only n) = [n] := rfl
/-- a call that asks, of n numbers -/
def spQ (C Pt : Addr) (n : Nat) (mk : List Int → Sz31.Call) : Sp := fun vs H Q _ => ∃ (p : Addr) (s : Sz31.St) (fp : List Addr) (ns : List Int), vs = .ref p :: ns.map V.int ∧ ns.length = n ∧ Fam C H p s fp ∧ Tab Pt lamPos lamQ H ∧
  ∀ (H' : Hp) (l : Addr), SameX Pt H H' → Tab Pt lamPos lamQ H' → H l = none → H' l = some (.lst ((ansL (Sz31.does s (mk ns)).2).map V.int)) → Q (.ref l) H'
theorem both_pos {s : Sz31.St} {a b : Int} (h : Sz31.both s a b = true) : ∃ i j : Nat, a = (i : Int) ∧ b = (j : Int) ∧ i < s.persons.length ∧ j < s.persons.length := by
  unfold Sz31.both Sz31.St.has at h
  simp only [Bool.and_eq_true, decide_eq_true_eq] at h
  exact ⟨a.toNat, b.toNat, by omega, by omega, by omega, by omega⟩
theorem both_self {s : Sz31.St} (a : Int) : Sz31.both s a a = s.has a := by unfold Sz31.both; exact Bool.and_self _
theorem scAbove : FnScope ["family", "a", "k", "levels"] ["family", "a", "k"] (defScope sAbove) := ⟨rfl, rfl, rfl, by decide +kernel, rfl, by decide +kernel, by decide +kernel⟩
theorem ok_above {f : Addr} {fd : FuncData} (F : Fun K "above_answer" "above_answer" sAbove f fd) (T : Txt K mg C) (mh : Mth P w K mg base C 1 "has_both" ["self", "a", "b"] (spHas C)) (cl : Callee P w K mg base 2 "levels_from" ["links", "start"] spLevels) : FnOk P w K mg base CX0 3 f fd ["family", "a", "k"] (spQ C Pt 2 fun ns => .above (ns.getD 0 0) (ns.getD 1 0)) := by
  obtain ⟨t2, c2⟩ := T.cSteps
  obtain ⟨f1, fd1, G1, m1, b1⟩ := mh.ex
  obtain ⟨f2, fd2, G2, m2, k2, b2⟩ := cl.ex
  refine F.ok scAbove (fun vs H Q E h => ?_) (fun cdv A outer s H vs Q E hr h => ?_)
  · obtain ⟨p, s, fp, ns, rfl, hn, _⟩ := h
    simp [hn]
  · obtain ⟨p, s0, fp, ns, rfl, hn, FF, tab, k⟩ := h
    obtain ⟨W, aS, aP, aC, aD, dx, ps, cs, kids, X⟩ := id FF
    obtain ⟨a, b, rfl⟩ : ∃ a b, ns = [a, b] := match ns, hn with | [a, b], _ => ⟨a, b, rfl⟩
    have hr1 : Room 1 _ := hr.mono (by decide)
    refine ⟨_, pss_cons (ps_if (PW.pt (pw_or (pt_not (pt_val (pe_meth (pv 0) T.cl m1 G1 hr1 b1 .nil pass0 (pa_cons (pv 1) (pa_cons (pv 1) pa_nil))))) (pw_or (pt_cmpR op_lt (pv 2) pe_int (nomark _)) (pw_or1 (pt_cmpR op_gt (pv 2) (pe_gint c2) (nomark _)))))) (pss_one (ps_ret (pe_lst (pa_cons (pe_un un_neg pe_int) pa_nil)))) pss_nil)
      (pss_cons (ps_set (i := 3) scAbove.nd rfl (Or.inl rfl) (pe_call G2 hr rfl m2 k2 b2 .nil pass0 (pa_cons (pe_fld (pv 0) rfl) (pa_cons (pv 1) pa_nil))))
      (pss_cons (ps_if (pt_cmpR op_ge (pv 2) (pe_callB call_len_seq (by rfl) T.len b_len (pa_cons (pv 3) pa_nil)) (nomark _)) (pss_one (ps_ret (pe_lst (pa_cons pe_int pa_nil)))) pss_nil)
      (pss_one (ps_ret (pe_lst (pa_cons (pe_callB call_len_seq (by rfl) T.len b_len (pa_cons (pe_ix ix_list (pv 3) (pv 2) (fun _ _ => rfl)) pa_nil)) pa_nil)))))), ?_⟩
    have one : 1 ≤ sizeLine := by decide
    -- a list of one number
    have fin : ∀ (H1 : Hp) (z : Int), Same H H1 → (Sz31.does s0 (.above a b)).2 = Sz31.only z → ∀ l, H1 l = none → Q (.ref l) (upd H1 l (.lst [.int z])) := fun H1 z s1 e l hl => by
      have s2 : Same H (upd H1 l (.lst [.int z])) := fun c o e => by rw [upd_ne (ne_of_none (s1 _ _ e) hl)]; exact s1 _ _ e
      refine k _ l (SameX.of s2) (tab.same s2) (s1.free hl) ?_
      show upd H1 l (.lst [.int z]) l = some (.lst ((ansL (Sz31.does s0 (.above a b)).2).map V.int))
      rw [upd_same, e]
      rfl
    have noHas := ff_no aS aP aC aD (m := "has_both") (by decide +kernel) (by decide +kernel) (by decide +kernel) (by decide +kernel)
    have bad : s0.has a = false ∨ b < 0 ∨ ((Sz31.DEPTH : Nat) : Int) < b → (Sz31.does s0 (.above a b)).2 = Sz31.only (-1) := fun h => by
      show Sz31.only (if _ then _ else _) = _
      rw [if_pos h]
    refine ⟨_, rfl, p, dx, _, rfl, X.ins, noHas, _, rfl, _, rfl, p, s0, fp, a, a, rfl, FF, _, rfl, ?_⟩
    rw [both_self]
    refine go_ite (fun h1 => go_ite (fun _ => ?_) (fun h => Bool.noConfusion h)) (fun h1 => ?_)
    · exact ⟨_, rfl, one, fun l hl => fin H (-1) (Same.refl H) (bad (.inl (by simpa using h1))) l hl⟩
    have h1 : s0.has a = true := by simpa using h1
    refine ⟨_, rfl, _, _, rfl, rfl, _, rfl, go_dec (fun h2 => go_ite (fun _ => ?_) (fun h => Bool.noConfusion h)) (fun h2 => ?_)⟩
    · exact ⟨_, rfl, one, fun l hl => fin H (-1) (Same.refl H) (bad (.inr (.inl h2))) l hl⟩
    refine ⟨_, rfl, _, _, rfl, rfl, _, rfl, go_dec (fun h3 => ?_) (fun h3 => ?_)⟩
    · exact ⟨_, rfl, one, fun l hl => fin H (-1) (Same.refl H) (bad (.inr (.inr h3))) l hl⟩
    obtain ⟨i, _, rfl, _, hil, _⟩ := both_pos (s := s0) (a := a) (b := a) (by rw [both_self]; exact h1)
    obtain ⟨kk, rfl⟩ : ∃ kk : Nat, b = (kk : Int) := ⟨b.toNat, by omega⟩
    have val : (Sz31.does s0 (.above (i : Int) (kk : Int))).2 = Sz31.only ((KM.lv (KM.par s0) i kk).length : Nat) := by
      show Sz31.only (if _ then _ else _) = _
      rw [if_neg (by rintro (h | h | h); rw [h1] at h; cases h; exact h2 h; exact h3 h)]
      show Sz31.only (((Sz31.once (Sz31.up s0 kk i)).length : Nat) : Int) = _
      rw [KM.up_eq, KM.lv_once]
    have deep : ∀ i, KM.reach (rowOf (s0.persons.map (·.parents))) 29 i = [] := fun i => by rw [par_row_fun]; exact W.deep i
    refine ⟨_, rfl, p, C, dx, _, _, rfl, X.ins, T.cl, T.nP, ff_parents _ _ _ _, _, rfl, aP, i, ps, _, rfl, X.par, within_par W, by rw [List.length_map]; exact hil, deep i, fun H1 L ls n s1 hL hls RL hn0 hn29 hne hnil => ?_⟩
    rw [par_row_fun] at RL hnil
    have lsl : ls.length = n := by rw [RL.len, List.length_map, List.length_range]
    refine ⟨_, rfl, _, rfl, L, _, rfl, .inl (SqL.of RL.lst), _, _, rfl, rfl, _, rfl, ?_⟩
    rw [List.length_map, lsl]
    refine go_dec (fun h4 => ?_) (fun h4 => ?_)
    · refine ⟨one, fun l hl => fin H1 0 s1 ?_ l hl⟩
      rw [val, KM.lv_nil.mpr (KM.nil_le (KM.lv_nil.mp hnil) (show n ≤ kk by omega))]
      rfl
    · have hkn : kk < n := by omega
      obtain ⟨cl, hcl⟩ : ∃ c, ls[kk]? = some c := ⟨ls[kk]'(by omega), List.getElem?_eq_getElem (by omega)⟩
      have hrow := RL.at_ kk cl hcl
      rw [getD_range hkn] at hrow
      refine ⟨_, rfl, _, rfl, L, _, _, _, rfl, rfl, SqL.of RL.lst, atI_nat (j := kk) (v := V.ref cl) (by rw [List.getElem?_map, hcl]; rfl), cl, _, rfl, .inl (SqL.of hrow), one, fun l hl => ?_⟩
      rw [List.length_map]
      exact fin H1 _ s1 val l hl
theorem scCommon : FnScope ["family", "a", "b", "nearest"] ["family", "a", "b"] (defScope sCommon) := ⟨rfl, rfl, rfl, by decide +kernel, rfl, by decide +kernel, by decide +kernel⟩
theorem ok_common {f : Addr} {fd : FuncData} (F : Fun K "common_answer" "common_answer" sCommon f fd) (T : Txt K mg C) (TN : TxtN K mg N) (mh : Mth P w K mg base C 1 "has_both" ["self", "a", "b"] (spHas C)) (cf : Callee P w K mg base 2 "fewest_steps" ["links", "start"] spFewest) (cn : Callee P w K mg base 3 "nearest_common" ["up_a", "up_b"] (spNearest N)) :
    FnOk P w K mg base CX0 4 f fd ["family", "a", "b"] (spQ C Pt 2 fun ns => .common (ns.getD 0 0) (ns.getD 1 0)) := by
  obtain ⟨f1, fd1, G1, m1, b1⟩ := mh.ex
  obtain ⟨f2, fd2, G2, m2, k2, b2⟩ := cf.ex
  obtain ⟨f3, fd3, G3, m3, k3, b3⟩ := cn.ex
  refine F.ok scCommon (fun vs H Q E h => ?_) (fun cdv A outer s H vs Q E hr h => ?_)
  · obtain ⟨p, s, fp, ns, rfl, hn, _⟩ := h
    simp [hn]
  · obtain ⟨p, s0, fp, ns, rfl, hn, FF, tab, k⟩ := h
    obtain ⟨W, aS, aP, aC, aD, dx, ps, cs, kids, X⟩ := id FF
    obtain ⟨a, b, rfl⟩ : ∃ a b, ns = [a, b] := match ns, hn with | [a, b], _ => ⟨a, b, rfl⟩
    have hr1 : Room 1 _ := hr.mono (by decide)
    have hr2 : Room 2 _ := hr.mono (by decide)
    refine ⟨_, pss_cons (ps_if (pt_not (pt_val (pe_meth (pv 0) T.cl m1 G1 hr1 b1 .nil pass0 (pa_cons (pv 1) (pa_cons (pv 2) pa_nil))))) (pss_one (ps_ret (pe_lst (pa_cons (pe_un un_neg pe_int) pa_nil)))) pss_nil)
      (pss_cons (ps_set (i := 3) scCommon.nd rfl (Or.inl rfl) (pe_call G3 hr rfl m3 k3 b3 .nil pass0 (pa_cons (pe_call G2 hr2 rfl m2 k2 b2 .nil pass0 (pa_cons (pe_fld (pv 0) rfl) (pa_cons (pv 1) pa_nil))) (pa_cons (pe_call G2 hr2 rfl m2 k2 b2 .nil pass0 (pa_cons (pe_fld (pv 0) rfl) (pa_cons (pv 2) pa_nil))) pa_nil))))
      (pss_cons (ps_if (pt_cmpR op_isN (pv 3) pe_non (nomark _)) (pss_one (ps_ret (pe_lst (pa_cons pe_int pa_nil)))) pss_nil)
      (pss_one (ps_ret (pe_lst (pa_cons (pe_callB call_len_seq (by rfl) T.len b_len (pa_cons (pe_fld (pv 3) rfl) pa_nil)) (pa_cons (pe_fld (pv 3) rfl) (pa_cons (pe_fld (pv 3) rfl) (pa_cons (pe_ix ix_list (pe_fld (pv 3) rfl) pe_int (fun _ _ => rfl)) pa_nil))))))))), ?_⟩
    have one : 1 ≤ sizeLine := by decide
    have fin : ∀ (H1 : Hp) (zs : List Int), Same H H1 → ansL (Sz31.does s0 (.common a b)).2 = zs → ∀ l, H1 l = none → Q (.ref l) (upd H1 l (.lst (zs.map V.int))) := fun H1 zs s1 e l hl => by
      have s2 : Same H (upd H1 l (.lst (zs.map V.int))) := fun c o e => by rw [upd_ne (ne_of_none (s1 _ _ e) hl)]; exact s1 _ _ e
      refine k _ l (SameX.of s2) (tab.same s2) (s1.free hl) ?_
      show upd H1 l (.lst (zs.map V.int)) l = some (.lst ((ansL (Sz31.does s0 (.common a b)).2).map V.int))
      rw [upd_same, e]
    have noHas := ff_no aS aP aC aD (m := "has_both") (by decide +kernel) (by decide +kernel) (by decide +kernel) (by decide +kernel)
    refine ⟨_, rfl, p, dx, _, rfl, X.ins, noHas, _, rfl, _, rfl, p, s0, fp, a, b, rfl, FF, _, rfl, ?_⟩
    refine go_ite (fun h1 => ⟨_, rfl, one, fun l hl => fin H [-1] (Same.refl H) ?_ l hl⟩) (fun h1 => ?_)
    · have h1 : Sz31.both s0 a b = false := by simpa using h1
      show ansL (if Sz31.both s0 a b = false then _ else _) = _
      rw [if_pos h1]
      rfl
    have h1 : Sz31.both s0 a b = true := by simpa using h1
    obtain ⟨i, j, rfl, rfl, hi, hj⟩ := both_pos h1
    have deep : ∀ i, KM.reach (rowOf (s0.persons.map (·.parents))) 29 i = [] := fun i => by rw [par_row_fun]; exact W.deep i
    have hlen : (s0.persons.map (·.parents)).length = s0.persons.length := List.length_map _
    refine ⟨_, rfl, p, C, dx, _, _, rfl, X.ins, T.cl, T.nP, ff_parents _ _ _ _, _, rfl, aP, i, ps, _, rfl, X.par, within_par W, by rw [hlen]; exact hi, deep i, fun H1 da Da s1 hda0 hda Fa => ?_⟩
    rw [par_row_fun] at Fa
    refine ⟨_, rfl, p, C, dx, _, _, rfl, s1 _ _ X.ins, T.cl, T.nP, ff_parents _ _ _ _, _, rfl, aP, j, ps, _, rfl, X.par.same s1, within_par W, by rw [hlen]; exact hj, deep j, fun H2 db Db s2 hdb0 hdb Fb => ?_⟩
    rw [par_row_fun] at Fb
    have hne : da ≠ db := ne_of_none hda hdb0
    have s12 : Same H H2 := s1.trans s2
    have nb : ¬ Sz31.both s0 (i : Int) (j : Int) = false := by rw [h1]; exact fun h => Bool.noConfusion h
    refine ⟨da, db, Da, Db, s0, i, j, rfl, s2 _ _ hda, hdb, hne, W, Fa, Fb, hi, hj, fun hnone H3 s3 => ?_, fun H3 q dq l m n s3 hq0 hq hl nr => ?_⟩
    · refine ⟨_, rfl, rfl, _, rfl, go_dec (fun _ => ?_) (fun z => absurd rfl z)⟩
      refine ⟨one, fun l hl => fin H3 [0] (s12.trans s3) ?_ l hl⟩
      show ansL (if Sz31.both s0 (i : Int) (j : Int) = false then _ else match Sz31.nearest s0 i j with | some x => _ | none => Sz31.only 0) = _
      rw [if_neg nb, hnone]
      rfl
    · refine ⟨_, rfl, rfl, _, rfl, go_dec (fun z => nomatch z) (fun _ => ?_)⟩
      have hc0 : ∃ c r, KM.coms s0 i j m n = c :: r := by
        cases e : KM.coms s0 i j m n with
        | nil => exact absurd e (KM.coms_ne W hi nr)
        | cons c r => exact ⟨c, r, rfl⟩
      obtain ⟨c, r, hcr⟩ := hc0
      have hl0 : ((KM.coms s0 i j m n).map nv)[0]? = some (nv c) := by rw [hcr]; rfl
      refine ⟨_, rfl, q, N, dq, _, _, rfl, hq, TN.cl, TN.nP, nf_persons _ _ _, l, _, rfl, .inl (SqL.of hl), _, rfl, q, N, dq, _, _, rfl, hq, TN.cl, TN.nM, nf_m _ _ _, _, rfl, q, N, dq, _, _, rfl, hq, TN.cl, TN.nN, nf_n _ _ _, _, rfl, q, N, dq, _, _, rfl, hq, TN.cl, TN.nP, nf_persons _ _ _, l, _, _, _, rfl, rfl, SqL.of hl, atI_nat (j := 0) (v := nv c) hl0, (by show 4 ≤ sizeLine; decide), fun l2 hl2 => ?_⟩
      have := fin H3 [((KM.coms s0 i j m n).length : Int), (m : Int), (n : Int), (c : Int)] (s12.trans s3) ?_ l2 hl2
      · rw [List.length_map]; exact this
      · show ansL (if Sz31.both s0 (i : Int) (j : Int) = false then _ else match Sz31.nearest s0 i j with | some x => _ | none => Sz31.only 0) = _
        rw [if_neg nb, KM.nearest_of W hi nr]
        show [((KM.coms s0 i j m n).length : Int), (m : Int), (n : Int), (((KM.coms s0 i j m n).headD 0 : Nat) : Int)] = _
        rw [hcr]
        rfl
end
end Kin
set_option Elab.async false
set_option linter.all false
set_option maxRecDepth 100000
set_option maxHeartbeats 2000000
namespace Kin
open PySem PySem.Spec PyProof.Rows L2
section
variable {P : Program} {w : World} {K : PySem.W.Frag} {mg : Str → Option Value} {base : Heap} {C N Pt : Addr}
theorem scAlike : FnScope ["family", "a", "b"] ["family", "a", "b"] (defScope sAlike) := ⟨rfl, rfl, rfl, by decide +kernel, rfl, by decide +kernel, by decide +kernel⟩
theorem ok_alike {f : Addr} {fd : FuncData} (F : Fun K "alike_answer" "alike_answer" sAlike f fd) (T : Txt K mg C) (mh : Mth P w K mg base C 1 "has_both" ["self", "a", "b"] (spHas C)) (ch : Callee P w K mg base 5 "how_alike" ["parents", "a", "b"] (spHow Pt)) :
    FnOk P w K mg base CX0 6 f fd ["family", "a", "b"] (spQ C Pt 2 fun ns => .alike (ns.getD 0 0) (ns.getD 1 0)) := by
  obtain ⟨f1, fd1, G1, m1, b1⟩ := mh.ex
  obtain ⟨f2, fd2, G2, m2, k2, b2⟩ := ch.ex
  refine F.ok scAlike (fun vs H Q E h => ?_) (fun cdv A outer s H vs Q E hr h => ?_)
  · obtain ⟨p, s, fp, ns, rfl, hn, _⟩ := h
    simp [hn]
  · obtain ⟨p, s0, fp, ns, rfl, hn, FF, tab, k⟩ := h
    obtain ⟨W, aS, aP, aC, aD, dx, ps, cs, kids, X⟩ := id FF
    obtain ⟨a, b, rfl⟩ : ∃ a b, ns = [a, b] := match ns, hn with | [a, b], _ => ⟨a, b, rfl⟩
    have hr1 : Room 1 _ := hr.mono (by decide)
    refine ⟨_, pss_cons (ps_if (pt_not (pt_val (pe_meth (pv 0) T.cl m1 G1 hr1 b1 .nil pass0 (pa_cons (pv 1) (pa_cons (pv 2) pa_nil))))) (pss_one (ps_ret (pe_lst (pa_cons (pe_un un_neg pe_int) pa_nil)))) pss_nil)
      (pss_one (ps_ret (pe_lst (pa_cons pe_int (pa_cons (pe_call G2 hr rfl m2 k2 b2 .nil pass0 (pa_cons (pe_fld (pv 0) rfl) (pa_cons (pv 1) (pa_cons (pv 2) pa_nil)))) pa_nil))))), ?_⟩
    have one : 1 ≤ sizeLine := by decide
    have fin : ∀ (H1 : Hp) (zs : List Int), SameX Pt H H1 → Tab Pt lamPos lamQ H1 → ansL (Sz31.does s0 (.alike a b)).2 = zs → ∀ l, H1 l = none → Q (.ref l) (upd H1 l (.lst (zs.map V.int))) := fun H1 zs s1 t1 e l hl => by
      have s2 : Same H1 (upd H1 l (.lst (zs.map V.int))) := fun c o e => by rw [upd_ne (ne_of_none e hl)]; exact e
      refine k _ l (s1.trans (SameX.of s2)) (t1.same s2) (s1.free t1 hl) ?_
      show upd H1 l (.lst (zs.map V.int)) l = some (.lst ((ansL (Sz31.does s0 (.alike a b)).2).map V.int))
      rw [upd_same, e]
    have noHas := ff_no aS aP aC aD (m := "has_both") (by decide +kernel) (by decide +kernel) (by decide +kernel) (by decide +kernel)
    refine ⟨_, rfl, p, dx, _, rfl, X.ins, noHas, _, rfl, _, rfl, p, s0, fp, a, b, rfl, FF, _, rfl, ?_⟩
    refine go_ite (fun h1 => ⟨_, rfl, one, fun l hl => fin H [-1] (SameX.refl _ _) tab ?_ l hl⟩) (fun h1 => ?_)
    · have h1 : Sz31.both s0 a b = false := by simpa using h1
      show ansL (if Sz31.both s0 a b = false then _ else _) = _
      rw [if_pos h1]
      rfl
    have h1 : Sz31.both s0 a b = true := by simpa using h1
    obtain ⟨i, j, rfl, rfl, hi, hj⟩ := both_pos h1
    have nb : ¬ Sz31.both s0 (i : Int) (j : Int) = false := by rw [h1]; exact fun h => Bool.noConfusion h
    refine ⟨_, rfl, p, C, dx, _, _, rfl, X.ins, T.cl, T.nP, ff_parents _ _ _ _, _, rfl, _, rfl, aP, ps, s0, i, j, rfl, X.par, W, hi, hj, tab, fun H1 sx tab1 => ⟨(by show 2 ≤ sizeLine; decide), fun l hl => ?_⟩⟩
    refine fin H1 [0, ((KM.AL s0 i j : Nat) : Int)] sx tab1 ?_ l hl
    show ansL (if Sz31.both s0 (i : Int) (j : Int) = false then _ else _) = _
    rw [if_neg nb]
    rfl
theorem cut_word (t : Sz31.Bytes) (n : Nat) : cutS (S t) none (some (n : Int)) = S (t.take n) := by
  unfold cutS
  have e1 : HT.sIx (S t).length 0 none = 0 := rfl
  have e2 : HT.sIx (S t).length (S t).length (some (n : Int)) = min n t.length := by
    rw [S_len]
    unfold HT.sIx
    simp only
    split <;> omega
  rw [e1, e2, List.drop_zero, Nat.sub_zero]
  show (⟨_⟩ : Str) = ⟨_⟩
  refine congrArg Str.mk (congrArg List.toArray ?_)
  show ((t.map fun b => b.toNat).toArray.toList).take (min n t.length) = (t.take n).map fun b => b.toNat
  rw [List.map_take]
  show (t.map fun b => b.toNat).take (min n t.length) = _
  rcases Nat.le_total n t.length with h | h
  · rw [Nat.min_eq_left h]
  · rw [Nat.min_eq_right h, List.take_of_length_le (by rw [List.length_map]; exact Nat.le_refl _), List.take_of_length_le (by rw [List.length_map]; exact h)]
theorem scWordA : FnScope ["family", "a", "b", "most", "word", "sign"] ["family", "a", "b", "most"] (defScope sWordA) := ⟨rfl, rfl, rfl, by decide +kernel, rfl, by decide +kernel, by decide +kernel⟩
theorem ok_wordA {f : Addr} {fd : FuncData} (F : Fun K "word_answer" "word_answer" sWordA f fd) (T : Txt K mg C) (hOrd : mg "ord" = none) (hB : ∃ t, mg "MOST_BYTES" = some (.int 65536 t)) (mh : Mth P w K mg base C 1 "has_both" ["self", "a", "b"] (spHas C)) (cw : Callee P w K mg base 6 "word_for" ["family", "a", "b"] (spWord C)) :
    FnOk P w K mg base CX0 7 f fd ["family", "a", "b", "most"] (spQ C Pt 3 fun ns => .word (ns.getD 0 0) (ns.getD 1 0) (ns.getD 2 0)) := by
  obtain ⟨tB, hB⟩ := hB
  obtain ⟨f1, fd1, G1, m1, b1⟩ := mh.ex
  obtain ⟨f2, fd2, G2, m2, k2, b2⟩ := cw.ex
  refine F.ok scWordA (fun vs H Q E h => ?_) (fun cdv A outer s H vs Q E hr h => ?_)
  · obtain ⟨p, s, fp, ns, rfl, hn, _⟩ := h
    simp [hn]
  · obtain ⟨p, s0, fp, ns, rfl, hn, FF, tab, k⟩ := h
    obtain ⟨W, aS, aP, aC, aD, dx, ps, cs, kids, X⟩ := id FF
    obtain ⟨a, b, most, rfl⟩ : ∃ a b c, ns = [a, b, c] := match ns, hn with | [a, b, c], _ => ⟨a, b, c, rfl⟩
    have hr1 : Room 1 _ := hr.mono (by decide)
    refine ⟨_, pss_cons (ps_if (PW.pt (pw_or (pt_not (pt_val (pe_meth (pv 0) T.cl m1 G1 hr1 b1 .nil pass0 (pa_cons (pv 1) (pa_cons (pv 2) pa_nil))))) (pw_or (pt_cmpR op_lt (pv 3) pe_int (nomark _)) (pw_or1 (pt_cmpR op_gt (pv 3) (pe_gint hB) (nomark _)))))) (pss_one (ps_ret (pe_lst (pa_cons (pe_un un_neg pe_int) pa_nil)))) pss_nil)
      (pss_cons (ps_set (i := 4) scWordA.nd rfl (Or.inl rfl) (pe_call G2 hr rfl m2 k2 b2 .nil pass0 (pa_cons (pv 0) (pa_cons (pv 1) (pa_cons (pv 2) pa_nil)))))
      (pss_one (ps_ret (pe_op op_cat (pe_lst (pa_cons (pe_callB call_len_str (by rfl) T.len b_len (pa_cons (pv 4) pa_nil)) pa_nil)) (pe_lc (own := [("sign", 5)]) rfl scWordA.nd (pi_str (pe_slice sl_str (pv 4) po_none (po_some (pv 3)))) (blkOk_by (by show blkC ["family", "a", "b", "most", "word", "sign"] (defScope sWordA) _ _ = true; decide +kernel))
        (fun s H C cl fp => pg_name (i := 5) scWordA.nd rfl (Or.inl rfl)) (fun s H C cl fp => pts_nil) (fun s H C cl fp => pe_callB call_ord (by rfl) hOrd b_ord (pa_cons (pv 5) pa_nil))))))), ?_⟩
    have one : 1 ≤ sizeLine := by decide
    have bad : (Sz31.both s0 a b = false ∨ most < 0 ∨ 65536 < most) → ∀ l, H l = none → Q (.ref l) (upd H l (.lst [.int (-1)])) := fun h l hl => by
      have s2 : Same H (upd H l (.lst [.int (-1)])) := fun c o e => by rw [upd_ne (ne_of_none e hl)]; exact e
      refine k _ l (SameX.of s2) (tab.same s2) hl ?_
      show upd H l (.lst [.int (-1)]) l = some (.lst ((ansL (if Sz31.both s0 a b = false ∨ most < 0 ∨ 65536 < most then Sz31.only (-1) else _)).map V.int))
      rw [upd_same, if_pos h]
      rfl
    have noHas := ff_no aS aP aC aD (m := "has_both") (by decide +kernel) (by decide +kernel) (by decide +kernel) (by decide +kernel)
    refine ⟨_, rfl, p, dx, _, rfl, X.ins, noHas, _, rfl, _, rfl, p, s0, fp, a, b, rfl, FF, _, rfl, ?_⟩
    refine go_ite (fun h1 => go_ite (fun _ => ⟨_, rfl, one, fun l hl => bad (.inl (by simpa using h1)) l hl⟩) (fun h => Bool.noConfusion h)) (fun h1 => ?_)
    have h1 : Sz31.both s0 a b = true := by simpa using h1
    refine ⟨_, rfl, _, _, rfl, rfl, _, rfl, go_dec (fun h2 => go_ite (fun _ => ⟨_, rfl, one, fun l hl => bad (.inr (.inl h2)) l hl⟩) (fun h => Bool.noConfusion h)) (fun h2 => ?_)⟩
    refine ⟨_, rfl, _, _, rfl, rfl, _, rfl, go_dec (fun h3 => ⟨_, rfl, one, fun l hl => bad (.inr (.inr h3)) l hl⟩) (fun h3 => ?_)⟩
    obtain ⟨i, j, rfl, rfl, hi, hj⟩ := both_pos h1
    obtain ⟨mo, rfl⟩ : ∃ mo : Nat, most = (mo : Int) := ⟨most.toNat, by omega⟩
    have nb : ¬ (Sz31.both s0 (i : Int) (j : Int) = false ∨ (mo : Int) < 0 ∨ 65536 < (mo : Int)) := by
      rintro (h | h | h)
      · rw [h1] at h; cases h
      · exact h2 h
      · exact h3 h
    refine ⟨_, rfl, _, rfl, _, rfl, p, s0, fp, i, j, rfl, FF, hi, hj, fun H1 s1 => ?_⟩
    have lt := KM.word_len (s := s0) W (a := i) (b := j) hi
    generalize ht : Sz31.word s0 i j = t at lt
    have ft : (S t).length ≤ sizeLine := by rw [S_len]; exact fits (by omega)
    refine ⟨_, rfl, S t, rfl, ft, one, fun l1 hl1 => ?_⟩
    have s2 : Same H1 (upd H1 l1 (.lst [.int ((S t).length : Nat)])) := fun c o e => by rw [upd_ne (ne_of_none e hl1)]; exact e
    refine ⟨_, rfl, _, rfl, (mo : Int), rfl, S t, rfl, ft, _, rfl, fun D hD => ?_⟩
    rw [cut_word]
    have csz : (S (t.take mo)).cps.size = (t.take mo).length := by show ((t.take mo).map _).toArray.size = _; rw [List.size_toArray, List.length_map]
    refine lc_n (J := Its (S (t.take mo))) (n := (t.take mo).length) (fun m H' => Same (upd H1 l1 (.lst [.int ((S t).length : Nat)])) H' ∧ H' D = some (.lst ((((t.take mo).take m).map fun (b : UInt8) => (b.toNat : Int)).map V.int))) ⟨fun c o e => by rw [upd_ne (ne_of_none e hD)]; exact e, by rw [upd_same]; rfl⟩
      (fun m H' hm h => by show m < (S (t.take mo)).cps.size; rw [csz]; exact hm) (fun H' h => by show (S (t.take mo)).cps.size ≤ _; rw [csz]; exact Nat.le_refl _) ?_ ?_
    · rintro m H2 x H2' hm ⟨s3, h3'⟩ ⟨rfl, c, hc, rfl⟩
      obtain ⟨bb, hbb, rfl⟩ : ∃ bb, (t.take mo)[m]? = some bb ∧ c = bb.toNat := by
        have : ((t.take mo).map fun b => b.toNat)[m]? = some c := by
          have := hc
          show ((t.take mo).map fun b => b.toNat)[m]? = some c
          simpa [S] using this
        rw [List.getElem?_map] at this
        cases e : (t.take mo)[m]? with
        | none => rw [e] at this; cases this
        | some bb => rw [e] at this; exact ⟨bb, rfl, (Option.some.inj this).symm⟩
      refine ⟨rfl, ?_⟩
      dsimp only [tYes]
      rw [if_pos rfl]
      refine ⟨_, rfl, _, rfl, rfl, _, h3', ?_, fun c o e => ?_, ?_⟩
      · rw [List.length_map, List.length_map, List.length_take, List.length_take]
        exact Nat.lt_of_le_of_lt (show _ ≤ 1000 by omega) (by decide)
      · rw [upd_ne (ne_of_none e hD)]; exact s3 _ _ e
      · rw [upd_same, take_snoc hbb, List.map_append, List.map_append]; rfl
    · rintro H2 ⟨s3, h3'⟩
      rw [List.take_length] at h3'
      have hl12 := s3 _ _ (upd_same (H := H1) (a := l1))
      have s13 : Same H H2 := (s1.trans s2).trans s3
      refine ⟨l1, D, _, _, rfl, rfl, hl12, h3', ?_, fun q hq => ?_⟩
      · rw [List.length_map, List.length_map, List.length_take]
        exact fits (by simp only [List.length_cons, List.length_nil]; omega)
      have s4 : Same H (upd H2 q (.lst ([V.int ((S t).length : Nat)] ++ ((t.take mo).map fun (b : UInt8) => (b.toNat : Int)).map V.int))) := fun c o e => by rw [upd_ne (ne_of_none (s13 _ _ e) hq)]; exact s13 _ _ e
      refine k _ q (SameX.of s4) (tab.same s4) (s13.free hq) ?_
      show upd H2 q _ q = some (.lst ((ansL (if Sz31.both s0 (i : Int) (j : Int) = false ∨ (mo : Int) < 0 ∨ 65536 < (mo : Int) then Sz31.only (-1) else (⟨((Sz31.word s0 i j).length : Nat), [], (Sz31.word s0 i j).take mo⟩ : Sz31.Ans))).map V.int))
      rw [upd_same, if_neg nb, ht, S_len]
      rfl
end
end Kin
set_option Elab.async false
set_option linter.all false
set_option maxRecDepth 100000
set_option maxHeartbeats 2000000
namespace Kin
open PySem PySem.Spec PyProof.Rows L2
abbrev sTold : Stmt := top 58
abbrev sAnswerOf : Stmt := top 59
abbrev sAnswers : Stmt := top 60
/-! ### which calls there are -/
theorem asked_forms {c : Int} {args : List Int} (h : Sz31Neutral.asked1 [c :: args] = true) : (c = 1 ∧ args = []) ∨ (∃ a, c = 2 ∧ args = [a]) ∨ (∃ a b, c = 3 ∧ args = [a, b]) ∨ (∃ a b, c = 4 ∧ args = [a, b]) ∨ (∃ a b, c = 5 ∧ args = [a, b]) ∨ (∃ a b, c = 6 ∧ args = [a, b]) ∨ (∃ a b, c = 7 ∧ args = [a, b]) ∨ (∃ a b, c = 8 ∧ args = [a, b]) ∨ ∃ a b m, c = 9 ∧ args = [a, b, m] := by
  unfold Sz31Neutral.asked1 at h
  split at h
  · rename_i e; cases e; exact .inl ⟨rfl, rfl⟩
  · rename_i e; cases e; exact .inr (.inl ⟨_, rfl, rfl⟩)
  · rename_i e; cases e; exact .inr (.inr (.inl ⟨_, _, rfl, rfl⟩))
  · rename_i e; cases e; exact .inr (.inr (.inr (.inl ⟨_, _, rfl, rfl⟩)))
  · rename_i e; cases e; exact .inr (.inr (.inr (.inr (.inl ⟨_, _, rfl, rfl⟩))))
  · rename_i e; cases e; exact .inr (.inr (.inr (.inr (.inr (.inl ⟨_, _, rfl, rfl⟩)))))
  · rename_i e; cases e; exact .inr (.inr (.inr (.inr (.inr (.inr (.inl ⟨_, _, rfl, rfl⟩))))))
  · rename_i e; cases e; exact .inr (.inr (.inr (.inr (.inr (.inr (.inr (.inl ⟨_, _, rfl, rfl⟩)))))))
  · rename_i e; cases e; exact .inr (.inr (.inr (.inr (.inr (.inr (.inr (.inr ⟨_, _, _, rfl, rfl⟩)))))))
  · cases h
structure TxtC (mg : Str → Option Value) : Prop where
  c1 : ∃ t, mg "KN_CLEAR" = some (.int 1 t)
  c2 : ∃ t, mg "KN_PERSON" = some (.int 2 t)
  c3 : ∃ t, mg "KN_PARENT" = some (.int 3 t)
  c4 : ∃ t, mg "KN_PARTNER" = some (.int 4 t)
  c5 : ∃ t, mg "KN_PART" = some (.int 5 t)
  c6 : ∃ t, mg "KN_ABOVE" = some (.int 6 t)
  c7 : ∃ t, mg "KN_COMMON" = some (.int 7 t)
  c8 : ∃ t, mg "KN_ALIKE" = some (.int 8 t)
/-! ### told_answer -/
def spTold (C : Addr) : Sp := fun vs H Q _ => ∃ (p n : Addr) (c : Int) (s : Sz31.St) (fp : List Addr) (args : List Int), vs = [.ref p, .int c, .ref n] ∧ Fam C H p s fp ∧ H n = some (.lst (args.map V.int)) ∧ c ≤ 5 ∧ Sz31Neutral.asked1 [c :: args] = true ∧
  ∀ (x : Sz31.Call) (H' : Hp) (fp' : List Addr), Sz31Neutral.callTo [c :: args] = some x → Fam C H' p (Sz31.does s x).1 fp' → Frm H H' fp fp' → (Sz31Neutral.step s [c :: args]) = ((Sz31.does s x).1, [(Sz31.does s x).2.value]) → Q (.int (Sz31.does s x).2.value) H'
section
variable {P : Program} {w : World} {K : PySem.W.Frag} {mg : Str → Option Value} {base : Heap} {C N Pt : Addr}
theorem scTold : FnScope ["family", "call", "numbers"] ["family", "call", "numbers"] (defScope sTold) := ⟨rfl, rfl, rfl, by decide +kernel, rfl, by decide +kernel, by decide +kernel⟩
theorem only_of {s : Sz31.St} : ∀ x : Sz31.Call, (match x with | .clear => True | .person _ => True | .parent _ _ => True | .partner _ _ => True | .part _ _ => True | _ => False) → (Sz31.does s x).2 = Sz31.only (Sz31.does s x).2.value
  | .clear, _ => rfl
  | .person x, _ => by unfold Sz31.does; dsimp only; split; rfl; split <;> rfl
  | .parent c p, _ => by
    unfold Sz31.does
    dsimp only
    split
    · rfl
    · split
      · rfl
      · split
        · rfl
        · split
          · rfl
          · split <;> rfl
  | .partner a b, _ => by unfold Sz31.does; dsimp only; split; rfl; split; rfl; split <;> rfl
  | .part a b, _ => by unfold Sz31.does; dsimp only; split; rfl; split <;> rfl
  | .above _ _, h => h.elim
  | .common _ _, h => h.elim
  | .alike _ _, h => h.elim
  | .word _ _ _, h => h.elim
theorem ok_told {f : Addr} {fd : FuncData} (F : Fun K "told_answer" "told_answer" sTold f fd) (T : Txt K mg C) (TC : TxtC mg) (m1 : Mth P w K mg base C 1 "forget_all" ["self"] (spDo C 0 fun _ => .clear)) (m2 : Mth P w K mg base C 1 "add_person" ["self", "sex"] (spDo C 1 fun ns => .person (ns.getD 0 0)))
    (m3 : Mth P w K mg base C 3 "add_parent" ["self", "child", "parent"] (spDo C 2 fun ns => .parent (ns.getD 0 0) (ns.getD 1 0))) (m4 : Mth P w K mg base C 3 "add_partners" ["self", "a", "b"] (spDo C 2 fun ns => .partner (ns.getD 0 0) (ns.getD 1 0))) (m5 : Mth P w K mg base C 3 "part_partners" ["self", "a", "b"] (spDo C 2 fun ns => .part (ns.getD 0 0) (ns.getD 1 0))) :
    FnOk P w K mg base CX0 4 f fd ["family", "call", "numbers"] (spTold C) := by
  obtain ⟨g1, e1, G1, q1, b1⟩ := m1.ex
  obtain ⟨g2, e2, G2, q2, b2⟩ := m2.ex
  obtain ⟨g3, e3, G3, q3, b3⟩ := m3.ex
  obtain ⟨g4, e4, G4, q4, b4⟩ := m4.ex
  obtain ⟨g5, e5, G5, q5, b5⟩ := m5.ex
  obtain ⟨t1, c1⟩ := TC.c1
  obtain ⟨t2, c2⟩ := TC.c2
  obtain ⟨t3, c3⟩ := TC.c3
  obtain ⟨t4, c4⟩ := TC.c4
  refine F.ok scTold (fun vs H Q E h => ?_) (fun cdv A outer s H vs Q E hr h => ?_)
  · obtain ⟨p, n, c, s, fp, args, rfl, _⟩ := h
    rfl
  · obtain ⟨p, n, c, s0, fp, args, rfl, FF, hn, hc5, hask, k⟩ := h
    obtain ⟨W, aS, aP, aC, aD, dx, ps, cs, kids, X⟩ := id FF
    have hr1 : Room 1 _ := hr.mono (by decide)
    refine ⟨_, pss_cons (ps_if (pt_cmpR op_eq (pv 1) (pe_gint c1) (nomark _)) (pss_one (ps_ret (pe_meth0 (pv 0) T.cl q1 G1 hr1 b1 .nil pass0))) pss_nil)
      (pss_cons (ps_if (pt_cmpR op_eq (pv 1) (pe_gint c2) (nomark _)) (pss_one (ps_ret (pe_meth (pv 0) T.cl q2 G2 hr1 b2 .nil pass0 (pa_cons (pe_ix ix_list (pv 2) pe_int (fun _ _ => rfl)) pa_nil)))) pss_nil)
      (pss_cons (ps_if (pt_cmpR op_eq (pv 1) (pe_gint c3) (nomark _)) (pss_one (ps_ret (pe_meth (pv 0) T.cl q3 G3 hr b3 .nil pass0 (pa_cons (pe_ix ix_list (pv 2) pe_int (fun _ _ => rfl)) (pa_cons (pe_ix ix_list (pv 2) pe_int (fun _ _ => rfl)) pa_nil))))) pss_nil)
      (pss_cons (ps_if (pt_cmpR op_eq (pv 1) (pe_gint c4) (nomark _)) (pss_one (ps_ret (pe_meth (pv 0) T.cl q4 G4 hr b4 .nil pass0 (pa_cons (pe_ix ix_list (pv 2) pe_int (fun _ _ => rfl)) (pa_cons (pe_ix ix_list (pv 2) pe_int (fun _ _ => rfl)) pa_nil))))) pss_nil)
      (pss_one (ps_ret (pe_meth (pv 0) T.cl q5 G5 hr b5 .nil pass0 (pa_cons (pe_ix ix_list (pv 2) pe_int (fun _ _ => rfl)) (pa_cons (pe_ix ix_list (pv 2) pe_int (fun _ _ => rfl)) pa_nil)))))))), ?_⟩
    have no : ∀ {m : Str}, ¬ m = "pairs" → ¬ m = "children" → ¬ m = "parents" → ¬ m = "sexes" → (ff aS aP aC aD).lookup m = none := fun {m} a b c d => ff_no aS aP aC aD a b c d
    have ne : ∀ {i j : Int}, i ≠ j → ¬ (V.int i = V.int j) := fun h z => h (by injection z)
    have stp : ∀ x, Sz31Neutral.callTo [c :: args] = some x → (match x with | .clear => True | .person _ => True | .parent _ _ => True | .partner _ _ => True | .part _ _ => True | _ => False) → ∀ (H' : Hp) (fp' : List Addr), Fam C H' p (Sz31.does s0 x).1 fp' → Frm H H' fp fp' → Q (.int (Sz31.does s0 x).2.value) H' := fun x hx hx' H' fp' h1 h2 => by
      refine k x H' fp' hx h1 h2 ?_
      unfold Sz31Neutral.step
      rw [hx]
      show ((Sz31.does s0 x).1, (Sz31.does s0 x).2.value :: ((Sz31.does s0 x).2.numbers ++ (Sz31.does s0 x).2.bytes.map _)) = _
      rw [only_of x hx']
      rfl
    rcases asked_forms hask with ⟨rfl, rfl⟩ | ⟨a, rfl, rfl⟩ | ⟨a, b, rfl, rfl⟩ | ⟨a, b, rfl, rfl⟩ | ⟨a, b, rfl, rfl⟩ | ⟨a, b, rfl, rfl⟩ | ⟨a, b, rfl, rfl⟩ | ⟨a, b, rfl, rfl⟩ | ⟨a, b, m, rfl, rfl⟩
    · refine ⟨_, rfl, rfl, _, rfl, go_dec (fun _ => ?_) (fun z => absurd rfl z)⟩
      exact ⟨_, rfl, p, dx, _, rfl, X.ins, no (by decide +kernel) (by decide +kernel) (by decide +kernel) (by decide +kernel), p, s0, fp, [], rfl, rfl, FF, stp .clear rfl trivial⟩
    · refine ⟨_, rfl, rfl, _, rfl, go_dec (fun z => absurd z (ne (by decide))) (fun _ => ?_)⟩
      refine ⟨_, rfl, rfl, _, rfl, go_dec (fun _ => ?_) (fun z => absurd rfl z)⟩
      exact ⟨_, rfl, p, dx, _, rfl, X.ins, no (by decide +kernel) (by decide +kernel) (by decide +kernel) (by decide +kernel), _, rfl, n, _, _, _, rfl, rfl, SqL.of hn, rfl, p, s0, fp, [a], rfl, rfl, FF, stp (.person a) rfl trivial⟩
    · refine ⟨_, rfl, rfl, _, rfl, go_dec (fun z => absurd z (ne (by decide))) (fun _ => ?_)⟩
      refine ⟨_, rfl, rfl, _, rfl, go_dec (fun z => absurd z (ne (by decide))) (fun _ => ?_)⟩
      refine ⟨_, rfl, rfl, _, rfl, go_dec (fun _ => ?_) (fun z => absurd rfl z)⟩
      exact ⟨_, rfl, p, dx, _, rfl, X.ins, no (by decide +kernel) (by decide +kernel) (by decide +kernel) (by decide +kernel), _, rfl, n, _, _, _, rfl, rfl, SqL.of hn, rfl, _, rfl, n, _, _, _, rfl, rfl, SqL.of hn, rfl, p, s0, fp, [a, b], rfl, rfl, FF, stp (.parent a b) rfl trivial⟩
    · refine ⟨_, rfl, rfl, _, rfl, go_dec (fun z => absurd z (ne (by decide))) (fun _ => ?_)⟩
      refine ⟨_, rfl, rfl, _, rfl, go_dec (fun z => absurd z (ne (by decide))) (fun _ => ?_)⟩
      refine ⟨_, rfl, rfl, _, rfl, go_dec (fun z => absurd z (ne (by decide))) (fun _ => ?_)⟩
      refine ⟨_, rfl, rfl, _, rfl, go_dec (fun _ => ?_) (fun z => absurd rfl z)⟩
      exact ⟨_, rfl, p, dx, _, rfl, X.ins, no (by decide +kernel) (by decide +kernel) (by decide +kernel) (by decide +kernel), _, rfl, n, _, _, _, rfl, rfl, SqL.of hn, rfl, _, rfl, n, _, _, _, rfl, rfl, SqL.of hn, rfl, p, s0, fp, [a, b], rfl, rfl, FF, stp (.partner a b) rfl trivial⟩
    · refine ⟨_, rfl, rfl, _, rfl, go_dec (fun z => absurd z (ne (by decide))) (fun _ => ?_)⟩
      refine ⟨_, rfl, rfl, _, rfl, go_dec (fun z => absurd z (ne (by decide))) (fun _ => ?_)⟩
      refine ⟨_, rfl, rfl, _, rfl, go_dec (fun z => absurd z (ne (by decide))) (fun _ => ?_)⟩
      refine ⟨_, rfl, rfl, _, rfl, go_dec (fun z => absurd z (ne (by decide))) (fun _ => ?_)⟩
      exact ⟨_, rfl, p, dx, _, rfl, X.ins, no (by decide +kernel) (by decide +kernel) (by decide +kernel) (by decide +kernel), _, rfl, n, _, _, _, rfl, rfl, SqL.of hn, rfl, _, rfl, n, _, _, _, rfl, rfl, SqL.of hn, rfl, p, s0, fp, [a, b], rfl, rfl, FF, stp (.part a b) rfl trivial⟩
    all_goals exact absurd hc5 (by decide)
end
end Kin
set_option Elab.async false
set_option linter.all false
set_option maxRecDepth 100000
set_option maxHeartbeats 2000000
namespace Kin
open PySem PySem.Spec PyProof.Rows L2
open PySem.W (Codec)
/-- each answer is short -/
def Short : Prop := ∀ (s : Sz31.St) (c : List (List Int)), KM.WF s → (Sz31Neutral.step s c).2.length < 1000
/-- what is neither the family's nor the table stays; what is new in it was nothing's -/
structure FrmX (Pt : Addr) (H H' : Hp) (fp fp' : List Addr) : Prop where
  keep : ∀ b o, H b = some o → ¬ b ∈ fp → b ≠ Pt → H' b = some o
  new : ∀ b, b ∈ fp' → b ∈ fp ∨ H b = none
def spAnswerOf (C Pt : Addr) : Sp := fun vs H Q _ => ∃ (p n : Addr) (c : Int) (s : Sz31.St) (fp : List Addr) (args : List Int), vs = [.ref p, .int c, .ref n] ∧ Fam C H p s fp ∧ Tab Pt lamPos lamQ H ∧ H n = some (.lst (args.map V.int)) ∧ ¬ n ∈ fp ∧ Sz31Neutral.asked1 [c :: args] = true ∧
  ∀ (H' : Hp) (fp' : List Addr) (l : Addr), Fam C H' p (Sz31Neutral.step s [c :: args]).1 fp' → FrmX Pt H H' fp fp' → Tab Pt lamPos lamQ H' → (∀ b o, H b = some o → ¬ b ∈ fp → b ≠ l) → ¬ l ∈ fp' → H' l = some (.lst ((Sz31Neutral.step s [c :: args]).2.map V.int)) → Q (.ref l) H'
def spAnswers (K : PySem.W.Frag) (Pt : Addr) : Sp := fun vs H Q _ => ∃ (a : Addr) (ns : List Int), vs = [.ref a] ∧ SqL K H a (ns.map V.int) ∧ Tab Pt lamPos lamQ H ∧ ns.length ≤ 30000 ∧ PySz31.answers_asked ns = true ∧ ∀ (H' : Hp) (p : Addr), SameX Pt H H' → Tab Pt lamPos lamQ H' → H' p = some (.lst ((PySz31.answers ns).map V.int)) → Q (.ref p) H'
theorem Fam.tracked {C : Addr} {H : Hp} {p : Addr} {s : Sz31.St} {fp : List Addr} (F : Fam C H p s fp) {b : Addr} (h : b ∈ fp) : ∃ o, H b = some o := by
  obtain ⟨W, aS, aP, aC, aD, dx, ps, cs, kids, X⟩ := F
  rw [X.efp] at h
  simp only [List.mem_cons, List.mem_append] at h
  rcases h with rfl | rfl | rfl | rfl | h | h
  · exact ⟨_, X.sex⟩
  · exact ⟨_, X.par.lst⟩
  · exact ⟨_, X.kid.lst⟩
  · exact ⟨_, X.prs⟩
  · obtain ⟨j, hj⟩ := List.mem_iff_getElem?.mp h
    exact ⟨_, X.par.at_ j b hj⟩
  · obtain ⟨j, hj⟩ := List.mem_iff_getElem?.mp h
    exact ⟨_, X.kid.at_ j b hj⟩
theorem Fam.fresh {C : Addr} {H : Hp} {p : Addr} {s : Sz31.St} {fp : List Addr} (F : Fam C H p s fp) {b : Addr} (h : H b = none) : ¬ b ∈ fp := fun q => by
  obtain ⟨o, ho⟩ := F.tracked q
  rw [h] at ho
  cases ho
theorem Fam.self {C : Addr} {H : Hp} {p : Addr} {s : Sz31.St} {fp : List Addr} (F : Fam C H p s fp) : ∃ dx fs, H p = some (.ins C dx fs) := by
  obtain ⟨W, aS, aP, aC, aD, dx, ps, cs, kids, X⟩ := F
  exact ⟨_, _, X.ins⟩
/-- what is not the family's may change -/
theorem Fam.frame {C : Addr} {H H' : Hp} {p : Addr} {s : Sz31.St} {fp : List Addr} (F : Fam C H p s fp) (e : ∀ b, b ∈ fp ∨ b = p → H' b = H b) : Fam C H' p s fp := by
  obtain ⟨W, aS, aP, aC, aD, dx, ps, cs, kids, X⟩ := F
  have m : ∀ b, b ∈ (aS :: aP :: aC :: aD :: (ps ++ cs)) → H' b = H b := fun b h => e b (.inl (by rw [X.efp]; exact h))
  refine ⟨W, aS, aP, aC, aD, dx, ps, cs, kids, X.efp, by rw [e p (.inr rfl)]; exact X.ins, by rw [m aS (by simp)]; exact X.sex, ⟨by rw [m aP (by simp)]; exact X.par.lst, X.par.len, fun j c h => ?_⟩, ⟨by rw [m aC (by simp)]; exact X.kid.lst, X.kid.len, fun j c h => ?_⟩,
    by rw [m aD (by simp)]; exact X.prs, X.nd, X.klen, X.kmem, X.knd⟩
  · rw [m c (by simp [List.mem_of_getElem? h])]; exact X.par.at_ j c h
  · rw [m c (by simp [List.mem_of_getElem? h])]; exact X.kid.at_ j c h
theorem Fam.kind {C : Addr} {H : Hp} {p : Addr} {s : Sz31.St} {fp : List Addr} (F : Fam C H p s fp) {b : Addr} (h : b ∈ fp) : (∃ xs, H b = some (.lst xs)) ∨ ∃ kvs, H b = some (.dT kvs) := by
  obtain ⟨W, aS, aP, aC, aD, dx, ps, cs, kids, X⟩ := F
  rw [X.efp] at h
  simp only [List.mem_cons, List.mem_append] at h
  rcases h with rfl | rfl | rfl | rfl | h | h
  · exact .inl ⟨_, X.sex⟩
  · exact .inl ⟨_, X.par.lst⟩
  · exact .inl ⟨_, X.kid.lst⟩
  · exact .inr ⟨_, X.prs⟩
  · obtain ⟨j, hj⟩ := List.mem_iff_getElem?.mp h
    exact .inl ⟨_, X.par.at_ j b hj⟩
  · obtain ⟨j, hj⟩ := List.mem_iff_getElem?.mp h
    exact .inl ⟨_, X.kid.at_ j b hj⟩
theorem Fam.notIn {C : Addr} {H : Hp} {p : Addr} {s : Sz31.St} {fp : List Addr} (F : Fam C H p s fp) {b : Addr} {o : HO} (h : H b = some o) (h1 : ∀ xs, o ≠ .lst xs) (h2 : ∀ kvs, o ≠ .dT kvs) : ¬ b ∈ fp := fun q => by
  rcases F.kind q with ⟨xs, e⟩ | ⟨kvs, e⟩
  · rw [h] at e; exact h1 xs (Option.some.inj e)
  · rw [h] at e; exact h2 kvs (Option.some.inj e)
theorem tab_frm {C Pt : Addr} {H H' : Hp} {p : Addr} {s : Sz31.St} {fp fp' : List Addr} (F : Fam C H p s fp) (t : Tab Pt lamPos lamQ H) (f : Frm H H' fp fp') : Tab Pt lamPos lamQ H' := by
  rcases t with t | ⟨c, t, u⟩
  · exact .inl (f.keep _ _ t (F.notIn t (by intro xs z; cases z) (by intro xs z; cases z)))
  · exact .inr ⟨c, f.keep _ _ t (F.notIn t (by intro xs z; cases z) (by intro xs z; cases z)), f.keep _ _ u (F.notIn u (by intro xs z; cases z) (by intro xs z; cases z))⟩
theorem SameX.seq {K : PySem.W.Frag} {Pt : Addr} {H H' : Hp} {a : Addr} {xs : List V} (e : SameX Pt H H') (t : Tab Pt lamPos lamQ H) (h : SqL K H a xs) : SqL K H' a xs := by
  rcases h with (h | ⟨o, h⟩) | h
  · exact .inl (.inl (e _ _ h (tab_ne t h (by intro ps z; cases z))))
  · exact .inl (.inr ⟨o, e _ _ h (tab_ne t h (by intro ps z; cases z))⟩)
  · exact .inr h
/-! ### answer_of -/
section
variable {P : Program} {w : World} {K : PySem.W.Frag} {mg : Str → Option Value} {base : Heap} {C Pt : Addr}
theorem scAnswerOf : FnScope ["family", "call", "numbers"] ["family", "call", "numbers"] (defScope sAnswerOf) := ⟨rfl, rfl, rfl, by decide +kernel, rfl, by decide +kernel, by decide +kernel⟩
theorem ok_answerOf {f : Addr} {fd : FuncData} (F : Fun K "answer_of" "answer_of" sAnswerOf f fd) (TC : TxtC mg) (c0 : Callee P w K mg base 4 "told_answer" ["family", "call", "numbers"] (spTold C)) (c6 : Callee P w K mg base 3 "above_answer" ["family", "a", "k"] (spQ C Pt 2 fun ns => .above (ns.getD 0 0) (ns.getD 1 0)))
    (c7 : Callee P w K mg base 4 "common_answer" ["family", "a", "b"] (spQ C Pt 2 fun ns => .common (ns.getD 0 0) (ns.getD 1 0))) (c8 : Callee P w K mg base 6 "alike_answer" ["family", "a", "b"] (spQ C Pt 2 fun ns => .alike (ns.getD 0 0) (ns.getD 1 0))) (c9 : Callee P w K mg base 7 "word_answer" ["family", "a", "b", "most"] (spQ C Pt 3 fun ns => .word (ns.getD 0 0) (ns.getD 1 0) (ns.getD 2 0))) :
    FnOk P w K mg base CX0 8 f fd ["family", "call", "numbers"] (spAnswerOf C Pt) := by
  obtain ⟨f0, e0, G0, m0, k0, b0⟩ := c0.ex
  obtain ⟨f6, e6, G6, m6, k6, b6⟩ := c6.ex
  obtain ⟨f7, e7, G7, m7, k7, b7⟩ := c7.ex
  obtain ⟨f8, e8, G8, m8, k8, b8⟩ := c8.ex
  obtain ⟨f9, e9, G9, m9, k9, b9⟩ := c9.ex
  obtain ⟨t5, h5⟩ := TC.c5
  obtain ⟨t6, h6⟩ := TC.c6
  obtain ⟨t7, h7⟩ := TC.c7
  obtain ⟨t8, h8⟩ := TC.c8
  refine F.ok scAnswerOf (fun vs H Q E h => ?_) (fun cdv A outer s H vs Q E hr h => ?_)
  · obtain ⟨p, n, c, s, fp, args, rfl, _⟩ := h
    rfl
  · obtain ⟨p, n, c, s0, fp, args, rfl, FF, tab, hn, hnfp, hask, k⟩ := h
    have hr3 : Room 3 _ := hr.mono (by decide)
    have hr4 : Room 4 _ := hr.mono (by decide)
    have hr6 : Room 6 _ := hr.mono (by decide)
    refine ⟨_, pss_cons (ps_if (pt_cmpR op_le (pv 1) (pe_gint h5) (nomark _)) (pss_one (ps_ret (pe_lst (pa_cons (pe_call G0 hr4 rfl m0 k0 b0 .nil pass0 (pa_cons (pv 0) (pa_cons (pv 1) (pa_cons (pv 2) pa_nil)))) pa_nil)))) pss_nil)
      (pss_cons (ps_if (pt_cmpR op_eq (pv 1) (pe_gint h6) (nomark _)) (pss_one (ps_ret (pe_call G6 hr3 rfl m6 k6 b6 .nil pass0 (pa_cons (pv 0) (pa_cons (pe_ix ix_list (pv 2) pe_int (fun _ _ => rfl)) (pa_cons (pe_ix ix_list (pv 2) pe_int (fun _ _ => rfl)) pa_nil)))))) pss_nil)
      (pss_cons (ps_if (pt_cmpR op_eq (pv 1) (pe_gint h7) (nomark _)) (pss_one (ps_ret (pe_call G7 hr4 rfl m7 k7 b7 .nil pass0 (pa_cons (pv 0) (pa_cons (pe_ix ix_list (pv 2) pe_int (fun _ _ => rfl)) (pa_cons (pe_ix ix_list (pv 2) pe_int (fun _ _ => rfl)) pa_nil)))))) pss_nil)
      (pss_cons (ps_if (pt_cmpR op_eq (pv 1) (pe_gint h8) (nomark _)) (pss_one (ps_ret (pe_call G8 hr6 rfl m8 k8 b8 .nil pass0 (pa_cons (pv 0) (pa_cons (pe_ix ix_list (pv 2) pe_int (fun _ _ => rfl)) (pa_cons (pe_ix ix_list (pv 2) pe_int (fun _ _ => rfl)) pa_nil)))))) pss_nil)
      (pss_one (ps_ret (pe_call G9 hr rfl m9 k9 b9 .nil pass0 (pa_cons (pv 0) (pa_cons (pe_ix ix_list (pv 2) pe_int (fun _ _ => rfl)) (pa_cons (pe_ix ix_list (pv 2) pe_int (fun _ _ => rfl)) (pa_cons (pe_ix ix_list (pv 2) pe_int (fun _ _ => rfl)) pa_nil)))))))))), ?_⟩
    have ne : ∀ {i j : Int}, i ≠ j → ¬ (V.int i = V.int j) := fun h z => h (by injection z)
    have query : ∀ x, Sz31Neutral.callTo [c :: args] = some x → (Sz31.does s0 x).1 = s0 → ∀ (H' : Hp) (l : Addr), SameX Pt H H' → Tab Pt lamPos lamQ H' → H l = none → H' l = some (.lst ((ansL (Sz31.does s0 x).2).map V.int)) → Q (.ref l) H' := fun x hx hs H' l sx tab' hl hl' => by
      have e : Sz31Neutral.step s0 [c :: args] = (s0, ansL (Sz31.does s0 x).2) := by
        unfold Sz31Neutral.step
        rw [hx]
        show ((Sz31.does s0 x).1, _) = _
        rw [hs]
        rfl
      rw [e] at k
      exact k H' fp l (FF.sameX tab sx) ⟨fun b o h1 _ h2 => sx b o h1 h2, fun b h => .inl h⟩ tab' (fun b o e _ => ne_of_none e hl) (FF.fresh hl) hl'
    have told : c ≤ 5 → ∀ (v : Int) (H1 : Hp), (∃ (x : Sz31.Call) (fp' : List Addr), Fam C H1 p (Sz31.does s0 x).1 fp' ∧ Frm H H1 fp fp' ∧ Sz31Neutral.step s0 [c :: args] = ((Sz31.does s0 x).1, [(Sz31.does s0 x).2.value]) ∧ v = (Sz31.does s0 x).2.value) → ∀ l, H1 l = none → Q (.ref l) (upd H1 l (.lst [.int v])) := fun _ v H1 ⟨x, fp', h1, h2, h3, h4⟩ l hl => by
      rw [h3] at k
      have s2 : Same H1 (upd H1 l (.lst [.int v])) := fun c o e => by rw [upd_ne (ne_of_none e hl)]; exact e
      have hlfp := h1.fresh hl
      refine k _ fp' l (h1.same s2) ⟨fun b o e1 e2 _ => s2 _ _ (h2.keep b o e1 e2), h2.new⟩ ((tab_frm FF tab h2).same s2) (fun b o e1 e2 => ne_of_none (h2.keep b o e1 e2) hl) hlfp ?_
      rw [upd_same, h4]
      rfl
    rcases asked_forms hask with ⟨rfl, rfl⟩ | ⟨a, rfl, rfl⟩ | ⟨a, b, rfl, rfl⟩ | ⟨a, b, rfl, rfl⟩ | ⟨a, b, rfl, rfl⟩ | ⟨a, b, rfl, rfl⟩ | ⟨a, b, rfl, rfl⟩ | ⟨a, b, rfl, rfl⟩ | ⟨a, b, m, rfl, rfl⟩
    case' inl => have hc5 : (1 : Int) ≤ 5 := by decide
    case' inr.inl => have hc5 : (2 : Int) ≤ 5 := by decide
    case' inr.inr.inl => have hc5 : (3 : Int) ≤ 5 := by decide
    case' inr.inr.inr.inl => have hc5 : (4 : Int) ≤ 5 := by decide
    case' inr.inr.inr.inr.inl => have hc5 : (5 : Int) ≤ 5 := by decide
    iterate 5
      · refine ⟨_, rfl, _, _, rfl, rfl, _, rfl, go_dec (fun _ => ?_) (fun z => absurd hc5 z)⟩
        refine ⟨_, rfl, _, rfl, _, rfl, p, n, _, s0, fp, _, rfl, FF, hn, hc5, hask, fun x H1 fp' e1 e2 e3 e4 => ⟨(by show 1 ≤ sizeLine; decide), fun l hl => ?_⟩⟩
        exact told hc5 _ H1 ⟨x, fp', e2, e3, e4, rfl⟩ l hl
    · refine ⟨_, rfl, _, _, rfl, rfl, _, rfl, go_dec (fun z => absurd z (by decide)) (fun _ => ?_)⟩
      refine ⟨_, rfl, rfl, _, rfl, go_dec (fun _ => ?_) (fun z => absurd rfl z)⟩
      exact ⟨_, rfl, _, rfl, n, _, _, _, rfl, rfl, SqL.of hn, rfl, _, rfl, n, _, _, _, rfl, rfl, SqL.of hn, rfl, p, s0, fp, [a, b], rfl, rfl, FF, tab, query (.above a b) rfl rfl⟩
    · refine ⟨_, rfl, _, _, rfl, rfl, _, rfl, go_dec (fun z => absurd z (by decide)) (fun _ => ?_)⟩
      refine ⟨_, rfl, rfl, _, rfl, go_dec (fun z => absurd z (ne (by decide))) (fun _ => ?_)⟩
      refine ⟨_, rfl, rfl, _, rfl, go_dec (fun _ => ?_) (fun z => absurd rfl z)⟩
      exact ⟨_, rfl, _, rfl, n, _, _, _, rfl, rfl, SqL.of hn, rfl, _, rfl, n, _, _, _, rfl, rfl, SqL.of hn, rfl, p, s0, fp, [a, b], rfl, rfl, FF, tab, query (.common a b) rfl rfl⟩
    · refine ⟨_, rfl, _, _, rfl, rfl, _, rfl, go_dec (fun z => absurd z (by decide)) (fun _ => ?_)⟩
      refine ⟨_, rfl, rfl, _, rfl, go_dec (fun z => absurd z (ne (by decide))) (fun _ => ?_)⟩
      refine ⟨_, rfl, rfl, _, rfl, go_dec (fun z => absurd z (ne (by decide))) (fun _ => ?_)⟩
      refine ⟨_, rfl, rfl, _, rfl, go_dec (fun _ => ?_) (fun z => absurd rfl z)⟩
      exact ⟨_, rfl, _, rfl, n, _, _, _, rfl, rfl, SqL.of hn, rfl, _, rfl, n, _, _, _, rfl, rfl, SqL.of hn, rfl, p, s0, fp, [a, b], rfl, rfl, FF, tab, query (.alike a b) rfl rfl⟩
    · refine ⟨_, rfl, _, _, rfl, rfl, _, rfl, go_dec (fun z => absurd z (by decide)) (fun _ => ?_)⟩
      refine ⟨_, rfl, rfl, _, rfl, go_dec (fun z => absurd z (ne (by decide))) (fun _ => ?_)⟩
      refine ⟨_, rfl, rfl, _, rfl, go_dec (fun z => absurd z (ne (by decide))) (fun _ => ?_)⟩
      refine ⟨_, rfl, rfl, _, rfl, go_dec (fun z => absurd z (ne (by decide))) (fun _ => ?_)⟩
      exact ⟨_, rfl, _, rfl, n, _, _, _, rfl, rfl, SqL.of hn, rfl, _, rfl, n, _, _, _, rfl, rfl, SqL.of hn, rfl, _, rfl, n, _, _, _, rfl, rfl, SqL.of hn, rfl, p, s0, fp, [a, b, m], rfl, rfl, FF, tab, query (.word a b m) rfl rfl⟩
end
theorem cut_mid (ns : List Int) (i n : Nat) (h : i + n ≤ ns.length) : cutV (ns.map V.int) (some (i : Int)) (some ((i : Int) + (n : Int))) = ((ns.drop i).take n).map V.int := by
  unfold cutV
  rw [List.length_map]
  have e1 : HT.sIx ns.length 0 (some (i : Int)) = i := by unfold HT.sIx; simp only; split <;> omega
  have e2 : HT.sIx ns.length ns.length (some ((i : Int) + (n : Int))) = i + n := by unfold HT.sIx; simp only; split <;> omega
  rw [e1, e2, show i + n - i = n by omega, List.map_take, List.map_drop]
/-- what holds between two turns -/
structure AnsAt (C Pt : Addr) (H : Hp) (p t : Addr) (ns : List Int) (H' : Hp) (i : Nat) (s : Sz31.St) (cs : List (List (List Int))) (f : Nat) (fp : List Addr) (out : List Int) : Prop where
  same : SameX Pt H H'
  tab : Tab Pt lamPos lamQ H'
  new : ∀ b, b ∈ fp → H b = none
  fam : Fam C H' p s fp
  told : H' t = some (.lst (out.map V.int))
  tfp : ¬ t ∈ fp
  cls : PyFlat.calls PySz31.shape f (ns.drop i) = some cs
  ask : cs.all Sz31Neutral.asked1 = true
  ans : PySz31.answers ns = out ++ PyFlat.told (PyFlat.played Sz31Neutral.step s cs)
  few : out.length + 1000 * cs.length ≤ 400000
def AnsInv (C Pt : Addr) (H : Hp) (a p t : Addr) (ns : List Int) (m : Nat) (σ : L2.St) (H' : Hp) : Prop := ∃ (i : Nat) (v4 v5 v6 : Option V) (s : Sz31.St) (cs : List (List (List Int))) (f : Nat) (fp : List Addr) (out : List Int), m + i = ns.length ∧
  σ = [some (.ref a), some (.ref p), some (.ref t), some (.int i), v4, v5, v6] ∧ AnsAt C Pt H p t ns H' i s cs f fp out
section
variable {P : Program} {w : World} {K : PySem.W.Frag} {mg : Str → Option Value} {base : Heap} {C Pt : Addr}
theorem scAnswers : FnScope ["calls", "family", "told", "at", "call", "behind", "answer"] ["calls"] (defScope sAnswers) := ⟨rfl, rfl, rfl, by decide +kernel, rfl, by decide +kernel, by decide +kernel⟩
theorem ok_answers {f fI aw : Addr} {fd fdI : FuncData} {tab : List (Int × V)} (F : Fun K "answers" "answers" sAnswers f fd) (T : Txt K mg C) (M : Mk K C fI) (GI : FnOk P w K mg base CX0 1 fI fdI ["self"] (spInit C)) (bI : Binds K fdI ["self"] [])
    (ca : Callee P w K mg base 8 "answer_of" ["family", "call", "numbers"] (spAnswerOf C Pt)) (D : KDict K aw tab) (hw : mg "WIDTHS" = some (.ref aw)) (htab : ∀ c : Int, 1 ≤ c → c ≤ 9 → (tab.find? fun kv => decide (kv.1 = c)).map (·.2) = some (V.int (KF.width c))) (short : Short) :
    FnOk P w K mg base CX0 9 f fd ["calls"] (spAnswers K Pt) := by
  obtain ⟨f2, fd2, G2, m2, k2, b2⟩ := ca.ex
  refine F.ok scAnswers (fun vs H Q E h => ?_) (fun cdv A outer s H vs Q E hr h => ?_)
  · obtain ⟨a, ns, rfl, _⟩ := h
    rfl
  · obtain ⟨a, ns, rfl, hS, tab, hlen, hask, k⟩ := h
    have hr2 : Room 2 _ := hr.mono (by decide)
    refine ⟨_, pss_cons (ps_set (i := 1) scAnswers.nd rfl (Or.inl rfl) (pe_make0 M GI hr2 rfl T.mgC bI .nil pass0))
      (pss_cons (ps_set (i := 2) scAnswers.nd rfl (Or.inl rfl) (pe_lst pa_nil))
      (pss_cons (ps_set (i := 3) scAnswers.nd rfl (Or.inl rfl) pe_int)
      (pss_cons (ps_while PassesOwn.never (pt_cmpR op_lt (pv 3) (pe_callB call_len_seq (by rfl) T.len b_len (pa_cons (pv 0) pa_nil)) (nomark _))
        (pss_cons (ps_set (i := 4) scAnswers.nd rfl (Or.inl rfl) (pe_ix ix_list (pv 0) (pv 3) (fun _ _ => rfl)))
        (pss_cons (ps_set (i := 5) scAnswers.nd rfl (Or.inl rfl) (pe_op op_add (pe_op op_add (pv 3) pe_int) (pe_kget D hw (pv 4) (fun _ _ => rfl))))
        (pss_cons (ps_set (i := 6) scAnswers.nd rfl (Or.inl rfl) (pe_call G2 hr rfl m2 k2 b2 .nil pass0 (pa_cons (pv 1) (pa_cons (pv 4) (pa_cons (pe_slice sl_list (pv 0) (po_some (pe_op op_add (pv 3) pe_int)) (po_some (pv 5))) pa_nil)))))
        (pss_cons (ps_expr (pe_bm PySem.F.plainAttrs_list PySem.F.slot_list_append PySem.F.type_list_append mt_append (pv 2) (pa_cons (pe_callB call_len_seq (by rfl) T.len b_len (pa_cons (pv 6) pa_nil)) pa_nil)))
        (pss_cons (ps_expr (pe_bm PySem.F.plainAttrs_list PySem.F.slot_list_extend PySem.F.type_list_extend mt_extend (pv 2) (pa_cons (pv 6) pa_nil)))
        (pss_one (ps_set (i := 3) scAnswers.nd rfl (Or.inl rfl) (pv 5)))))))))
      (pss_one (ps_ret (pv 2)))))), ?_⟩
    intro p dp hp hdp hne
    refine ⟨p, dp, rfl, upd_same, fun H1 fp1 F1 st1 hfp1 => ⟨rfl, ?_⟩⟩
    have s1 : Same H H1 := fun b o e => by
      refine st1 b o ?_ (ne_of_none e hp)
      rw [upd_ne (ne_of_none e hp), upd_ne (ne_of_none e hdp)]
      exact e
    have n1 : ∀ b, b ∈ fp1 → H b = none := fun b hb => by
      have h := hfp1 b hb
      cases q : H b with
      | none => rfl
      | some o => rw [upd_ne (ne_of_none q hp), upd_ne (ne_of_none q hdp), q] at h; cases h
    refine ⟨Nat.zero_le _, fun t ht => ?_⟩
    have htH : H t = none := s1.free ht
    obtain ⟨cs0, hc0, hc400, hcask, hans⟩ := KF.asked_calls hask
    have F1' : Fam C (upd H1 t (.lst [])) p ⟨[], []⟩ fp1 := F1.same fun b o e => by rw [upd_ne (ne_of_none e ht)]; exact e
    have tabT : Tab Pt lamPos lamQ (upd H1 t (.lst [])) := (tab.same s1).same fun b o e => by rw [upd_ne (ne_of_none e ht)]; exact e
    refine ⟨AnsInv C Pt H a p t ns, ⟨ns.length, 0, none, none, none, ⟨[], []⟩, cs0, ns.length, fp1, [], rfl, rfl, fun b o e _ => ?_, tabT, n1, F1', upd_same, F1.fresh ht, by rw [List.drop_zero]; exact hc0, hcask, hans, ?_⟩, ?_⟩
    · rw [upd_ne (ne_of_none e htH)]; exact s1 _ _ e
    · simp only [List.length_nil]; omega
    rintro m σ H2 ⟨i, v4, v5, v6, st, cs, g, fp, out, hm, rfl, I⟩
    have hS2 := I.same.seq tab hS
    refine ⟨_, rfl, _, rfl, a, _, rfl, .inl hS2, _, _, rfl, rfl, _, rfl, go_dec (fun hlt => ?_) (fun hge => ?_)⟩
    · rw [List.length_map] at hlt
      have hlt : i < ns.length := by omega
      obtain ⟨c, hc⟩ : ∃ c, ns[i]? = some c := ⟨_, List.getElem?_eq_getElem hlt⟩
      have hd : ns.drop i = c :: ns.drop (i + 1) := by
        rw [List.drop_eq_getElem_cons hlt]
        rw [List.getElem?_eq_getElem hlt] at hc
        rw [Option.some.inj hc]
      have hcl := I.cls
      rw [hd] at hcl
      obtain ⟨g', cs', h1, h9, hwl, rfl, hcl'⟩ := KF.calls_cons hcl
      rw [List.length_drop] at hwl
      have hask1 := I.ask
      rw [List.all_cons, Bool.and_eq_true] at hask1
      refine ⟨fun σ' H' => ∃ m', m' < m ∧ AnsInv C Pt H a p t ns m' σ' H', fun _ _ h => h, ?_⟩
      refine ⟨_, rfl, _, rfl, a, _, _, _, rfl, rfl, hS2, atI_nat (j := i) (v := V.int c) (by rw [List.getElem?_map, hc]; rfl), ?_⟩
      refine ⟨_, rfl, _, _, rfl, rfl, _, rfl, c, _, rfl, htab c h1 h9, _, _, rfl, rfl, ?_⟩
      refine ⟨_, rfl, _, rfl, _, rfl, _, rfl, _, _, rfl, rfl, _, rfl, _, rfl, _, rfl, a, _, rfl, hS2, fun n hn => ?_⟩
      have ecut : cutV (ns.map V.int) (some ((i : Int) + 1)) (some ((i : Int) + 1 + (KF.width c : Int))) = ((ns.drop (i + 1)).take (KF.width c)).map V.int := cut_mid ns (i + 1) (KF.width c) (by omega)
      have s3 : Same H2 (upd H2 n (.lst (((ns.drop (i + 1)).take (KF.width c)).map V.int))) := fun b o e => by rw [upd_ne (ne_of_none e hn)]; exact e
      rw [ecut]
      refine ⟨p, n, c, st, fp, (ns.drop (i + 1)).take (KF.width c), rfl, I.fam.same s3, I.tab.same s3, upd_same, I.fam.fresh hn, hask1.1, fun H4 fp4 l F4 fr tab4 hl hlf h4 => ?_⟩
      have tn : t ≠ n := ne_of_none I.told hn
      have tPt : t ≠ Pt := tab_ne I.tab I.told (by intro ps z; cases z)
      have t4 : H4 t = some (.lst (out.map V.int)) := fr.keep t _ (s3 _ _ I.told) I.tfp tPt
      have tl : t ≠ l := hl t _ (s3 _ _ I.told) I.tfp
      have tf4 : ¬ t ∈ fp4 := fun q => by
        rcases fr.new t q with z | z
        · exact I.tfp z
        · rw [s3 _ _ I.told] at z; cases z
      have hsh := short st [c :: (ns.drop (i + 1)).take (KF.width c)] I.fam.wf
      have hfew := I.few
      rw [List.length_cons] at hfew
      have sz : ∀ x, x ≤ 400000 → x < sizeLine := fun x hx => Nat.lt_of_le_of_lt hx (by decide)
      generalize hstep : Sz31Neutral.step st [c :: (ns.drop (i + 1)).take (KF.width c)] = so at F4 h4 hsh
      refine ⟨_, rfl, .inl ⟨rfl, _, SqL.of t4⟩, _, rfl, l, _, rfl, .inl (SqL.of h4), t, _, _, rfl, rfl, t4, (by rw [List.length_map]; exact sz _ (by omega)), ?_⟩
      have h5l : upd H4 t (.lst (out.map V.int ++ [V.int (((so.2.map V.int).length : Nat) : Int)])) l = some (.lst (so.2.map V.int)) := by rw [upd_ne tl.symm]; exact h4
      refine ⟨_, rfl, .inl ⟨rfl, _, SqL.of upd_same⟩, _, rfl, t, l, _, _, rfl, rfl, upd_same, h5l, (by rw [List.length_append, List.length_map, List.length_map]; exact Nat.le_of_lt (sz _ (by simp only [List.length_cons, List.length_nil]; omega))), ?_⟩
      refine ⟨_, rfl, ns.length - (i + 1 + KF.width c), by omega, i + 1 + KF.width c, some (.int c), some (.int ((i : Int) + 1 + (KF.width c : Int))), some (.ref l), so.1, cs', g', fp4, out ++ ((so.2.length : Int) :: so.2), by omega, ?_, ?_⟩
      · show [some (V.ref a), some (V.ref p), some (V.ref t), some (V.int ((i : Int) + 1 + (KF.width c : Int))), some (V.int c), some (V.int ((i : Int) + 1 + (KF.width c : Int))), some (V.ref l)] = _
        rw [show (((i + 1 + KF.width c : Nat)) : Int) = (i : Int) + 1 + (KF.width c : Int) by omega]
      have stay : ∀ b, b ≠ t → upd (upd H4 t (.lst (out.map V.int ++ [V.int (((so.2.map V.int).length : Nat) : Int)]))) t (.lst (out.map V.int ++ [V.int (((so.2.map V.int).length : Nat) : Int)] ++ so.2.map V.int)) b = H4 b := fun b hb => by rw [upd_ne hb, upd_ne hb]
      refine ⟨fun b o e nP => ?_, ?_, fun b hb => ?_, F4.frame fun b hb => stay b ?_, ?_, tf4, ?_, hask1.2, ?_, ?_⟩
      · rw [stay b (ne_of_none e htH)]
        exact fr.keep b o (s3 _ _ (I.same _ _ e nP)) (fun q => by rw [I.new b q] at e; cases e) nP
      · rcases tab4 with q | ⟨cc, q, u⟩
        · exact .inl (by rw [stay Pt tPt.symm]; exact q)
        · exact .inr ⟨cc, by rw [stay Pt tPt.symm]; exact q, by rw [stay cc (ne_of u t4 (by intro z; cases z))]; exact u⟩
      · rcases fr.new b hb with z | z
        · exact I.new b z
        · exact I.same.free I.tab (s3.free z)
      · rcases hb with q | q
        · exact fun e => tf4 (by rw [← e]; exact q)
        · obtain ⟨dx, fs, hi⟩ := F4.self
          rw [q]
          exact ne_of hi t4 (by intro z; cases z)
      · rw [upd_same, List.map_append, List.map_cons, List.length_map, List.append_assoc]
        rfl
      · rw [← hcl', List.drop_drop]
      · rw [I.ans]
        show out ++ PyFlat.told (PyFlat.played Sz31Neutral.step st ([c :: (ns.drop (i + 1)).take (KF.width c)] :: cs')) = _
        show out ++ PyFlat.told ((Sz31Neutral.step st [c :: (ns.drop (i + 1)).take (KF.width c)]).2 :: PyFlat.played Sz31Neutral.step (Sz31Neutral.step st [c :: (ns.drop (i + 1)).take (KF.width c)]).1 cs') = _
        rw [hstep, KF.told_cons, List.append_assoc]
        rfl
      · rw [List.length_append, List.length_cons]
        omega
    · rw [List.length_map] at hge
      have hi : ns.drop i = [] := List.drop_eq_nil_of_le (by omega)
      have hcl := I.cls
      rw [hi, KF.calls_nil] at hcl
      have hcs : cs = [] := (Option.some.inj hcl).symm
      have hans2 := I.ans
      rw [hcs] at hans2
      have e : PySz31.answers ns = out := by rw [hans2]; exact List.append_nil _
      refine ⟨_, rfl, k H2 t I.same I.tab ?_⟩
      rw [e]
      exact I.told
end
end Kin
set_option Elab.async false
set_option linter.all false
set_option maxRecDepth 100000
set_option maxHeartbeats 2000000
namespace L2
open PySem PySem.Spec PyProof.Rows
open PySem.W (WData Codec OpenSpec Well WellAll ReadsW ReadsAllW CodeHd tabObj)
/-- the call, the table of one def (at Pt) tracked from the start -/
theorem tab_call {P : Program} {w : World} {K : PySem.W.Frag} {mg mb : Str → Option Value} {CX : CXT} {k : Nat} {fa c Pt : Addr} {fd : FuncData} {ps : List Str} {sp : Sp} {s₁ : Shared} {vals : List Value} {ds : List WData} {R : PySem.W.WRecords} {cl : Str → Option Addr} {d0 : WData}
    (KX : K.In s₁.heap) (hns : s₁.heap.Ns mainGlobals mg) (hb : s₁.heap.Ns builtinsNs mb) (hbb : ∀ x : Str, x ≠ "__name__" → mb x = bootBuiltins x) (hlim : s₁.heap.NoLimit) (hg : s₁.gens = #[])
    (hbm : ∃ bm ob, mg "__builtins__" = some (.ref bm) ∧ bm ≠ builtinsNs ∧ s₁.heap.get? bm = some ob ∧ ob.cls = .type "module" ∧ ob.dict = some builtinsNs ∧ ob.data = .plain)
    (hcd : CodeHd s₁.heap c Pt) (hPt : s₁.heap.get? Pt = some (tabObj #[])) (hKP : K.lookup Pt = none)
    (hwl : WellAll w.params s₁.heap vals ds) (hpl : plWs ds = true) (hwt : ∀ d ∈ ds, d.weight ≤ 1048576) (hr : Room k callerA)
    (F : ∀ base : Heap, K.In base → base.Ns mainGlobals mg → base.BuiltinsAt mg Pt → mainGlobals ≠ Pt → FnOk P w K mg base CX k fa fd ps sp) (hbind : ∀ (s : Shared) (us : List Value), us.length = ps.length → BindsTo s fd ⟨us, []⟩ (ps.zip us)) (hlen : ds.length = ps.length)
    (hsp : ∀ (H0 H : Hp) (xs : List V), OnlyF H0 → DwAll K H0 xs ds → (∀ b o, H0 b = some o → H b = some o) → H Pt = some (.tbl #[]) → sp xs H (fun v H' => Dw K H' v d0) fun _ _ _ => False)
    (hCX : ∀ H e s', CX [] H s₁ (fun _ _ _ => False) e s' → False) :
    codeAny (model P w) callerA (.call (.ref fa) ⟨vals, []⟩) (fun r s' => ∃ u as, r = .ok (.ret u) ∧ ReadsW R cl s'.heap u d0 as ∧ OldK s₁.heap s'.heap ∧ s'.os = s₁.os ∧ AllBare s'.gens) s₁ := by
  obtain ⟨A, ho, ar⟩ := area_all ds vals hwl hpl hwt
  have hO : OnlyF (argH K s₁.heap A) := argH_only ar
  have hok0 : HOk P w (argH K s₁.heap A) s₁.heap := argH_ok ar
  have hS := dw_all KX ar ds vals hwl hpl ho
  have hV := vals_toV ho
  have hK0 : ∀ b u, argH K s₁.heap A b = some u → K.lookup b = none := fun b u q => (argH_is ar q).1
  have seq0 : ∀ {b : Addr} {o : Obj}, s₁.heap.get? b = some o → (∀ vs n, o.data ≠ .seq vs n) → argH K s₁.heap A b = none := fun {b o} e n => by
    cases q : argH K s₁.heap A b with
    | none => rfl
    | some u =>
      obtain ⟨_, vs, _, _, ⟨e2, _⟩ | ⟨e2, _⟩⟩ := argH_is ar q
      · rw [e2] at e
        cases e
        exact absurd rfl (n vs.toArray _)
      · rw [e2] at e
        cases e
        exact absurd rfl (n vs.toArray _)
  generalize argH K s₁.heap A = H0 at hO hok0 hS hK0 seq0
  have nP0 : H0 Pt = none := seq0 hPt (fun vs n z => nomatch z)
  have s0 : ∀ b o, H0 b = some o → upd H0 Pt (.tbl #[]) b = some o := fun b o e => by rw [upd_ne (ne_of_none e nP0)]; exact e
  have hok : HOk P w (upd H0 Pt (.tbl #[])) s₁.heap := fun b u e => by
    by_cases z : b = Pt
    · rw [z, upd_same] at e
      cases e
      rw [z]
      exact hPt
    · rw [upd_ne z] at e
      exact (hok0 b u e).stay (fun _ _ _ q => q) (fun a q => s0 _ _ q) fun a xs q => s0 _ _ q
  have hK : ∀ b u, upd H0 Pt (.tbl #[]) b = some u → K.lookup b = none := fun b u e => by
    by_cases z : b = Pt
    · rw [z]; exact hKP
    · rw [upd_ne z] at e; exact hK0 b u e
  have noT : ∀ {b : Addr} {o : Obj}, s₁.heap.get? b = some o → (∀ vs n, o.data ≠ .seq vs n) → (∀ vs, o.data ≠ .fields vs) → upd H0 Pt (.tbl #[]) b = none := fun {b o} e n1 n2 => by
    by_cases z : b = Pt
    · rw [z, hPt] at e
      cases e
      exact absurd rfl (n2 _)
    · rw [upd_ne z]; exact seq0 e n1
  have ePt : upd H0 Pt (.tbl #[]) Pt = some (.tbl #[]) := upd_same
  have onlyB : ∀ b, b ≠ Pt → upd H0 Pt (.tbl #[]) b = none ∨ ∃ ob u, upd H0 Pt (.tbl #[]) b = some (.frz ob u) := fun b z => by rw [upd_ne z]; exact hO b
  have hspH := hsp H0 (upd H0 Pt (.tbl #[])) _ hO hS s0 ePt
  generalize upd H0 Pt (.tbl #[]) = H at hok hK noT ePt onlyB hspH s0
  have base_of : ∀ {b : Addr} {o : Obj}, s₁.heap.get? b = some o → H b = none → (hidT s₁.heap H).get? b = some o := fun e n => hidT_get e n
  have nsK : ∀ {b : Addr} {m : Str → Option Value}, s₁.heap.Ns b m → (hidT s₁.heap H).Ns b m := fun {b m} ⟨o, es, ep, e, d, r⟩ => ⟨o, es, ep, base_of e (noT e (fun vs n z => by rw [d] at z; cases z) (fun vs z => by rw [d] at z; cases z)), d, r⟩
  have nK : ∀ b o, K.lookup b = some o → H b = none := fun b o e => by
    cases q : H b with
    | none => rfl
    | some u =>
      rw [hK b u q] at e
      cases e
  have hKb : K.In (hidT s₁.heap H) := fun b o e => base_of (KX b o e) (nK b o e)
  have hM : Mod K mg (hidT s₁.heap H) := ⟨hKb, nsK hns, ⟨mb, nsK hb, hbb⟩, let ⟨mc, h1, h2⟩ := hlim; ⟨mc, nsK h1, h2⟩⟩
  have gP : mainGlobals ≠ Pt := fun z => by
    obtain ⟨o, es, ep, e, d, _⟩ := hns
    rw [z, hPt] at e
    cases e
    cases d
  have bmB : (hidT s₁.heap H).BuiltinsAt mg Pt := by
    obtain ⟨bm, ob, a1, a2, a3, a4, a5, a6⟩ := hbm
    refine ⟨bm, ob, a1, a2, fun z => ?_, fun z => ?_, base_of a3 (noT a3 (fun vs n z => by rw [a6] at z; cases z) (fun vs z => by rw [a6] at z; cases z)), a4, a5, a6⟩
    · obtain ⟨o, es, ep, e, d, _⟩ := hns
      rw [z, e] at a3
      cases a3
      rw [d] at a6
      cases a6
    · rw [z, hPt] at a3
      cases a3
      cases a4
  have e0 : Env0 P w K mg (hidT s₁.heap H) callerA [] s₁ H := ⟨rfl, hM, fun b o e => of_hidT e, Nat.le_of_eq (hidT_size _ _), trivial, fun b hb => absurd (show b ∈ ([] : List Addr) from hb) (by simp), hok, .of_eq hg⟩
  have hl : vals.length = ps.length := by rw [wellAll_len hwl]; exact hlen
  refine codeAny_mono ((F _ hKb (nsK hns) bmB gP).run callerA [] s₁ H ⟨vals, []⟩ vals (vals.map toV) _ _ hr e0 (hbind s₁ vals hl) hV hspH) fun r s' x => ?_
  cases r with
  | error e => exact (hCX H e s' x).elim
  | ok fl =>
    cases fl with
    | next => exact False.elim x
    | brk => exact False.elim x
    | cont => exact False.elim x
    | ret u =>
      obtain ⟨v, H', os, bare, un, hok', r', q⟩ := x
      have kept : ∀ b o, b ≠ Pt → s₁.heap.get? b = some o → s'.heap.get? b = some o := fun b o z e => by
        rcases onlyB b z with q2 | ⟨ob, u3, q2⟩
        · exact un.keep b o e q2 (by intro z; exact absurd (show b ∈ ([] : List Addr) from z) (by simp)) (by simp)
        · have z2 := un.frzs b ob _ q2
          obtain ⟨e1, _⟩ := hok b _ q2
          obtain ⟨e2, _⟩ := hok' b _ z2
          rw [e] at e1
          cases e1
          exact e2
      obtain ⟨more, hmore⟩ := un.tbls Pt #[] ePt
      have hP' : s'.heap.get? Pt = some (tabObj (#[] ++ more)) := hok' Pt _ hmore
      have KX' : K.In s'.heap := fun b o e => kept b o (fun z => by rw [z, hKP] at e; cases e) (KX b o e)
      obtain ⟨as, hrd⟩ := Dw.reads (R := R) (cl := cl) hok' KX' d0 v u q r'
      refine ⟨u, as, rfl, hrd, ⟨fun b o e => ?_, fun b o e => ?_⟩, os, bare⟩
      · by_cases z : b = Pt
        · rw [z, hPt] at e
          cases e
          rw [z]
          exact .inr (.inl ⟨(hcd.tab hPt).isCodeTable, rfl, #[], more, rfl, hP'⟩)
        · exact .inl (kept b o z e)
      · by_cases z : b = Pt
        · rw [z]; exact ⟨_, hP'⟩
        · exact ⟨o, kept b o z e⟩
/-- the goal that k_headS leaves (case hc), where one def of the text makes a lambda -/
theorem walk_tab {r : OpenSpec} {k : Nat} {q : Program} {loose : List Str} {XP : (Str → Option Value) → Heap → Prop} {YP : World → Heap → Prop} {d : DefRec} {K : Params → PySem.W.Frag} {CX : CXT} {ps : List Str} {mk : Str} {sp : PySem.W.Frag → Addr → Sp}
    (hwell : r.wellSaid = true) (hlen : r.args.length = ps.length) (hr : Room k callerA)
    (hY : ∀ (w : World) (h : Heap), YP w h → (K w.params).In h) (hrec : ∃ d', (recsOf q).find? (fun e => e.name == mk) = some d')
    (F : ∀ (w : World) (mg : Str → Option Value) (fa : Addr) (h : Heap), YP w h → (K w.params).In h → h.Ns mainGlobals mg → mg d.name = some (.ref fa) →
      ∃ (fd : FuncData) (c Pt : Addr), (∀ (s : Shared) (us : List Value), us.length = ps.length → BindsTo s fd ⟨us, []⟩ (ps.zip us)) ∧ PySem.W.tabIn (K w.params) mk = some (c, Pt) ∧ (K w.params).lookup Pt = none ∧
        ∀ base : Heap, (K w.params).In base → base.Ns mainGlobals mg → base.BuiltinsAt mg Pt → mainGlobals ≠ Pt → FnOk r.prog w (K w.params) mg base CX k fa fd ps (sp (K w.params) Pt))
    (hsp : ∀ (K : PySem.W.Frag) (Pt : Addr) (H0 H : Hp) (xs : List V) (a : Codec.denoteAll r.args), OnlyF H0 → Codec.withinAll r.args a = true → Codec.app r.args r.asked a = true → DwAll K H0 xs (Codec.encAll r.args a) → (∀ b o, H0 b = some o → H b = some o) → H Pt = some (.tbl #[]) →
      sp K Pt xs H (fun v H' => Dw K H' v (r.ret.enc (Codec.app r.args r.f a))) fun _ _ _ => False)
    (hCX : ∀ (H : Hp) (s : Shared) (e : Value) (s' : Shared), CX [] H s (fun _ _ _ => False) e s' → False) :
    PySem.W.WalkOS q loose XP YP r d [] (fun f vs => PySem.call f vs) := by
  intro w s_0 s₁ mg mb G Y fa o pm cd doc dV kV ho hd hcd hD hmg hg args vals as hpre hlay hrd hwl hlo
  obtain ⟨a, e1, e2⟩ := PySem.W.os_pre_some hpre
  obtain ⟨e3, hwi⟩ := Codec.encAll_of_decAll r.args args a e1
  subst e3
  have KX := hY w _ Y
  obtain ⟨fd, c, Pt, hb, ht, hKP, hF⟩ := F w mg fa _ Y KX G.T.g hmg
  obtain ⟨d', hrec⟩ := hrec
  obtain ⟨hcdP, hPt⟩ := PySem.W.tab_of G.T KX hrec ht
  refine PySem.W.enter_call (codeAny_mono (tab_call (R := []) (cl := classAt s_0.heap) (d0 := r.ret.enc (Codec.app r.args r.f a)) KX G.T.g G.T.b G.T.builtins G.T.nolimit hg G.T.bmain hcdP hPt hKP hwl (pl_encAll _ _) (layable_weight hlay) hr hF hb (by rw [encAll_len]; exact hlen)
    (fun H0 H xs hO hS s0 e => hsp (K w.params) Pt H0 H xs a hO hwi e2 hS s0 e) fun H e s' => hCX H s₁ e s') fun r' s' hq => ?_)
  obtain ⟨u, as', rfl, h1, h2, h3, h4⟩ := hq
  exact ⟨.inl ⟨u, _, as', rfl, fun _ => rfl, h1, (OpenSpec.post_iff hwell hwi _ _).mpr rfl, fun z => Bool.noConfusion (show false = true from z)⟩, h2, h3, h4⟩
end L2
set_option Elab.async false
set_option linter.all false
set_option maxRecDepth 100000
set_option maxHeartbeats 2000000
namespace Kin
open PySem PySem.Spec PyProof.Rows L2
open PySem.W (Codec)
/-! ### what the top has written -/
/-- a def of the text's top -/
def TopFn (K : PySem.W.Frag) (x : Str) (st : Stmt) : Prop := ∃ (f : Addr) (oc : Value) (od : Option Addr) (kV doc pm : Value) (an : Option Addr) (cd ct : Value) (sl : Array (Option Value)),
  PySem.W.nsIn K mainGlobals x = some (some (.ref f)) ∧ K.lookup f = some ⟨oc, od, .func (PySem.W.fnOf x x (defArgs st) (defBody st) (defScope st) .none kV doc pm an cd ct), sl⟩ ∧ PySem.W.codeIn K cd x = true ∧ PySem.W.keepIn K (.ref f) = true
/-- one that makes a lambda: its code and its table -/
def TopFnT (K : PySem.W.Frag) (x : Str) (st : Stmt) (c Pt : Addr) : Prop := ∃ (f : Addr) (oc : Value) (od : Option Addr) (kV doc pm : Value) (an : Option Addr) (ct : Value) (sl : Array (Option Value)),
  PySem.W.nsIn K mainGlobals x = some (some (.ref f)) ∧ K.lookup f = some ⟨oc, od, .func (PySem.W.fnOf x x (defArgs st) (defBody st) (defScope st) .none kV doc pm an (.ref c) ct), sl⟩ ∧ PySem.W.codeIn K (.ref c) x = true ∧ PySem.W.keepIn K (.ref f) = true ∧ PySem.W.codeHdIn K c Pt = true
/-- a method of the class at C -/
def ClsFn (K : PySem.W.Frag) (C : Addr) (x qual : Str) (st : Stmt) : Prop := ∃ (f : Addr) (oc : Value) (od : Option Addr) (kV doc pm : Value) (an : Option Addr) (cd ct : Value) (sl : Array (Option Value)),
  PySem.W.findIn K (.ref C) x = some (some (.ref f)) ∧ PySem.W.isFn K (.ref f) = true ∧ K.lookup f = some ⟨oc, od, .func (PySem.W.fnOf x qual (defArgs st) (defBody st) (defScope st) .none kV doc pm an cd ct), sl⟩ ∧ PySem.W.codeIn K cd qual = true ∧ PySem.W.keepIn K (.ref f) = true
/-- a class -/
structure ClsP (K : PySem.W.Frag) (C : Addr) : Prop where
  pg : PySem.W.plainGet K C Str.empty = true
  hd : PySem.W.hasDictIn K C = true
  po : PySem.W.plainOver K C = true
  sa : PySem.W.findIn K (.ref C) "__setattr__" = some (some (.builtin "object.__setattr__"))
  makes : PySem.W.makesIn K C = true
  kc : PySem.W.keepIn K (.ref C) = true
def IntG (K : PySem.W.Frag) (x : Str) (i : Int) : Prop := ∃ t, PySem.W.nsIn K mainGlobals x = some (some (.int i t))
def NoG (K : PySem.W.Frag) (x : Str) : Prop := PySem.W.nsIn K mainGlobals x = some none
def strsOk : List Value → List Sz31.Bytes → Bool
  | [], [] => true
  | .str x _ :: r, b :: bs => decide (x = S b) && strsOk r bs
  | _, _ => false
def tupOk (o : Obj) (xs : List Sz31.Bytes) : Bool := match o with
  | ⟨.type "tuple", _, .seq its _, _⟩ => strsOk its.toList xs && decide (its.size ≤ 1000)
  | _ => false
def TupG (K : PySem.W.Frag) (x : Str) (xs : List Sz31.Bytes) : Prop := ∃ (t : Addr) (o : Obj), PySem.W.nsIn K mainGlobals x = some (some (.ref t)) ∧ K.lookup t = some o ∧ tupOk o xs = true
def dictOk (o : Obj) (tab : List (Int × V)) : Bool := match o with
  | ⟨.type "dict", none, .dict es _, sl⟩ => entsOk es.toList tab && decide (sl.size = 0)
  | _ => false
theorem strsOk_vals : ∀ {l : List Value} {xs : List Sz31.Bytes}, strsOk l xs = true → Vals (xs.map fun b => V.str (S b)) l
  | [], [], _ => .nil
  | .str x t :: r, b :: bs, h => by
    unfold strsOk at h
    rw [Bool.and_eq_true, decide_eq_true_eq] at h
    rw [List.map_cons]
    exact .cons ⟨t, by rw [h.1]⟩ (strsOk_vals h.2)
theorem TupG.word {K : PySem.W.Frag} {h : Heap} {mg : Str → Option Value} {x : Str} {xs : List Sz31.Bytes} (t : TupG K x xs) (X : K.In h) (G : h.Ns mainGlobals mg) : WordT K mg x xs := by
  obtain ⟨t, o, h1, h2, h3⟩ := t
  refine ⟨t, PySem.W.mg_of X G h1, fun H => ?_⟩
  unfold tupOk at h3
  split at h3
  · rename_i dd its n sl
    rw [Bool.and_eq_true, decide_eq_true_eq] at h3
    exact .inr ⟨_, its, n, h2, rfl, rfl, fits h3.2, strsOk_vals h3.1⟩
  · cases h3
def DictG (K : PySem.W.Frag) (x : Str) (tab : List (Int × V)) : Prop := ∃ (t : Addr) (o : Obj), PySem.W.nsIn K mainGlobals x = some (some (.ref t)) ∧ K.lookup t = some o ∧ dictOk o tab = true
def widths : List (Int × V) := [(1, .int 0), (2, .int 1), (3, .int 2), (4, .int 2), (5, .int 2), (6, .int 2), (7, .int 2), (8, .int 2), (9, .int 3)]
theorem widths_at (c : Int) (h1 : 1 ≤ c) (h9 : c ≤ 9) : (widths.find? fun kv => decide (kv.1 = c)).map (·.2) = some (V.int (KF.width c)) := by
  have : c = 1 ∨ c = 2 ∨ c = 3 ∨ c = 4 ∨ c = 5 ∨ c = 6 ∨ c = 7 ∨ c = 8 ∨ c = 9 := by omega
  rcases this with rfl | rfl | rfl | rfl | rfl | rfl | rfl | rfl | rfl <;> rfl
theorem DictG.get {K : PySem.W.Frag} {x : Str} {tab : List (Int × V)} (t : DictG K x tab) (nd : (tab.map (·.1)).Nodup) : ∃ a, PySem.W.nsIn K mainGlobals x = some (some (.ref a)) ∧ KDict K a tab := by
  obtain ⟨t, o, h1, h2, h3⟩ := t
  refine ⟨t, h1, ⟨?_, nd⟩⟩
  unfold dictOk at h3
  split at h3
  · rename_i es ep sl
    rw [Bool.and_eq_true, decide_eq_true_eq] at h3
    exact ⟨_, es, ep, h2, ⟨rfl, rfl, Array.eq_empty_of_size_eq_zero h3.2⟩, rfl, h3.1⟩
  · cases h3
section
variable {P : Program} {w : World} {K : PySem.W.Frag} {h : Heap} {mg : Str → Option Value} {C : Addr}
theorem TopFn.get {x : Str} {st : Stmt} (t : TopFn K x st) (X : K.In h) (G : h.Ns mainGlobals mg) : ∃ f fd, Fun K x x st f fd ∧ mg x = some (.ref f) ∧ PySem.W.keepIn K (.ref f) = true := by
  obtain ⟨f, oc, od, kV, doc, pm, an, cd, ct, sl, a, l, c, k⟩ := t
  exact ⟨f, _, fun_mk l c k, PySem.W.mg_of X G a, k⟩
theorem ClsFn.get {x qual : Str} {st : Stmt} (t : ClsFn K C x qual st) : ∃ f fd, Fun K x qual st f fd ∧ Meth K C x f := by
  obtain ⟨f, oc, od, kV, doc, pm, an, cd, ct, sl, a, i, l, c, k⟩ := t
  exact ⟨f, _, fun_mk l c k, ⟨a, i, k⟩⟩
theorem IntG.get {x : Str} {i : Int} (t : IntG K x i) (X : K.In h) (G : h.Ns mainGlobals mg) : ∃ t, mg x = some (.int i t) := by
  obtain ⟨t, e⟩ := t
  exact ⟨t, PySem.W.mg_of X G e⟩
theorem NoG.get {x : Str} (t : NoG K x) (X : K.In h) (G : h.Ns mainGlobals mg) : mg x = none := PySem.W.mg_none_of X G t
/-- all that the proof asks of the text -/
structure Parts (K : PySem.W.Frag) (C N c Pt : Addr) : Prop where
  aC : PySem.W.nsIn K mainGlobals "Family" = some (some (.ref C))
  aN : PySem.W.nsIn K mainGlobals "Nearest" = some (some (.ref N))
  pC : ClsP K C
  pN : ClsP K N
  nS : NoAttr K C "sexes"
  nP : NoAttr K C "parents"
  nC : NoAttr K C "children"
  nD : NoAttr K C "pairs"
  nM : NoAttr K N "m"
  nN : NoAttr K N "n"
  nQ : NoAttr K N "persons"
  m0 : ClsFn K C "__init__" "Family.__init__" sInit
  m1 : ClsFn K C "forget_all" "Family.forget_all" sForget
  m2 : ClsFn K C "has_both" "Family.has_both" sHas
  m3 : ClsFn K C "add_person" "Family.add_person" sPerson
  m4 : ClsFn K C "add_parent" "Family.add_parent" sParent
  m5 : ClsFn K C "are_partners" "Family.are_partners" sAre
  m6 : ClsFn K C "partners_of" "Family.partners_of" sPartners
  m7 : ClsFn K C "add_partners" "Family.add_partners" sPartner
  m8 : ClsFn K C "part_partners" "Family.part_partners" sPart
  m9 : ClsFn K N "__init__" "Nearest.__init__" sNInit
  f0 : TopFn K "one_step" sOne
  f1 : TopFn K "levels_from" sLevels
  f2 : TopFn K "fewest_steps" sFewest
  f3 : TopFn K "longest" sLongest
  f4 : TopFn K "is_within" sWithin
  f5 : TopFnT K "parents_first" sFirst c Pt
  f6 : TopFn K "alike_oneself" sSelf
  f7 : TopFn K "alike_rows" sRows
  f8 : TopFn K "how_alike" sHow
  f9 : TopFn K "nearest_common" sNearest
  f10 : TopFn K "is_half" sHalf
  f11 : TopFn K "pair_of" sPair
  f12 : TopFn K "straight_word" sStraight
  f13 : TopFn K "aside_word" sAside
  f14 : TopFn K "cousin_word" sCousin
  f15 : TopFn K "branch_word" sBranch
  f16 : TopFn K "blood_word" sBlood
  f17 : TopFn K "word_by_blood" sByBlood
  f18 : TopFn K "word_by_partners" sByPart
  f19 : TopFn K "word_for" sWordFor
  f20 : TopFn K "above_answer" sAbove
  f21 : TopFn K "common_answer" sCommon
  f22 : TopFn K "alike_answer" sAlike
  f23 : TopFn K "word_answer" sWordA
  f24 : TopFn K "told_answer" sTold
  f25 : TopFn K "answer_of" sAnswerOf
  f26 : TopFn K "answers" sAnswers
  i0 : IntG K "MOST_PERSONS" 1024
  i1 : IntG K "MOST_PARENTS" 2
  i2 : IntG K "MOST_PAIRS" 4096
  i3 : IntG K "MOST_STEPS" 28
  i4 : IntG K "LAST_SEX" 2
  i5 : IntG K "CERTAIN" 1152921504606846976
  i6 : IntG K "MOST_BYTES" 65536
  k1 : IntG K "KN_CLEAR" 1
  k2 : IntG K "KN_PERSON" 2
  k3 : IntG K "KN_PARENT" 3
  k4 : IntG K "KN_PARTNER" 4
  k5 : IntG K "KN_PART" 5
  k6 : IntG K "KN_ABOVE" 6
  k7 : IntG K "KN_COMMON" 7
  k8 : IntG K "KN_ALIKE" 8
  z0 : NoG K "len"
  z1 : NoG K "min"
  z2 : NoG K "max"
  z3 : NoG K "sorted"
  z4 : NoG K "list"
  z5 : NoG K "any"
  z6 : NoG K "sum"
  z7 : NoG K "range"
  z8 : NoG K "enumerate"
  z9 : NoG K "ord"
  z10 : NoG K "abs"
  t0 : TupG K "PARENT" (three "parent" "mother" "father")
  t1 : TupG K "CHILD" (three "child" "daughter" "son")
  t2 : TupG K "SIBLING" (three "sibling" "sister" "brother")
  t3 : TupG K "SIBLING_OF_PARENT" (three "parent's sibling" "aunt" "uncle")
  t4 : TupG K "CHILD_OF_SIBLING" (three "sibling's child" "niece" "nephew")
  t5 : TupG K "PARTNER" (three "spouse" "wife" "husband")
  t6 : TupG K "COUSINS" cousins
  t7 : TupG K "REMOVED" removeds
  d0 : DictG K "WIDTHS" widths
theorem parts_ok {N c Pt fa : Addr} (Z : Parts K C N c Pt) (X : K.In h) (G : h.Ns mainGlobals mg) (hfa : mg "answers" = some (.ref fa)) :
    ∃ fd : FuncData, (∀ (s : Shared) (us : List Value), us.length = (["calls"] : List Str).length → BindsTo s fd ⟨us, []⟩ ((["calls"] : List Str).zip us)) ∧ ∀ base : Heap, K.In base → base.Ns mainGlobals mg → base.BuiltinsAt mg Pt → mainGlobals ≠ Pt → FnOk P w K mg base CX0 9 fa fd ["calls"] (spAnswers K Pt) := by
  have cC : Cls K C := ⟨Z.pC.pg, Z.pC.hd, Z.pC.po, Z.pC.sa⟩
  have cN : Cls K N := ⟨Z.pN.pg, Z.pN.hd, Z.pN.po, Z.pN.sa⟩
  have T : Txt K mg C := ⟨cC, Z.nS, Z.nP, Z.nC, Z.nD, PySem.W.mg_of X G Z.aC, Z.z0.get X G, Z.z1.get X G, Z.z2.get X G, Z.i0.get X G, Z.i1.get X G, Z.i2.get X G, Z.i3.get X G, Z.i4.get X G⟩
  have TN : TxtN K mg N := ⟨cN, Z.nM, Z.nN, Z.nQ, PySem.W.mg_of X G Z.aN⟩
  have TW : TxtW K mg := ⟨Z.t0.word X G, Z.t1.word X G, Z.t2.word X G, Z.t3.word X G, Z.t4.word X G, Z.t5.word X G, Z.t6.word X G, Z.t7.word X G, Z.z0.get X G, Z.z1.get X G, Z.z10.get X G⟩
  have TC : TxtC mg := ⟨Z.k1.get X G, Z.k2.get X G, Z.k3.get X G, Z.k4.get X G, Z.k5.get X G, Z.k6.get X G, Z.k7.get X G, Z.k8.get X G⟩
  obtain ⟨g0, e0, M0, h0⟩ := Z.m0.get
  obtain ⟨g1, e1, M1, h1⟩ := Z.m1.get
  obtain ⟨g2, e2, M2, h2⟩ := Z.m2.get
  obtain ⟨g3, e3, M3, h3⟩ := Z.m3.get
  obtain ⟨g4, e4, M4, h4⟩ := Z.m4.get
  obtain ⟨g5, e5, M5, h5⟩ := Z.m5.get
  obtain ⟨g6, e6, M6, h6⟩ := Z.m6.get
  obtain ⟨g7, e7, M7, h7⟩ := Z.m7.get
  obtain ⟨g8, e8, M8, h8⟩ := Z.m8.get
  obtain ⟨g9, e9, M9, h9⟩ := Z.m9.get
  obtain ⟨p0, q0, F0, n0, u0⟩ := Z.f0.get X G
  obtain ⟨p1, q1, F1, n1, u1⟩ := Z.f1.get X G
  obtain ⟨p2, q2, F2, n2, u2⟩ := Z.f2.get X G
  obtain ⟨p3, q3, F3, n3, u3⟩ := Z.f3.get X G
  obtain ⟨p4, q4, F4, n4, u4⟩ := Z.f4.get X G
  obtain ⟨p6, q6, F6, n6, u6⟩ := Z.f6.get X G
  obtain ⟨p7, q7, F7, n7, u7⟩ := Z.f7.get X G
  obtain ⟨p8, q8, F8, n8, u8⟩ := Z.f8.get X G
  obtain ⟨p9, q9, F9, n9, u9⟩ := Z.f9.get X G
  obtain ⟨p10, q10, F10, n10, u10⟩ := Z.f10.get X G
  obtain ⟨p11, q11, F11, n11, u11⟩ := Z.f11.get X G
  obtain ⟨p12, q12, F12, n12, u12⟩ := Z.f12.get X G
  obtain ⟨p13, q13, F13, n13, u13⟩ := Z.f13.get X G
  obtain ⟨p14, q14, F14, n14, u14⟩ := Z.f14.get X G
  obtain ⟨p15, q15, F15, n15, u15⟩ := Z.f15.get X G
  obtain ⟨p16, q16, F16, n16, u16⟩ := Z.f16.get X G
  obtain ⟨p17, q17, F17, n17, u17⟩ := Z.f17.get X G
  obtain ⟨p18, q18, F18, n18, u18⟩ := Z.f18.get X G
  obtain ⟨p19, q19, F19, n19, u19⟩ := Z.f19.get X G
  obtain ⟨p20, q20, F20, n20, u20⟩ := Z.f20.get X G
  obtain ⟨p21, q21, F21, n21, u21⟩ := Z.f21.get X G
  obtain ⟨p22, q22, F22, n22, u22⟩ := Z.f22.get X G
  obtain ⟨p23, q23, F23, n23, u23⟩ := Z.f23.get X G
  obtain ⟨p24, q24, F24, n24, u24⟩ := Z.f24.get X G
  obtain ⟨p25, q25, F25, n25, u25⟩ := Z.f25.get X G
  obtain ⟨p26, q26, F26, n26, u26⟩ := Z.f26.get X G
  obtain ⟨p5, oc, od, kV, doc, pm, an, ct, sl, a5, l5, c5, u5, hd5⟩ := Z.f5
  have n5 := PySem.W.mg_of X G a5
  have F5 : FunT K "parents_first" sFirst p5 (PySem.W.fnOf "parents_first" "parents_first" (defArgs sFirst) (defBody sFirst) (defScope sFirst) .none kV doc pm an (.ref c) ct) c Pt := ⟨⟨oc, od, kV, doc, pm, an, ct, sl, rfl, l5, c5⟩, hd5⟩
  have b5 : Binds K (PySem.W.fnOf "parents_first" "parents_first" (defArgs sFirst) (defBody sFirst) (defScope sFirst) .none kV doc pm an (.ref c) ct) ["parents", "a", "b"] [] := (fun_mk (st := sFirst) l5 c5 u5).binds (ps := ["parents", "a", "b"]) fun _ _ _ _ _ _ us hl => match us, hl with | [_, _, _], _ => rfl
  have v0 := M0.binds (ps := ["self"]) fun _ _ _ _ _ _ us hl => match us, hl with | [_], _ => rfl
  have v1 := M1.binds (ps := ["self"]) fun _ _ _ _ _ _ us hl => match us, hl with | [_], _ => rfl
  have v2 := M2.binds (ps := ["self", "a", "b"]) fun _ _ _ _ _ _ us hl => match us, hl with | [_, _, _], _ => rfl
  have v3 := M3.binds (ps := ["self", "sex"]) fun _ _ _ _ _ _ us hl => match us, hl with | [_, _], _ => rfl
  have v4 := M4.binds (ps := ["self", "child", "parent"]) fun _ _ _ _ _ _ us hl => match us, hl with | [_, _, _], _ => rfl
  have v5 := M5.binds (ps := ["self", "a", "b"]) fun _ _ _ _ _ _ us hl => match us, hl with | [_, _, _], _ => rfl
  have v6 := M6.binds (ps := ["self", "a"]) fun _ _ _ _ _ _ us hl => match us, hl with | [_, _], _ => rfl
  have v7 := M7.binds (ps := ["self", "a", "b"]) fun _ _ _ _ _ _ us hl => match us, hl with | [_, _, _], _ => rfl
  have v8 := M8.binds (ps := ["self", "a", "b"]) fun _ _ _ _ _ _ us hl => match us, hl with | [_, _, _], _ => rfl
  have v9 := M9.binds (ps := ["self", "m", "n", "persons"]) fun _ _ _ _ _ _ us hl => match us, hl with | [_, _, _, _], _ => rfl
  have b0 := F0.binds (ps := ["links", "level"]) fun _ _ _ _ _ _ us hl => match us, hl with | [_, _], _ => rfl
  have b1 := F1.binds (ps := ["links", "start"]) fun _ _ _ _ _ _ us hl => match us, hl with | [_, _], _ => rfl
  have b2 := F2.binds (ps := ["links", "start"]) fun _ _ _ _ _ _ us hl => match us, hl with | [_, _], _ => rfl
  have b3 := F3.binds (ps := ["levels"]) fun _ _ _ _ _ _ us hl => match us, hl with | [_], _ => rfl
  have b4 := F4.binds (ps := ["levels", "person"]) fun _ _ _ _ _ _ us hl => match us, hl with | [_, _], _ => rfl
  have b6 := F6.binds (ps := ["rows", "above"]) fun _ _ _ _ _ _ us hl => match us, hl with | [_, _], _ => rfl
  have b7 := F7.binds (ps := ["parents", "order"]) fun _ _ _ _ _ _ us hl => match us, hl with | [_, _], _ => rfl
  have b8 := F8.binds (ps := ["parents", "a", "b"]) fun _ _ _ _ _ _ us hl => match us, hl with | [_, _, _], _ => rfl
  have b9 := F9.binds (ps := ["up_a", "up_b"]) fun _ _ _ _ _ _ us hl => match us, hl with | [_, _], _ => rfl
  have b10 := F10.binds (ps := ["family", "nearest", "up_a", "up_b"]) fun _ _ _ _ _ _ us hl => match us, hl with | [_, _, _, _], _ => rfl
  have b11 := F11.binds (ps := ["a", "b"]) fun _ _ _ _ _ _ us hl => match us, hl with | [_, _], _ => rfl
  have b12 := F12.binds (ps := ["near", "steps"]) fun _ _ _ _ _ _ us hl => match us, hl with | [_, _], _ => rfl
  have b13 := F13.binds (ps := ["near", "steps"]) fun _ _ _ _ _ _ us hl => match us, hl with | [_, _], _ => rfl
  have b14 := F14.binds (ps := ["m", "n"]) fun _ _ _ _ _ _ us hl => match us, hl with | [_, _], _ => rfl
  have b15 := F15.binds (ps := ["m", "n", "sex"]) fun _ _ _ _ _ _ us hl => match us, hl with | [_, _, _], _ => rfl
  have b16 := F16.binds (ps := ["m", "n", "half", "sex"]) fun _ _ _ _ _ _ us hl => match us, hl with | [_, _, _, _], _ => rfl
  have b17 := F17.binds (ps := ["family", "a", "b"]) fun _ _ _ _ _ _ us hl => match us, hl with | [_, _, _], _ => rfl
  have b18 := F18.binds (ps := ["family", "a", "b"]) fun _ _ _ _ _ _ us hl => match us, hl with | [_, _, _], _ => rfl
  have b19 := F19.binds (ps := ["family", "a", "b"]) fun _ _ _ _ _ _ us hl => match us, hl with | [_, _, _], _ => rfl
  have b20 := F20.binds (ps := ["family", "a", "k"]) fun _ _ _ _ _ _ us hl => match us, hl with | [_, _, _], _ => rfl
  have b21 := F21.binds (ps := ["family", "a", "b"]) fun _ _ _ _ _ _ us hl => match us, hl with | [_, _, _], _ => rfl
  have b22 := F22.binds (ps := ["family", "a", "b"]) fun _ _ _ _ _ _ us hl => match us, hl with | [_, _, _], _ => rfl
  have b23 := F23.binds (ps := ["family", "a", "b", "most"]) fun _ _ _ _ _ _ us hl => match us, hl with | [_, _, _, _], _ => rfl
  have b24 := F24.binds (ps := ["family", "call", "numbers"]) fun _ _ _ _ _ _ us hl => match us, hl with | [_, _, _], _ => rfl
  have b25 := F25.binds (ps := ["family", "call", "numbers"]) fun _ _ _ _ _ _ us hl => match us, hl with | [_, _, _], _ => rfl
  have e := hfa.symm.trans n26
  cases e
  have bind26 : ∀ (s : Shared) (us : List Value), us.length = (["calls"] : List Str).length → BindsTo s q26 ⟨us, []⟩ ((["calls"] : List Str).zip us) := by
    obtain ⟨oc, od, kV, doc, pm, an, cdv, ct, osl, rfl, lk, hcd⟩ := F26.ex
    exact fun s us hu => match us, hu with | [_], _ => .of_eq rfl
  obtain ⟨aw, hw, D⟩ := Z.d0.get (by decide +kernel)
  refine ⟨q26, bind26, fun base KB GB bm gP => ?_⟩
  have len := Z.z0.get X G
  have C0 : Callee P w K mg base 1 "one_step" ["links", "level"] spOne := ⟨p0, q0, ok_one F0 (Z.z4.get X G), n0, u0, b0⟩
  have C1 : Callee P w K mg base 2 "levels_from" ["links", "start"] spLevels := ⟨p1, q1, ok_levels F1 len C0, n1, u1, b1⟩
  have C2 : Callee P w K mg base 2 "fewest_steps" ["links", "start"] spFewest := ⟨p2, q2, ok_fewest F2 len C0, n2, u2, b2⟩
  have C3 : Callee P w K mg base 1 "longest" ["levels"] spLongest := ⟨p3, q3, ok_longest F3 len, n3, u3, b3⟩
  have C4 : Callee P w K mg base 1 "is_within" ["levels", "person"] spWithin := ⟨p4, q4, ok_within F4 (Z.z5.get X G), n4, u4, b4⟩
  have C5 : Callee P w K mg base 4 "parents_first" ["parents", "a", "b"] (spFirst Pt) := ⟨p5, _, ok_first F5 KB bm gP (Z.z8.get X G) (Z.z2.get X G) (Z.z3.get X G) C1, n5, u5, b5⟩
  have C6 : Callee P w K mg base 1 "alike_oneself" ["rows", "above"] spSelf := ⟨p6, q6, ok_self F6 len (Z.i5.get X G), n6, u6, b6⟩
  have C7 : Callee P w K mg base 2 "alike_rows" ["parents", "order"] spRows := ⟨p7, q7, ok_rows F7 (Z.z6.get X G) C6, n7, u7, b7⟩
  have C8 : Callee P w K mg base 5 "how_alike" ["parents", "a", "b"] (spHow Pt) := ⟨p8, q8, ok_how F8 C5 C7, n8, u8, b8⟩
  have GN : FnOk P w K mg base CX0 1 g9 e9 ["self", "m", "n", "persons"] (spNInit N) := ok_ninit M9 TN
  have C9 : Callee P w K mg base 3 "nearest_common" ["up_a", "up_b"] (spNearest N) := ⟨p9, q9, ok_nearest F9 TN len (Z.z1.get X G) (Z.z3.get X G) ⟨Z.pN.makes, h9.at_, h9.fn, Z.pN.kc⟩ GN v9, n9, u9, b9⟩
  have C10 : Callee P w K mg base 1 "is_half" ["family", "nearest", "up_a", "up_b"] (spHalf C N) := ⟨p10, q10, ok_half F10 T TN, n10, u10, b10⟩
  have C11 : Callee P w K mg base 1 "pair_of" ["a", "b"] spPair := ⟨p11, q11, ok_pair F11 T, n11, u11, b11⟩
  have C12 : Callee P w K mg base 1 "straight_word" ["near", "steps"] spStraight := ⟨p12, q12, ok_straight F12, n12, u12, b12⟩
  have C13 : Callee P w K mg base 1 "aside_word" ["near", "steps"] spAside := ⟨p13, q13, ok_aside F13, n13, u13, b13⟩
  have C14 : Callee P w K mg base 1 "cousin_word" ["m", "n"] spCousin := ⟨p14, q14, ok_cousin F14 TW, n14, u14, b14⟩
  have C15 : Callee P w K mg base 2 "branch_word" ["m", "n", "sex"] spBranch := ⟨p15, q15, ok_branch F15 TW C13 C14, n15, u15, b15⟩
  have C16 : Callee P w K mg base 3 "blood_word" ["m", "n", "half", "sex"] spBlood := ⟨p16, q16, ok_blood F16 TW C12 C15, n16, u16, b16⟩
  have C17 : Callee P w K mg base 4 "word_by_blood" ["family", "a", "b"] (spByBlood C) := ⟨p17, q17, ok_byBlood F17 T TN C2 C9 C10 C16, n17, u17, b17⟩
  have D2 : Mth P w K mg base C 1 "has_both" ["self", "a", "b"] (spHas C) := ⟨g2, e2, ok_has M2 T, h2, v2⟩
  have D5 : Mth P w K mg base C 2 "are_partners" ["self", "a", "b"] (spAre C) := ⟨g5, e5, ok_are M5 T C11, h5, v5⟩
  have D6 : Mth P w K mg base C 3 "partners_of" ["self", "a"] (spPartners C) := ⟨g6, e6, ok_partners M6 T (Z.z7.get X G) D5, h6, v6⟩
  have C18 : Callee P w K mg base 5 "word_by_partners" ["family", "a", "b"] (spByPart C) := ⟨p18, q18, ok_byPart F18 T TW D5 D6 C17, n18, u18, b18⟩
  have C19 : Callee P w K mg base 6 "word_for" ["family", "a", "b"] (spWord C) := ⟨p19, q19, ok_wordFor F19 C17 C18, n19, u19, b19⟩
  have C20 : Callee P w K mg base 3 "above_answer" ["family", "a", "k"] (spQ C Pt 2 fun ns => .above (ns.getD 0 0) (ns.getD 1 0)) := ⟨p20, q20, ok_above F20 T D2 C1, n20, u20, b20⟩
  have C21 : Callee P w K mg base 4 "common_answer" ["family", "a", "b"] (spQ C Pt 2 fun ns => .common (ns.getD 0 0) (ns.getD 1 0)) := ⟨p21, q21, ok_common F21 T TN D2 C2 C9, n21, u21, b21⟩
  have C22 : Callee P w K mg base 6 "alike_answer" ["family", "a", "b"] (spQ C Pt 2 fun ns => .alike (ns.getD 0 0) (ns.getD 1 0)) := ⟨p22, q22, ok_alike F22 T D2 C8, n22, u22, b22⟩
  have C23 : Callee P w K mg base 7 "word_answer" ["family", "a", "b", "most"] (spQ C Pt 3 fun ns => .word (ns.getD 0 0) (ns.getD 1 0) (ns.getD 2 0)) := ⟨p23, q23, ok_wordA F23 T (Z.z9.get X G) (Z.i6.get X G) D2 C19, n23, u23, b23⟩
  have D1 : Mth P w K mg base C 1 "forget_all" ["self"] (spDo C 0 fun _ => .clear) := ⟨g1, e1, ok_forget M1 T, h1, v1⟩
  have D3 : Mth P w K mg base C 1 "add_person" ["self", "sex"] (spDo C 1 fun ns => .person (ns.getD 0 0)) := ⟨g3, e3, ok_person M3 T, h3, v3⟩
  have D4 : Mth P w K mg base C 3 "add_parent" ["self", "child", "parent"] (spDo C 2 fun ns => .parent (ns.getD 0 0) (ns.getD 1 0)) := ⟨g4, e4, ok_parent M4 T D2 C1 C3 C4, h4, v4⟩
  have D7 : Mth P w K mg base C 3 "add_partners" ["self", "a", "b"] (spDo C 2 fun ns => .partner (ns.getD 0 0) (ns.getD 1 0)) := ⟨g7, e7, ok_partner M7 T D2 D5 C11, h7, v7⟩
  have D8 : Mth P w K mg base C 3 "part_partners" ["self", "a", "b"] (spDo C 2 fun ns => .part (ns.getD 0 0) (ns.getD 1 0)) := ⟨g8, e8, ok_part M8 T D2 D5 C11, h8, v8⟩
  have C24 : Callee P w K mg base 4 "told_answer" ["family", "call", "numbers"] (spTold C) := ⟨p24, q24, ok_told F24 T TC D1 D3 D4 D7 D8, n24, u24, b24⟩
  have C25 : Callee P w K mg base 8 "answer_of" ["family", "call", "numbers"] (spAnswerOf C Pt) := ⟨p25, q25, ok_answerOf F25 TC C24 C20 C21 C22 C23, n25, u25, b25⟩
  exact ok_answers F26 T ⟨Z.pC.makes, h0.at_, h0.fn, Z.pC.kc⟩ (ok_init M0 T) v0 C25 D (PySem.W.mg_of X G hw) widths_at (fun s c W => KM.step_short W c)
end
end Kin
set_option Elab.async false
set_option linter.all false
set_option maxRecDepth 100000
namespace Kin
open PySem PySem.Spec PyProof.Rows L2
theorem topFn_mk {K : PySem.W.Frag} {x : Str} {st : Stmt} {f : Addr} {oc : Value} {od : Option Addr} {kV doc pm : Value} {an : Option Addr} {cd ct : Value} {sl : Array (Option Value)}
  (a : PySem.W.nsIn K mainGlobals x = some (some (.ref f))) (l : K.lookup f = some ⟨oc, od, .func (PySem.W.fnOf x x (defArgs st) (defBody st) (defScope st) .none kV doc pm an cd ct), sl⟩) (c : PySem.W.codeIn K cd x = true) (k : PySem.W.keepIn K (.ref f) = true) : TopFn K x st :=
  ⟨f, oc, od, kV, doc, pm, an, cd, ct, sl, a, l, c, k⟩
theorem topFnT_mk {K : PySem.W.Frag} {x : Str} {st : Stmt} {f c Pt : Addr} {oc : Value} {od : Option Addr} {kV doc pm : Value} {an : Option Addr} {ct : Value} {sl : Array (Option Value)}
  (a : PySem.W.nsIn K mainGlobals x = some (some (.ref f))) (l : K.lookup f = some ⟨oc, od, .func (PySem.W.fnOf x x (defArgs st) (defBody st) (defScope st) .none kV doc pm an (.ref c) ct), sl⟩) (d : PySem.W.codeIn K (.ref c) x = true) (k : PySem.W.keepIn K (.ref f) = true) (h : PySem.W.codeHdIn K c Pt = true) : TopFnT K x st c Pt :=
  ⟨f, oc, od, kV, doc, pm, an, ct, sl, a, l, d, k, h⟩
theorem clsFn_mk {K : PySem.W.Frag} {C : Addr} {x qual : Str} {st : Stmt} {f : Addr} {oc : Value} {od : Option Addr} {kV doc pm : Value} {an : Option Addr} {cd ct : Value} {sl : Array (Option Value)}
  (a : PySem.W.findIn K (.ref C) x = some (some (.ref f))) (i : PySem.W.isFn K (.ref f) = true) (l : K.lookup f = some ⟨oc, od, .func (PySem.W.fnOf x qual (defArgs st) (defBody st) (defScope st) .none kV doc pm an cd ct), sl⟩) (c : PySem.W.codeIn K cd qual = true) (k : PySem.W.keepIn K (.ref f) = true) : ClsFn K C x qual st :=
  ⟨f, oc, od, kV, doc, pm, an, cd, ct, sl, a, i, l, c, k⟩
theorem intG_mk {K : PySem.W.Frag} {x : Str} {i : Int} {t : Tok} (a : PySem.W.nsIn K mainGlobals x = some (some (.int i t))) : IntG K x i := ⟨t, a⟩
theorem tupG_mk {K : PySem.W.Frag} {x : Str} {xs : List Sz31.Bytes} {t : Addr} {o : Obj} (a : PySem.W.nsIn K mainGlobals x = some (some (.ref t))) (l : K.lookup t = some o) (c : tupOk o xs = true) : TupG K x xs := ⟨t, o, a, l, c⟩
theorem dictG_mk {K : PySem.W.Frag} {x : Str} {tab : List (Int × V)} {t : Addr} {o : Obj} (a : PySem.W.nsIn K mainGlobals x = some (some (.ref t))) (l : K.lookup t = some o) (c : dictOk o tab = true) : DictG K x tab := ⟨t, o, a, l, c⟩
theorem clsP_mk {K : PySem.W.Frag} {C : Addr} (pg : PySem.W.plainGet K C Str.empty = true) (hd : PySem.W.hasDictIn K C = true) (po : PySem.W.plainOver K C = true) (sa : PySem.W.findIn K (.ref C) "__setattr__" = some (some (.builtin "object.__setattr__"))) (mk : PySem.W.makesIn K C = true) (kc : PySem.W.keepIn K (.ref C) = true) : ClsP K C := ⟨pg, hd, po, sa, mk, kc⟩
theorem seq_mono {K : PySem.W.Frag} {H H' : Hp} {a : Addr} {xs : List V} (e : ∀ b o, H b = some o → H' b = some o) (h : SqL K H a xs) : SqL K H' a xs := by
  rcases h with (h | ⟨o, h⟩) | h
  · exact .inl (.inl (e _ _ h))
  · exact .inl (.inr ⟨o, e _ _ h⟩)
  · exact .inr h
/-- where a code's table stands -/
def tabAt : Obj → Option Addr
  | ⟨_, _, .fields vs, _⟩ => (match (vs[11]? : Option Value) with
    | some (.ref P) => some P
    | _ => none)
  | _ => none
def hdOk (o : Obj) (c P : Addr) : Bool := match o with
  | ⟨.type "code", _, .fields vs, _⟩ => (match (vs[11]? : Option Value) with | some (.ref P') => P' == P | _ => false) &&
      (match vs.getD 18 .none with | .str _ _ => true | _ => false) && (match vs.getD 7 .none with | .int _ _ => true | _ => false) &&
      (match vs.getD 9 .none with | .bool _ => true | _ => false) && (match vs.getD 10 .none with | .int _ _ => true | _ => false) && c != P
  | _ => false
theorem hd_of {K : PySem.W.Frag} {c P : Addr} {o : Obj} (l : K.lookup c = some o) (h : hdOk o c P = true) : PySem.W.codeHdIn K c P = true := by
  unfold PySem.W.codeHdIn
  rw [l]
  obtain ⟨cls, dd, dat, sl⟩ := o
  unfold hdOk at h
  split at h
  · rename_i e
    cases e
    exact h
  · cases h
theorem tab_in {K : PySem.W.Frag} {x : Str} {st : Stmt} {f c P : Addr} {o : Obj} {oc : Value} {od : Option Addr} {kV doc pm : Value} {an : Option Addr} {ct : Value} {sl : Array (Option Value)}
    (a : PySem.W.nsIn K mainGlobals x = some (some (.ref f))) (l : K.lookup f = some ⟨oc, od, .func (PySem.W.fnOf x x (defArgs st) (defBody st) (defScope st) .none kV doc pm an (.ref c) ct), sl⟩) (lc : K.lookup c = some o) (h : tabAt o = some P) : PySem.W.tabIn K x = some (c, P) := by
  unfold PySem.W.tabIn
  rw [a]
  dsimp only
  rw [l]
  dsimp only
  rw [lc]
  obtain ⟨cls, dd, dat, sl'⟩ := o
  unfold tabAt at h
  split at h
  · rename_i e
    cases e
    dsimp only
    split at h
    · rename_i P' e2
      cases h
      rw [e2]
    · cases h
  · cases h
theorem gather {P : Program} {w : World} {K : PySem.W.Frag} {h : Heap} {mg : Str → Option Value} {C N c Pt fa f : Addr} {o : Obj} {oc : Value} {od : Option Addr} {kV doc pm : Value} {an : Option Addr} {ct : Value} {sl : Array (Option Value)} (X : K.In h) (G : h.Ns mainGlobals mg) (hfa : mg "answers" = some (.ref fa))
    (a : PySem.W.nsIn K mainGlobals "parents_first" = some (some (.ref f))) (l : K.lookup f = some ⟨oc, od, .func (PySem.W.fnOf "parents_first" "parents_first" (defArgs sFirst) (defBody sFirst) (defScope sFirst) .none kV doc pm an (.ref c) ct), sl⟩) (lc : K.lookup c = some o) (tb : tabAt o = some Pt) (hd : hdOk o c Pt = true) (cd : PySem.W.codeIn K (.ref c) "parents_first" = true) (kp : PySem.W.keepIn K (.ref f) = true) (nt : K.lookup Pt = none)
    (Z : TopFnT K "parents_first" sFirst c Pt → Parts K C N c Pt) :
    ∃ (fd : FuncData) (c Pt : Addr), (∀ (s : Shared) (us : List Value), us.length = (["calls"] : List Str).length → BindsTo s fd ⟨us, []⟩ ((["calls"] : List Str).zip us)) ∧ PySem.W.tabIn K "parents_first" = some (c, Pt) ∧ K.lookup Pt = none ∧
      ∀ base : Heap, K.In base → base.Ns mainGlobals mg → base.BuiltinsAt mg Pt → mainGlobals ≠ Pt → FnOk P w K mg base CX0 9 fa fd ["calls"] (spAnswers K Pt) := by
  obtain ⟨fd, h1, h2⟩ := parts_ok (P := P) (w := w) (Z ⟨f, oc, od, kV, doc, pm, an, ct, sl, a, l, cd, kp, hd_of lc hd⟩) X G hfa
  exact ⟨fd, c, Pt, h1, tab_in a l lc tb, nt, h2⟩
end Kin
/-! Names that are taken: where one of these stands, the head's tactic lays no quick copy (and no lemma of megabytes about it) of the big heap that it names so, and runs the heap as it is. Nothing below speaks of them. -/
def PySem.W.Fast.tw17798795094411517915 : Unit := ()
def PySem.W.Fast.tw1687034539220276984 : Unit := ()
def PySem.W.Fast.tw10523517409165177444 : Unit := ()
def PySem.W.Fast.tw18059874706138576315 : Unit := ()
def PySem.W.Fast.tw14053918138779971689 : Unit := ()
def PySem.W.Fast.tw13227094346657213564 : Unit := ()
def PySem.W.Fast.tw14647815357519680552 : Unit := ()
def PySem.W.Fast.tw14233357070791820576 : Unit := ()
open PySem PySem.W PyProof.Rows
set_option maxRecDepth 100000 in
set_option maxHeartbeats 0 in
theorem PySem.Challenge.cw_kinwordsdesk_s01_answers_holds : PySem.Challenge.rw_kinwordsdesk_s01_answers.Holds := by
  w_on; k_headS; (case hw => exact ⟨[.list [.int 1]], by decide +kernel, by decide +kernel⟩)
  k_fillS
  refine L2.walk_tab (r := PySem.Challenge.rw_kinwordsdesk_s01_answers) (k := 9) (CX := L2.CX0) (ps := ["calls"]) (mk := "parents_first") (sp := Kin.spAnswers) (by decide +kernel) rfl ⟨rfl, by decide, by decide⟩ (fun w h Y => PySem.W.kIn_of Y) ?hrec ?F ?S (fun _ _ _ _ z => z)
  case hrec => exact ⟨_, rfl⟩
  case F =>
    intro w mg fa h Y KX G hmg
    refine' Kin.gather KX G hmg ?a ?l ?lc ?tb ?hd ?cd ?kp ?nt ?Z
    case a => k_is
    case l => k_is
    case lc => k_is
    case tb => exact rfl
    case hd => decide +kernel
    case cd => k_is
    case kp => k_is
    case nt => kernel_rfl
    case Z =>
      intro f5
      refine' ⟨?aC, ?aN, ?pC, ?pN, ?nS, ?nP, ?nC, ?nD, ?nM, ?nN, ?nQ, ?m0, ?m1, ?m2, ?m3, ?m4, ?m5, ?m6, ?m7, ?m8, ?m9, ?f0, ?f1, ?f2, ?f3, ?f4, ?f5, ?f6, ?f7, ?f8, ?f9, ?f10, ?f11, ?f12, ?f13, ?f14, ?f15, ?f16, ?f17, ?f18, ?f19, ?f20, ?f21, ?f22, ?f23, ?f24, ?f25, ?f26, ?i0, ?i1, ?i2, ?i3, ?i4, ?i5, ?i6, ?k1, ?k2, ?k3, ?k4, ?k5, ?k6, ?k7, ?k8, ?z0, ?z1, ?z2, ?z3, ?z4, ?z5, ?z6, ?z7, ?z8, ?z9, ?z10, ?t0, ?t1, ?t2, ?t3, ?t4, ?t5, ?t6, ?t7, ?d0⟩
      case aC => k_is
      case aN => k_is
      case pC => (refine' Kin.clsP_mk ?pg ?hd ?po ?sa ?mk ?kc; (case pg => k_is); (case hd => k_is); (case po => k_is); (case sa => k_is); (case mk => k_is); (case kc => k_is))
      case pN => (refine' Kin.clsP_mk ?pg ?hd ?po ?sa ?mk ?kc; (case pg => k_is); (case hd => k_is); (case po => k_is); (case sa => k_is); (case mk => k_is); (case kc => k_is))
      case nS => (show PySem.W.findIn _ _ _ = some none; k_is)
      case nP => (show PySem.W.findIn _ _ _ = some none; k_is)
      case nC => (show PySem.W.findIn _ _ _ = some none; k_is)
      case nD => (show PySem.W.findIn _ _ _ = some none; k_is)
      case nM => (show PySem.W.findIn _ _ _ = some none; k_is)
      case nN => (show PySem.W.findIn _ _ _ = some none; k_is)
      case nQ => (show PySem.W.findIn _ _ _ = some none; k_is)
      case m0 => (refine' Kin.clsFn_mk ?a ?i ?l ?c ?k; (case a => k_is); (case i => k_is); (case l => k_is); (case c => k_is); (case k => k_is))
      case m1 => (refine' Kin.clsFn_mk ?a ?i ?l ?c ?k; (case a => k_is); (case i => k_is); (case l => k_is); (case c => k_is); (case k => k_is))
      case m2 => (refine' Kin.clsFn_mk ?a ?i ?l ?c ?k; (case a => k_is); (case i => k_is); (case l => k_is); (case c => k_is); (case k => k_is))
      case m3 => (refine' Kin.clsFn_mk ?a ?i ?l ?c ?k; (case a => k_is); (case i => k_is); (case l => k_is); (case c => k_is); (case k => k_is))
      case m4 => (refine' Kin.clsFn_mk ?a ?i ?l ?c ?k; (case a => k_is); (case i => k_is); (case l => k_is); (case c => k_is); (case k => k_is))
      case m5 => (refine' Kin.clsFn_mk ?a ?i ?l ?c ?k; (case a => k_is); (case i => k_is); (case l => k_is); (case c => k_is); (case k => k_is))
      case m6 => (refine' Kin.clsFn_mk ?a ?i ?l ?c ?k; (case a => k_is); (case i => k_is); (case l => k_is); (case c => k_is); (case k => k_is))
      case m7 => (refine' Kin.clsFn_mk ?a ?i ?l ?c ?k; (case a => k_is); (case i => k_is); (case l => k_is); (case c => k_is); (case k => k_is))
      case m8 => (refine' Kin.clsFn_mk ?a ?i ?l ?c ?k; (case a => k_is); (case i => k_is); (case l => k_is); (case c => k_is); (case k => k_is))
      case m9 => (refine' Kin.clsFn_mk ?a ?i ?l ?c ?k; (case a => k_is); (case i => k_is); (case l => k_is); (case c => k_is); (case k => k_is))
      case f0 => (refine' Kin.topFn_mk ?a ?l ?c ?k; (case a => k_is); (case l => k_is); (case c => k_is); (case k => k_is))
      case f1 => (refine' Kin.topFn_mk ?a ?l ?c ?k; (case a => k_is); (case l => k_is); (case c => k_is); (case k => k_is))
      case f2 => (refine' Kin.topFn_mk ?a ?l ?c ?k; (case a => k_is); (case l => k_is); (case c => k_is); (case k => k_is))
      case f3 => (refine' Kin.topFn_mk ?a ?l ?c ?k; (case a => k_is); (case l => k_is); (case c => k_is); (case k => k_is))
      case f4 => (refine' Kin.topFn_mk ?a ?l ?c ?k; (case a => k_is); (case l => k_is); (case c => k_is); (case k => k_is))
      case f5 => exact f5
      case f6 => (refine' Kin.topFn_mk ?a ?l ?c ?k; (case a => k_is); (case l => k_is); (case c => k_is); (case k => k_is))
      case f7 => (refine' Kin.topFn_mk ?a ?l ?c ?k; (case a => k_is); (case l => k_is); (case c => k_is); (case k => k_is))
      case f8 => (refine' Kin.topFn_mk ?a ?l ?c ?k; (case a => k_is); (case l => k_is); (case c => k_is); (case k => k_is))
      case f9 => (refine' Kin.topFn_mk ?a ?l ?c ?k; (case a => k_is); (case l => k_is); (case c => k_is); (case k => k_is))
      case f10 => (refine' Kin.topFn_mk ?a ?l ?c ?k; (case a => k_is); (case l => k_is); (case c => k_is); (case k => k_is))
      case f11 => (refine' Kin.topFn_mk ?a ?l ?c ?k; (case a => k_is); (case l => k_is); (case c => k_is); (case k => k_is))
      case f12 => (refine' Kin.topFn_mk ?a ?l ?c ?k; (case a => k_is); (case l => k_is); (case c => k_is); (case k => k_is))
      case f13 => (refine' Kin.topFn_mk ?a ?l ?c ?k; (case a => k_is); (case l => k_is); (case c => k_is); (case k => k_is))
      case f14 => (refine' Kin.topFn_mk ?a ?l ?c ?k; (case a => k_is); (case l => k_is); (case c => k_is); (case k => k_is))
      case f15 => (refine' Kin.topFn_mk ?a ?l ?c ?k; (case a => k_is); (case l => k_is); (case c => k_is); (case k => k_is))
      case f16 => (refine' Kin.topFn_mk ?a ?l ?c ?k; (case a => k_is); (case l => k_is); (case c => k_is); (case k => k_is))
      case f17 => (refine' Kin.topFn_mk ?a ?l ?c ?k; (case a => k_is); (case l => k_is); (case c => k_is); (case k => k_is))
      case f18 => (refine' Kin.topFn_mk ?a ?l ?c ?k; (case a => k_is); (case l => k_is); (case c => k_is); (case k => k_is))
      case f19 => (refine' Kin.topFn_mk ?a ?l ?c ?k; (case a => k_is); (case l => k_is); (case c => k_is); (case k => k_is))
      case f20 => (refine' Kin.topFn_mk ?a ?l ?c ?k; (case a => k_is); (case l => k_is); (case c => k_is); (case k => k_is))
      case f21 => (refine' Kin.topFn_mk ?a ?l ?c ?k; (case a => k_is); (case l => k_is); (case c => k_is); (case k => k_is))
      case f22 => (refine' Kin.topFn_mk ?a ?l ?c ?k; (case a => k_is); (case l => k_is); (case c => k_is); (case k => k_is))
      case f23 => (refine' Kin.topFn_mk ?a ?l ?c ?k; (case a => k_is); (case l => k_is); (case c => k_is); (case k => k_is))
      case f24 => (refine' Kin.topFn_mk ?a ?l ?c ?k; (case a => k_is); (case l => k_is); (case c => k_is); (case k => k_is))
      case f25 => (refine' Kin.topFn_mk ?a ?l ?c ?k; (case a => k_is); (case l => k_is); (case c => k_is); (case k => k_is))
      case f26 => (refine' Kin.topFn_mk ?a ?l ?c ?k; (case a => k_is); (case l => k_is); (case c => k_is); (case k => k_is))
      case i0 => (refine' Kin.intG_mk ?a; (case a => k_is))
      case i1 => (refine' Kin.intG_mk ?a; (case a => k_is))
      case i2 => (refine' Kin.intG_mk ?a; (case a => k_is))
      case i3 => (refine' Kin.intG_mk ?a; (case a => k_is))
      case i4 => (refine' Kin.intG_mk ?a; (case a => k_is))
      case i5 => (refine' Kin.intG_mk ?a; (case a => k_is))
      case i6 => (refine' Kin.intG_mk ?a; (case a => k_is))
      case k1 => (refine' Kin.intG_mk ?a; (case a => k_is))
      case k2 => (refine' Kin.intG_mk ?a; (case a => k_is))
      case k3 => (refine' Kin.intG_mk ?a; (case a => k_is))
      case k4 => (refine' Kin.intG_mk ?a; (case a => k_is))
      case k5 => (refine' Kin.intG_mk ?a; (case a => k_is))
      case k6 => (refine' Kin.intG_mk ?a; (case a => k_is))
      case k7 => (refine' Kin.intG_mk ?a; (case a => k_is))
      case k8 => (refine' Kin.intG_mk ?a; (case a => k_is))
      case z0 => (show PySem.W.nsIn _ _ _ = some none; k_is)
      case z1 => (show PySem.W.nsIn _ _ _ = some none; k_is)
      case z2 => (show PySem.W.nsIn _ _ _ = some none; k_is)
      case z3 => (show PySem.W.nsIn _ _ _ = some none; k_is)
      case z4 => (show PySem.W.nsIn _ _ _ = some none; k_is)
      case z5 => (show PySem.W.nsIn _ _ _ = some none; k_is)
      case z6 => (show PySem.W.nsIn _ _ _ = some none; k_is)
      case z7 => (show PySem.W.nsIn _ _ _ = some none; k_is)
      case z8 => (show PySem.W.nsIn _ _ _ = some none; k_is)
      case z9 => (show PySem.W.nsIn _ _ _ = some none; k_is)
      case z10 => (show PySem.W.nsIn _ _ _ = some none; k_is)
      case t0 => (refine' Kin.tupG_mk ?a ?l ?c; (case a => k_is); (case l => k_is); (case c => decide +kernel))
      case t1 => (refine' Kin.tupG_mk ?a ?l ?c; (case a => k_is); (case l => k_is); (case c => decide +kernel))
      case t2 => (refine' Kin.tupG_mk ?a ?l ?c; (case a => k_is); (case l => k_is); (case c => decide +kernel))
      case t3 => (refine' Kin.tupG_mk ?a ?l ?c; (case a => k_is); (case l => k_is); (case c => decide +kernel))
      case t4 => (refine' Kin.tupG_mk ?a ?l ?c; (case a => k_is); (case l => k_is); (case c => decide +kernel))
      case t5 => (refine' Kin.tupG_mk ?a ?l ?c; (case a => k_is); (case l => k_is); (case c => decide +kernel))
      case t6 => (refine' Kin.tupG_mk ?a ?l ?c; (case a => k_is); (case l => k_is); (case c => decide +kernel))
      case t7 => (refine' Kin.tupG_mk ?a ?l ?c; (case a => k_is); (case l => k_is); (case c => decide +kernel))
      case d0 => (refine' Kin.dictG_mk ?a ?l ?c; (case a => k_is); (case l => k_is); (case c => decide +kernel))
  case S =>
    intro K Pt H0 H xs a hO hwi hask hx s0 hPt
    cases hx with
    | cons h1 h2 =>
      cases h2
      cases h1 with
      | lst hs ha =>
        have e := L2.ints_dw a.1 _ ha
        subst e
        have q : ((Codec.inLen 0 30000 a.1 && a.1.all (Codec.inInt (-2147483648) 2147483647)) && true) = true := hwi
        rw [Bool.and_eq_true, Bool.and_eq_true] at q
        refine ⟨_, a.1, rfl, Kin.seq_mono s0 hs, .inl hPt, (Codec.inNat_iff.mp q.1.1).2, hask, fun H' p _ _ hp => .lst (L2.SqL.of hp) (L2.dw_ints _)⟩
