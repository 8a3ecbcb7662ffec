import PyProof.Rows.All
import Wide.All
import OpenK.AllK
import Wide.FinOn
import PySem.Builtin.Int.W1All
import PyProof.EqAt
import PyProof.EqKinds
import PyProof.TupleCall
import KE.BitLaws
import Open.SpecLaws
import KE.OsHead
import KE.OsGo
import PySem.Challenge.RW_glasshelpers_s01_answers
set_option Elab.async false
set_option linter.all false
section
namespace GM
open Si67
/-! ### sets by their bits -/
def bits (p : Nat → Bool) (n : Nat) : Nat := setOf ((List.range n).filter p)
theorem setOf_app (l m : List Nat) : setOf (l ++ m) = setOf l + setOf m := by
  unfold setOf
  rw [List.map_append, List.sum_append]
theorem bits_succ (p : Nat → Bool) (n : Nat) : bits p (n + 1) = bits p n + (if p n = true then 2 ^ n else 0) := by
  unfold bits
  rw [List.range_succ, List.filter_append, setOf_app]
  congr 1
  by_cases h : p n = true
  · simp [h, setOf]
  · simp [h, setOf]
theorem bits_lt (p : Nat → Bool) : ∀ n, bits p n < 2 ^ n
  | 0 => by simp [bits, setOf]
  | n + 1 => by
    have h := bits_lt p n
    rw [bits_succ, Nat.pow_succ]
    split <;> omega
theorem bits_test (p : Nat → Bool) : ∀ n k, (bits p n).testBit k = (decide (k < n) && p k)
  | 0, k => by simp [bits, setOf]
  | n + 1, k => by
    have h := bits_lt p n
    rw [bits_succ]
    by_cases hp : p n = true
    · rw [if_pos hp, Nat.add_comm]
      rcases Nat.lt_trichotomy k n with hk | hk | hk
      · rw [Nat.testBit_two_pow_add_gt hk, bits_test p n k]
        simp [hk, Nat.lt_succ_of_lt hk]
      · subst hk
        rw [Nat.testBit_two_pow_add_eq, bits_test p k k]
        simp [hp]
      · have : 2 ^ n + bits p n < 2 ^ k := by
          have : 2 ^ (n + 1) ≤ 2 ^ k := Nat.pow_le_pow_right (by decide) hk
          rw [Nat.pow_succ] at this
          omega
        rw [Nat.testBit_lt_two_pow this]
        have : ¬ k < n + 1 := by omega
        simp [this]
    · rw [if_neg hp, Nat.add_zero, bits_test p n k]
      by_cases hk : k = n
      · subst hk
        simp at hp
        simp [hp]
      · have : (k < n + 1) ↔ (k < n) := by omega
        simp [this]
theorem test_lt {x n k : Nat} (h : x < 2 ^ n) (b : x.testBit k = true) : k < n := by
  rcases Nat.lt_or_ge k n with q | q
  · exact q
  · rw [Nat.testBit_lt_two_pow (Nat.lt_of_lt_of_le h (Nat.pow_le_pow_right (by decide) q))] at b
    cases b
theorem bits_eq {p : Nat → Bool} {n x : Nat} (hx : x < 2 ^ n) (h : ∀ k, k < n → p k = x.testBit k) : bits p n = x := by
  apply Nat.eq_of_testBit_eq
  intro k
  rw [bits_test]
  by_cases hk : k < n
  · simp [hk, h k hk]
  · simp [hk]
    cases q : x.testBit k with
    | false => rfl
    | true => exact absurd (test_lt hx q) hk
/-! ### the house -/
theorem all_any (h : House) (p : Nat → Bool) : h.all_.any p = true ↔ ∃ j, j < h.kinds ∧ p j = true := by
  unfold House.all_
  rw [List.any_eq_true]
  constructor
  · rintro ⟨j, m, e⟩
    exact ⟨j, List.mem_range.mp m, e⟩
  · rintro ⟨j, m, e⟩
    exact ⟨j, List.mem_range.mpr m, e⟩
theorem week_bits (h : House) (x : Nat) : h.week x = bits (h.stays x) h.kinds := rfl
theorem week_lt (h : House) (x : Nat) : h.week x < 2 ^ h.kinds := bits_lt _ _
theorem week_test (h : House) (x k : Nat) : (h.week x).testBit k = (decide (k < h.kinds) && h.stays x k) := bits_test _ _ _
theorem week_sub (h : House) {x k : Nat} (b : (h.week x).testBit k = true) : x.testBit k = true := by
  rw [week_test, Bool.and_eq_true] at b
  have q := b.2
  unfold House.stays at q
  rw [Bool.and_eq_true] at q
  exact q.1
theorem join_lt (h : House) (x y : Nat) : h.join x y < 2 ^ h.kinds := bits_lt _ _
theorem join_eq (h : House) {x y : Nat} (hx : x < 2 ^ h.kinds) (hy : y < 2 ^ h.kinds) : h.join x y = x ||| y := by
  refine bits_eq (Nat.or_lt_two_pow hx hy) fun k hk => ?_
  rw [Nat.testBit_or]
  rfl
theorem and_zero {x y : Nat} : x &&& y = 0 ↔ ∀ k, ¬ (x.testBit k = true ∧ y.testBit k = true) := by
  constructor
  · intro e k ⟨a, b⟩
    have : (x &&& y).testBit k = true := by rw [Nat.testBit_and, a, b]; rfl
    rw [e, Nat.zero_testBit] at this
    cases this
  · intro f
    apply Nat.eq_of_testBit_eq
    intro k
    rw [Nat.testBit_and, Nat.zero_testBit]
    cases a : x.testBit k with
    | false => rfl
    | true =>
      cases b : y.testBit k with
      | false => rfl
      | true => exact absurd ⟨a, b⟩ (f k)
theorem any_both (h : House) {x p : Nat} (hp : p < 2 ^ h.kinds) : (h.all_.any fun k => has x k && has p k) = !decide (x &&& p = 0) := by
  rw [Bool.eq_iff_iff, all_any]
  unfold has
  simp only [Bool.not_eq_true', decide_eq_false_iff_not, Bool.and_eq_true]
  rw [and_zero]
  constructor
  · rintro ⟨j, _, e⟩ f
    exact f j e
  · intro f
    apply Classical.byContradiction
    intro g
    apply f
    intro k ⟨a, b⟩
    exact g ⟨k, test_lt hp b, a, b⟩
theorem clean_eq (h : House) (hp : h.pests < 2 ^ h.kinds) (x : Nat) : h.clean x = decide (x &&& h.pests = 0) := by
  unfold House.clean
  rw [any_both h hp, Bool.not_not]
theorem helpers_eq (h : House) (hp : h.pests < 2 ^ h.kinds) (s : Nat) : h.helpers s = (decide (s < 2 ^ h.kinds) && decide (s &&& h.pests = 0)) := by
  unfold House.helpers
  rw [any_both h hp, Bool.not_not]
end GM
end
section
namespace GM
open Si67
/-! ### weeks, one behind another -/
theorem after_succ (h : House) : ∀ n x, h.after (n + 1) x = h.week (h.after n x)
  | 0, x => rfl
  | n + 1, x => by
    show h.after (n + 1) (h.week x) = h.week (h.after n (h.week x))
    exact after_succ h n (h.week x)
theorem after_lt (h : House) {x : Nat} (hx : x < 2 ^ h.kinds) : ∀ n, h.after n x < 2 ^ h.kinds
  | 0 => hx
  | n + 1 => by rw [after_succ]; exact week_lt h _
theorem after_fix (h : House) {x : Nat} (e : h.week x = x) : ∀ n, h.after n x = x
  | 0 => rfl
  | n + 1 => by rw [after_succ, after_fix h e n, e]
theorem after_add (h : House) (m x : Nat) : ∀ n, h.after (m + n) x = h.after n (h.after m x)
  | 0 => rfl
  | n + 1 => by rw [← Nat.add_assoc, after_succ, after_add h m x n, after_succ]
/-- behind a week without a change nothing changes -/
theorem after_stable (h : House) {x i n : Nat} (e : h.week (h.after i x) = h.after i x) (hn : i ≤ n) : h.after n x = h.after i x := by
  obtain ⟨d, rfl⟩ := Nat.exists_eq_add_of_le hn
  rw [after_add, after_fix h e]
/-! ### how many are there -/
def cnt (n x : Nat) : Nat := (List.range n).countP fun k => x.testBit k
theorem cnt_le (n x : Nat) : cnt n x ≤ n := by
  unfold cnt
  have := List.countP_le_length (p := fun k => x.testBit k) (l := List.range n)
  rw [List.length_range] at this
  exact this
theorem cnt_mono {n x y : Nat} (h : ∀ k, y.testBit k = true → x.testBit k = true) : cnt n y ≤ cnt n x := by
  unfold cnt
  exact List.countP_mono_left fun k _ => h k
theorem countP_lt {α : Type} {p q : α → Bool} : ∀ {l : List α} {a : α}, (∀ b, q b = true → p b = true) → a ∈ l → p a = true → q a = false → l.countP q < l.countP p
  | [], a, _, m, _, _ => by cases m
  | b :: l, a, f, m, e1, e2 => by
    have mono : l.countP q ≤ l.countP p := List.countP_mono_left fun k _ => f k
    rw [List.countP_cons, List.countP_cons]
    rcases List.mem_cons.mp m with rfl | m
    · simp [e1, e2]
      omega
    · have := countP_lt (l := l) f m e1 e2
      by_cases hb : q b = true
      · simp [hb, f b hb]
        omega
      · simp [hb]
        split <;> omega
theorem cnt_week (h : House) {x : Nat} (hx : x < 2 ^ h.kinds) (ne : h.week x ≠ x) : cnt h.kinds (h.week x) < cnt h.kinds x := by
  have : ∃ k, x.testBit k = true ∧ (h.week x).testBit k = false := by
    apply Classical.byContradiction
    intro g
    apply ne
    apply Nat.eq_of_testBit_eq
    intro k
    cases a : (h.week x).testBit k with
    | true => exact (week_sub h a).symm
    | false =>
      cases b : x.testBit k with
      | false => rfl
      | true => exact absurd ⟨k, b, a⟩ g
  obtain ⟨k, a, b⟩ := this
  exact countP_lt (fun k => week_sub h) (List.mem_range.mpr (test_lt hx a)) a b
/-- as long as something changes -/
theorem cnt_after (h : House) {x : Nat} (hx : x < 2 ^ h.kinds) : ∀ i, (∀ j, j < i → h.week (h.after j x) ≠ h.after j x) → cnt h.kinds (h.after i x) + i ≤ h.kinds
  | 0, _ => cnt_le _ _
  | i + 1, f => by
    have a := cnt_after h hx i fun j hj => f j (by omega)
    have b := cnt_week h (after_lt h hx i) (f i (by omega))
    rw [after_succ]
    omega
theorem steps_le (h : House) {x i : Nat} (hx : x < 2 ^ h.kinds) (f : ∀ j, j < i → h.week (h.after j x) ≠ h.after j x) : i ≤ h.kinds := by
  have := cnt_after h hx i f
  omega
theorem changes_is (h : House) : ∀ (i n x : Nat), i ≤ n → (∀ j, j < i → h.week (h.after j x) ≠ h.after j x) → h.week (h.after i x) = h.after i x → h.changes n x = i
  | 0, 0, x, _, _, _ => rfl
  | 0, n + 1, x, _, _, e => by
    show (if h.week x = x then 0 else h.changes n (h.week x) + 1) = 0
    rw [if_pos (show h.week x = x from e)]
  | i + 1, 0, x, l, _, _ => by omega
  | i + 1, n + 1, x, l, f, e => by
    show (if h.week x = x then 0 else h.changes n (h.week x) + 1) = i + 1
    rw [if_neg (show ¬ h.week x = x from f 0 (by omega)), changes_is h i n (h.week x) (by omega) (fun j hj => f (j + 1) (by omega)) e]
/-- the week behind as many weeks as there are kinds changes nothing -/
theorem kinds_stable (h : House) {x : Nat} (hx : x < 2 ^ h.kinds) : ∃ i, i ≤ h.kinds ∧ h.week (h.after i x) = h.after i x ∧ ∀ j, j < i → h.week (h.after j x) ≠ h.after j x := by
  have key : ∀ n, (∃ i, i ≤ n ∧ h.week (h.after i x) = h.after i x ∧ ∀ j, j < i → h.week (h.after j x) ≠ h.after j x) ∨ ∀ j, j < n + 1 → h.week (h.after j x) ≠ h.after j x := by
    intro n
    induction n with
    | zero =>
      by_cases e : h.week (h.after 0 x) = h.after 0 x
      · exact .inl ⟨0, Nat.le_refl _, e, fun j hj => by omega⟩
      · exact .inr fun j hj => by
          have : j = 0 := by omega
          subst this
          exact e
    | succ n ih =>
      rcases ih with ⟨i, a, b, c⟩ | f
      · exact .inl ⟨i, by omega, b, c⟩
      · by_cases e : h.week (h.after (n + 1) x) = h.after (n + 1) x
        · exact .inl ⟨n + 1, Nat.le_refl _, e, f⟩
        · exact .inr fun j hj => by
            rcases Nat.lt_or_ge j (n + 1) with q | q
            · exact f j q
            · have : j = n + 1 := by omega
              subst this
              exact e
  rcases key h.kinds with q | q
  · exact q
  · have := steps_le h hx q
    omega
theorem kinds_fix (h : House) {x : Nat} (hx : x < 2 ^ h.kinds) : h.week (h.after h.kinds x) = h.after h.kinds x := by
  obtain ⟨i, a, b, _⟩ := kinds_stable h hx
  rw [after_stable h b a, b]
end GM
end
section
namespace GM
open Si67
/-! ### one by one -/
/-- what is let loose, without the week -/
def loosed (h : House) (x k : Nat) : Nat := if k < h.kinds then x ||| 2 ^ k else x
theorem two_lt {k n : Nat} (h : k < n) : 2 ^ k < 2 ^ n := Nat.pow_lt_pow_right (by decide) h
theorem loosed_lt (h : House) {x : Nat} (hx : x < 2 ^ h.kinds) (k : Nat) : loosed h x k < 2 ^ h.kinds := by
  unfold loosed
  split
  · exact Nat.or_lt_two_pow hx (two_lt (by assumption))
  · exact hx
theorem loose_eq (h : House) {x : Nat} (hx : x < 2 ^ h.kinds) (k : Nat) : h.loose x k = h.week (loosed h x k) := by
  unfold House.loose loosed
  by_cases q : k < h.kinds
  · rw [if_pos q, if_pos q, join_eq h hx (two_lt q)]
  · rw [if_neg q, if_neg q]
theorem loose_lt (h : House) (x k : Nat) : h.loose x k < 2 ^ h.kinds := week_lt h _
theorem through_lt (h : House) : ∀ (l : List Nat) {x : Nat}, x < 2 ^ h.kinds → h.through x l < 2 ^ h.kinds
  | [], _, hx => hx
  | k :: l, x, _ => through_lt h l (x := h.loose x k) (loose_lt h x k)
theorem mem_choices (h : House) {k : Nat} : k ∈ h.choices ↔ (k < h.kinds ∧ h.pests.testBit k = false) ∨ k = h.kinds := by
  unfold House.choices House.all_ has
  rw [List.mem_append, List.mem_filter, List.mem_range, List.mem_singleton]
  simp
/-- no pest comes back -/
theorem clean_loose (h : House) (hp : h.pests < 2 ^ h.kinds) {x k : Nat} (hx : x < 2 ^ h.kinds) (hk : k ∈ h.choices) (c : h.clean x = true) : h.clean (h.loose x k) = true := by
  rw [clean_eq h hp] at c ⊢
  rw [decide_eq_true_iff, and_zero] at c ⊢
  intro j ⟨a, b⟩
  rw [loose_eq h hx] at a
  have a' := week_sub h a
  unfold loosed at a'
  by_cases q : k < h.kinds
  · rw [if_pos q, Nat.testBit_or, Bool.or_eq_true] at a'
    rcases a' with a' | a'
    · exact c j ⟨a', b⟩
    · rw [Nat.testBit_two_pow, decide_eq_true_iff] at a'
      subst a'
      rcases (mem_choices h).mp hk with ⟨_, z⟩ | z
      · rw [b] at z
        cases z
      · omega
  · rw [if_neg q] at a'
    exact c j ⟨a', b⟩
/-- a row that may be told, and leads from x to no pests -/
def Leads (h : House) (x : Nat) (l : List Nat) : Prop := (∀ k ∈ l, k ∈ h.choices) ∧ h.clean (h.through x l) = true
theorem leads_nil (h : House) {x : Nat} : Leads h x [] ↔ h.clean x = true := ⟨fun z => z.2, fun z => ⟨fun k m => (by cases m), z⟩⟩
theorem leads_cons (h : House) {x k : Nat} {l : List Nat} : Leads h x (k :: l) ↔ k ∈ h.choices ∧ Leads h (h.loose x k) l :=
  ⟨fun z => ⟨z.1 k (List.mem_cons_self ..), fun j m => z.1 j (List.mem_cons_of_mem _ m), z.2⟩, fun z => ⟨fun j m => (by
    rcases List.mem_cons.mp m with rfl | m
    · exact z.1
    · exact z.2.1 j m), z.2.2⟩⟩
/-- from x in at most n weeks -/
def Within (h : House) (n x : Nat) : Prop := ∃ l, l.length = n ∧ Leads h x l
theorem kinds_choice (h : House) : h.kinds ∈ h.choices := (mem_choices h).mpr (.inr rfl)
theorem leads_more (h : House) (hp : h.pests < 2 ^ h.kinds) : ∀ {l : List Nat} {x : Nat}, x < 2 ^ h.kinds → Leads h x l → Leads h x (l ++ [h.kinds])
  | [], x, hx, z => by
    refine (leads_cons h).mpr ⟨kinds_choice h, (leads_nil h).mpr ?_⟩
    exact clean_loose h hp hx (kinds_choice h) ((leads_nil h).mp z)
  | k :: l, x, hx, z => by
    obtain ⟨a, b⟩ := (leads_cons h).mp z
    exact (leads_cons h).mpr ⟨a, leads_more h hp (loose_lt h x k) b⟩
theorem within_succ (h : House) {n x : Nat} : Within h (n + 1) x ↔ ∃ k, k ∈ h.choices ∧ Within h n (h.loose x k) := by
  constructor
  · rintro ⟨l, e, z⟩
    cases l with
    | nil => cases e
    | cons k l =>
      obtain ⟨a, b⟩ := (leads_cons h).mp z
      exact ⟨k, a, l, Nat.succ.inj e, b⟩
  · rintro ⟨k, a, l, e, b⟩
    exact ⟨k :: l, by rw [List.length_cons, e], (leads_cons h).mpr ⟨a, b⟩⟩
theorem within_more (h : House) (hp : h.pests < 2 ^ h.kinds) {n x : Nat} (hx : x < 2 ^ h.kinds) : Within h n x → Within h (n + 1) x := by
  rintro ⟨l, e, z⟩
  exact ⟨l ++ [h.kinds], by rw [List.length_append, e]; rfl, leads_more h hp hx z⟩
theorem within_le (h : House) (hp : h.pests < 2 ^ h.kinds) {m n x : Nat} (hx : x < 2 ^ h.kinds) (l : m ≤ n) (w : Within h m x) : Within h n x := by
  obtain ⟨d, rfl⟩ := Nat.exists_eq_add_of_le l
  clear l
  induction d with
  | zero => exact w
  | succ d ih => exact within_more h hp hx ih
theorem within_zero (h : House) {x : Nat} : Within h 0 x ↔ h.clean x = true := by
  constructor
  · rintro ⟨l, e, z⟩
    have : l = [] := List.eq_nil_of_length_eq_zero e
    subst this
    exact (leads_nil h).mp z
  · intro c
    exact ⟨[], rfl, (leads_nil h).mpr c⟩
/-! ### the specification's sets for each number of weeks -/
/-- w holds just the sets from which it takes at most n weeks -/
def IsLayer (h : House) (n : Nat) (w : List Nat) : Prop := ∀ x, w.contains x = true ↔ (x < 2 ^ h.kinds ∧ Within h n x)
def layer (h : House) : Nat → List Nat
  | 0 => (List.range (2 ^ h.kinds)).filter h.clean
  | n + 1 => (List.range (2 ^ h.kinds)).filter fun x => (layer h n).contains x || h.choices.any fun k => (layer h n).contains (h.loose x k)
theorem layer_ok (h : House) (hp : h.pests < 2 ^ h.kinds) : ∀ n, IsLayer h n (layer h n)
  | 0, x => by
    unfold layer
    rw [List.contains_iff_mem, List.mem_filter, List.mem_range, within_zero]
  | n + 1, x => by
    have ih := layer_ok h hp n
    unfold layer
    rw [List.contains_iff_mem, List.mem_filter, List.mem_range, Bool.or_eq_true, List.any_eq_true]
    constructor
    · rintro ⟨a, b | ⟨k, m, b⟩⟩
      · exact ⟨a, within_more h hp a ((ih x).mp b).2⟩
      · exact ⟨a, (within_succ h).mpr ⟨k, m, ((ih _).mp b).2⟩⟩
    · rintro ⟨a, b⟩
      obtain ⟨k, m, b⟩ := (within_succ h).mp b
      exact ⟨a, .inr ⟨k, m, (ih _).mpr ⟨loose_lt h x k, b⟩⟩⟩
/-- the layers, the last first -/
def stack (h : House) : Nat → List (List Nat)
  | 0 => [layer h 0]
  | n + 1 => layer h (n + 1) :: stack h n
theorem stack_head (h : House) : ∀ n, (stack h n).headD [] = layer h n
  | 0 => rfl
  | _ + 1 => rfl
theorem stack_cons (h : House) (n : Nat) : stack h n = layer h n :: (stack h n).drop 1 := by
  cases n <;> rfl
/-- the search finds the first layer that holds the beginning, or none within its number of turns -/
theorem layers_is (h : House) : ∀ (f n : Nat), (∀ m, m < n → (layer h m).contains h.pests = false) →
    (∃ m, m < n + f ∧ n ≤ m ∧ (layer h m).contains h.pests = true ∧ (∀ j, j < m → (layer h j).contains h.pests = false) ∧ h.layers f (stack h n) = some (stack h m)) ∨
    ((∀ m, m < n + f → (layer h m).contains h.pests = false) ∧ h.layers f (stack h n) = none)
  | 0, n, no => .inr ⟨no, rfl⟩
  | f + 1, n, no => by
    have e0 : h.layers (f + 1) (stack h n) = if ((stack h n).headD []).contains h.pests = true then some (stack h n) else h.layers f (((List.range (2 ^ h.kinds)).filter fun x => ((stack h n).headD []).contains x || h.choices.any fun k => ((stack h n).headD []).contains (h.loose x k)) :: stack h n) := rfl
    rw [e0, stack_head]
    cases c : (layer h n).contains h.pests with
    | true => exact .inl ⟨n, by omega, Nat.le_refl _, c, no, by rw [if_pos rfl]⟩
    | false =>
      rw [if_neg (by decide)]
      have no' : ∀ m, m < n + 1 → (layer h m).contains h.pests = false := fun m hm => by
        rcases Nat.lt_or_ge m n with q | q
        · exact no m q
        · have : m = n := by omega
          subst this
          exact c
      rcases layers_is h f (n + 1) no' with ⟨m, a, b, d, g, e⟩ | ⟨a, e⟩
      · exact .inl ⟨m, by omega, by omega, d, g, e⟩
      · exact .inr ⟨fun m hm => a m (by omega), e⟩
/-! ### no more layers than sets -/
theorem layer_same (h : House) {n : Nat} (e : layer h (n + 1) = layer h n) : ∀ m, n ≤ m → layer h m = layer h n := by
  intro m hm
  induction m with
  | zero =>
    have : n = 0 := by omega
    rw [this]
  | succ m ih =>
    rcases Nat.lt_or_ge n (m + 1) with q | q
    · have i := ih (by omega)
      have : layer h (m + 1) = layer h (n + 1) := by
        show (List.range (2 ^ h.kinds)).filter _ = (List.range (2 ^ h.kinds)).filter _
        rw [i]
      rw [this, e]
    · have : m + 1 = n := by omega
      rw [this]
def lcnt (h : House) (n : Nat) : Nat := (List.range (2 ^ h.kinds)).countP fun x => (layer h n).contains x
theorem lcnt_le (h : House) (n : Nat) : lcnt h n ≤ 2 ^ h.kinds := by
  have := List.countP_le_length (p := fun x => (layer h n).contains x) (l := List.range (2 ^ h.kinds))
  rw [List.length_range] at this
  exact this
theorem filter_self (p : Nat → Bool) (l : List Nat) : l.filter p = l.filter fun x => (l.filter p).contains x := by
  refine List.filter_congr fun a m => ?_
  rw [Bool.eq_iff_iff, List.contains_iff_mem, List.mem_filter]
  exact ⟨fun z => ⟨m, z⟩, fun z => z.2⟩
theorem layer_filter (h : House) (n : Nat) : layer h n = (List.range (2 ^ h.kinds)).filter fun x => (layer h n).contains x := by
  cases n with
  | zero => exact filter_self h.clean _
  | succ n => exact filter_self _ _
theorem lcnt_grow (h : House) (hp : h.pests < 2 ^ h.kinds) {n : Nat} (ne : layer h (n + 1) ≠ layer h n) : lcnt h n < lcnt h (n + 1) := by
  have mono : ∀ x, (layer h n).contains x = true → (layer h (n + 1)).contains x = true := fun x c => by
    obtain ⟨a, b⟩ := (layer_ok h hp n x).mp c
    exact (layer_ok h hp (n + 1) x).mpr ⟨a, within_more h hp a b⟩
  have : ∃ x, x < 2 ^ h.kinds ∧ (layer h (n + 1)).contains x = true ∧ (layer h n).contains x = false := by
    apply Classical.byContradiction
    intro g
    apply ne
    rw [layer_filter h (n + 1), layer_filter h n]
    refine List.filter_congr fun a m => ?_
    cases c : (layer h n).contains a with
    | true => exact mono a c
    | false =>
      cases d : (layer h (n + 1)).contains a with
      | false => rfl
      | true => exact absurd ⟨a, List.mem_range.mp m, d, c⟩ g
  obtain ⟨x, a, b, c⟩ := this
  exact countP_lt mono (List.mem_range.mpr a) b c
/-- some layer up to the number of sets is the last new one -/
theorem layer_stops (h : House) (hp : h.pests < 2 ^ h.kinds) : ∃ n, n ≤ 2 ^ h.kinds ∧ layer h (n + 1) = layer h n := by
  apply Classical.byContradiction
  intro g
  have gr : ∀ n, n ≤ 2 ^ h.kinds + 1 → n ≤ lcnt h n := by
    intro n
    induction n with
    | zero => intro _; exact Nat.zero_le _
    | succ n ih =>
      intro hn
      have a := ih (by omega)
      have b := lcnt_grow h hp (n := n) fun e => g ⟨n, by omega, e⟩
      omega
  have a := gr (2 ^ h.kinds + 1) (Nat.le_refl _)
  have b := lcnt_le h (2 ^ h.kinds + 1)
  omega
/-- where no layer up to the number of sets holds it, none does -/
theorem layer_none (h : House) (hp : h.pests < 2 ^ h.kinds) {x : Nat} (no : ∀ m, m < 2 ^ h.kinds + 1 → (layer h m).contains x = false) : ∀ m, (layer h m).contains x = false := fun m => by
  obtain ⟨n, a, e⟩ := layer_stops h hp
  rcases Nat.lt_or_ge m (2 ^ h.kinds + 1) with q | q
  · exact no m q
  · rw [layer_same h e m (by omega)]
    exact no n (by omega)
/-! ### the row itself -/
/-- in ascending order -/
def Asc (l : List Nat) : Prop := l.Pairwise (· < ·)
theorem find_least {p : Nat → Bool} : ∀ {l : List Nat} {k : Nat}, Asc l → l.find? p = some k → ∀ j ∈ l, p j = true → k ≤ j
  | [], k, _, e, _, m, _ => by cases m
  | a :: l, k, s, e, j, m, q => by
    rw [List.find?_cons] at e
    cases c : p a with
    | true =>
      rw [c] at e
      cases e
      rcases List.mem_cons.mp m with rfl | m
      · exact Nat.le_refl _
      · exact Nat.le_of_lt ((List.pairwise_cons.mp s).1 j m)
    | false =>
      rw [c] at e
      rcases List.mem_cons.mp m with rfl | m
      · rw [q] at c
        cases c
      · exact find_least (List.pairwise_cons.mp s).2 e j m q
theorem asc_range (n : Nat) : Asc (List.range n) := List.pairwise_lt_range
theorem asc_choices (h : House) : Asc h.choices := by
  unfold House.choices House.all_ Asc
  rw [List.pairwise_append]
  refine ⟨(asc_range _).filter _, List.pairwise_singleton _ _, fun a m b m' => ?_⟩
  rw [List.mem_singleton] at m'
  subst m'
  exact List.mem_range.mp (List.mem_filter.mp m).1
/-- the earlier of two rows of as many weeks, or the same -/
def Early : List Nat → List Nat → Prop
  | [], _ => True
  | _ :: _, [] => False
  | a :: l, b :: m => a < b ∨ (a = b ∧ Early l m)
theorem early_antisymm : ∀ {l m : List Nat}, l.length = m.length → Early l m → Early m l → l = m
  | [], [], _, _, _ => rfl
  | a :: l, b :: m, e, p, q => by
    rcases p with p | ⟨p, p'⟩
    · rcases q with q | ⟨q, _⟩
      · omega
      · omega
    · rcases q with q | ⟨_, q'⟩
      · omega
      · rw [p, early_antisymm (Nat.succ.inj e) p' q']
/-- from x it takes just n weeks -/
def Just (h : House) (n x : Nat) : Prop := Within h n x ∧ ∀ m, m < n → ¬ Within h m x
theorem rowFrom_is (h : House) (hp : h.pests < 2 ^ h.kinds) : ∀ (n : Nat) (x : Nat), x < 2 ^ h.kinds → Just h n x →
    (h.rowFrom ((stack h n).drop 1) x).length = n ∧ Leads h x (h.rowFrom ((stack h n).drop 1) x) ∧ ∀ l, l.length = n → Leads h x l → Early (h.rowFrom ((stack h n).drop 1) x) l
  | 0, x, hx, j => by
    have e : h.rowFrom ((stack h 0).drop 1) x = [] := rfl
    rw [e]
    exact ⟨rfl, (leads_nil h).mpr ((within_zero h).mp j.1), fun l _ _ => trivial⟩
  | n + 1, x, hx, j => by
    have nc : ¬ h.clean x = true := fun c => j.2 0 (by omega) ((within_zero h).mpr c)
    have e0 : h.rowFrom ((stack h (n + 1)).drop 1) x = if h.clean x = true then [] else match h.choices.find? fun k => (layer h n).contains (h.loose x k) with
      | some k => k :: h.rowFrom ((stack h n).drop 1) (h.loose x k)
      | none => [] := by
      show h.rowFrom (stack h n) x = _
      rw [stack_cons h n]
      rfl
    rw [e0, if_neg nc]
    have L := layer_ok h hp n
    cases c : h.choices.find? fun k => (layer h n).contains (h.loose x k) with
    | none =>
      obtain ⟨k, m, b⟩ := (within_succ h).mp j.1
      have := List.find?_eq_none.mp c k m
      exact absurd ((L _).mpr ⟨loose_lt h x k, b⟩) this
    | some k =>
      have hk : k ∈ h.choices := List.mem_of_find?_eq_some c
      have hc : (layer h n).contains (h.loose x k) = true := by
        have := List.find?_some c
        exact this
      obtain ⟨lt, wn⟩ := (L _).mp hc
      have jn : Just h n (h.loose x k) := ⟨wn, fun m hm w => j.2 (m + 1) (by omega) ((within_succ h).mpr ⟨k, hk, w⟩)⟩
      obtain ⟨a, b, d⟩ := rowFrom_is h hp n (h.loose x k) lt jn
      refine ⟨by rw [List.length_cons, a], (leads_cons h).mpr ⟨hk, b⟩, fun l hl lead => ?_⟩
      cases l with
      | nil => cases hl
      | cons i l =>
        obtain ⟨hi, li⟩ := (leads_cons h).mp lead
        have le : k ≤ i := find_least (asc_choices h) c i hi ((L _).mpr ⟨loose_lt h x i, l, Nat.succ.inj hl, li⟩)
        rcases Nat.lt_or_ge k i with q | q
        · exact .inl q
        · have : k = i := by omega
          subst this
          exact .inr ⟨rfl, d l (Nat.succ.inj hl) li⟩
/-- THE ROW: none leads there, or it is the shortest, of those the earliest -/
theorem row_none (h : House) (hp : h.pests < 2 ^ h.kinds) : h.row = none ↔ ∀ l, ¬ Leads h h.pests l := by
  unfold House.row
  rw [Option.map_eq_none_iff]
  have e0 : [(List.range (2 ^ h.kinds)).filter h.clean] = stack h 0 := rfl
  rw [e0]
  rcases layers_is h (2 ^ h.kinds + 1) 0 (fun m hm => by omega) with ⟨m, a, b, d, g, e⟩ | ⟨a, e⟩
  · rw [e]
    constructor
    · intro z
      cases z
    · intro z
      obtain ⟨_, l, _, w⟩ := (layer_ok h hp m h.pests).mp d
      exact absurd w (z l)
  · rw [e]
    refine ⟨fun _ l w => ?_, fun _ => rfl⟩
    have := layer_none h hp (fun m hm => a m (by omega)) l.length
    have c := (layer_ok h hp l.length h.pests).mpr ⟨hp, l, rfl, w⟩
    rw [this] at c
    cases c
theorem row_some (h : House) (hp : h.pests < 2 ^ h.kinds) {r : List Nat} (e : h.row = some r) : Leads h h.pests r ∧ (∀ l, Leads h h.pests l → r.length ≤ l.length) ∧ ∀ l, l.length = r.length → Leads h h.pests l → Early r l := by
  unfold House.row at e
  have e0 : [(List.range (2 ^ h.kinds)).filter h.clean] = stack h 0 := rfl
  rw [e0] at e
  rcases layers_is h (2 ^ h.kinds + 1) 0 (fun m hm => by omega) with ⟨m, a, b, d, g, q⟩ | ⟨a, q⟩
  · rw [q] at e
    have e : h.rowFrom ((stack h m).drop 1) h.pests = r := Option.some.inj e
    have jn : Just h m h.pests := ⟨((layer_ok h hp m _).mp d).2, fun i hi w => by
      have := (layer_ok h hp i _).mpr ⟨hp, w⟩
      rw [g i hi] at this
      cases this⟩
    obtain ⟨x, y, z⟩ := rowFrom_is h hp m h.pests hp jn
    rw [e] at x y z
    refine ⟨y, fun l w => ?_, fun l hl w => z l (hl.trans x) w⟩
    rcases Nat.lt_or_ge l.length r.length with q | q
    · exact absurd ⟨l, rfl, w⟩ (jn.2 l.length (by omega))
    · exact q
  · rw [q] at e
    cases e
/-- what a program must show of its row -/
theorem row_is (h : House) (hp : h.pests < 2 ^ h.kinds) {r : List Nat} (a : Leads h h.pests r) (b : ∀ l, Leads h h.pests l → r.length ≤ l.length) (c : ∀ l, l.length = r.length → Leads h h.pests l → Early r l) : h.row = some r := by
  cases e : h.row with
  | none => exact absurd a ((row_none h hp).mp e r)
  | some q =>
    obtain ⟨a', b', c'⟩ := row_some h hp e
    have l1 := b q a'
    have l2 := b' r a
    have ll : q.length = r.length := by omega
    rw [early_antisymm ll (c' r ll.symm a) (c q ll a')]
end GM
end
section
namespace GM
open Si67
/-! ### a without b -/
theorem minus_test : ∀ (k a b : Nat), (a - (a &&& b)).testBit k = (a.testBit k && !b.testBit k)
  | 0, a, b => by
    have le : a &&& b ≤ a := Nat.and_le_left
    have m := Nat.and_mod_two_eq_one (a := a) (b := b)
    rw [Nat.testBit_zero, Nat.testBit_zero, Nat.testBit_zero, Bool.eq_iff_iff]
    simp only [Bool.and_eq_true, decide_eq_true_iff, Bool.not_eq_true', decide_eq_false_iff_not]
    omega
  | k + 1, a, b => by
    have le : a &&& b ≤ a := Nat.and_le_left
    have m := Nat.and_mod_two_eq_one (a := a) (b := b)
    have d : (a &&& b) / 2 = a / 2 &&& b / 2 := Nat.and_div_two
    rw [Nat.testBit_succ, Nat.testBit_succ, Nat.testBit_succ]
    have e : (a - (a &&& b)) / 2 = a / 2 - (a / 2 &&& b / 2) := by
      rw [← d]
      omega
    rw [e]
    exact minus_test k (a / 2) (b / 2)
/-! ### the object's numbers -/
/-- what the object holds: kinds, pests, whom each eats (a set each), of how many it's told, costs -/
structure Nums where
  kinds : Nat
  pests : Nat
  prey : List Nat
  told : Nat
  costs : List Nat
structure Rel (h : House) (n : Nums) : Prop where
  kinds : n.kinds = h.kinds
  k1 : 1 ≤ h.kinds
  k6 : h.kinds ≤ 6
  pests : n.pests = h.pests
  plt : h.pests < 2 ^ h.kinds
  plen : n.prey.length = h.kinds
  prey : ∀ a b, a < h.kinds → (n.prey.getD a 0).testBit b = h.preys a b
  ein : ∀ p ∈ h.eats, p.1 < h.kinds ∧ p.2 < h.kinds
  told : n.told = h.eats.length
  costs : n.costs = h.costs
  clen : h.costs.length = h.kinds
  cmost : ∀ c ∈ h.costs, c ≤ 1000
theorem Rel.prey_lt {h : House} {n : Nums} (R : Rel h n) {a : Nat} (ha : a < h.kinds) : n.prey.getD a 0 < 2 ^ h.kinds := by
  apply Nat.lt_pow_two_of_testBit
  intro i hi
  rw [R.prey a i ha]
  cases q : h.preys a i with
  | false => rfl
  | true =>
    unfold House.preys at q
    have := (R.ein _ (List.contains_iff_mem.mp q)).2
    simp only at this
    omega
theorem rel_init : Rel init ⟨1, 0, [0], 0, [0]⟩ where
  kinds := rfl
  k1 := by decide
  k6 := by decide
  pests := rfl
  plt := by decide
  plen := rfl
  prey := fun a b ha => by
    have : a = 0 := by
      have : a < 1 := ha
      omega
    subst this
    simp [House.preys, init]
  ein := fun p m => by cases m
  told := rfl
  costs := rfl
  clen := rfl
  cmost := fun c m => by
    simp [init] at m
    omega
theorem pow_le_64 {k : Nat} (h : k ≤ 6) : 2 ^ k ≤ 64 := Nat.pow_le_pow_right (n := 2) (by decide) h
/-! ### a week by the object's numbers -/
def eatenTo (prey : List Nat) (x : Nat) : Nat → Nat
  | 0 => 0
  | i + 1 => if x.testBit i = true then eatenTo prey x i ||| prey.getD i 0 else eatenTo prey x i
def fedTo (pests : Nat) (prey : List Nat) (x : Nat) : Nat → Nat
  | 0 => pests
  | i + 1 => if x.testBit i = true then (if prey.getD i 0 &&& x ≠ 0 then fedTo pests prey x i ||| 2 ^ i else fedTo pests prey x i) else fedTo pests prey x i
theorem eatenTo_test (prey : List Nat) (x k : Nat) : ∀ i, (eatenTo prey x i).testBit k = (List.range i).any fun j => x.testBit j && (prey.getD j 0).testBit k
  | 0 => by simp [eatenTo]
  | i + 1 => by
    rw [List.range_succ, List.any_append, ← eatenTo_test prey x k i]
    unfold eatenTo
    cases c : x.testBit i with
    | true =>
      rw [if_pos rfl, Nat.testBit_or]
      simp only [List.any_cons, List.any_nil, Bool.or_false, c, Bool.true_and]
      cases i <;> rfl
    | false =>
      rw [if_neg (by decide)]
      simp only [List.any_cons, List.any_nil, Bool.or_false, c, Bool.false_and]
      cases i <;> rfl
theorem fedTo_test (pests : Nat) (prey : List Nat) (x k : Nat) : ∀ i, (fedTo pests prey x i).testBit k = (pests.testBit k || (decide (k < i) && (x.testBit k && !decide (prey.getD k 0 &&& x = 0))))
  | 0 => by simp [fedTo]
  | i + 1 => by
    have ih := fedTo_test pests prey x k i
    have e : fedTo pests prey x (i + 1) = if x.testBit i = true then (if prey.getD i 0 &&& x ≠ 0 then fedTo pests prey x i ||| 2 ^ i else fedTo pests prey x i) else fedTo pests prey x i := rfl
    rw [e]
    by_cases hk : k = i
    · subst hk
      cases c : x.testBit k with
      | true =>
        rw [if_pos rfl]
        by_cases d : prey.getD k 0 &&& x = 0
        · rw [if_neg (by simp only [ne_eq, d, not_true_eq_false, not_false_eq_true]), ih, decide_eq_true d]
          simp
        · rw [if_pos d, Nat.testBit_or, ih, Nat.testBit_two_pow, decide_eq_false d]
          simp
      | false =>
        rw [if_neg (by decide), ih]
        simp [c]
    · have lt : (k < i + 1) ↔ (k < i) := by omega
      have out : (2 ^ i).testBit k = false := by
        rw [Nat.testBit_two_pow]
        exact decide_eq_false fun q => hk q.symm
      simp only [lt]
      rw [← ih]
      split
      · split
        · rw [Nat.testBit_or, out, Bool.or_false]
        · rfl
      · rfl
/-- the set that is there behind a week, as the program reckons it -/
def weekN (n : Nums) (x : Nat) : Nat := (x &&& fedTo n.pests n.prey x n.kinds) - ((x &&& fedTo n.pests n.prey x n.kinds) &&& eatenTo n.prey x n.kinds)
theorem weekN_eq {h : House} {n : Nums} (R : Rel h n) {x : Nat} (hx : x < 2 ^ h.kinds) : weekN n x = h.week x := by
  apply Nat.eq_of_testBit_eq
  intro k
  unfold weekN
  rw [minus_test, Nat.testBit_and, week_test, fedTo_test, eatenTo_test, R.kinds, R.pests]
  by_cases hk : k < h.kinds
  · unfold House.stays has
    have e1 : ((List.range h.kinds).any fun j => x.testBit j && (n.prey.getD j 0).testBit k) = h.all_.any fun j => x.testBit j && h.preys j k := by
      unfold House.all_
      rw [Bool.eq_iff_iff, List.any_eq_true, List.any_eq_true]
      constructor
      · rintro ⟨j, m, q⟩
        rw [R.prey j k (List.mem_range.mp m)] at q
        exact ⟨j, m, q⟩
      · rintro ⟨j, m, q⟩
        rw [← R.prey j k (List.mem_range.mp m)] at q
        exact ⟨j, m, q⟩
    have e2 : (!decide (n.prey.getD k 0 &&& x = 0)) = h.all_.any fun j => x.testBit j && h.preys k j := by
      rw [Bool.eq_iff_iff, all_any]
      simp only [Bool.not_eq_true', decide_eq_false_iff_not, Bool.and_eq_true]
      rw [and_zero]
      constructor
      · intro f
        apply Classical.byContradiction
        intro g
        apply f
        intro j ⟨a, b⟩
        exact g ⟨j, test_lt hx b, b, by rw [← R.prey k j hk]; exact a⟩
      · rintro ⟨j, _, a, b⟩ f
        exact f j ⟨by rw [R.prey k j hk]; exact b, a⟩
    rw [e1, e2]
    simp only [hk, decide_true, Bool.true_and]
    cases x.testBit k <;> cases (h.all_.any fun j => x.testBit j && h.preys j k) <;> cases h.pests.testBit k <;> cases (h.all_.any fun j => x.testBit j && h.preys k j) <;> rfl
  · have q : x.testBit k = false := by
      cases q : x.testBit k with
      | false => rfl
      | true => exact absurd (test_lt hx q) hk
    simp [q, hk]
/-! ### the calls that change something -/
theorem rel_begins {k p : Nat} (h1 : 1 ≤ k) (h6 : k ≤ 6) (hp : p < 2 ^ k) : Rel ⟨k, p, [], List.replicate k 0⟩ ⟨k, p, List.replicate k 0, 0, List.replicate k 0⟩ where
  kinds := rfl
  k1 := h1
  k6 := h6
  pests := rfl
  plt := hp
  plen := List.length_replicate
  prey := fun a b ha => by
    have : (List.replicate k 0).getD a 0 = 0 := by
      rw [List.getD_eq_getElem?_getD, List.getElem?_replicate]
      split <;> rfl
    show ((List.replicate k 0).getD a 0).testBit b = _
    rw [this, Nat.zero_testBit]
    rfl
  ein := fun p m => by cases m
  told := rfl
  costs := rfl
  clen := List.length_replicate
  cmost := fun c m => by
    have := (List.mem_replicate.mp m).2
    omega
theorem preys_add (h : House) (a b c d : Nat) : ({ h with eats := h.eats ++ [(a, b)] } : House).preys c d = (h.preys c d || decide (c = a ∧ d = b)) := by
  show (h.eats ++ [(a, b)]).contains (c, d) = (h.eats.contains (c, d) || decide (c = a ∧ d = b))
  rw [Bool.eq_iff_iff, List.contains_iff_mem, List.mem_append, List.mem_singleton, Bool.or_eq_true, List.contains_iff_mem, decide_eq_true_iff, Prod.mk.injEq]
theorem getD_set {l : List Nat} {a c v : Nat} (ha : a < l.length) : (l.set a v).getD c 0 = if c = a then v else l.getD c 0 := by
  rw [List.getD_eq_getElem?_getD, List.getElem?_set]
  by_cases e : c = a
  · subst e
    simp [ha]
  · have e' : ¬ a = c := fun q => e q.symm
    simp [e, e', List.getD_eq_getElem?_getD]
theorem rel_eats {h : House} {n : Nums} (R : Rel h n) {a b : Nat} (ha : a < h.kinds) (hb : b < h.kinds) :
    Rel { h with eats := h.eats ++ [(a, b)] } { n with prey := n.prey.set a (n.prey.getD a 0 ||| 2 ^ b), told := n.told + 1 } where
  kinds := R.kinds
  k1 := R.k1
  k6 := R.k6
  pests := R.pests
  plt := R.plt
  plen := by rw [List.length_set]; exact R.plen
  prey := fun c d hc => by
    rw [preys_add, ← R.prey c d hc]
    show ((n.prey.set a (n.prey.getD a 0 ||| 2 ^ b)).getD c 0).testBit d = _
    rw [getD_set (by rw [R.plen]; exact ha)]
    by_cases e : c = a
    · subst e
      rw [if_pos rfl, Nat.testBit_or, Nat.testBit_two_pow]
      congr 1
      simp only [true_and]
      rw [decide_eq_decide]
      exact eq_comm
    · rw [if_neg e]
      simp [e]
  ein := fun p m => by
    rcases List.mem_append.mp m with m | m
    · exact R.ein p m
    · rw [List.mem_singleton] at m
      subst m
      exact ⟨ha, hb⟩
  told := by
    show n.told + 1 = (h.eats ++ [(a, b)]).length
    rw [List.length_append, R.told]
    rfl
  costs := R.costs
  clen := R.clen
  cmost := R.cmost
theorem rel_cost {h : House} {n : Nums} (R : Rel h n) {k c : Nat} (hc : c ≤ 1000) :
    Rel { h with costs := h.costs.set k c } { n with costs := n.costs.set k c } where
  kinds := R.kinds
  k1 := R.k1
  k6 := R.k6
  pests := R.pests
  plt := R.plt
  plen := R.plen
  prey := R.prey
  ein := R.ein
  told := R.told
  costs := by
    show n.costs.set k c = h.costs.set k c
    rw [R.costs]
  clen := by
    show (h.costs.set k c).length = h.kinds
    rw [List.length_set]
    exact R.clen
  cmost := fun d m => by
    rcases List.mem_or_eq_of_mem_set m with m | m
    · exact R.cmost d m
    · omega
end GM
end
section
namespace GM
open Si67
/-! ### the list of calls -/
inductive Parse : List Int → List (List Int) → Prop
  | nil : Parse [] []
  | cons (p : Int) (ns rest : List Int) (qs : List (List Int)) : Parse rest qs → Parse (p :: (ns.length : Int) :: (ns ++ 0 :: rest)) ((p :: ns) :: qs)
def one (q : List Int) : List (List Int) := [q]
theorem parse_of : ∀ (f : Nat) (l : List Int) (cs : List (List (List Int))), PyWide.calls f l = some cs → (∀ c ∈ cs, c.length = 1) → ∃ qs, cs = qs.map one ∧ Parse l qs
  | f, [], cs, e, _ => by
    have : cs = [] := by
      cases f <;> exact (Option.some.inj e).symm
    subst this
    exact ⟨[], rfl, .nil⟩
  | 0, p :: r, cs, e, _ => by cases e
  | f + 1, p :: r, cs, e, hc => by
    have e0 : PyWide.calls (f + 1) (p :: r) = match PyWide.call (p :: r) with
      | none => none
      | some (c, t) => match PyWide.calls f t with
        | none => none
        | some cs => some (c :: cs) := rfl
    rw [e0] at e
    cases e1 : PyWide.call (p :: r) with
    | none =>
      rw [e1] at e
      cases e
    | some ct =>
      obtain ⟨c, t⟩ := ct
      rw [e1] at e
      dsimp only at e
      cases e2 : PyWide.calls f t with
      | none =>
        rw [e2] at e
        cases e
      | some ds =>
        rw [e2] at e
        have e := Option.some.inj e
        subst e
        obtain ⟨qs, rfl, P⟩ := parse_of f t ds e2 fun c m => hc c (List.mem_cons_of_mem _ m)
        have hl := hc c (List.mem_cons_self ..)
        have e3 : PyWide.call (p :: r) = match PyFlat.row r with
          | none => none
          | some (_, []) => none
          | some (ns, k :: t) => if 0 ≤ k then (match PyFlat.rows k.toNat t with
            | none => none
            | some (xs, u) => some ((p :: ns) :: xs, u)) else none := rfl
        rw [e3] at e1
        cases r with
        | nil => cases e1
        | cons n r =>
          have e4 : PyFlat.row (n :: r) = if 0 ≤ n ∧ n.toNat ≤ r.length then some (r.take n.toNat, r.drop n.toNat) else none := rfl
          rw [e4] at e1
          by_cases hn : 0 ≤ n ∧ n.toNat ≤ r.length
          · rw [if_pos hn] at e1
            cases d : r.drop n.toNat with
            | nil =>
              rw [d] at e1
              cases e1
            | cons k u =>
              rw [d] at e1
              dsimp only at e1
              by_cases hk : 0 ≤ k
              · rw [if_pos hk] at e1
                cases hr : PyFlat.rows k.toNat u with
                | none =>
                  rw [hr] at e1
                  cases e1
                | some xu =>
                  obtain ⟨xs, v⟩ := xu
                  rw [hr] at e1
                  have e1 := Option.some.inj e1
                  have ec : c = (p :: r.take n.toNat) :: xs := (congrArg Prod.fst e1).symm
                  have et : t = v := (congrArg Prod.snd e1).symm
                  subst ec et
                  have x0 : xs = [] := List.eq_nil_of_length_eq_zero (by rw [List.length_cons] at hl; omega)
                  subst x0
                  cases q : k.toNat with
                  | zero =>
                    rw [q] at hr
                    have hr := Option.some.inj hr
                    have eu : u = t := congrArg Prod.snd hr
                    subst eu
                    have k0 : k = 0 := by omega
                    subst k0
                    refine ⟨(p :: r.take n.toNat) :: qs, rfl, ?_⟩
                    have e5 := Parse.cons p (r.take n.toNat) u qs P
                    have e6 : ((r.take n.toNat).length : Int) = n := by
                      rw [List.length_take]
                      omega
                    rw [e6, ← d, List.take_append_drop] at e5
                    exact e5
                  | succ j =>
                    rw [q] at hr
                    exfalso
                    unfold PyFlat.rows at hr
                    cases w : PyFlat.row u with
                    | none =>
                      rw [w] at hr
                      cases hr
                    | some xs' =>
                      rw [w] at hr
                      obtain ⟨x', s'⟩ := xs'
                      dsimp only at hr
                      cases w2 : PyFlat.rows j s' with
                      | none =>
                        rw [w2] at hr
                        cases hr
                      | some y =>
                        rw [w2] at hr
                        obtain ⟨y1, y2⟩ := y
                        have := congrArg Prod.fst (Option.some.inj hr)
                        cases this
              · rw [if_neg hk] at e1
                cases e1
          · rw [if_neg hn] at e1
            cases e1
/-! ### what is due, call by call -/
/-- what is due from a house on -/
def dueFrom (h : House) (qs : List (List Int)) : List Int := PyFlat.told (PyFlat.played Si67Neutral.step h (qs.map one))
theorem due_nil (h : House) : dueFrom h [] = [] := rfl
theorem due_cons (h : House) (q : List Int) (qs : List (List Int)) : dueFrom h (q :: qs) = ((Si67Neutral.step h (one q)).2.length : Int) :: ((Si67Neutral.step h (one q)).2 ++ dueFrom (Si67Neutral.step h (one q)).1 qs) := rfl
/-- a call that may be asked -/
def Asked (q : List Int) : Prop := (∀ z ∈ q, 0 ≤ z ∧ z < 2 ^ 32) ∧ (Si67Neutral.callOf q).isSome = true
theorem asked_of {l : List Int} (a : PySi67.answers_asked l = true) : ∃ qs, Parse l qs ∧ (∀ q ∈ qs, Asked q) ∧ qs.length ≤ 60 ∧ PySi67.answers l = dueFrom init qs := by
  unfold PySi67.answers_asked at a
  unfold PySi67.answers
  cases e : PySi67.calls l with
  | none =>
    rw [e] at a
    cases a
  | some cs =>
    rw [e] at a
    dsimp only at a ⊢
    unfold Si67Neutral.asked at a
    simp only [Bool.and_eq_true, decide_eq_true_iff, List.all_eq_true] at a
    obtain ⟨_, al, _, l6, _⟩ := a
    have one_ : ∀ c ∈ cs, c.length = 1 := fun c m => by
      have := al c m
      unfold Si67Neutral.asked1 at this
      simp only [Bool.and_eq_true, beq_iff_eq] at this
      exact this.1
    obtain ⟨qs, rfl, P⟩ := parse_of _ _ _ e one_
    refine ⟨qs, P, fun q m => ?_, by rw [List.length_map] at l6; exact l6, rfl⟩
    have := al (one q) (List.mem_map_of_mem m)
    unfold Si67Neutral.asked1 at this
    simp only [Bool.and_eq_true, beq_iff_eq, List.all_eq_true] at this
    obtain ⟨_, b, c⟩ := this
    refine ⟨fun z hz => ?_, c⟩
    have := b z hz
    unfold Si67Neutral.natural at this
    simp only [Bool.and_eq_true, decide_eq_true_iff] at this
    exact this
def ofN (n : Nat) : Int := (n : Int)
/-- the seven forms -/
inductive Form : List Int → Call → Prop
  | begins (n p : Nat) (hn : n < 2 ^ 32) (hp : p < 2 ^ 32) : Form [0, (n : Int), (p : Int)] (.begins n p)
  | eats (a b : Nat) (ha : a < 2 ^ 32) (hb : b < 2 ^ 32) : Form [1, (a : Int), (b : Int)] (.eats a b)
  | cost (k c : Nat) (hk : k < 2 ^ 32) (hc : c < 2 ^ 32) : Form [2, (k : Int), (c : Int)] (.cost k c)
  | weeks (s : Nat) (hs : s < 2 ^ 32) : Form [3, (s : Int)] (.weeks s)
  | best : Form [4] .best
  | goes (r : List Nat) (hr : r.length ≤ 24) (hl : ∀ k ∈ r, k < 2 ^ 32) : Form (5 :: r.map ofN) (.goes r)
  | row : Form [6] .row
theorem toNat_eq {z : Int} {n : Nat} (h : 0 ≤ z) (e : z.toNat = n) : z = (n : Int) := by omega
theorem map_back : ∀ {l : List Int}, (∀ z ∈ l, 0 ≤ z) → l = (l.map Int.toNat).map ofN
  | [], _ => rfl
  | z :: l, f => by
    have a := f z (List.mem_cons_self ..)
    have b := map_back (l := l) fun y m => f y (List.mem_cons_of_mem _ m)
    show z :: l = ofN z.toNat :: (l.map Int.toNat).map ofN
    rw [← b]
    congr 1
    unfold ofN
    omega
theorem form_of {q : List Int} (A : Asked q) : ∃ c, Si67Neutral.callOf q = some c ∧ Form q c := by
  obtain ⟨al, so⟩ := A
  have back := map_back fun z m => (al z m).1
  have lt : ∀ n ∈ q.map Int.toNat, n < 2 ^ 32 := fun n m => by
    obtain ⟨z, hz, rfl⟩ := List.mem_map.mp m
    have := al z hz
    omega
  unfold Si67Neutral.callOf at so ⊢
  generalize q.map Int.toNat = ms at so back lt ⊢
  subst back
  clear al
  split at so
  · exact ⟨_, rfl, .begins _ _ (lt _ (by simp)) (lt _ (by simp))⟩
  · exact ⟨_, rfl, .eats _ _ (lt _ (by simp)) (lt _ (by simp))⟩
  · exact ⟨_, rfl, .cost _ _ (lt _ (by simp)) (lt _ (by simp))⟩
  · exact ⟨_, rfl, .weeks _ (lt _ (by simp))⟩
  · exact ⟨_, rfl, .best⟩
  · rename_i r
    by_cases hr : r.length ≤ 24
    · rw [if_pos hr]
      exact ⟨_, rfl, .goes r hr fun k m => lt k (List.mem_cons_of_mem _ m)⟩
    · rw [if_neg hr] at so
      cases so
  · exact ⟨_, rfl, .row⟩
  · cases so
theorem step_is {h : House} {q : List Int} {c : Call} (e : Si67Neutral.callOf q = some c) : Si67Neutral.step h (one q) = ((Si67.step h c).1, (Si67.step h c).2.v :: (Si67.step h c).2.l) := by
  unfold Si67Neutral.step
  show (match Si67Neutral.callOf q with
    | none => (h, [])
    | some q => ((Si67.step h q).1, (Si67.step h q).2.v :: (Si67.step h q).2.l)) = _
  rw [e]
/-- the answer of one call, as a list -/
def ans (h : House) (c : Call) : List Int := (Si67.step h c).2.v :: (Si67.step h c).2.l
end GM
end
section
namespace GM
open Si67
/-! ### the answers of the calls -/
theorem week_le (h : House) (x : Nat) : h.week x ≤ x := by
  have e : h.week x = x &&& h.week x := by
    apply Nat.eq_of_testBit_eq
    intro k
    rw [Nat.testBit_and]
    cases b : (h.week x).testBit k with
    | false => rw [Bool.and_false]
    | true => rw [week_sub h b]; rfl
  rw [e]
  exact Nat.and_le_left
theorem week_less (h : House) {x : Nat} (ne : h.week x ≠ x) : h.week x < x := by
  have := week_le h x
  omega
/-- the sets from a beginning on -/
theorem sets_zero (h : House) (x : Nat) : h.sets 0 x = [x] := rfl
theorem sets_succ (h : House) (i x : Nat) : h.sets (i + 1) x = h.sets i x ++ [h.after (i + 1) x] := by
  unfold House.sets
  rw [List.range_succ, List.map_append]
  rfl
theorem sets_len (h : House) (i x : Nat) : (h.sets i x).length = i + 1 := by
  unfold House.sets
  rw [List.length_map, List.length_range]
theorem ans_begins_no {h : House} {n p : Nat} (e : n < 1 ∨ KINDS < n ∨ 2 ^ n ≤ p) : (step h (.begins n p)).1 = h ∧ ans h (.begins n p) = [-1] := by
  unfold ans
  show (if _ then _ else _ : House × Ans).1 = h ∧ (if _ then _ else _ : House × Ans).2.v :: (if _ then _ else _ : House × Ans).2.l = _
  rw [if_pos e]
  exact ⟨rfl, rfl⟩
theorem ans_begins {h : House} {n p : Nat} (e : ¬ (n < 1 ∨ KINDS < n ∨ 2 ^ n ≤ p)) : (step h (.begins n p)).1 = ⟨n, p, [], List.replicate n 0⟩ ∧ ans h (.begins n p) = [0] := by
  unfold ans
  show (if _ then _ else _ : House × Ans).1 = _ ∧ (if _ then _ else _ : House × Ans).2.v :: (if _ then _ else _ : House × Ans).2.l = _
  rw [if_neg e]
  exact ⟨rfl, rfl⟩
theorem ans_eats_1 {h : House} {a b : Nat} (e : h.kinds ≤ a ∨ h.kinds ≤ b) : (step h (.eats a b)).1 = h ∧ ans h (.eats a b) = [-2] := by
  unfold ans
  show (if _ then _ else _ : House × Ans).1 = h ∧ (if _ then _ else _ : House × Ans).2.v :: (if _ then _ else _ : House × Ans).2.l = _
  rw [if_pos e]
  exact ⟨rfl, rfl⟩
theorem ans_eats_2 {h : House} {a b : Nat} (e : ¬ (h.kinds ≤ a ∨ h.kinds ≤ b)) (e2 : a = b ∨ h.preys a b = true) : (step h (.eats a b)).1 = h ∧ ans h (.eats a b) = [-4] := by
  unfold ans
  show (if _ then _ else _ : House × Ans).1 = h ∧ (if _ then _ else _ : House × Ans).2.v :: (if _ then _ else _ : House × Ans).2.l = _
  rw [if_neg e, if_pos e2]
  exact ⟨rfl, rfl⟩
theorem ans_eats {h : House} {a b : Nat} (e : ¬ (h.kinds ≤ a ∨ h.kinds ≤ b)) (e2 : ¬ (a = b ∨ h.preys a b = true)) : (step h (.eats a b)).1 = { h with eats := h.eats ++ [(a, b)] } ∧ ans h (.eats a b) = [(h.eats.length : Int) + 1] := by
  unfold ans
  show (if _ then _ else _ : House × Ans).1 = _ ∧ (if _ then _ else _ : House × Ans).2.v :: (if _ then _ else _ : House × Ans).2.l = _
  rw [if_neg e, if_neg e2]
  exact ⟨rfl, rfl⟩
theorem ans_cost_1 {h : House} {k c : Nat} (e : h.kinds ≤ k) : (step h (.cost k c)).1 = h ∧ ans h (.cost k c) = [-2] := by
  unfold ans
  show (if _ then _ else _ : House × Ans).1 = h ∧ (if _ then _ else _ : House × Ans).2.v :: (if _ then _ else _ : House × Ans).2.l = _
  rw [if_pos e]
  exact ⟨rfl, rfl⟩
theorem ans_cost_2 {h : House} {k c : Nat} (e : ¬ h.kinds ≤ k) (e2 : COST < c) : (step h (.cost k c)).1 = h ∧ ans h (.cost k c) = [-1] := by
  unfold ans
  show (if _ then _ else _ : House × Ans).1 = h ∧ (if _ then _ else _ : House × Ans).2.v :: (if _ then _ else _ : House × Ans).2.l = _
  rw [if_neg e, if_pos e2]
  exact ⟨rfl, rfl⟩
theorem ans_cost_3 {h : House} {k c : Nat} (e : ¬ h.kinds ≤ k) (e2 : ¬ COST < c) (e3 : has h.pests k = true) : (step h (.cost k c)).1 = h ∧ ans h (.cost k c) = [-4] := by
  unfold ans
  show (if _ then _ else _ : House × Ans).1 = h ∧ (if _ then _ else _ : House × Ans).2.v :: (if _ then _ else _ : House × Ans).2.l = _
  rw [if_neg e, if_neg e2, if_pos e3]
  exact ⟨rfl, rfl⟩
theorem ans_cost {h : House} {k c : Nat} (e : ¬ h.kinds ≤ k) (e2 : ¬ COST < c) (e3 : ¬ has h.pests k = true) : (step h (.cost k c)).1 = { h with costs := h.costs.set k c } ∧ ans h (.cost k c) = [0] := by
  unfold ans
  show (if _ then _ else _ : House × Ans).1 = _ ∧ (if _ then _ else _ : House × Ans).2.v :: (if _ then _ else _ : House × Ans).2.l = _
  rw [if_neg e, if_neg e2, if_neg e3]
  exact ⟨rfl, rfl⟩
theorem ans_weeks_1 {h : House} {s : Nat} (e : 2 ^ h.kinds ≤ s) : (step h (.weeks s)).1 = h ∧ ans h (.weeks s) = [-1] := by
  unfold ans
  show (if _ then _ else _ : House × Ans).1 = h ∧ (if _ then _ else _ : House × Ans).2.v :: (if _ then _ else _ : House × Ans).2.l = _
  rw [if_pos e]
  exact ⟨rfl, rfl⟩
theorem ans_weeks_2 {h : House} {s : Nat} (hp : h.pests < 2 ^ h.kinds) (e : ¬ 2 ^ h.kinds ≤ s) (e2 : ¬ s &&& h.pests = 0) : (step h (.weeks s)).1 = h ∧ ans h (.weeks s) = [-4] := by
  have e3 : h.helpers s = false := by
    rw [helpers_eq h hp, decide_eq_false e2, Bool.and_false]
  unfold ans
  show (if _ then _ else _ : House × Ans).1 = h ∧ (if _ then _ else _ : House × Ans).2.v :: (if _ then _ else _ : House × Ans).2.l = _
  rw [if_neg e, if_pos e3]
  exact ⟨rfl, rfl⟩
theorem ans_weeks {h : House} {s i : Nat} (hp : h.pests < 2 ^ h.kinds) (e : ¬ 2 ^ h.kinds ≤ s) (e2 : s &&& h.pests = 0)
    (f : ∀ j, j < i → h.week (h.after j (s ||| h.pests)) ≠ h.after j (s ||| h.pests)) (g : h.week (h.after i (s ||| h.pests)) = h.after i (s ||| h.pests)) :
    (step h (.weeks s)).1 = h ∧ ans h (.weeks s) = (i : Int) :: Si67.ints (h.sets i (s ||| h.pests)) := by
  have lt : s < 2 ^ h.kinds := by omega
  have e3 : ¬ h.helpers s = false := by
    rw [helpers_eq h hp, decide_eq_true e2, decide_eq_true lt]
    decide
  have ej : h.join h.pests s = s ||| h.pests := by rw [join_eq h hp lt, Nat.or_comm]
  have lt2 : s ||| h.pests < 2 ^ h.kinds := Nat.or_lt_two_pow lt hp
  have ec : h.changes h.kinds (s ||| h.pests) = i := changes_is h i h.kinds _ (steps_le h lt2 f) f g
  unfold ans
  have e0 : step h (.weeks s) = (h, ⟨((h.changes h.kinds (h.join h.pests s) : Nat) : Int), Si67.ints (h.sets (h.changes h.kinds (h.join h.pests s)) (h.join h.pests s))⟩) := by
    show (if _ then _ else _ : House × Ans) = _
    rw [if_neg e, if_neg e3]
  rw [e0, ej, ec]
  exact ⟨rfl, rfl⟩
/-! ### a row that is told goes by -/
theorem told_iff (h : House) {l : List Nat} (le : ∀ k ∈ l, k ≤ h.kinds) : h.told l = true ↔ ∀ k ∈ l, ¬ (k < h.kinds ∧ h.pests.testBit k = true) := by
  unfold House.told
  rw [List.all_eq_true]
  constructor
  · intro f k m ⟨a, b⟩
    have := List.contains_iff_mem.mp (f k m)
    rcases (mem_choices h).mp this with ⟨_, z⟩ | z
    · rw [b] at z
      cases z
    · omega
  · intro f k m
    apply List.contains_iff_mem.mpr
    apply (mem_choices h).mpr
    have a := f k m
    have b := le k m
    by_cases q : k < h.kinds
    · left
      refine ⟨q, ?_⟩
      cases c : h.pests.testBit k with
      | false => rfl
      | true => exact absurd ⟨q, c⟩ a
    · right
      omega
theorem passes_snoc (h : House) : ∀ (l : List Nat) (x k : Nat), h.passes x (l ++ [k]) = h.passes x l ++ [h.through x (l ++ [k])]
  | [], x, k => rfl
  | j :: l, x, k => by
    show x :: h.passes (h.loose x j) (l ++ [k]) = x :: h.passes (h.loose x j) l ++ _
    rw [passes_snoc h l]
    rfl
theorem through_snoc (h : House) (l : List Nat) (x k : Nat) : h.through x (l ++ [k]) = h.loose (h.through x l) k := by
  unfold House.through
  rw [List.foldl_append]
  rfl
theorem ans_goes_1 {h : House} {l : List Nat} (e : WEEKS < l.length ∨ ∃ k ∈ l, ¬ k ≤ h.kinds) : (step h (.goes l)).1 = h ∧ ans h (.goes l) = [-1] := by
  have e' : WEEKS < l.length ∨ (l.all fun k => decide (k ≤ h.kinds)) = false := by
    rcases e with e | ⟨k, m, e⟩
    · exact .inl e
    · right
      rw [List.all_eq_false]
      exact ⟨k, m, by simp [e]⟩
  unfold ans
  show (if _ then _ else _ : House × Ans).1 = h ∧ (if _ then _ else _ : House × Ans).2.v :: (if _ then _ else _ : House × Ans).2.l = _
  rw [if_pos e']
  exact ⟨rfl, rfl⟩
theorem goes_ok {h : House} {l : List Nat} (e : l.length ≤ WEEKS) (e1 : ∀ k ∈ l, k ≤ h.kinds) : ¬ (WEEKS < l.length ∨ (l.all fun k => decide (k ≤ h.kinds)) = false) := by
  rintro (q | q)
  · omega
  · rw [List.all_eq_false] at q
    obtain ⟨k, m, q⟩ := q
    exact q (decide_eq_true (e1 k m))
theorem ans_goes_2 {h : House} {l : List Nat} (e : l.length ≤ WEEKS) (e1 : ∀ k ∈ l, k ≤ h.kinds) (e2 : ∃ k ∈ l, k < h.kinds ∧ h.pests.testBit k = true) : (step h (.goes l)).1 = h ∧ ans h (.goes l) = [-4] := by
  have e3 : h.told l = false := by
    cases c : h.told l with
    | false => rfl
    | true =>
      obtain ⟨k, m, q⟩ := e2
      exact absurd q ((told_iff h e1).mp c k m)
  unfold ans
  show (if _ then _ else _ : House × Ans).1 = h ∧ (if _ then _ else _ : House × Ans).2.v :: (if _ then _ else _ : House × Ans).2.l = _
  rw [if_neg (goes_ok e e1), if_pos e3]
  exact ⟨rfl, rfl⟩
theorem ans_goes {h : House} {l : List Nat} (hp : h.pests < 2 ^ h.kinds) (e : l.length ≤ WEEKS) (e1 : ∀ k ∈ l, k ≤ h.kinds) (e2 : ∀ k ∈ l, ¬ (k < h.kinds ∧ h.pests.testBit k = true)) :
    (step h (.goes l)).1 = h ∧ ans h (.goes l) = (if h.through h.pests l &&& h.pests = 0 then 1 else 0) :: Si67.ints (h.passes h.pests l) := by
  have e3 : ¬ h.told l = false := by
    rw [(told_iff h e1).mpr e2]
    decide
  unfold ans
  have e0 : step h (.goes l) = (h, ⟨(if h.clean (h.through h.pests l) = true then 1 else 0), Si67.ints (h.passes h.pests l)⟩) := by
    show (if _ then _ else _ : House × Ans) = _
    rw [if_neg (goes_ok e e1), if_neg e3]
  rw [e0, clean_eq h hp]
  refine ⟨rfl, ?_⟩
  simp only [decide_eq_true_eq]
/-! ### the cheapest set -/
/-- how the cheapest so far comes about, set by set -/
def betterB (h : House) (r : Option Best) (s : Nat) : Option Best := match r with
  | none => some ⟨h.cost s, 1, s⟩
  | some x => if h.cost s < x.cost then some ⟨h.cost s, 1, s⟩ else if h.cost s = x.cost then some ⟨x.cost, x.many + 1, x.set_⟩ else some x
def bestTo (h : House) (n : Nat) : Option Best := ((List.range n).filter h.rids).foldl (betterB h) none
theorem best_is (h : House) : h.best = bestTo h (2 ^ h.kinds) := rfl
theorem bestTo_succ (h : House) (n : Nat) : bestTo h (n + 1) = if h.rids n = true then betterB h (bestTo h n) n else bestTo h n := by
  unfold bestTo
  rw [List.range_succ, List.filter_append, List.foldl_append]
  by_cases c : h.rids n = true
  · simp [c]
  · simp [c]
theorem rids_eq (h : House) (hp : h.pests < 2 ^ h.kinds) {s : Nat} (hs : s < 2 ^ h.kinds) : h.rids s = (decide (s &&& h.pests = 0) && decide (h.after h.kinds (s ||| h.pests) &&& h.pests = 0)) := by
  unfold House.rids
  rw [helpers_eq h hp, clean_eq h hp, join_eq h hp hs, Nat.or_comm h.pests s, decide_eq_true hs, Bool.true_and]
theorem ans_best_no {h : House} (e : h.best = none) : (step h .best).1 = h ∧ ans h .best = [-6] := by
  unfold ans
  have e0 : step h .best = (h, ok (-6)) := by
    show (h, match h.best with
      | none => ok (-6)
      | some x => (⟨((x.cost : Nat) : Int), Si67.ints [x.many, x.set_]⟩ : Ans)) = _
    rw [e]
  rw [e0]
  exact ⟨rfl, rfl⟩
theorem ans_best {h : House} {x : Best} (e : h.best = some x) : (step h .best).1 = h ∧ ans h .best = [(x.cost : Int), (x.many : Int), (x.set_ : Int)] := by
  unfold ans
  have e0 : step h .best = (h, ⟨((x.cost : Nat) : Int), Si67.ints [x.many, x.set_]⟩) := by
    show (h, match h.best with
      | none => ok (-6)
      | some x => (⟨((x.cost : Nat) : Int), Si67.ints [x.many, x.set_]⟩ : Ans)) = _
    rw [e]
  rw [e0]
  exact ⟨rfl, rfl⟩
theorem ans_row_no {h : House} (e : h.row = none) : (step h .row).1 = h ∧ ans h .row = [-6] := by
  unfold ans
  have e0 : step h .row = (h, ok (-6)) := by
    show (h, match h.row with
      | none => ok (-6)
      | some l => (⟨((l.length : Nat) : Int), Si67.ints l⟩ : Ans)) = _
    rw [e]
  rw [e0]
  exact ⟨rfl, rfl⟩
theorem ans_row {h : House} {l : List Nat} (e : h.row = some l) : (step h .row).1 = h ∧ ans h .row = (l.length : Int) :: Si67.ints l := by
  unfold ans
  have e0 : step h .row = (h, ⟨((l.length : Nat) : Int), Si67.ints l⟩) := by
    show (h, match h.row with
      | none => ok (-6)
      | some l => (⟨((l.length : Nat) : Int), Si67.ints l⟩ : Ans)) = _
    rw [e]
  rw [e0]
  exact ⟨rfl, rfl⟩
end GM
end
section
namespace GM
open Si67
/-! ### how long answers are -/
theorem changes_le (h : House) : ∀ n x, h.changes n x ≤ n
  | 0, _ => Nat.le_refl _
  | n + 1, x => by
    show (if h.week x = x then 0 else h.changes n (h.week x) + 1) ≤ n + 1
    have := changes_le h n (h.week x)
    split <;> omega
theorem passes_len (h : House) : ∀ (l : List Nat) (x : Nat), (h.passes x l).length = l.length + 1
  | [], _ => rfl
  | k :: l, x => by
    show (h.passes (h.loose x k) l).length + 1 = l.length + 1 + 1
    rw [passes_len h l]
theorem row_len (h : House) (hp : h.pests < 2 ^ h.kinds) {r : List Nat} (e : h.row = some r) : r.length ≤ 2 ^ h.kinds := by
  unfold House.row at e
  have e0 : [(List.range (2 ^ h.kinds)).filter h.clean] = stack h 0 := rfl
  rw [e0] at e
  rcases layers_is h (2 ^ h.kinds + 1) 0 (fun m hm => by omega) with ⟨m, a, b, d, g, q⟩ | ⟨a, q⟩
  · rw [q] at e
    have e : h.rowFrom ((stack h m).drop 1) h.pests = r := Option.some.inj e
    have jn : Just h m h.pests := ⟨((layer_ok h hp m _).mp d).2, fun i hi w => by
      have := (layer_ok h hp i _).mpr ⟨hp, w⟩
      rw [g i hi] at this
      cases this⟩
    obtain ⟨x, _⟩ := rowFrom_is h hp m h.pests hp jn
    rw [e] at x
    omega
  · rw [q] at e
    cases e
theorem ints_len (l : List Nat) : (Si67.ints l).length = l.length := List.length_map ..
theorem ans_len {h : House} {n : Nums} (R : Rel h n) {q : List Int} {c : Call} (f : Form q c) : (ans h c).length ≤ 100 := by
  have k6 := R.k6
  have p64 := pow_le_64 k6
  cases f with
  | begins k p _ _ =>
    by_cases e : k < 1 ∨ KINDS < k ∨ 2 ^ k ≤ p
    · rw [(ans_begins_no e).2]; decide
    · rw [(ans_begins e).2]; decide
  | eats a b _ _ =>
    by_cases e : h.kinds ≤ a ∨ h.kinds ≤ b
    · rw [(ans_eats_1 e).2]; decide
    · by_cases e2 : a = b ∨ h.preys a b = true
      · rw [(ans_eats_2 e e2).2]; decide
      · rw [(ans_eats e e2).2]
        show 1 ≤ 100
        decide
  | cost k c _ _ =>
    by_cases e : h.kinds ≤ k
    · rw [(ans_cost_1 e).2]; decide
    · by_cases e2 : COST < c
      · rw [(ans_cost_2 e e2).2]; decide
      · by_cases e3 : has h.pests k = true
        · rw [(ans_cost_3 e e2 e3).2]; decide
        · rw [(ans_cost e e2 e3).2]; decide
  | weeks s _ =>
    by_cases e : 2 ^ h.kinds ≤ s
    · rw [(ans_weeks_1 e).2]; decide
    · by_cases e2 : s &&& h.pests = 0
      · obtain ⟨i, a, b, d⟩ := kinds_stable h (Nat.or_lt_two_pow (show s < 2 ^ h.kinds by omega) R.plt)
        rw [(ans_weeks R.plt e e2 d b).2, List.length_cons, ints_len, sets_len]
        omega
      · rw [(ans_weeks_2 R.plt e e2).2]; decide
  | best =>
    cases e : h.best with
    | none => rw [(ans_best_no e).2]; decide
    | some x =>
      rw [(ans_best e).2]
      show 3 ≤ 100
      decide
  | goes l hl _ =>
    by_cases e : WEEKS < l.length ∨ ∃ k ∈ l, ¬ k ≤ h.kinds
    · rw [(ans_goes_1 e).2]; decide
    · have a : l.length ≤ WEEKS := by
        apply Classical.byContradiction
        intro q
        exact e (.inl (by omega))
      have b : ∀ k ∈ l, k ≤ h.kinds := fun k m => by
        apply Classical.byContradiction
        intro q
        exact e (.inr ⟨k, m, q⟩)
      by_cases e2 : ∃ k ∈ l, k < h.kinds ∧ h.pests.testBit k = true
      · rw [(ans_goes_2 a b e2).2]; decide
      · rw [(ans_goes R.plt a b fun k m q => e2 ⟨k, m, q⟩).2, List.length_cons, ints_len, passes_len]
        omega
  | row =>
    cases e : h.row with
    | none => rw [(ans_row_no e).2]; decide
    | some r =>
      have := row_len h R.plt e
      rw [(ans_row e).2, List.length_cons, ints_len]
      omega
/-! ### what a set costs, kind by kind -/
def costTo (costs : List Nat) (s : Nat) : Nat → Nat
  | 0 => 0
  | i + 1 => if s.testBit i = true then costTo costs s i + costs.getD i 0 else costTo costs s i
theorem costTo_eq (costs : List Nat) (s : Nat) : ∀ n, costTo costs s n = (((List.range n).filter fun k => has s k).map fun k => costs.getD k 0).sum
  | 0 => rfl
  | n + 1 => by
    rw [List.range_succ, List.filter_append, List.map_append, List.sum_append, ← costTo_eq costs s n]
    unfold costTo has
    by_cases c : s.testBit n = true
    · rw [if_pos c]
      simp [c]
      cases n <;> rfl
    · rw [if_neg c]
      simp [c]
      cases n <;> rfl
theorem cost_is (h : House) (s : Nat) : h.cost s = costTo h.costs s h.kinds := (costTo_eq _ _ _).symm
theorem costTo_le {costs : List Nat} (hc : ∀ c ∈ costs, c ≤ 1000) (s : Nat) : ∀ n, costTo costs s n ≤ 1000 * n
  | 0 => Nat.le_refl _
  | n + 1 => by
    have a := costTo_le hc s n
    have b : costs.getD n 0 ≤ 1000 := by
      rw [List.getD_eq_getElem?_getD]
      cases e : costs[n]? with
      | none => exact Nat.zero_le _
      | some v => exact hc v (List.mem_of_getElem? e)
    unfold costTo
    split <;> omega
end GM
end
section
namespace GM
open Si67
/-! ### rows as numbers: the shorter, of those of one length the earlier, has the lower -/
def keyA (a : Nat) (r : List Nat) : Nat := r.foldl (fun a k => 8 * a + k) a
def key (r : List Nat) : Nat := keyA 1 r
theorem key_snoc (r : List Nat) (k : Nat) : key (r ++ [k]) = 8 * key r + k := by
  unfold key keyA
  rw [List.foldl_append]
  rfl
theorem keyA_ge : ∀ (r : List Nat) (a : Nat), a * 8 ^ r.length ≤ keyA a r
  | [], a => by simp [keyA]
  | k :: r, a => by
    have h := keyA_ge r (8 * a + k)
    show a * 8 ^ (r.length + 1) ≤ keyA (8 * a + k) r
    have e : a * 8 ^ (r.length + 1) = 8 * a * 8 ^ r.length := by
      rw [Nat.pow_succ, Nat.mul_comm (8 ^ r.length) 8, ← Nat.mul_assoc, Nat.mul_comm a 8]
    have e2 : 8 * a * 8 ^ r.length ≤ (8 * a + k) * 8 ^ r.length := Nat.mul_le_mul_right _ (by omega)
    omega
theorem keyA_lt : ∀ (r : List Nat) (a : Nat), (∀ k ∈ r, k < 8) → keyA a r < (a + 1) * 8 ^ r.length
  | [], a, _ => by simp [keyA]
  | k :: r, a, f => by
    have h := keyA_lt r (8 * a + k) fun j m => f j (List.mem_cons_of_mem _ m)
    have hk := f k (List.mem_cons_self ..)
    show keyA (8 * a + k) r < (a + 1) * 8 ^ (r.length + 1)
    have e : (a + 1) * 8 ^ (r.length + 1) = 8 * (a + 1) * 8 ^ r.length := by
      rw [Nat.pow_succ, Nat.mul_comm (8 ^ r.length) 8, ← Nat.mul_assoc, Nat.mul_comm (a + 1) 8]
    have e2 : (8 * a + k + 1) * 8 ^ r.length ≤ 8 * (a + 1) * 8 ^ r.length := Nat.mul_le_mul_right _ (by omega)
    omega
theorem key_pos (r : List Nat) : 1 ≤ key r := by
  have h := keyA_ge r 1
  have : 1 ≤ 1 * 8 ^ r.length := by
    rw [Nat.one_mul]
    exact Nat.pow_pos (by decide)
  exact Nat.le_trans this h
theorem key_len {r s : List Nat} (hs : ∀ k ∈ s, k < 8) (h : key r ≤ key s) : r.length ≤ s.length := by
  apply Classical.byContradiction
  intro q
  have a := keyA_ge r 1
  have b := keyA_lt s 1 hs
  have c : 8 ^ (s.length + 1) ≤ 8 ^ r.length := Nat.pow_le_pow_right (by decide) (by omega)
  rw [Nat.pow_succ] at c
  have d : keyA 1 r ≤ keyA 1 s := h
  have p : 0 < 8 ^ s.length := Nat.pow_pos (by decide)
  omega
theorem keyA_early : ∀ (r s : List Nat) (a : Nat), (∀ k ∈ s, k < 8) → r.length = s.length → keyA a r ≤ keyA a s → Early r s
  | [], _, _, _, _, _ => trivial
  | _ :: _, [], _, _, e, _ => by cases e
  | j :: r, k :: s, a, f, e, h => by
    have h : keyA (8 * a + j) r ≤ keyA (8 * a + k) s := h
    have e' : r.length = s.length := Nat.succ.inj e
    rcases Nat.lt_trichotomy j k with q | q | q
    · exact .inl q
    · subst q
      exact .inr ⟨rfl, keyA_early r s _ (fun k m => f k (List.mem_cons_of_mem _ m)) e' h⟩
    · exfalso
      have x := keyA_ge r (8 * a + j)
      have y := keyA_lt s (8 * a + k) fun k m => f k (List.mem_cons_of_mem _ m)
      rw [e'] at x
      have : (8 * a + k + 1) * 8 ^ s.length ≤ (8 * a + j) * 8 ^ s.length := Nat.mul_le_mul_right _ (by omega)
      omega
theorem early_refl : ∀ r : List Nat, Early r r
  | [] => trivial
  | _ :: r => .inr ⟨rfl, early_refl r⟩
theorem key_inj {r s : List Nat} (hr : ∀ k ∈ r, k < 8) (hs : ∀ k ∈ s, k < 8) (h : key r = key s) : r = s := by
  have a := key_len hs (Nat.le_of_eq h)
  have b := key_len hr (Nat.le_of_eq h.symm)
  have l : r.length = s.length := by omega
  exact early_antisymm l (keyA_early r s 1 hs l (Nat.le_of_eq h)) (keyA_early s r 1 hr l.symm (Nat.le_of_eq h.symm))
/-! ### the first row to a set -/
def Reach (h : House) (r : List Nat) (x : Nat) : Prop := (∀ k ∈ r, k ∈ h.choices) ∧ h.through h.pests r = x
theorem Reach.small {h : House} {r : List Nat} {x : Nat} (k6 : h.kinds ≤ 6) (R : Reach h r x) : ∀ k ∈ r, k < 8 := fun k m => by
  rcases (mem_choices h).mp (R.1 k m) with ⟨a, _⟩ | a <;> omega
def IsFirst (h : House) (r : List Nat) (x : Nat) : Prop := Reach h r x ∧ ∀ r', Reach h r' x → key r ≤ key r'
theorem first_ex {h : House} {r : List Nat} {x : Nat} (R : Reach h r x) : ∃ s, IsFirst h s x := by
  have key_ : ∀ n, ∀ r, key r = n → Reach h r x → ∃ s, IsFirst h s x := by
    intro n
    induction n using Nat.strongRecOn with
    | _ n ih =>
      intro r e R
      by_cases q : ∃ r', Reach h r' x ∧ key r' < key r
      · obtain ⟨r', R', lt⟩ := q
        exact ih (key r') (by omega) r' rfl R'
      · refine ⟨r, R, fun r' R' => ?_⟩
        apply Classical.byContradiction
        intro g
        exact q ⟨r', R', by omega⟩
  exact key_ _ r rfl R
theorem first_uniq {h : House} (k6 : h.kinds ≤ 6) {r s : List Nat} {x : Nat} (a : IsFirst h r x) (b : IsFirst h s x) : r = s :=
  key_inj (a.1.small k6) (b.1.small k6) (Nat.le_antisymm (a.2 s b.1) (b.2 r a.1))
theorem reach_snoc {h : House} {r : List Nat} {x k : Nat} (R : Reach h r x) (hk : k ∈ h.choices) : Reach h (r ++ [k]) (h.loose x k) := by
  refine ⟨fun j m => ?_, by rw [through_snoc, R.2]⟩
  rcases List.mem_append.mp m with m | m
  · exact R.1 j m
  · rw [List.mem_singleton] at m
    subst m
    exact hk
/-- the first row's beginning is a first row -/
theorem first_pre {h : House} {r : List Nat} {x k : Nat} (F : IsFirst h (r ++ [k]) x) : k ∈ h.choices ∧ IsFirst h r (h.through h.pests r) ∧ h.loose (h.through h.pests r) k = x := by
  have hk : k ∈ h.choices := F.1.1 k (List.mem_append_right _ (List.mem_singleton.mpr rfl))
  have e : h.loose (h.through h.pests r) k = x := by rw [← through_snoc]; exact F.1.2
  refine ⟨hk, ⟨⟨fun j m => F.1.1 j (List.mem_append_left _ m), rfl⟩, fun r' R' => ?_⟩, e⟩
  have := F.2 (r' ++ [k]) (by
    have := reach_snoc R' hk
    rw [e] at this
    exact this)
  rw [key_snoc, key_snoc] at this
  omega
theorem first_nil {h : House} {x : Nat} (F : IsFirst h [] x) : x = h.pests := F.1.2.symm
theorem first_pests (h : House) : IsFirst h [] h.pests := ⟨⟨fun k m => (by cases m), rfl⟩, fun r' _ => key_pos r'⟩
theorem snoc_of {r : List Nat} (h : r ≠ []) : ∃ s k, r = s ++ [k] := ⟨r.dropLast, r.getLast h, (List.dropLast_concat_getLast h).symm⟩
/-! ### a search, set by set -/
/-- D: the sets found, each with its first row, in the rows' order; all that follows on the first i of them is found, and of the next one what follows on choices below b -/
structure Bfs (h : House) (D : List (Nat × List Nat)) (i b : Nat) : Prop where
  root : D[0]? = some (h.pests, [])
  first : ∀ (j x : Nat) (r : List Nat), D[j]? = some (x, r) → IsFirst h r x
  sorted : ∀ (j j' x : Nat) (r : List Nat) (x' : Nat) (r' : List Nat), D[j]? = some (x, r) → D[j']? = some (x', r') → j < j' → key r < key r'
  closed : ∀ (j x : Nat) (r : List Nat) (k : Nat), D[j]? = some (x, r) → j < i ∨ (j = i ∧ k < b) → k ∈ h.choices → ∃ (j' : Nat) (r' : List Nat), D[j']? = some (h.loose x k, r')
  bound : ∀ (j x : Nat) (r : List Nat), D[j]? = some (x, r) → r ≠ [] → ∃ (j0 x0 : Nat) (r0 : List Nat) (k : Nat), D[j0]? = some (x0, r0) ∧ r = r0 ++ [k] ∧ k ∈ h.choices ∧ (j0 < i ∨ (j0 = i ∧ k < b))
theorem choice_lt {h : House} (k6 : h.kinds ≤ 6) {k : Nat} (m : k ∈ h.choices) : k < 8 := by
  rcases (mem_choices h).mp m with ⟨a, _⟩ | a <;> omega
theorem Bfs.order {h : House} {D : List (Nat × List Nat)} {i b : Nat} (B : Bfs h D i b) {j j' x x' : Nat} {r r' : List Nat} (a : D[j]? = some (x, r)) (c : D[j']? = some (x', r')) (l : key r < key r') : j < j' := by
  rcases Nat.lt_trichotomy j j' with q | q | q
  · exact q
  · subst q
    rw [a] at c
    cases c
    omega
  · have := B.sorted j' j x' r' x r c a q
    omega
theorem bfs_start (h : House) : Bfs h [(h.pests, [])] 0 0 where
  root := rfl
  first := fun j x r e => by
    cases j with
    | zero =>
      cases (Option.some.inj e)
      exact first_pests h
    | succ j => simp at e
  sorted := fun j j' x r x' r' e e' l => by
    cases j' with
    | zero => omega
    | succ j' => simp at e'
  closed := fun j x r k e l m => by omega
  bound := fun j x r e n => by
    cases j with
    | zero =>
      cases (Option.some.inj e)
      exact absurd rfl n
    | succ j => simp at e
/-- all that has an earlier first row than a found one is found, ahead of it -/
theorem Bfs.comp {h : House} (k6 : h.kinds ≤ 6) {D : List (Nat × List Nat)} {i b : Nat} (B : Bfs h D i b) : ∀ (n : Nat) (s : List Nat), s.length = n → ∀ (x m y : Nat) (r : List Nat), IsFirst h s x → D[m]? = some (y, r) → key s < key r → ∃ (j : Nat), j < m ∧ D[j]? = some (x, s)
  | 0, s, l, x, m, y, r, F, e, lt => by
    have : s = [] := List.eq_nil_of_length_eq_zero l
    subst this
    have := first_nil F
    subst this
    exact ⟨0, B.order B.root e lt, B.root⟩
  | n + 1, s, l, x, m, y, r, F, e, lt => by
    have rn : r ≠ [] := fun q => by
      subst q
      have := key_pos s
      have : key [] = 1 := rfl
      omega
    have sn : s ≠ [] := fun q => by
      subst q
      cases l
    obtain ⟨s0, c, rfl⟩ := snoc_of sn
    obtain ⟨j0, x0, r0, k0, d0, er, hk0, w⟩ := B.bound m y r e rn
    subst er
    obtain ⟨hc, F0, es⟩ := first_pre F
    have c8 := choice_lt k6 hc
    have k8 := choice_lt k6 hk0
    rw [key_snoc, key_snoc] at lt
    have l0 : s0.length = n := by
      rw [List.length_append] at l
      exact Nat.succ.inj l
    have fin : ∃ (j' : Nat) (r' : List Nat), D[j']? = some (x, r') := by
      rcases Nat.lt_or_ge (key s0) (key r0) with q | q
      · obtain ⟨j, lj, ej⟩ := B.comp k6 n s0 l0 _ j0 x0 r0 F0 d0 q
        have := B.closed j _ _ c ej (by omega) hc
        rw [es] at this
        exact this
      · have eq : key s0 = key r0 := by omega
        have es0 : s0 = r0 := key_inj (F0.1.small k6) ((B.first _ _ _ d0).1.small k6) eq
        subst es0
        have ex : h.through h.pests s0 = x0 := (B.first _ _ _ d0).1.2
        rw [ex] at es
        have := B.closed j0 x0 s0 c d0 (by omega) hc
        rw [es] at this
        exact this
    obtain ⟨j', r', e'⟩ := fin
    have er' := first_uniq k6 (B.first _ _ _ e') F
    subst er'
    exact ⟨j', B.order e' e (by rw [key_snoc, key_snoc]; exact lt), e'⟩
theorem get_snoc {α : Type} {D : List α} {a b : α} {j : Nat} (e : (D ++ [a])[j]? = some b) : (j < D.length ∧ D[j]? = some b) ∨ (j = D.length ∧ b = a) := by
  rcases Nat.lt_or_ge j D.length with q | q
  · rw [List.getElem?_append_left q] at e
    exact .inl ⟨q, e⟩
  · rw [List.getElem?_append_right q] at e
    cases c : j - D.length with
    | zero =>
      rw [c] at e
      exact .inr ⟨by omega, (Option.some.inj e).symm⟩
    | succ n =>
      rw [c] at e
      simp at e
theorem get_more {α : Type} {D : List α} {a b : α} {j : Nat} (e : D[j]? = some b) : (D ++ [a])[j]? = some b := by
  rw [List.getElem?_append_left (List.getElem?_eq_some_iff.mp e).1]
  exact e
/-- a new set is found -/
theorem Bfs.new {h : House} (k6 : h.kinds ≤ 6) {D : List (Nat × List Nat)} {i k x : Nat} {r : List Nat} (B : Bfs h D i k) (e : D[i]? = some (x, r)) (hk : k ∈ h.choices) (nw : ∀ (j : Nat) (r' : List Nat), D[j]? ≠ some (h.loose x k, r')) :
    Bfs h (D ++ [(h.loose x k, r ++ [k])]) i (k + 1) := by
  have Fx := B.first _ _ _ e
  have il : i < D.length := (List.getElem?_eq_some_iff.mp e).1
  have F : IsFirst h (r ++ [k]) (h.loose x k) := by
    have R := reach_snoc Fx.1 hk
    obtain ⟨s, S⟩ := first_ex R
    have le := S.2 _ R
    have sn : s ≠ [] := fun q => by
      subst q
      exact nw 0 [] (by rw [first_nil S]; exact B.root)
    obtain ⟨s0, c, rfl⟩ := snoc_of sn
    obtain ⟨hc, F0, es⟩ := first_pre S
    have c8 := choice_lt k6 hc
    have k8 := choice_lt k6 hk
    rw [key_snoc, key_snoc] at le
    rcases Nat.lt_or_ge (key s0) (key r) with q | q
    · obtain ⟨j, lj, ej⟩ := B.comp k6 _ s0 rfl _ i x r F0 e q
      have := B.closed j _ _ c ej (by omega) hc
      rw [es] at this
      obtain ⟨j', r', e'⟩ := this
      exact absurd e' (nw j' r')
    · have eq : key s0 = key r := by omega
      have es0 : s0 = r := key_inj (F0.1.small k6) (Fx.1.small k6) eq
      subst es0
      rw [Fx.1.2] at es
      rcases Nat.lt_or_ge c k with g | g
      · have := B.closed i x s0 c e (by omega) hc
        rw [es] at this
        obtain ⟨j', r', e'⟩ := this
        exact absurd e' (nw j' r')
      · have : c = k := by omega
        subst this
        exact S
  have last : ∀ (j x' : Nat) (r' : List Nat), D[j]? = some (x', r') → key r' < key (r ++ [k]) := fun j x' r' ej => by
    by_cases q : r' = []
    · subst q
      rw [key_snoc]
      have := key_pos r
      have : key [] = 1 := rfl
      omega
    · obtain ⟨j0, x0, r0, k0, d0, er, hk0, w⟩ := B.bound j x' r' ej q
      subst er
      have k8 := choice_lt k6 hk0
      rw [key_snoc, key_snoc]
      rcases w with w | ⟨w, w2⟩
      · have := B.sorted j0 i x0 r0 x r d0 e w
        omega
      · subst w
        rw [e] at d0
        cases d0
        omega
  refine ⟨get_more B.root, fun j x' r' ej => ?_, fun j j' x1 r1 x2 r2 e1 e2 l => ?_, fun j x' r' c ej w hc => ?_, fun j x' r' ej n => ?_⟩
  · rcases get_snoc ej with ⟨_, ej⟩ | ⟨_, ej⟩
    · exact B.first _ _ _ ej
    · cases ej
      exact F
  · rcases get_snoc e2 with ⟨l2, e2⟩ | ⟨l2, e2⟩
    · rcases get_snoc e1 with ⟨_, e1⟩ | ⟨l1, _⟩
      · exact B.sorted _ _ _ _ _ _ e1 e2 l
      · omega
    · rcases get_snoc e1 with ⟨_, e1⟩ | ⟨l1, _⟩
      · cases e2
        exact last _ _ _ e1
      · omega
  · rcases get_snoc ej with ⟨_, ej2⟩ | ⟨l1, _⟩
    · by_cases q : j = i ∧ c = k
      · obtain ⟨rfl, rfl⟩ := q
        rw [e] at ej2
        cases ej2
        exact ⟨D.length, r ++ [c], by rw [List.getElem?_append_right (Nat.le_refl _), Nat.sub_self]; rfl⟩
      · obtain ⟨j', r'', e'⟩ := B.closed j x' r' c ej2 (by omega) hc
        exact ⟨j', r'', get_more e'⟩
    · omega
  · rcases get_snoc ej with ⟨_, ej⟩ | ⟨_, ej⟩
    · obtain ⟨j0, x0, r0, k0, d0, er, hk0, w⟩ := B.bound j x' r' ej n
      exact ⟨j0, x0, r0, k0, get_more d0, er, hk0, by omega⟩
    · cases ej
      exact ⟨i, x, r, k, get_more e, rfl, hk, by omega⟩
/-- what follows on it is found already, or it may not be told -/
theorem Bfs.old {h : House} {D : List (Nat × List Nat)} {i k x : Nat} {r : List Nat} (B : Bfs h D i k) (e : D[i]? = some (x, r)) (o : k ∈ h.choices → ∃ (j : Nat) (r' : List Nat), D[j]? = some (h.loose x k, r')) : Bfs h D i (k + 1) := by
  refine ⟨B.root, B.first, B.sorted, fun j x' r' c ej w hc => ?_, fun j x' r' ej n => ?_⟩
  · by_cases q : j = i ∧ c = k
    · obtain ⟨rfl, rfl⟩ := q
      rw [e] at ej
      cases ej
      exact o hc
    · exact B.closed j x' r' c ej (by omega) hc
  · obtain ⟨j0, x0, r0, k0, d0, er, hk0, w⟩ := B.bound j x' r' ej n
    exact ⟨j0, x0, r0, k0, d0, er, hk0, by omega⟩
/-- the next one -/
theorem Bfs.next {h : House} {D : List (Nat × List Nat)} {i b : Nat} (B : Bfs h D i b) (hb : h.kinds < b) : Bfs h D (i + 1) 0 := by
  refine ⟨B.root, B.first, B.sorted, fun j x' r' c ej w hc => ?_, fun j x' r' ej n => ?_⟩
  · have : c ≤ h.kinds := by
      rcases (mem_choices h).mp hc with ⟨a, _⟩ | a <;> omega
    exact B.closed j x' r' c ej (by omega) hc
  · obtain ⟨j0, x0, r0, k0, d0, er, hk0, w⟩ := B.bound j x' r' ej n
    exact ⟨j0, x0, r0, k0, d0, er, hk0, by omega⟩
theorem leads_reach {h : House} {l : List Nat} : Leads h h.pests l ↔ ∃ x, Reach h l x ∧ h.clean x = true :=
  ⟨fun z => ⟨_, ⟨z.1, rfl⟩, z.2⟩, fun ⟨x, R, c⟩ => ⟨R.1, by rw [R.2]; exact c⟩⟩
/-- the first of the found sets without pests tells the row -/
theorem Bfs.found {h : House} (k6 : h.kinds ≤ 6) (hp : h.pests < 2 ^ h.kinds) {D : List (Nat × List Nat)} {i b m y : Nat} {r : List Nat} (B : Bfs h D i b) (e : D[m]? = some (y, r)) (c : h.clean y = true)
    (no : ∀ (j x : Nat) (s : List Nat), j < m → D[j]? = some (x, s) → h.clean x = false) : h.row = some r := by
  have F := B.first _ _ _ e
  have least : ∀ l, Leads h h.pests l → key r ≤ key l := fun l w => by
    obtain ⟨x, R, cx⟩ := leads_reach.mp w
    obtain ⟨s, S⟩ := first_ex R
    have a := S.2 l R
    apply Classical.byContradiction
    intro q
    obtain ⟨j, lj, ej⟩ := B.comp k6 _ s rfl x m y r S e (by omega)
    rw [no j x s lj ej] at cx
    cases cx
  have sm : ∀ l, Leads h h.pests l → ∀ k ∈ l, k < 8 := fun l w => by
    obtain ⟨x, R, _⟩ := leads_reach.mp w
    exact R.small k6
  exact row_is h hp (leads_reach.mpr ⟨y, F.1, c⟩) (fun l w => key_len (sm l w) (least l w)) fun l hl w => keyA_early r l 1 (sm l w) hl.symm (least l w)
/-- all is found, and pests are everywhere -/
theorem Bfs.none {h : House} (hp : h.pests < 2 ^ h.kinds) {D : List (Nat × List Nat)} {b : Nat} (B : Bfs h D D.length b) (no : ∀ (j x : Nat) (s : List Nat), D[j]? = some (x, s) → h.clean x = false) : h.row = none := by
  apply (row_none h hp).mpr
  intro l w
  obtain ⟨x, R, cx⟩ := leads_reach.mp w
  have all : ∀ (n : Nat) (l : List Nat), l.length = n → ∀ x, Reach h l x → ∃ (j : Nat) (r : List Nat), D[j]? = some (x, r) := by
    intro n
    induction n with
    | zero =>
      intro l e x R
      have : l = [] := List.eq_nil_of_length_eq_zero e
      subst this
      exact ⟨0, [], by rw [← R.2]; exact B.root⟩
    | succ n ih =>
      intro l e x R
      obtain ⟨s, k, rfl⟩ := snoc_of (r := l) (fun q => by subst q; cases e)
      obtain ⟨j, r, ej⟩ := ih s (by rw [List.length_append] at e; exact Nat.succ.inj e) _ ⟨fun j m => R.1 j (List.mem_append_left _ m), rfl⟩
      have := B.closed j _ r k ej (.inl (List.getElem?_eq_some_iff.mp ej).1) (R.1 k (List.mem_append_right _ (List.mem_singleton.mpr rfl)))
      rw [← through_snoc, R.2] at this
      exact this
  obtain ⟨j, r, ej⟩ := all _ l rfl x R
  rw [no j x r ej] at cx
  cases cx
end GM
end
section
namespace GM
open Si67
/-! ### a search's size -/
theorem nodup_le : ∀ (N : Nat) (l : List Nat), l.Nodup → (∀ x ∈ l, x < N) → l.length ≤ N
  | 0, [], _, _ => Nat.le_refl _
  | 0, x :: l, _, f => absurd (f x (List.mem_cons_self ..)) (Nat.not_lt_zero _)
  | N + 1, l, nd, f => by
    by_cases m : N ∈ l
    · have a := nodup_le N (l.erase N) (nd.erase N) fun x hx => by
        have h1 := (List.Nodup.mem_erase_iff nd).mp hx
        have h2 := f x h1.2
        have h3 := h1.1
        omega
      have b := List.length_erase_of_mem m
      omega
    · have a := nodup_le N l nd fun x hx => by
        have h2 := f x hx
        have h3 : x ≠ N := fun e => m (e ▸ hx)
        omega
      omega
theorem nodup_get {α : Type} : ∀ {l : List α}, (∀ (i j : Nat) (x : α), i < j → l[i]? = some x → l[j]? ≠ some x) → l.Nodup
  | [], _ => List.nodup_nil
  | a :: l, f => by
    refine List.nodup_cons.mpr ⟨fun m => ?_, nodup_get fun i j x hij hi hj => f (i + 1) (j + 1) x (by omega) (by simpa using hi) (by simpa using hj)⟩
    obtain ⟨j, hj⟩ := List.getElem?_of_mem m
    exact f 0 (j + 1) a (by omega) rfl (by simpa using hj)
theorem Bfs.xs_lt {h : House} (hp : h.pests < 2 ^ h.kinds) {D : List (Nat × List Nat)} {i b j x : Nat} {r : List Nat} (B : Bfs h D i b) (e : D[j]? = some (x, r)) : x < 2 ^ h.kinds := by
  rw [← (B.first _ _ _ e).1.2]
  exact through_lt h r hp
theorem Bfs.differ {h : House} (k6 : h.kinds ≤ 6) {D : List (Nat × List Nat)} {i b j j' x : Nat} {r r' : List Nat} (B : Bfs h D i b) (e : D[j]? = some (x, r)) (e' : D[j']? = some (x, r')) : j = j' := by
  have a := first_uniq k6 (B.first _ _ _ e) (B.first _ _ _ e')
  subst a
  rcases Nat.lt_trichotomy j j' with q | q | q
  · have := B.sorted _ _ _ _ _ _ e e' q
    omega
  · exact q
  · have := B.sorted _ _ _ _ _ _ e' e q
    omega
theorem Bfs.nodup {h : House} (k6 : h.kinds ≤ 6) {D : List (Nat × List Nat)} {i b : Nat} (B : Bfs h D i b) : (D.map (·.1)).Nodup := by
  refine nodup_get fun j j' x l e e' => ?_
  rw [List.getElem?_map] at e e'
  obtain ⟨⟨y, r⟩, a, rfl⟩ := Option.map_eq_some_iff.mp e
  obtain ⟨⟨y', r'⟩, a', q⟩ := Option.map_eq_some_iff.mp e'
  have q : y' = y := q
  subst q
  have := B.differ k6 a a'
  omega
theorem Bfs.len {h : House} (k6 : h.kinds ≤ 6) (hp : h.pests < 2 ^ h.kinds) {D : List (Nat × List Nat)} {i b : Nat} (B : Bfs h D i b) : D.length ≤ 64 := by
  have a := nodup_le (2 ^ h.kinds) (D.map (·.1)) (B.nodup k6) fun x m => by
    obtain ⟨⟨y, r⟩, my, rfl⟩ := List.mem_map.mp m
    obtain ⟨j, e⟩ := List.getElem?_of_mem my
    exact B.xs_lt hp e
  rw [List.length_map] at a
  exact Nat.le_trans a (pow_le_64 k6)
/-- choices that may not be told are passed over -/
theorem Bfs.skip {h : House} {D : List (Nat × List Nat)} {i b k : Nat} (B : Bfs h D i b) (le : b ≤ k) (no : ∀ c ∈ h.choices, c < k → c < b) : Bfs h D i k := by
  refine ⟨B.root, B.first, B.sorted, fun j x' r' c ej w hc => B.closed j x' r' c ej ?_ hc, fun j x' r' ej n => ?_⟩
  · rcases w with w | ⟨w, w2⟩
    · exact .inl w
    · exact .inr ⟨w, no c hc w2⟩
  · obtain ⟨j0, x0, r0, k0, d0, er, hk0, w⟩ := B.bound j x' r' ej n
    exact ⟨j0, x0, r0, k0, d0, er, hk0, by omega⟩
/-! ### the choices, as the program lists them -/
theorem choices_filter {h : House} (hp : h.pests < 2 ^ h.kinds) : (List.range (h.kinds + 1)).filter (fun c => !h.pests.testBit c) = h.choices := by
  have e : h.pests.testBit h.kinds = false := Nat.testBit_lt_two_pow hp
  rw [List.range_succ, List.filter_append]
  unfold House.choices House.all_ has
  congr 1
  rw [List.filter_cons, List.filter_nil, e]
  rfl
theorem asc_get : ∀ {l : List Nat}, Asc l → ∀ {i j x y : Nat}, l[i]? = some x → l[j]? = some y → (i < j ↔ x < y)
  | l, A, i, j, x, y, e, e' => by
    have key : ∀ {i j x y : Nat}, l[i]? = some x → l[j]? = some y → i < j → x < y := fun {i j x y} e e' q => by
      obtain ⟨h1, e1⟩ := List.getElem?_eq_some_iff.mp e
      obtain ⟨h2, e2⟩ := List.getElem?_eq_some_iff.mp e'
      have := List.pairwise_iff_getElem.mp A i j h1 h2 q
      omega
    refine ⟨key e e', fun q => ?_⟩
    rcases Nat.lt_trichotomy i j with z | z | z
    · exact z
    · subst z
      rw [e] at e'
      cases e'
      omega
    · have := key e' e z
      omega
/-- where one is in the choices: behind the first c of them -/
def Upto (cs : List Nat) (c b : Nat) : Prop := (∀ (c' k : Nat), cs[c']? = some k → c' < c → k < b) ∧ ∀ (c' k : Nat), cs[c']? = some k → c ≤ c' → b ≤ k
theorem upto_zero (cs : List Nat) : Upto cs 0 0 := ⟨fun _ _ _ l => by omega, fun _ _ _ _ => Nat.zero_le _⟩
theorem upto_succ {cs : List Nat} (A : Asc cs) {c k : Nat} (e : cs[c]? = some k) : Upto cs (c + 1) (k + 1) := by
  refine ⟨fun c' k' e' l => ?_, fun c' k' e' l => ?_⟩
  · rcases Nat.lt_or_ge c' c with q | q
    · have := (asc_get A e' e).mp q
      omega
    · have : c' = c := by omega
      subst this
      rw [e] at e'
      cases e'
      omega
  · have := (asc_get A e e').mp (by omega)
    omega
theorem Upto.skip {h : House} {D : List (Nat × List Nat)} {i b c k : Nat} (U : Upto h.choices c b) (B : Bfs h D i b) (e : h.choices[c]? = some k) : Bfs h D i k := by
  refine B.skip (U.2 c k e (Nat.le_refl _)) fun k' m l => ?_
  obtain ⟨c', e'⟩ := List.getElem?_of_mem m
  exact U.1 c' k' e' ((asc_get (asc_choices h) e' e).mpr l)
theorem Upto.done {h : House} {b : Nat} (U : Upto h.choices h.choices.length b) : h.kinds < b := by
  obtain ⟨c, e⟩ := List.getElem?_of_mem (kinds_choice h)
  exact U.1 c _ e (List.getElem?_eq_some_iff.mp e).1
/-! ### sums -/
theorem sum_ints : ∀ l : List Nat, (Si67.ints l).sum = ((l.sum : Nat) : Int)
  | [] => rfl
  | a :: l => by
    show ((a : Int) :: Si67.ints l).sum = (((a :: l).sum : Nat) : Int)
    rw [List.sum_cons, List.sum_cons, sum_ints l]
    omega
def paid (costs : List Nat) (s i : Nat) : List Nat := ((List.range i).filter fun k => s.testBit k).map fun k => costs.getD k 0
theorem paid_succ (costs : List Nat) (s i : Nat) : paid costs s (i + 1) = if s.testBit i = true then paid costs s i ++ [costs.getD i 0] else paid costs s i := by
  unfold paid
  rw [List.range_succ, List.filter_append, List.map_append]
  by_cases c : s.testBit i = true
  · rw [if_pos c]
    simp [c]
  · rw [if_neg c]
    simp [c]
theorem paid_len (costs : List Nat) (s i : Nat) : (paid costs s i).length ≤ i := by
  unfold paid
  rw [List.length_map]
  have := List.length_filter_le (fun k => s.testBit k) (List.range i)
  rw [List.length_range] at this
  exact this
theorem cost_paid (h : House) (s : Nat) : h.cost s = (paid h.costs s h.kinds).sum := rfl
/-! ### the cheapest so far, as the program holds it: none or what it costs, and the sets -/
structure Acc (r : Option Best) (v : Option Nat) (L : List Nat) : Prop where
  no : r = none → v = none ∧ L = []
  yes : ∀ b, r = some b → v = some b.cost ∧ L.length = b.many ∧ L[0]? = some b.set_
theorem acc_start : Acc none none [] := ⟨fun _ => ⟨rfl, rfl⟩, fun _ e => (nomatch e)⟩
/-- the first set, or a cheaper one -/
theorem acc_new {h : House} {r : Option Best} {v : Option Nat} {L : List Nat} {s : Nat} (A : Acc r v L) (c : v = none ∨ ∃ m, v = some m ∧ h.cost s < m) : Acc (betterB h r s) (some (h.cost s)) [s] := by
  have e : betterB h r s = some ⟨h.cost s, 1, s⟩ := by
    cases r with
    | none => rfl
    | some b =>
      obtain ⟨a, _⟩ := A.yes b rfl
      rcases c with c | ⟨m, c, l⟩
      · rw [a] at c
        cases c
      · rw [a] at c
        cases c
        show (if h.cost s < b.cost then _ else _) = _
        rw [if_pos l]
  rw [e]
  exact ⟨fun q => (nomatch q), fun b q => (by cases q; exact ⟨rfl, rfl, rfl⟩)⟩
/-- one as cheap -/
theorem acc_same {h : House} {r : Option Best} {L : List Nat} {s m : Nat} (A : Acc r (some m) L) (c : h.cost s = m) : Acc (betterB h r s) (some m) (L ++ [s]) := by
  cases r with
  | none =>
    have := (A.no rfl).1
    cases this
  | some b =>
    obtain ⟨a, l, z⟩ := A.yes b rfl
    cases a
    have e : betterB h (some b) s = some ⟨b.cost, b.many + 1, b.set_⟩ := by
      show (if h.cost s < b.cost then _ else if h.cost s = b.cost then _ else _) = _
      rw [if_neg (by omega), if_pos c]
    rw [e]
    refine ⟨fun q => (nomatch q), fun b' q => ?_⟩
    cases q
    refine ⟨rfl, by rw [List.length_append, l]; rfl, ?_⟩
    rw [List.getElem?_append_left (List.getElem?_eq_some_iff.mp z).1]
    exact z
/-- a dearer one -/
theorem acc_more {h : House} {r : Option Best} {L : List Nat} {s m : Nat} (A : Acc r (some m) L) (c : m < h.cost s) : Acc (betterB h r s) (some m) L := by
  cases r with
  | none =>
    have := (A.no rfl).1
    cases this
  | some b =>
    obtain ⟨a, l, z⟩ := A.yes b rfl
    cases a
    have e : betterB h (some b) s = some b := by
      show (if h.cost s < b.cost then _ else if h.cost s = b.cost then _ else _) = _
      rw [if_neg (by omega), if_neg (by omega)]
    rw [e]
    exact A
end GM
end
section
namespace GM
open PySem
theorem nn (a : Nat) : decide ((0 : Int) ≤ (a : Int)) = true := decide_eq_true (Int.natCast_nonneg a)
theorem nnot (a : Nat) : decide ((0 : Int) ≤ Builtin.bitNot (a : Int)) = false := by
  unfold Builtin.bitNot
  exact decide_eq_false (by omega)
theorem not_not (z : Int) : Builtin.bitNot (Builtin.bitNot z) = z := by
  unfold Builtin.bitNot
  omega
theorem band (a b : Nat) : Builtin.bitAnd (a : Int) (b : Int) = ((a &&& b : Nat) : Int) := by
  unfold Builtin.bitAnd
  rw [nn, nn]
  simp only [Int.toNat_natCast]
theorem bor (a b : Nat) : Builtin.bitOr (a : Int) (b : Int) = ((a ||| b : Nat) : Int) := by
  unfold Builtin.bitOr Builtin.bitAnd
  rw [nnot, nnot]
  simp only [not_not, Int.toNat_natCast]
theorem bandnot (a b : Nat) : Builtin.bitAnd (a : Int) (Builtin.bitNot (b : Int)) = ((a - (a &&& b) : Nat) : Int) := by
  unfold Builtin.bitAnd
  rw [nn, nnot]
  simp only [not_not, Int.toNat_natCast]
  have : a &&& b ≤ a := Nat.and_le_left
  omega
theorem shr_int (a k : Nat) : (a : Int) / 2 ^ ((k : Int)).toNat = ((a / 2 ^ k : Nat) : Int) := by
  rw [Int.toNat_natCast]
  simp only [Int.natCast_ediv, Int.natCast_pow]
  rfl
theorem shl_int (k : Nat) : (1 : Int) * 2 ^ ((k : Int)).toNat = ((2 ^ k : Nat) : Int) := by
  rw [Int.toNat_natCast, Int.one_mul]
  simp only [Int.natCast_pow]
  rfl
theorem test_int (a k : Nat) : decide (((a / 2 ^ k : Nat) : Int) % 2 = 1) = a.testBit k := by
  rw [Nat.testBit_eq_decide_div_mod_eq, decide_eq_decide]
  omega
end GM
end
set_option Elab.async false
set_option linter.all false
set_option maxRecDepth 100000
namespace L2
open PySem PySem.Spec PyProof.Rows
/-- a key: an int or a str -/
abbrev Key := Sum Int Str
def keyIs : Key → Value → Bool
  | .inl k, v => Value.isInt k v
  | .inr x, v => Value.isStrOf x v
def keyH (w : World) : Key → Int
  | .inl k => hashInt k
  | .inr x => hashStr w x
theorem keyIs_shape : ∀ {k : Key} {v : Value}, keyIs k v = true → (∃ i t, k = Sum.inl i ∧ v = Value.int i t) ∨ (∃ x t, k = Sum.inr x ∧ v = Value.str x t)
  | .inl i, v, h => by
    obtain ⟨t, e⟩ := Value.isInt_shape (k := i) (v := v) h
    exact .inl ⟨i, t, rfl, e⟩
  | .inr x, v, h => by
    obtain ⟨t, e⟩ := Value.isStrOf_shape (x := x) (v := v) h
    exact .inr ⟨x, t, rfl, e⟩
theorem keyIs_int (i : Int) (t : Tok) : keyIs (.inl i) (.int i t) = true := by simp [keyIs, Value.isInt]
theorem keyIs_str (x : Str) (t : Tok) : keyIs (.inr x) (.str x t) = true := by simp [keyIs, Value.isStrOf]
theorem key_ll (a b : Int) : decide ((Sum.inl a : Key) = Sum.inl b) = (a == b) := by
  by_cases e : a = b
  · subst e; simp
  · have h : ¬ (Sum.inl a : Key) = Sum.inl b := fun q => e (Sum.inl.inj q)
    rw [decide_eq_false h]
    exact (beq_eq_false_iff_ne.mpr e).symm
theorem key_rr (a b : Str) : decide ((Sum.inr a : Key) = Sum.inr b) = decide (a = b) := by
  by_cases e : a = b
  · subst e; simp
  · have h : ¬ (Sum.inr a : Key) = Sum.inr b := fun q => e (Sum.inr.inj q)
    rw [decide_eq_false h, decide_eq_false e]
theorem key_lr (a : Int) (b : Str) : decide ((Sum.inl a : Key) = Sum.inr b) = false := decide_eq_false (fun q => nomatch q)
theorem key_rl (a : Str) (b : Int) : decide ((Sum.inr a : Key) = Sum.inl b) = false := decide_eq_false (fun q => nomatch q)
def mixKind (prog : Program) (w : World) : PySem.KeyKind prog w Key where
  is := keyIs
  hash := keyH w
  inj := fun v a b ha hb => by
    rcases keyIs_shape ha with ⟨i, t, rfl, rfl⟩ | ⟨x, t, rfl, rfl⟩
    · rcases keyIs_shape hb with ⟨j, u, rfl, e⟩ | ⟨y, u, rfl, e⟩
      · injection e with e1 _; rw [e1]
      · exact nomatch e
    · rcases keyIs_shape hb with ⟨j, u, rfl, e⟩ | ⟨y, u, rfl, e⟩
      · exact nomatch e
      · injection e with e1 _; rw [e1]
  byValue := fun k v h => by
    rcases keyIs_shape h with ⟨i, t, rfl, rfl⟩ | ⟨x, t, rfl, rfl⟩ <;> rfl
  pyHash := fun hv h => by
    rcases keyIs_shape hv with ⟨i, t, rfl, rfl⟩ | ⟨x, t, rfl, rfl⟩
    · exact wpAny_pyHash_int h
    · exact wpAny_pyHash_str h
  eqBool := fun hu hv h => by
    rcases keyIs_shape hu with ⟨i, t, rfl, rfl⟩ | ⟨x, t, rfl, rfl⟩
    · rcases keyIs_shape hv with ⟨j, u, rfl, rfl⟩ | ⟨y, u, rfl, rfl⟩
      · rw [key_ll] at h; exact wpAny_eqBool_int h
      · rw [key_lr] at h; exact SeqAt.EqAt.int_str i t y u _ _ _ _ h
    · rcases keyIs_shape hv with ⟨j, u, rfl, rfl⟩ | ⟨y, u, rfl, rfl⟩
      · rw [key_rl] at h; exact SeqAt.EqAt.str_int x t j u _ _ _ _ h
      · rw [key_rr] at h; exact wpAny_eqBool_str h
  «strs» := fun k x t v h => by
    rcases keyIs_shape h with ⟨i, u, rfl, e⟩ | ⟨y, u, rfl, e⟩
    · exact nomatch e
    · injection e with e1 _
      subst e1
      cases v <;> rfl
theorem mixKind_int (prog : Program) (w : World) (i : Int) (t : Tok) : (mixKind prog w).is (.inl i) (.int i t) = true := keyIs_int i t
theorem mixKind_str (prog : Program) (w : World) (x : Str) (t : Tok) : (mixKind prog w).is (.inr x) (.str x t) = true := keyIs_str x t
end L2
namespace L2
open PySem PySem.Spec PyProof.Rows
/-- a value, without the heap -/
inductive V where
  | non | bl (b : Bool) | int (i : Int) | str (x : Str) | byt (b : Array UInt8) | flt (b : UInt64) | ref (a : Addr) | ty (n : String)
  deriving DecidableEq
def RelV : V → Value → Prop
  | .non, u => u = Value.none
  | .bl b, u => u = Value.bool b
  | .int i, u => ∃ t, u = Value.int i t
  | .str x, u => ∃ t, u = Value.str x t
  | .byt b, u => ∃ t, u = Value.bytes b t
  | .flt b, u => ∃ t, u = Value.float b t
  | .ref a, u => u = Value.ref a
  | .ty n, u => u = Value.type n
abbrev Vals : List V → List Value → Prop := Paired RelV
theorem Vals.length {xs : List V} {us : List Value} (r : Vals xs us) : xs.length = us.length := Paired.length r
theorem Vals.get : ∀ {xs : List V} {us : List Value} {i : Nat} {x : V}, Vals xs us → xs[i]? = some x → ∃ u, us[i]? = some u ∧ RelV x u
  | _, _, _, _, .nil, e => by simp at e
  | _, _, 0, _, .cons r _, e => by simp at e; subst e; exact ⟨_, rfl, r⟩
  | _, _, i + 1, x, .cons _ t, e => by
    obtain ⟨u, h1, h2⟩ := Vals.get (i := i) (x := x) t (by simpa using e)
    exact ⟨u, by simpa using h1, h2⟩
theorem Vals.set {x : V} {u : Value} (r : RelV x u) : ∀ {xs : List V} {us : List Value} (i : Nat), Vals xs us → Vals (xs.set i x) (us.set i u)
  | _, _, _, .nil => .nil
  | _, _, 0, .cons _ t => .cons r t
  | _, _, i + 1, .cons q t => .cons q (Vals.set r i t)
theorem Vals.append : ∀ {xs ys : List V} {us ws : List Value}, Vals xs us → Vals ys ws → Vals (xs ++ ys) (us ++ ws)
  | _, _, _, _, .nil, s => s
  | _, _, _, _, .cons r t, s => .cons r (Vals.append t s)
theorem Vals.take : ∀ {xs : List V} {us : List Value} (n : Nat), Vals xs us → Vals (xs.take n) (us.take n)
  | _, _, 0, _ => .nil
  | _, _, _ + 1, .nil => .nil
  | _, _, n + 1, .cons r t => .cons r (Vals.take n t)
theorem Vals.drop : ∀ {xs : List V} {us : List Value} (n : Nat), Vals xs us → Vals (xs.drop n) (us.drop n)
  | _, _, 0, r => r
  | _, _, _ + 1, .nil => .nil
  | _, _, n + 1, .cons _ t => Vals.drop n t
theorem Vals.none_of : ∀ {xs : List V} {us : List Value} {i : Nat}, Vals xs us → xs[i]? = none → us[i]? = none := fun {xs us i} r e => by
  have h1 := r.length
  have h2 : xs.length ≤ i := List.getElem?_eq_none_iff.mp e
  exact List.getElem?_eq_none_iff.mpr (by omega)
def RelO : Option V → Option Value → Prop
  | some v, some u => RelV v u
  | none, none => True
  | _, _ => False
def KV {κ : Type} : List (κ × V) → List (κ × Value) → Prop := Paired fun (p : κ × V) (q : κ × Value) => p.1 = q.1 ∧ RelV p.2 q.2
/-- a key of a dict (00_mix): an int or a text -/
def kV : Key → V
  | .inl i => .int i
  | .inr x => .str x
/-- what stands at a tracked address -/
inductive HO where
  /-- a list -/
  | lst (xs : List V)
  /-- a tuple (never changes) -/
  | tup (xs : List V)
  /-- a dict whose keys are ints and texts; one whose keys are tuples of ints and texts (the empty one is both) -/
  | dK (kvs : List (Key × V)) | dT (kvs : List (List Key × V))
  /-- a set of ints: its members, its size -/
  | set (S : Int → Bool) (n : Nat)
  /-- an instance of the class at C, its dict at dx, its attributes -/
  | ins (C dx : Addr) (fs : List (Str × V))
  /-- the dict of the instance at x -/
  | own (x : Addr)
  /-- the dict of an exception -/
  | xd (fs : List (Str × V))
  /-- a bound method, f of x -/
  | met (f x : Addr)
  /-- a range object lo, lo + 1, .. below hi -/
  | rng (lo hi : Int)
  /-- a thing that is known to the object (the script; a dict while a loop walks it): read, never written while it is so -/
  | frz (o : Obj) (u : HO)
  /-- a code object's table -/
  | tbl (ps : Array Value)
  /-- any other thing, by what is true of its one object (a def of one's own: SetO a S n := HO.ext fun h => ..) -/
  | ext (φ : Heap → Prop)
abbrev Hp := Addr → Option HO
def upd (H : Hp) (a : Addr) (o : HO) : Hp := fun b => if b = a then some o else H b
theorem upd_same {H : Hp} {a : Addr} {o : HO} : upd H a o a = some o := by unfold upd; rw [if_pos rfl]
theorem upd_ne {H : Hp} {a b : Addr} {o : HO} (h : b ≠ a) : upd H a o b = H b := by unfold upd; rw [if_neg h]
theorem upd_upd {H : Hp} {a : Addr} {o u : HO} : upd (upd H a o) a u = upd H a u := by
  funext b; unfold upd; split <;> rfl
/-- two objects of different content stand apart -/
theorem ne_of {H : Hp} {a b : Addr} {o u : HO} (h : H a = some o) (h' : H b = some u) (d : o ≠ u) : a ≠ b := by
  intro e; subst e; rw [h] at h'; exact d (Option.some.inj h')
theorem ne_of_none {H : Hp} {a b : Addr} {o : HO} (h : H a = some o) (h' : H b = none) : a ≠ b := by
  intro e; subst e; rw [h] at h'; cases h'
section
variable (P : Program) (w : World)
def ObjOk (H : Hp) (h : Heap) (a : Addr) : HO → Prop
  | .lst xs => xs.length ≤ sizeLine ∧ ∃ (its : List Value) (n : Nat), Vals xs its ∧ h.get? a = some { cls := .type "list", data := .seq its.toArray n }
  | .tup xs => xs.length ≤ sizeLine ∧ ∃ its : List Value, Vals xs its ∧ IsTup h a its.toArray
  | .dK kvs => kvs.length ≤ sizeLine ∧ (a == sysModules) = false ∧ ∃ vs, KV kvs vs ∧ h.DictOf (mixKind P w) a vs
  | .dT kvs => kvs.length ≤ sizeLine ∧ (a == sysModules) = false ∧ ∃ xs : List (List Key × Addr × Value),
      Paired (fun (p : List Key × V) (q : List Key × Addr × Value) => p.1 = q.1 ∧ H q.2.1 = some (.tup (p.1.map kV)) ∧ RelV p.2 q.2.2) kvs xs ∧
      ∃ o es ep, h.get? a = some o ∧ o.ExactDict ∧ o.data = .dict es ep ∧ es.toList = xs.map (entryOfKey (tupleKind (mixKind P w))) ∧ (xs.map (·.1)).Nodup
  | .set S n => h.SetOf (intKind P w) a S n
  | .ins C dx fs => H dx = some (.own a) ∧ fs.length ≤ 1000 ∧ dx ≠ a ∧ h.get? a = some (PySem.W.instObj C dx) ∧
      ∃ mA, h.Ns1 dx mA ∧ (∀ f, RelO (fs.lookup f) (mA f)) ∧ PySem.Within mA (fs.map (·.1))
  | .own _ => ∃ o, h.get? a = some o
  | .xd fs => ∃ mA, h.Ns1 a mA ∧ ∀ f, RelO (fs.lookup f) (mA f)
  | .rng lo hi => ∃ t u v, h.get? a = some { cls := .type "range", data := .fields #[.int lo t, .int hi u, .int 1 v] }
  | .frz o u => h.get? a = some o ∧ ObjOk H h a u
  | .tbl ps => h.get? a = some { cls := .none, data := .fields ps }
  | .met f x => h.get? a = some (PySem.W.methodObj (.ref f) (.ref x))
  | .ext φ => φ h ∧ (∃ o, h.get? a = some o) ∧ ∀ h1 h2 : Heap, φ h1 → (∀ o, h1.get? a = some o → h2.get? a = some o) → φ h2
/-- the abstract heap is held -/
def HOk (H : Hp) (h : Heap) : Prop := ∀ a o, H a = some o → ObjOk P w H h a o
end
section
variable {P : Program} {w : World} {H H' : Hp} {h h' : Heap} {a : Addr} {o : HO}
theorem ObjOk.lt (x : ObjOk P w H h a o) : a < h.objs.size := by
  cases o with
  | lst xs => obtain ⟨_, _, _, _, e⟩ := x; exact Heap.lt_size e
  | tup xs => obtain ⟨_, _, _, p⟩ := x; exact p.lt
  | dK kvs => obtain ⟨_, _, _, _, o, _, _, e, _⟩ := x; exact Heap.lt_size e
  | dT kvs => obtain ⟨_, _, _, _, o, _, _, e, _⟩ := x; exact Heap.lt_size e
  | set S n => obtain ⟨o, _, _, _, e, _⟩ := x; exact Heap.lt_size e
  | ins C dx fs => obtain ⟨_, _, _, e, _⟩ := x; exact Heap.lt_size e
  | own y => obtain ⟨_, e⟩ := x; exact Heap.lt_size e
  | xd fs => obtain ⟨_, ⟨_, _, _, e, _⟩, _⟩ := x; exact Heap.lt_size e
  | rng lo hi => obtain ⟨_, _, _, e⟩ := x; exact Heap.lt_size e
  | frz ob u => obtain ⟨e, _⟩ := x; exact Heap.lt_size e
  | tbl ps => exact Heap.lt_size (show h.get? a = some _ from x)
  | met f y => exact Heap.lt_size (show h.get? a = some _ from x)
  | ext φ => obtain ⟨_, ⟨_, e⟩, _⟩ := x; exact Heap.lt_size e
theorem Paired.mapP {α β : Type} {F G : α → β → Prop} : ∀ {l₁ : List α} {l₂ : List β}, Paired F l₁ l₂ → (∀ a b, F a b → G a b) → Paired G l₁ l₂
  | _, _, .nil, _ => .nil
  | _, _, .cons r t, f => .cons (f _ _ r) (Paired.mapP t f)
/-- what an object's description leans on: its own object, its own dict, the tuples -/
theorem ObjOk.stay (x : ObjOk P w H h a o) (k : ∀ b u, (b = a ∨ H b = some (.own a)) → h.get? b = some u → h'.get? b = some u)
    (ho : ∀ b, H b = some (.own a) → H' b = some (.own a)) (ht : ∀ b xs, H b = some (.tup xs) → H' b = some (.tup xs)) : ObjOk P w H' h' a o := by
  induction o with
  | lst xs => obtain ⟨z, its, n, r, e⟩ := x; exact ⟨z, its, n, r, k _ _ (.inl rfl) e⟩
  | tup xs => obtain ⟨z, its, r, ob, e, c⟩ := x; exact ⟨z, its, r, ob, k _ _ (.inl rfl) e, c⟩
  | dK kvs => obtain ⟨z, y, vs, r, ob, es, ep, e, c⟩ := x; exact ⟨z, y, vs, r, ob, es, ep, k _ _ (.inl rfl) e, c⟩
  | dT kvs =>
    obtain ⟨z, y, xs, r, ob, es, ep, e, c⟩ := x
    exact ⟨z, y, xs, Paired.mapP r fun p q z => ⟨z.1, ht _ _ z.2.1, z.2.2⟩, ob, es, ep, k _ _ (.inl rfl) e, c⟩
  | set S n => obtain ⟨ob, es, ep, t, e, c⟩ := x; exact ⟨ob, es, ep, t, k _ _ (.inl rfl) e, c⟩
  | ins C dx fs =>
    obtain ⟨d, z, ne, e, mA, ⟨od, es, ep, e2, c⟩, r⟩ := x
    exact ⟨ho _ d, z, ne, k _ _ (.inl rfl) e, mA, ⟨od, es, ep, k _ _ (.inr d) e2, c⟩, r⟩
  | own y => obtain ⟨ob, e⟩ := x; exact ⟨ob, k _ _ (.inl rfl) e⟩
  | xd fs => obtain ⟨mA, ⟨od, es, ep, e, c⟩, r⟩ := x; exact ⟨mA, ⟨od, es, ep, k _ _ (.inl rfl) e, c⟩, r⟩
  | rng lo hi => obtain ⟨t, u, v, e⟩ := x; exact ⟨t, u, v, k _ _ (.inl rfl) e⟩
  | frz ob u ih => obtain ⟨e, q⟩ := x; exact ⟨k _ _ (.inl rfl) e, ih q⟩
  | tbl ps =>
    have e : h.get? a = some { cls := .none, data := .fields ps } := x
    show h'.get? a = some { cls := .none, data := .fields ps }
    exact k a _ (.inl rfl) e
  | met f y =>
    have e : h.get? a = some (PySem.W.methodObj (.ref f) (.ref y)) := x
    show h'.get? a = some (PySem.W.methodObj (.ref f) (.ref y))
    exact k a _ (.inl rfl) e
  | ext φ => obtain ⟨p, ⟨o, e⟩, st⟩ := x; exact ⟨st _ _ p fun o q => k _ _ (.inl rfl) q, ⟨o, k _ _ (.inl rfl) e⟩, st⟩
theorem HOk.lt (x : HOk P w H h) (e : H a = some o) : a < h.objs.size := (x a o e).lt
theorem HOk.fresh (x : HOk P w H h) (e : h.objs.size ≤ a) : H a = none := by
  cases q : H a with
  | none => rfl
  | some u => exact absurd (Nat.lt_of_lt_of_le (x.lt q) e) (Nat.lt_irrefl _)
/-- every object of the heap is kept -/
theorem HOk.kept (x : HOk P w H h) (k : ∀ b u, h.get? b = some u → h'.get? b = some u) : HOk P w H h' := fun a o e =>
  (x a o e).stay (fun b u _ q => k b u q) (fun _ q => q) fun _ _ q => q
/-- a new object is laid and tracked -/
theorem HOk.laid (x : HOk P w H h) (k : ∀ b u, h.get? b = some u → h'.get? b = some u) (hp : h.objs.size ≤ a) (new : ObjOk P w (upd H a o) h' a o) : HOk P w (upd H a o) h' := fun b u e => by
  have hn := x.fresh hp
  by_cases hb : b = a
  · subst hb; rw [upd_same] at e; cases e; exact new
  · rw [upd_ne hb] at e
    exact (x b u e).stay (fun c v _ q => k c v q) (fun c q => by rw [upd_ne (ne_of_none q hn)]; exact q) fun c xs q => by rw [upd_ne (ne_of_none q hn)]; exact q
end
/-- what may be read as u: it is u, or a known u -/
def Rd (H : Hp) (a : Addr) (u : HO) : Prop := H a = some u ∨ ∃ o, H a = some (.frz o u)
theorem Rd.of {H : Hp} {a : Addr} {u : HO} (h : H a = some u) : Rd H a u := .inl h
theorem Rd.ok {P : Program} {w : World} {H : Hp} {h : Heap} {a : Addr} {u : HO} (r : Rd H a u) (x : HOk P w H h) : ObjOk P w H h a u := by
  rcases r with r | ⟨o, r⟩
  · exact x a u r
  · obtain ⟨_, q⟩ := x a _ r
    exact q
/-- what may be written -/
def Mut : Option HO → Prop
  | some (.lst _) => True
  | some (.dK _) => True
  | some (.dT _) => True
  | some (.set _ _) => True
  | some (.ins _ _ _) => True
  | some (.ext _) => True
  | _ => False
section
variable {P : Program} {w : World} {H : Hp} {h h' : Heap} {x e : Addr} {o' : HO}
/-- the object at e is changed: x itself, or the dict of the instance x -/
theorem HOk.write (ok : HOk P w H h) (mu : Mut (H x)) (he : e = x ∨ H e = some (.own x)) (k : ∀ b u, b ≠ e → h.get? b = some u → h'.get? b = some u) (heo : ∃ u, h'.get? e = some u)
    (new : ObjOk P w (upd H x o') h' x o') : HOk P w (upd H x o') h' := fun b u q => by
  have nown : ∀ c y, H c = some (.own y) → c ≠ x := fun c y r z => by subst z; rw [r] at mu; exact mu
  have ntup : ∀ c xs, H c = some (.tup xs) → c ≠ x := fun c xs r z => by subst z; rw [r] at mu; exact mu
  by_cases hb : b = x
  · subst hb; rw [upd_same] at q; cases q; exact new
  · rw [upd_ne hb] at q
    by_cases hbe : b = e
    · have q' : H b = some (.own x) := by
        rcases he with z | z
        · exact absurd (hbe.trans z) hb
        · rw [hbe]; exact z
      rw [q] at q'; cases q'
      obtain ⟨v, hv⟩ := heo
      exact ⟨v, by rw [hbe]; exact hv⟩
    · refine (ok b u q).stay (fun c v hc r => k c v ?_ r) (fun c r => by rw [upd_ne (nown c b r)]; exact r) fun c xs r => by rw [upd_ne (ntup c xs r)]; exact r
      rcases hc with rfl | hc
      · exact hbe
      · rintro rfl
        rcases he with z | z
        · exact nown c b hc z
        · rw [hc] at z; cases z; exact hb rfl
end
structure Un (fs ex : List Addr) (H H' : Hp) (h h' : Heap) : Prop where
  keep : ∀ b o, h.get? b = some o → H b = none → b ∉ fs → b ∉ ex → h'.get? b = some o
  slot : ∀ b o, h.get? b = some o → H b = none → b ∈ fs → b ∉ ex → ∃ sl, h'.get? b = some { o with slots := sl }
  free : ∀ b o, h.get? b = some o → H b = none → b ∉ ex → H' b = none
  there : ∀ b o, h.get? b = some o → b ∉ ex → ∃ o', h'.get? b = some o'
  tups : ∀ b xs, H b = some (.tup xs) → H' b = some (.tup xs)
  frzs : ∀ b o u, H b = some (.frz o u) → H' b = some (.frz o u)
  tbls : ∀ b ps, H b = some (.tbl ps) → ∃ more, H' b = some (.tbl (ps ++ more))
section
variable {fs fs' ex ex' : List Addr} {H H1 H2 : Hp} {h h1 h2 h' : Heap} {a x e : Addr} {o : HO}
theorem Un.any (u : Un fs ex H H1 h h1) {b : Addr} {ob : Obj} (q : h.get? b = some ob) (n : H b = none) (hx : b ∉ ex) : ∃ sl, h1.get? b = some { ob with slots := sl } := by
  by_cases hb : b ∈ fs
  · exact u.slot b ob q n hb hx
  · exact ⟨ob.slots, u.keep b ob q n hb hx⟩
theorem Un.trans (a : Un fs ex H H1 h h1) (b : Un fs ex H1 H2 h1 h2) : Un fs ex H H2 h h2 where
  keep := fun c ob q n hc hx => b.keep c ob (a.keep c ob q n hc hx) (a.free c ob q n hx) hc hx
  slot := fun c ob q n hc hx => by
    obtain ⟨sl, e1⟩ := a.slot c ob q n hc hx
    obtain ⟨sl', e2⟩ := b.slot c _ e1 (a.free c ob q n hx) hc hx
    exact ⟨sl', e2⟩
  free := fun c ob q n hx => by
    obtain ⟨o', e1⟩ := a.there c ob q hx
    exact b.free c o' e1 (a.free c ob q n hx) hx
  there := fun c ob q hx => by
    obtain ⟨o', e1⟩ := a.there c ob q hx
    exact b.there c o' e1 hx
  tups := fun c xs q => b.tups c xs (a.tups c xs q)
  frzs := fun c ob xs q => b.frzs c ob xs (a.frzs c ob xs q)
  tbls := fun c ps q => by
    obtain ⟨m1, e1⟩ := a.tbls c ps q
    obtain ⟨m2, e2⟩ := b.tbls c _ e1
    exact ⟨m1 ++ m2, by rw [e2, Array.append_assoc]⟩
theorem Un.kept (k : ∀ b u, h.get? b = some u → h'.get? b = some u) : Un fs ex H H h h' :=
  ⟨fun b ob q _ _ _ => k b ob q, fun b ob q _ _ _ => ⟨ob.slots, k b ob q⟩, fun _ _ _ n _ => n, fun b ob q _ => ⟨ob, k b ob q⟩, fun _ _ q => q, fun _ _ _ q => q, fun _ ps q => ⟨#[], by rw [q]; simp⟩⟩
theorem Un.refl : Un fs ex H H h h := Un.kept fun _ _ q => q
theorem Un.laid (k : ∀ b u, h.get? b = some u → h'.get? b = some u) (hp : h.objs.size ≤ a) (hn : H a = none) : Un fs ex H (upd H a o) h h' where
  keep := fun b u q _ _ _ => k b u q
  slot := fun b u q _ _ _ => ⟨u.slots, k b u q⟩
  free := fun b u q n _ => by rw [upd_ne (Nat.ne_of_lt (Nat.lt_of_lt_of_le (Heap.lt_size q) hp))]; exact n
  there := fun b u q _ => ⟨u, k b u q⟩
  tups := fun b xs q => by rw [upd_ne (ne_of_none q hn)]; exact q
  frzs := fun b u xs q => by rw [upd_ne (ne_of_none q hn)]; exact q
  tbls := fun b ps q => ⟨#[], by rw [upd_ne (ne_of_none q hn), q]; simp⟩
theorem Un.write (mu : Mut (H x)) (he : e = x ∨ H e = some (.own x)) (k : ∀ b u, b ≠ e → h.get? b = some u → h'.get? b = some u) (heo : ∃ u, h'.get? e = some u) : Un fs ex H (upd H x o) h h' := by
  have hx : ∀ b, H b = none → b ≠ x := fun b n z => by subst z; rw [n] at mu; exact mu
  have hb : ∀ b, H b = none → b ≠ e := fun b n z => by
    subst z
    rcases he with r | r
    · exact hx b n r
    · rw [n] at r; cases r
  have hm : ∀ b u, H b = some u → ¬ Mut (some u) → b ≠ x := fun b u q nm z => by subst z; rw [q] at mu; exact nm mu
  refine ⟨fun b u q n _ _ => k b u (hb b n) q, fun b u q n _ _ => ⟨u.slots, k b u (hb b n) q⟩, fun b u q n _ => by rw [upd_ne (hx b n)]; exact n, fun b u q _ => ?_,
    fun b xs q => by rw [upd_ne (hm b _ q fun z => z)]; exact q, fun b u xs q => by rw [upd_ne (hm b _ q fun z => z)]; exact q, fun b ps q => ⟨#[], by rw [upd_ne (hm b _ q fun z => z), q]; simp⟩⟩
  by_cases hbe : b = e
  · subst hbe; exact heo
  · exact ⟨u, k b u hbe q⟩
theorem Un.mono (u : Un fs ex H H1 h h1) (hs : ∀ b ∈ fs, b ∈ fs') (hx : ∀ b ∈ ex, b ∈ ex') : Un fs' ex' H H1 h h1 :=
  ⟨fun b ob q n hb he => u.keep b ob q n (fun z => hb (hs b z)) fun z => he (hx b z), fun _ _ q n _ he => u.any q n fun z => he (hx _ z), fun b ob q n he => u.free b ob q n fun z => he (hx b z), fun b ob q he => u.there b ob q fun z => he (hx b z), u.tups, u.frzs, u.tbls⟩
end
def trk (h : Heap) (H : Hp) : List Addr := (List.range h.objs.size).filter fun a => (H a).isSome
def hidT (h : Heap) (H : Hp) : Heap := PySem.W.hideAll h (trk h H)
theorem hidT_size (h : Heap) (H : Hp) : (hidT h H).objs.size = h.objs.size := PySem.W.hideAll_size _ _
theorem hidT_get {h : Heap} {H : Hp} {b : Addr} {o : Obj} (e : h.get? b = some o) (n : H b = none) : (hidT h H).get? b = some o :=
  PySem.W.hideAll_get _ e fun hm => by
    have q : (H b).isSome = true := (List.mem_filter.mp hm).2
    rw [n] at q; simp at q
theorem of_hidT {h : Heap} {H : Hp} {b : Addr} {o : Obj} (e : (hidT h H).get? b = some o) : h.get? b = some o ∧ H b = none := by
  have e' : h.get? b = some o := PySem.W.of_hideAll (trk h H) e
  refine ⟨e', ?_⟩
  cases q : H b with
  | none => rfl
  | some x =>
    have hm : b ∈ trk h H := List.mem_filter.mpr ⟨List.mem_range.mpr (Heap.lt_size e'), by simp [q]⟩
    have z : (hidT h H).get? b = none := PySem.W.hideAll_none (trk h H) hm
    rw [z] at e; cases e
def allNews (g h : Heap) (L : Addr) : List (Addr × Obj) := (List.range h.objs.size).filterMap fun a => if a = L ∨ (g.get? a).isSome = true then none else (h.get? a).map fun o => (a, o)
def rest (g h : Heap) (L d : Addr) : List (Addr × Obj) := (allNews g h L).filter fun p => decide (p.1 ≠ d)
end L2
namespace L2
open PySem PySem.Spec PyProof.Rows
/-- the module's facts, over the base: the heap at the law's entry without what is tracked there -/
structure Mod (K : PySem.W.Frag) (mg : Str → Option Value) (base : Heap) : Prop where
  kin : K.In base
  glob : base.Ns mainGlobals mg
  blt : ∃ mb, base.Ns builtinsNs mb ∧ ∀ x : Str, x ≠ "__name__" → mb x = bootBuiltins x
  nolimit : base.NoLimit
/-- the context: a def's body (or a comprehension's block) running. base: fixed through the whole law; s₀, H₀: the entry; outer: the frames whose slots others may change (a def's callers); stack: all frames that run;
   ex: iterators that were made ahead of the entry and are walked here (a comprehension's); fn: the names whose cells were made at the entry (a def: all; a comprehension's block: its own); calm: not within an except suite; pn: pins that every state bears; xe: what is wanted of an exception that leaves the code -/
structure Cx where
  prog : Program
  w : World
  K : PySem.W.Frag
  mg : Str → Option Value
  base : Heap
  A : Around
  N : List Str
  s_0 : Shared
  H_0 : Hp
  env : Env
  outer : List Env
  stack : List Env
  ex : List Addr
  fn : Str → Bool
  calm : Bool
  pn : List (Addr × Obj)
  xe : Value → Shared → Prop
/-- the callers' frames -/
def frs (l : List Env) : List Addr := l.filterMap (·.frame)
abbrev Cx.fs (X : Cx) : List Addr := frs X.outer
def Vis (sc : Scope) (x : Str) : Prop := sc.names.lookup x = some .local ∨ sc.names.lookup x = some .cell ∨ sc.names.lookup x = some .free
def Loc (sc : Scope) (x : Str) : Prop := sc.names.lookup x = some .local ∨ sc.names.lookup x = some .cell
def Look (env : Env) (h : Heap) (m : Str → Option Value) (x : Str) (u : Value) : Prop :=
  (env.kindOf x = some .local ∧ m x = some u) ∨ ((env.kindOf x = some .cell ∨ env.kindOf x = some .free) ∧ ∃ c, env.cells.lookup x = some c ∧ h.IsCell c (some u))
structure Cx.Ok (X : Cx) : Prop where
  mod : Mod X.K X.mg X.base
  kind : X.env.scope.kind = .function
  glob : X.env.globals = mainGlobals
  blt : X.env.builtins = builtinsNs
  above : X.s_0.heap.objs.size ≤ X.env.locals
  inj : ∀ x y c, X.env.cells.lookup x = some c → X.env.cells.lookup y = some c → x = y
  has : ∀ x, (X.env.kindOf x = some .cell ∨ X.env.kindOf x = some .free) → ∃ c, X.env.cells.lookup x = some c
  cab : ∀ x c, X.fn x = true → X.env.cells.lookup x = some c → X.s_0.heap.objs.size ≤ c
  hd : X.calm = true → X.A.handled = none
  frames : X.A.frames = some X.stack
  stk : X.stack = X.outer ∨ (X.stack = X.env :: X.outer ∧ X.env.frame = some X.env.locals)
  exf : ∀ b ∈ X.ex, b ≠ X.env.locals ∧ ∀ x c, X.env.cells.lookup x = some c → c ≠ b
  bs : ∀ b o, X.base.get? b = some o → X.s_0.heap.get? b = some o ∧ X.H_0 b = none
  bsz : X.base.objs.size ≤ X.s_0.heap.objs.size
  noex : ∀ b o, X.base.get? b = some o → b ∉ X.ex
  exfs : ∀ b ∈ X.ex, b ∉ X.fs
  funs : X.s_0.heap.FunFrames X.base X.outer
  frf : ∀ b ∈ X.fs, X.H_0 b = none
structure Inv (X : Cx) (pins : List (Addr × Obj)) (σ : List (Option V)) (H : Hp) (s : Shared) : Prop where
  ok : X.Ok
  os : s.os = X.s_0.os
  bare : AllBare s.gens
  base : Un X.fs X.ex X.H_0 H X.s_0.heap s.heap
  loc : ∃ m, s.heap.Ns X.env.locals m ∧ ∀ (i : Nat) (x : Str) (v : V), X.N[i]? = some x → σ[i]? = some (some v) → Vis X.env.scope x → ∃ u, RelV v u ∧ Look X.env s.heap m x u
  cell : ∀ x c, X.env.cells.lookup x = some c → ∃ v, s.heap.IsCell c v
  free : H X.env.locals = none
  freeC : ∀ x c, X.env.cells.lookup x = some c → H c = none
  pin : ∀ p ∈ X.pn ++ pins, s.heap.get? p.1 = some p.2 ∧ H p.1 = none ∧ p.1 ≠ X.env.locals ∧ p.1 ∉ X.fs ∧ ∀ v, p.2.data ≠ .cell v
  hok : HOk X.prog X.w H s.heap
  len : σ.length = X.N.length
section
variable {X : Cx} {pins : List (Addr × Obj)} {σ : List (Option V)} {H H' : Hp} {s : Shared} {h' : Heap}
theorem Cx.Ok.nofr (ok : X.Ok) {b : Addr} {o : Obj} (e : X.base.get? b = some o) : b ∉ X.fs := fun hb => by
  have := (ok.funs.mem hb).1
  rw [e] at this; cases this
theorem Inv.bs (I : Inv X pins σ H s) : ∀ b o, X.base.get? b = some o → s.heap.get? b = some o ∧ H b = none := fun b o e =>
  ⟨I.base.keep b o (I.ok.bs b o e).1 (I.ok.bs b o e).2 (I.ok.nofr e) (I.ok.noex b o e), I.base.free b o (I.ok.bs b o e).1 (I.ok.bs b o e).2 (I.ok.noex b o e)⟩
theorem Inv.bk (I : Inv X pins σ H s) : ∀ b o, X.base.get? b = some o → s.heap.get? b = some o := fun b o e => (I.bs b o e).1
theorem Inv.mod (I : Inv X pins σ H s) : Mod X.K X.mg X.base := I.ok.mod
theorem Inv.kIn (I : Inv X pins σ H s) : X.K.In s.heap := I.ok.mod.kin.keeps I.bk
theorem Inv.nolimit (I : Inv X pins σ H s) : s.heap.NoLimit := I.ok.mod.nolimit.keeps I.bk
/-- the frame over the base: for OpenK's rules (K.In X.base is I.mod.kin) -/
theorem Inv.fr (I : Inv X pins σ H s) : ∃ m, Fr X.base X.env.locals s.heap m :=
  let ⟨m, hn, _⟩ := I.loc
  ⟨m, hn, I.bk, Nat.le_trans I.ok.bsz I.ok.above⟩
theorem Inv.lt (I : Inv X pins σ H s) : X.env.locals < s.heap.objs.size := let ⟨_, hn, _⟩ := I.loc; hn.lt
theorem Inv.sz (I : Inv X pins σ H s) : X.s_0.heap.objs.size ≤ s.heap.objs.size := Nat.le_trans I.ok.above (Nat.le_of_lt I.lt)
theorem Inv.nofs (I : Inv X pins σ H s) {a : Addr} (h : s.heap.objs.size ≤ a) : a ∉ X.fs := fun hb => by
  obtain ⟨_, o, ho, _⟩ := I.ok.funs.mem hb
  exact absurd (Nat.lt_of_lt_of_le (Heap.lt_size ho) (Nat.le_trans I.sz h)) (Nat.lt_irrefl _)
theorem Inv.cne (I : Inv X pins σ H s) : ∀ x c, X.env.cells.lookup x = some c → c ≠ X.env.locals := fun x c e z => by
  obtain ⟨v, o, ho, hd⟩ := I.cell x c e
  obtain ⟨m, ⟨o', es, ep, ho', hd', _⟩, _⟩ := I.loc
  rw [z, ho'] at ho; cases ho; rw [hd'] at hd; cases hd
theorem Inv.funs (I : Inv X pins σ H s) : s.heap.FunFrames X.base X.outer := by
  have all : ∀ (l : List Env), (∀ b ∈ frs l, b ∈ X.fs) → X.s_0.heap.FunFrames X.base l → s.heap.FunFrames X.base l := by
    intro l
    induction l with
    | nil => intro _ _; trivial
    | cons env r ih =>
      intro hs hl
      obtain ⟨hk, ⟨L, o, hf, hn, ho, hd⟩, hr⟩ := hl
      have hL : L ∈ X.fs := hs L (by unfold frs; rw [List.filterMap_cons, hf]; exact List.mem_cons_self)
      obtain ⟨sl, e⟩ := I.base.slot L o ho (I.ok.frf L hL) hL fun z => I.ok.exfs L z hL
      exact ⟨hk, ⟨L, _, hf, hn, e, hd⟩, ih (fun b hb => hs b (by unfold frs; rw [List.filterMap_cons, hf]; exact List.mem_cons_of_mem _ hb)) hr⟩
  exact all X.outer (fun _ hb => hb) I.ok.funs
/-- the frames that run, for a call -/
theorem Inv.stack (I : Inv X pins σ H s) : s.heap.FunFrames X.base X.stack := by
  rcases I.ok.stk with e | ⟨e, hf⟩
  · rw [e]; exact I.funs
  · rw [e]
    obtain ⟨m, hn, _⟩ := I.loc
    refine .cons (by rw [I.ok.kind]; decide) hf hn ?_ I.funs
    exact Heap.get?_none_of_le (Nat.le_trans I.ok.bsz I.ok.above)
theorem Inv.stkSub (I : Inv X pins σ H s) : ∀ b ∈ frs X.stack, b ∈ X.env.locals :: X.fs := fun b hb => by
  rcases I.ok.stk with e | ⟨e, hf⟩
  · rw [e] at hb; exact List.mem_cons_of_mem _ hb
  · rw [e] at hb
    unfold frs at hb
    rw [List.filterMap_cons, hf] at hb
    exact hb
theorem Inv.stkFree (I : Inv X pins σ H s) : ∀ b ∈ frs X.stack, H b = none := fun b hb => by
  rcases List.mem_cons.mp (I.stkSub b hb) with e | hb
  · rw [e]; exact I.free
  · obtain ⟨_, o, ho, _⟩ := I.ok.funs.mem hb
    exact I.base.free b o ho (I.ok.frf b hb) fun z => I.ok.exfs b z hb
/-- THE STEP: the untracked objects but the frame and the records at ch are kept (the callers' frames up to slots), the frame's map is kept, the new abstract heap is held -/
theorem Inv.step {g' : Array GenState} {t' : Nat} {d' : Drawn} {ch : List Addr} (I : Inv X pins σ H s)
    (hch : ∀ b ∈ ch, (b ∈ X.ex ∨ X.s_0.heap.objs.size ≤ b) ∧ b ≠ X.env.locals ∧ (∀ x c, X.env.cells.lookup x = some c → c ≠ b) ∧ ∀ p ∈ X.pn ++ pins, p.1 ≠ b)
    (keep : ∀ b o, b ≠ X.env.locals → b ∉ X.fs → b ∉ ch → s.heap.get? b = some o → H b = none → h'.get? b = some o)
    (slot : ∀ b o, b ≠ X.env.locals → b ∈ X.fs → b ∉ ch → s.heap.get? b = some o → H b = none → ∃ sl, h'.get? b = some { o with slots := sl }) (free : ∀ b o, b ∉ ch → s.heap.get? b = some o → H b = none → H' b = none)
    (there : ∀ b o, b ∉ ch → s.heap.get? b = some o → ∃ o', h'.get? b = some o')
    (tups : ∀ b xs, H b = some (.tup xs) → H' b = some (.tup xs)) (frzs : ∀ b o u, H b = some (.frz o u) → H' b = some (.frz o u)) (tbls : ∀ b ps, H b = some (.tbl ps) → ∃ more, H' b = some (.tbl (ps ++ more)))
    (ns : ∀ m, s.heap.Ns X.env.locals m → h'.Ns X.env.locals m) (hok : HOk X.prog X.w H' h') (hg : AllBare g') :
    Inv X pins σ H' { s with heap := h', gens := g', drawn := d', toks := t' } := by
  have neL : ∀ b o, X.s_0.heap.get? b = some o → b ≠ X.env.locals := fun b o e => Nat.ne_of_lt (Nat.lt_of_lt_of_le (Heap.lt_size e) I.ok.above)
  have neC : ∀ b o, X.s_0.heap.get? b = some o → b ∉ X.ex → b ∉ ch := fun b o e hx hb => by
    rcases (hch b hb).1 with z | z
    · exact hx z
    · exact absurd (Nat.lt_of_lt_of_le (Heap.lt_size e) z) (Nat.lt_irrefl _)
  have cellK : ∀ x c, X.env.cells.lookup x = some c → ∀ v, s.heap.IsCell c v → h'.IsCell c v := fun x c e v ⟨o, ho, hd⟩ => by
    have nch : c ∉ ch := fun z => (hch c z).2.2.1 x c e rfl
    by_cases hc : c ∈ X.fs
    · obtain ⟨sl, q⟩ := slot c o (I.cne x c e) hc nch ho (I.freeC x c e)
      exact ⟨_, q, hd⟩
    · exact ⟨o, keep c o (I.cne x c e) hc nch ho (I.freeC x c e), hd⟩
  refine ⟨I.ok, I.os, hg, ⟨fun b o e n hb hx => ?_, fun b o e n hb hx => ?_, fun b o e n hx => ?_, fun b o e hx => ?_, fun b xs e => tups b xs (I.base.tups b xs e), fun b o xs e => frzs b o xs (I.base.frzs b o xs e), fun b ps e => ?_⟩, ?_, fun x c e => ?_, ?_, fun x c e => ?_, fun p hp => ?_, hok, I.len⟩
  · exact keep b o (neL b o e) hb (neC b o e hx) (I.base.keep b o e n hb hx) (I.base.free b o e n hx)
  · obtain ⟨sl, e1⟩ := I.base.slot b o e n hb hx
    obtain ⟨sl', e2⟩ := slot b _ (neL b o e) hb (neC b o e hx) e1 (I.base.free b o e n hx)
    exact ⟨sl', e2⟩
  · obtain ⟨o', e1⟩ := I.base.there b o e hx
    exact free b o' (neC b o e hx) e1 (I.base.free b o e n hx)
  · obtain ⟨o', e1⟩ := I.base.there b o e hx
    exact there b o' (neC b o e hx) e1
  · obtain ⟨m1, e1⟩ := I.base.tbls b ps e
    obtain ⟨m2, e2⟩ := tbls b _ e1
    exact ⟨m1 ++ m2, by rw [e2, Array.append_assoc]⟩
  · obtain ⟨m, hn, hl⟩ := I.loc
    refine ⟨m, ns m hn, fun i x v e1 e2 e3 => ?_⟩
    obtain ⟨u, r, l⟩ := hl i x v e1 e2 e3
    refine ⟨u, r, ?_⟩
    rcases l with l | ⟨k, c, e, z⟩
    · exact .inl l
    · exact .inr ⟨k, c, e, cellK x c e _ z⟩
  · obtain ⟨v, z⟩ := I.cell x c e
    exact ⟨v, cellK x c e v z⟩
  · obtain ⟨m, ⟨o, _, _, ho, _⟩, _⟩ := I.loc
    exact free _ o (fun z => (hch _ z).2.1 rfl) ho I.free
  · obtain ⟨v, o, ho, hd⟩ := I.cell x c e
    exact free c o (fun z => (hch c z).2.2.1 x c e rfl) ho (I.freeC x c e)
  · obtain ⟨e, n, ne, nf, d⟩ := I.pin p hp
    have nch : p.1 ∉ ch := fun z => (hch p.1 z).2.2.2 p hp rfl
    exact ⟨keep p.1 p.2 ne nf nch e n, free p.1 p.2 nch e n, ne, nf, d⟩
/-- .. where the frame's own object is kept too -/
theorem Inv.un {t' : Nat} (I : Inv X pins σ H s) (u : Un X.fs [] H H' s.heap h') (hok : HOk X.prog X.w H' h') : Inv X pins σ H' { s with heap := h', toks := t' } := by
  obtain ⟨m, ⟨o, es, ep, ho, r⟩, _⟩ := id I.loc
  obtain ⟨sl, hL⟩ := u.any ho I.free (by simp)
  exact I.step (g' := s.gens) (d' := s.drawn) (ch := []) (fun _ z => nomatch z) (fun b o _ hb _ e n => u.keep b o e n hb (by simp)) (fun b o _ hb _ e n => u.slot b o e n hb (by simp)) (fun b o _ e n => u.free b o e n (by simp)) (fun b o _ e => u.there b o e (by simp)) u.tups u.frzs u.tbls (fun m' hm => by
    obtain ⟨o', es', ep', ho', r'⟩ := hm
    rw [ho] at ho'; cases ho'
    exact ⟨_, es', ep', hL, r'⟩) hok I.bare
/-- behind a call (or a comprehension's block): the slots of this frame may have changed too, the records at ch may have turned -/
theorem Inv.call {g' : Array GenState} {t' : Nat} {d' : Drawn} {ch : List Addr} (I : Inv X pins σ H s) (u : Un (frs X.stack) ch H H' s.heap h') (hok : HOk X.prog X.w H' h') (hg : AllBare g')
    (hch : ∀ b ∈ ch, (b ∈ X.ex ∨ X.s_0.heap.objs.size ≤ b) ∧ b ≠ X.env.locals ∧ (∀ x c, X.env.cells.lookup x = some c → c ≠ b) ∧ ∀ p ∈ X.pn ++ pins, p.1 ≠ b) :
    Inv X pins σ H' { s with heap := h', gens := g', drawn := d', toks := t' } := by
  obtain ⟨m, ⟨o, es, ep, ho, r⟩, _⟩ := id I.loc
  obtain ⟨sl, hL⟩ := u.any ho I.free fun z => (hch _ z).2.1 rfl
  exact I.step (ch := ch) hch (fun b o hL hb hc e n => u.keep b o e n (fun z => (List.mem_cons.mp (I.stkSub b z)).elim hL hb) hc) (fun b o _ _ hc e n => u.any e n hc) (fun b o hc e n => u.free b o e n hc) (fun b o hc e => u.there b o e hc) u.tups u.frzs u.tbls (fun m' hm => by
    obtain ⟨o', es', ep', ho', r'⟩ := hm
    rw [ho] at ho'; cases ho'
    exact ⟨_, es', ep', hL, r'⟩) hok hg
/-- an untracked record of ours (an iterator) has turned -/
theorem Inv.turned {t' : Nat} {it : Addr} (I : Inv X pins σ H s) (k : ∀ b o, b ≠ it → s.heap.get? b = some o → h'.get? b = some o) (hn : H it = none) (hL : it ≠ X.env.locals)
    (h1 : it ∈ X.ex ∨ X.s_0.heap.objs.size ≤ it) (h2 : ∀ x c, X.env.cells.lookup x = some c → c ≠ it) (h3 : ∀ p ∈ X.pn ++ pins, p.1 ≠ it) : Inv X pins σ H { s with heap := h', toks := t' } := by
  have nit : ∀ b u, H b = some u → b ≠ it := fun b u e z => by rw [z, hn] at e; cases e
  refine I.step (g' := s.gens) (d' := s.drawn) (ch := [it]) (fun b hb => ?_) (fun b o _ _ hc e _ => k b o (fun z => hc (by simp [z])) e) (fun b o _ _ hc e _ => ⟨o.slots, k b o (fun z => hc (by simp [z])) e⟩) (fun _ _ _ _ n => n)
    (fun b o hc e => ⟨o, k b o (fun z => hc (by simp [z])) e⟩) (fun _ _ e => e) (fun _ _ _ e => e) (fun b ps e => ⟨#[], by rw [e]; simp⟩) (fun m hm => ?_) (fun b u e => ?_) I.bare
  · have e : b = it := by simpa using hb
    subst e
    exact ⟨h1, hL, h2, h3⟩
  · obtain ⟨o, es, ep, ho, r⟩ := hm
    exact ⟨o, es, ep, k _ o (Ne.symm hL) ho, r⟩
  · refine (I.hok b u e).stay (fun c v hc q => k c v ?_ q) (fun _ q => q) fun _ _ q => q
    rcases hc with z | z
    · rw [z]; exact nit b u e
    · exact nit c _ z
theorem Inv.tok (I : Inv X pins σ H s) (t : Nat) : Inv X pins σ H { s with toks := t } := I.un (h' := s.heap) (t' := t) Un.refl I.hok
/-- all objects kept -/
theorem Inv.kept {t' : Nat} (I : Inv X pins σ H s) (k : ∀ b u, s.heap.get? b = some u → h'.get? b = some u) : Inv X pins σ H { s with heap := h', toks := t' } := I.un (Un.kept k) (I.hok.kept k)
/-- a new object laid and tracked -/
theorem Inv.laid {a : Addr} {o : HO} {t' : Nat} (I : Inv X pins σ H s) (k : ∀ b u, s.heap.get? b = some u → h'.get? b = some u) (hp : s.heap.objs.size ≤ a) (new : ObjOk X.prog X.w (upd H a o) h' a o) :
    Inv X pins σ (upd H a o) { s with heap := h', toks := t' } := I.un (Un.laid k hp (I.hok.fresh hp)) (I.hok.laid k hp new)
/-- an object written -/
theorem Inv.write {x e : Addr} {o : HO} {t' : Nat} (I : Inv X pins σ H s) (mu : Mut (H x)) (he : e = x ∨ H e = some (.own x)) (k : ∀ b u, b ≠ e → s.heap.get? b = some u → h'.get? b = some u) (heo : ∃ u, h'.get? e = some u)
    (new : ObjOk X.prog X.w (upd H x o) h' x o) : Inv X pins σ (upd H x o) { s with heap := h', toks := t' } := I.un (Un.write mu he k heo) (I.hok.write mu he k heo new)
/-- forgetting slots, pins -/
theorem Inv.weak {σ' : List (Option V)} (I : Inv X pins σ H s) (hl : σ'.length = σ.length) (w : ∀ (i : Nat) v, σ'[i]? = some (some v) → σ[i]? = some (some v)) : Inv X pins σ' H s :=
  ⟨I.ok, I.os, I.bare, I.base, let ⟨m, hn, hl'⟩ := I.loc; ⟨m, hn, fun i x v e1 e2 e3 => hl' i x v e1 (w i v e2) e3⟩, I.cell, I.free, I.freeC, I.pin, I.hok, hl.trans I.len⟩
theorem Inv.pins_of {pins' : List (Addr × Obj)} (I : Inv X pins σ H s) (h : ∀ p ∈ pins', s.heap.get? p.1 = some p.2 ∧ H p.1 = none ∧ p.1 ≠ X.env.locals ∧ p.1 ∉ X.fs ∧ ∀ v, p.2.data ≠ .cell v) : Inv X pins' σ H s :=
  ⟨I.ok, I.os, I.bare, I.base, I.loc, I.cell, I.free, I.freeC, fun p hp => (List.mem_append.mp hp).elim (fun z => I.pin p (List.mem_append_left _ z)) (h p), I.hok, I.len⟩
theorem nodup_ix {N : List Str} (hN : N.Nodup) {i j : Nat} {x : Str} (a : N[i]? = some x) (b : N[j]? = some x) : i = j := by
  obtain ⟨h1, e1⟩ := List.getElem?_eq_some_iff.mp a
  obtain ⟨h2, e2⟩ := List.getElem?_eq_some_iff.mp b
  exact (List.getElem_inj hN).mp (e1.trans e2.symm)
/-- a name is stored; what changed -/
theorem store_ok2 {M : Model} {A : Around} {E : Value → Shared → Prop} {i : Nat} {x : Str} {v : V} {u : Value} {Q : Unit → Shared → Prop} (I : Inv X pins σ H s) (hN : X.N.Nodup) (hi : X.N[i]? = some x) (hx : Loc X.env.scope x) (r : RelV v u)
    (h : ∀ s', Inv X pins (σ.set i (some v)) H s' → (∃ a, Heap.SameBut a s.heap s'.heap ∧ (a = X.env.locals ∨ X.env.cells.lookup x = some a)) → Q () s') (hf : X.fn x = true ∨ X.env.scope.names.lookup x = some .local := by first | exact .inl rfl | exact .inr rfl | assumption) : wpAny M A (storeName X.env x u) Q E s := by
  obtain ⟨m, hn, hl⟩ := id I.loc
  have hcls : (X.env.scope.kind == .class || (X.env.scope.kind == .module && X.env.locals != X.env.globals)) = false := by rw [I.ok.kind]; rfl
  have hiσ : i < σ.length := by rw [I.len]; exact (List.getElem?_eq_some_iff.mp hi).1
  have cne := I.cne
  have tracked : ∀ {a : Addr} {h' : Heap}, (∃ o, s.heap.get? a = some o ∧ H a = none) → Heap.SameBut a s.heap h' → HOk X.prog X.w H h' := fun {a h'} ha hs b ob e => by
    obtain ⟨_, _, hfree⟩ := ha
    refine (I.hok b ob e).stay (fun c w' hc q => (hs.2 c ?_).trans q) (fun _ q => q) fun _ _ q => q
    rintro rfl
    rcases hc with rfl | hc
    · rw [hfree] at e; cases e
    · rw [hfree] at hc; cases hc
  rcases hx with hk | hk
  · refine wpAny_storeName_local hk hn (fun h' hn' hs => ?_) hcls
    obtain ⟨oL, _, _, hoL, _⟩ := id hn
    refine h _ ⟨I.ok, I.os, I.bare, ⟨fun b o e n hb hx => ?_, fun b o e n hb hx => ?_, I.base.free, fun b o e hx => ?_, I.base.tups, I.base.frzs, I.base.tbls⟩, ⟨_, hn', fun j y v' e1 e2 e3 => ?_⟩, fun y c e => ?_, I.free, I.freeC, fun p hp => ?_, tracked ⟨oL, hoL, I.free⟩ hs, by simpa using I.len⟩ ⟨_, hs, .inl rfl⟩
    · exact (hs.2 b (Nat.ne_of_lt (Nat.lt_of_lt_of_le (Heap.lt_size e) I.ok.above))).trans (I.base.keep b o e n hb hx)
    · obtain ⟨sl, e1⟩ := I.base.slot b o e n hb hx
      exact ⟨sl, (hs.2 b (Nat.ne_of_lt (Nat.lt_of_lt_of_le (Heap.lt_size e) I.ok.above))).trans e1⟩
    · obtain ⟨o', e1⟩ := I.base.there b o e hx
      exact ⟨o', (hs.2 b (Nat.ne_of_lt (Nat.lt_of_lt_of_le (Heap.lt_size e) I.ok.above))).trans e1⟩
    · by_cases hj : j = i
      · subst hj
        rw [hi] at e1; cases e1
        rw [List.getElem?_set_self hiσ] at e2
        cases e2
        exact ⟨u, r, .inl ⟨hk, by simp⟩⟩
      · rw [List.getElem?_set_ne (Ne.symm hj)] at e2
        obtain ⟨u', r', q⟩ := hl j y v' e1 e2 e3
        refine ⟨u', r', ?_⟩
        rcases q with ⟨k, e⟩ | ⟨k, c, e, z⟩
        · refine .inl ⟨k, ?_⟩
          have : y ≠ x := fun e => hj (nodup_ix hN e1 (e ▸ hi))
          simp [this, e]
        · exact .inr ⟨k, c, e, z.sameBut hs (cne y c e)⟩
    · obtain ⟨w', z⟩ := I.cell y c e
      exact ⟨w', z.sameBut hs (cne y c e)⟩
    · obtain ⟨e, n, ne, nf, d⟩ := I.pin p hp
      exact ⟨(hs.2 p.1 ne).trans e, n, ne, nf, d⟩
  · have hfn : X.fn x = true := by
      rcases hf with z | z
      · exact z
      · rw [z] at hk; cases hk
    obtain ⟨c, hc⟩ := I.ok.has x (.inl hk)
    obtain ⟨w', z⟩ := I.cell x c hc
    refine wpAny_storeName_cell I.ok.kind hk hc z (fun h' hc' hs => ?_)
    obtain ⟨oc, hoc, hocd⟩ := id z
    refine h { s with heap := h' } ⟨I.ok, I.os, I.bare, ⟨fun b o e n hb hx => ?_, fun b o e n hb hx => ?_, I.base.free, fun b o e hx => ?_, I.base.tups, I.base.frzs, I.base.tbls⟩, ⟨m, hn.sameBut hs (Ne.symm (cne x c hc)), fun j y v' e1 e2 e3 => ?_⟩, fun y c' e => ?_, I.free, I.freeC, fun p hp => ?_, tracked ⟨oc, hoc, I.freeC x c hc⟩ hs, by simpa using I.len⟩ ⟨c, hs, .inr hc⟩
    · exact (hs.2 b (Nat.ne_of_lt (Nat.lt_of_lt_of_le (Heap.lt_size e) (I.ok.cab x c hfn hc)))).trans (I.base.keep b o e n hb hx)
    · obtain ⟨sl, e1⟩ := I.base.slot b o e n hb hx
      exact ⟨sl, (hs.2 b (Nat.ne_of_lt (Nat.lt_of_lt_of_le (Heap.lt_size e) (I.ok.cab x c hfn hc)))).trans e1⟩
    · obtain ⟨o', e1⟩ := I.base.there b o e hx
      exact ⟨o', (hs.2 b (Nat.ne_of_lt (Nat.lt_of_lt_of_le (Heap.lt_size e) (I.ok.cab x c hfn hc)))).trans e1⟩
    · by_cases hj : j = i
      · subst hj
        rw [hi] at e1; cases e1
        rw [List.getElem?_set_self hiσ] at e2
        cases e2
        exact ⟨u, r, .inr ⟨.inl hk, c, hc, hc'⟩⟩
      · rw [List.getElem?_set_ne (Ne.symm hj)] at e2
        obtain ⟨u', r', q⟩ := hl j y v' e1 e2 e3
        refine ⟨u', r', ?_⟩
        rcases q with q | ⟨k, c', e, z'⟩
        · exact .inl q
        · refine .inr ⟨k, c', e, z'.sameBut hs ?_⟩
          rintro rfl
          exact hj (nodup_ix hN e1 (I.ok.inj _ _ _ e hc ▸ hi))
    · by_cases hcc : c' = c
      · subst hcc; exact ⟨_, hc'⟩
      · obtain ⟨w2, z2⟩ := I.cell y c' e
        exact ⟨w2, z2.sameBut hs hcc⟩
    · obtain ⟨e, n, ne, nf, d⟩ := I.pin p hp
      refine ⟨(hs.2 p.1 ?_).trans e, n, ne, nf, d⟩
      intro q
      rw [q, hoc] at e
      have q' : oc = p.2 := Option.some.inj e
      exact d w' (by rw [← q']; exact hocd)
theorem store_ok {M : Model} {A : Around} {E : Value → Shared → Prop} {i : Nat} {x : Str} {v : V} {u : Value} {Q : Unit → Shared → Prop} (I : Inv X pins σ H s) (hN : X.N.Nodup) (hi : X.N[i]? = some x) (hx : Loc X.env.scope x) (r : RelV v u)
    (h : ∀ s', Inv X pins (σ.set i (some v)) H s' → Q () s') (hf : X.fn x = true ∨ X.env.scope.names.lookup x = some .local := by first | exact .inl rfl | exact .inr rfl | assumption) : wpAny M A (storeName X.env x u) Q E s :=
  store_ok2 I hN hi hx r (fun s' I' _ => h s' I') hf
/-- behind a call or a block, the state as it is -/
theorem Inv.call' {s' : Shared} {ch : List Addr} (I : Inv X pins σ H s) (ho : s'.os = s.os) (u : Un (frs X.stack) ch H H' s.heap s'.heap) (hok : HOk X.prog X.w H' s'.heap) (hg : AllBare s'.gens)
    (hch : ∀ b ∈ ch, (b ∈ X.ex ∨ X.s_0.heap.objs.size ≤ b) ∧ b ≠ X.env.locals ∧ (∀ x c, X.env.cells.lookup x = some c → c ≠ b) ∧ ∀ p ∈ X.pn ++ pins, p.1 ≠ b) : Inv X pins σ H' s' := by
  obtain ⟨h', g', d', t', o'⟩ := s'
  have e : o' = s.os := ho
  subst e
  exact I.call (g' := g') (t' := t') (d' := d') u hok hg hch
end
/-- an exception: its class, its own dict's address (where it has one), the abstract heap behind it -/
abbrev XK := Value → Option Addr → Hp → Prop
abbrev St := List (Option V)
abbrev VK := V → Hp → Prop
/-- an expression's reading; a test's; an argument list's -/
abbrev TE := St → Hp → VK → Prop
abbrev TT := St → Hp → (Bool → Hp → Prop) → Prop
abbrev TA := St → Hp → (List V → Hp → Prop) → Prop
/-- what is wanted behind a statement -/
structure Ends where
  nx : St → Hp → Prop
  rt : VK
  bk : St → Hp → Prop := fun _ _ => False
  ct : St → Hp → Prop := fun _ _ => False
abbrev TS := Ends → St → Hp → Prop
def EP (X : Cx) (pins : List (Addr × Obj)) (σ : St) (Q : VK) (u : Value) (s' : Shared) : Prop := ∃ v H', Inv X pins σ H' s' ∧ RelV v u ∧ Q v H'
def TP (X : Cx) (pins : List (Addr × Obj)) (σ : St) (Q : Bool → Hp → Prop) (b : Bool) (s' : Shared) : Prop := ∃ H', Inv X pins σ H' s' ∧ Q b H'
def AP (X : Cx) (pins : List (Addr × Obj)) (σ : St) (Q : List V → Hp → Prop) (us : List Value) (s' : Shared) : Prop := ∃ vs H', Inv X pins σ H' s' ∧ Vals vs us ∧ Q vs H'
def SP (X : Cx) (pins : List (Addr × Obj)) (D : Ends) (f : Flow) (s' : Shared) : Prop :=
  match f with
  | .next => ∃ σ' H', Inv X pins σ' H' s' ∧ D.nx σ' H'
  | .brk => ∃ σ' H', Inv X pins σ' H' s' ∧ D.bk σ' H'
  | .cont => ∃ σ' H', Inv X pins σ' H' s' ∧ D.ct σ' H'
  | .ret u => ∃ v σ' H', Inv X pins σ' H' s' ∧ RelV v u ∧ D.rt v H'
def PE (X : Cx) (e : Expr) (t : TE) : Prop :=
  ∀ (pins : List (Addr × Obj)) (s : Shared) (σ : St) (H : Hp) (Q : VK), Inv X pins σ H s → t σ H Q → wpAny (model X.prog X.w) X.A (eval e X.env) (EP X pins σ Q) X.xe s
def PT (X : Cx) (e : Expr) (t : TT) : Prop :=
  ∀ (pins : List (Addr × Obj)) (s : Shared) (σ : St) (H : Hp) (Q : Bool → Hp → Prop), Inv X pins σ H s → t σ H Q → wpAny (model X.prog X.w) X.A (isTrue e X.env (eval e X.env)) (TP X pins σ Q) X.xe s
/-- a test whatever its 'whole' is (and, or) -/
def PW (X : Cx) (e : Expr) (t : TT) : Prop :=
  ∀ (whole : Sem Value) (pins : List (Addr × Obj)) (s : Shared) (σ : St) (H : Hp) (Q : Bool → Hp → Prop), Inv X pins σ H s → t σ H Q → wpAny (model X.prog X.w) X.A (isTrue e X.env whole) (TP X pins σ Q) X.xe s
theorem PW.pt {X : Cx} {e : Expr} {t : TT} (h : PW X e t) : PT X e t := h _
/-- an argument list (no star), from the left -/
def PA (X : Cx) (es : List Expr) (t : TA) : Prop :=
  ∀ (pos : Pos) (pins : List (Addr × Obj)) (s : Shared) (σ : St) (H : Hp) (Q : List V → Hp → Prop), Inv X pins σ H s → t σ H Q → wpAny (model X.prog X.w) X.A (spliced (backTo pos (starEach es X.env))) (AP X pins σ Q) X.xe s
def PS (X : Cx) (st : Stmt) (t : TS) : Prop :=
  ∀ (pins : List (Addr × Obj)) (s : Shared) (σ : St) (H : Hp) (D : Ends), Inv X pins σ H s → t D σ H → wpAny (model X.prog X.w) X.A (exec st X.env) (SP X pins D) X.xe s
def PSs (X : Cx) (st : List Stmt) (t : TS) : Prop :=
  ∀ (pins : List (Addr × Obj)) (s : Shared) (σ : St) (H : Hp) (D : Ends), Inv X pins σ H s → t D σ H → wpAny (model X.prog X.w) X.A (execs st X.env) (SP X pins D) X.xe s
/-- weaken the end -/
theorem thn {α : Type} {t : Sem α} {Q Q' : α → Shared → Prop} {M : Model} {A : Around} {E : Value → Shared → Prop} {s : Shared} (h : wpAny M A t Q E s) (hQ : ∀ a s, Q a s → Q' a s) : wpAny M A t Q' E s := wpAny_mono h hQ fun _ _ x => x
end L2
namespace L2
open PySem PySem.Spec PyProof.Rows
section
variable {X : Cx}
def tVar (i : Nat) : TE := fun σ H Q => ∃ v, σ[i]? = some (some v) ∧ Q v H
def tC (v : V) : TE := fun _ H Q => Q v H
theorem pe_var {i : Nat} {x : Str} {pos : Pos} (hN : X.N[i]? = some x) (hv : Vis X.env.scope x) (hd : (x == ("__debug__" : Str)) = false := by decide) (hcd : (x == ("__classdict__" : Str)) = false := by decide) : PE X (.Name x pos) (tVar i) := by
  intro pins s σ H Q I h
  obtain ⟨v, e, h⟩ := h
  obtain ⟨m, hn, hl⟩ := I.loc
  obtain ⟨u, r, l⟩ := hl i x v hN e hv
  have fin : EP X pins σ Q u s := ⟨v, H, I, r, h⟩
  rcases l with ⟨hk, hm⟩ | ⟨hk, c, hc, hcell⟩
  · exact wpAny_Name (wpAny_loadName_local I.ok.kind hk hn hm fin) hd
  · rcases hk with hk | hk
    · exact wpAny_Name (wpAny_loadName_cell I.ok.kind hk hc hcell fin) hd
    · exact wpAny_Name (wpAny_loadName_free I.ok.kind hk hc hcell fin hcd) hd
theorem pe_int {i j pos} : PE X (.Constant (.int i) j pos) (tC (.int i)) := fun _ _ _ H _ I h => wpAny_Constant_int ⟨.int i, H, I.tok _, ⟨_, rfl⟩, h⟩
theorem pe_non {j pos} : PE X (.Constant .none j pos) (tC .non) := fun _ _ _ H _ I h => Constant_none ⟨.non, H, I, rfl, h⟩
/-- a global name of the def -/
def Gl (X : Cx) (x : Str) : Prop := X.env.kindOf x = some .globalImplicit
theorem ld_glob {E : Value → Shared → Prop} {pins : List (Addr × Obj)} {s : Shared} {σ : St} {H : Hp} {x : Str} {u : Value} {pos : Pos} {Q : Value → Shared → Prop} (I : Inv X pins σ H s) (hg : Gl X x) (hm : X.mg x = some u) (h : Q u s)
    (hd : (x == ("__debug__" : Str)) = false := by decide) : wpAny (model X.prog X.w) X.A (eval (.Name x pos) X.env) Q E s :=
  Calls.Name_function_global I.ok.kind hg (Calls.loadGlobal_global (by rw [I.ok.glob]; exact I.mod.glob.keeps I.bk) hm h) hd
theorem ld_blt {E : Value → Shared → Prop} {pins : List (Addr × Obj)} {s : Shared} {σ : St} {H : Hp} {x : Str} {u : Value} {pos : Pos} {Q : Value → Shared → Prop} (I : Inv X pins σ H s) (hg : Gl X x) (hm : X.mg x = none) (hv : bootBuiltins x = some u) (h : Q u s)
    (hn : x ≠ "__name__" := by decide) (hd : (x == ("__debug__" : Str)) = false := by decide) : wpAny (model X.prog X.w) X.A (eval (.Name x pos) X.env) Q E s := by
  obtain ⟨mb, h1, h2⟩ := I.mod.blt
  exact Calls.Name_function_global I.ok.kind hg (Calls.loadGlobal_builtin (by rw [I.ok.glob]; exact I.mod.glob.keeps I.bk) hm (by rw [I.ok.blt]; exact h1.keeps I.bk) ((h2 x hn).trans hv) h) hd
/-- a module's constant, a class, a function, as a value -/
theorem pe_glob {x : Str} {v : V} {u : Value} {pos : Pos} (hg : Gl X x) (hm : X.mg x = some u) (r : RelV v u) (hd : (x == ("__debug__" : Str)) = false := by decide) : PE X (.Name x pos) (tC v) :=
  fun _ _ _ H _ I h => ld_glob I hg hm ⟨v, H, I, r, h⟩ hd
variable {a b : Expr} {ta tb : TE} {pos : Pos}
def PC (X : Cx) (op : CmpOp) (a b : Expr) (t : TE) : Prop :=
  ∀ (pins : List (Addr × Obj)) (s : Shared) (σ : St) (H : Hp) (Q : VK), Inv X pins σ H s → t σ H Q →
    wpAny (model X.prog X.w) X.A (eval a X.env) (fun v s₁ => wpAny (model X.prog X.w) X.A (eval b X.env) (fun u s₂ => wpAny (model X.prog X.w) X.A (compareOp op v u) (EP X pins σ Q) X.xe s₂) X.xe s₁) X.xe s
theorem nobehind (b : Expr) {op : CmpOp} (h : op ≠ .In) (h2 : op ≠ .NotIn) : behindInMarks op b = false := by
  have e1 : (op == CmpOp.In) = false := by cases op <;> first | rfl | exact absurd rfl h
  have e2 : (op == CmpOp.NotIn) = false := by cases op <;> first | rfl | exact absurd rfl h2
  cases b <;> simp [behindInMarks, e1, e2]
/-- a comparison as a value, as a test -/
def tB (t : TE) : TT := fun σ H Q => t σ H fun x H1 => ∃ c, x = .bl c ∧ Q c H1
theorem pt_cmp {op : CmpOp} {t : TE} (h : PC X op a b t) (h1 : behindInMarks op b = false := by first | exact nobehind _ (by decide) (by decide) | rfl) : PT X (.Compare a [op] [b] pos) (tB t) := by
  intro pins s σ H Q I hw
  refine wpAny_isTrue_Compare1 (thn (h pins s σ H _ I hw) fun v s1 h1 => thn h1 fun u s2 h2 => thn h2 fun c s3 ⟨x, H1, I1, r1, q1⟩ => ?_) h1
  obtain ⟨d, rfl, q⟩ := q1
  cases r1
  exact wpAny_truthy_bool ⟨H1, I1, q⟩
/-- an expression whose value is a bool, as a test -/
theorem pt_val {e : Expr} {t : TE} (h : PE X e t) (he : ∀ whole, isTrue e X.env whole = (do let v ← whole; standAt e.pos; holding [v] (truthy v)) := by intro _; rfl) : PT X e (tB t) := by
  intro pins s σ H Q I hw
  refine isTrue_plain (thn (h pins s σ H _ I hw) fun v s1 ⟨x, H1, I1, r1, q1⟩ => ?_) (he _)
  obtain ⟨d, rfl, q⟩ := q1
  cases r1
  exact wpAny_truthy_bool ⟨H1, I1, q⟩
variable {tA tB' : TT} {rest : List Expr}
def tAnd (t u : TT) : TT := fun σ H Q => t σ H fun c H1 => if c = true then u σ H1 Q else Q false H1
def tOr (t u : TT) : TT := fun σ H Q => t σ H fun c H1 => if c = true then Q true H1 else u σ H1 Q
def tNot (t : TT) : TT := fun σ H Q => t σ H fun c H1 => Q (!c) H1
theorem pw_and1 (ha : PT X a tA) : PW X (.BoolOp .And [a] pos) tA := by
  intro wh pins s σ H Q I h
  refine isTrue_and (thn (ha pins s σ H Q I h) fun c s1 e => ?_)
  cases c with
  | true => exact isTrue_and_nil e
  | false => exact e
theorem pw_or1 (ha : PT X a tA) : PW X (.BoolOp .Or [a] pos) tA := by
  intro wh pins s σ H Q I h
  refine isTrue_or (thn (ha pins s σ H Q I h) fun c s1 e => ?_)
  cases c with
  | false => exact isTrue_or_nil e
  | true => exact e
theorem pw_and (ha : PT X a tA) (hb : PW X (.BoolOp .And (b :: rest) pos) tB') : PW X (.BoolOp .And (a :: b :: rest) pos) (tAnd tA tB') := by
  intro wh pins s σ H Q I h
  refine isTrue_and (thn (ha pins s σ H _ I h) fun c s1 ⟨H1, I1, q1⟩ => ?_)
  cases c with
  | true => exact hb wh pins s1 σ H1 Q I1 q1
  | false => exact ⟨H1, I1, q1⟩
theorem pw_or (ha : PT X a tA) (hb : PW X (.BoolOp .Or (b :: rest) pos) tB') : PW X (.BoolOp .Or (a :: b :: rest) pos) (tOr tA tB') := by
  intro wh pins s σ H Q I h
  refine isTrue_or (thn (ha pins s σ H _ I h) fun c s1 ⟨H1, I1, q1⟩ => ?_)
  cases c with
  | true => exact ⟨H1, I1, q1⟩
  | false => exact hb wh pins s1 σ H1 Q I1 q1
theorem pt_not (ha : PT X a tA) : PT X (.UnaryOp .Not a pos) (tNot tA) := by
  intro pins s σ H Q I h
  exact isTrue_not (ha pins s σ H (fun c H1 => Q (!c) H1) I h)
/-- a if t else b -/
def tIf (t : TT) (ta tb : TE) : TE := fun σ H Q => t σ H fun c H1 => if c = true then ta σ H1 Q else tb σ H1 Q
theorem pe_ifExp {c : Expr} (hc : PT X c tA) (ha : PE X a ta) (hb : PE X b tb) : PE X (.IfExp c a b pos) (tIf tA ta tb) := by
  intro pins s σ H Q I h
  refine wpAny_IfExp (thn (hc pins s σ H _ I h) fun d s1 ⟨H1, I1, q1⟩ => ?_)
  cases d with
  | true => exact ha pins s1 σ H1 Q I1 q1
  | false => exact hb pins s1 σ H1 Q I1 q1
end
end L2
namespace L2
open PySem PySem.Spec PyProof.Rows
def SqL (K : PySem.W.Frag) (H : Hp) (a : Addr) (xs : List V) : Prop :=
  Rd H a (.lst xs) ∨
    ∃ (o : Obj) (its : Array Value) (n : Nat), K.lookup a = some o ∧ o.cls = .type "list" ∧ o.dict = none ∧ o.data = .seq its n ∧ its.size ≤ sizeLine ∧ Vals xs its.toList
def SqT (K : PySem.W.Frag) (H : Hp) (a : Addr) (xs : List V) : Prop :=
  Rd H a (.tup xs) ∨
    ∃ (o : Obj) (its : Array Value) (n : Nat), K.lookup a = some o ∧ o.cls = .type "tuple" ∧ o.data = .seq its n ∧ its.size ≤ sizeLine ∧ Vals xs its.toList
def absV : Value → Option V
  | .none => some .non
  | .bool b => some (.bl b)
  | .int i _ => some (.int i)
  | .str x _ => some (.str x)
  | .bytes b _ => some (.byt b)
  | .float b _ => some (.flt b)
  | .ref a => some (.ref a)
  | .type n => some (.ty n)
  | _ => none
theorem RelV.abs {x : V} {u : Value} (r : RelV x u) : absV u = some x := by
  cases x with
  | non => cases r; rfl
  | bl _ => cases r; rfl
  | int _ => obtain ⟨t, rfl⟩ := r; rfl
  | str _ => obtain ⟨t, rfl⟩ := r; rfl
  | byt _ => obtain ⟨t, rfl⟩ := r; rfl
  | flt _ => obtain ⟨t, rfl⟩ := r; rfl
  | ref _ => cases r; rfl
  | ty _ => cases r; rfl
theorem RelV.inj {x y : V} {u : Value} (r : RelV x u) (q : RelV y u) : x = y := Option.some.inj (r.abs.symm.trans q.abs)
theorem Vals.inj : ∀ {xs ys : List V} {us : List Value}, Vals xs us → Vals ys us → xs = ys
  | _, _, _, .nil, .nil => rfl
  | _, _, _, .cons r t, .cons r' t' => by rw [r.inj r', Vals.inj t t']
section
variable {X : Cx} {pins : List (Addr × Obj)} {σ : St} {H : Hp} {s : Shared} {a : Addr} {xs ys : List V}
theorem SqL.of {K : PySem.W.Frag} (h : H a = some (.lst xs)) : SqL K H a xs := .inl (.inl h)
theorem SqT.of {K : PySem.W.Frag} (h : H a = some (.tup xs)) : SqT K H a xs := .inl (.inl h)
theorem Inv.list (I : Inv X pins σ H s) (h : SqL X.K H a xs) : ∃ its : List Value, Vals xs its ∧ PlainL s.heap a its.toArray ∧ xs.length ≤ sizeLine := by
  rcases h with h | ⟨o, its, n, hk, hc, hd, hs, hz, r⟩
  · obtain ⟨z, its, n, r, e⟩ := h.ok I.hok
    exact ⟨its, r, ⟨_, n, e, rfl, rfl, rfl⟩, z⟩
  · refine ⟨its.toList, r, ⟨o, n, I.kIn a o hk, hc, hd, by simpa using hs⟩, ?_⟩
    have e := r.length
    simp only [Array.length_toList] at e
    omega
theorem Inv.tuple (I : Inv X pins σ H s) (h : SqT X.K H a xs) : ∃ its : List Value, Vals xs its ∧ IsTup s.heap a its.toArray ∧ xs.length ≤ sizeLine := by
  rcases h with h | ⟨o, its, n, hk, hc, hs, hz, r⟩
  · obtain ⟨z, its, r, p⟩ := h.ok I.hok
    exact ⟨its, r, p, z⟩
  · refine ⟨its.toList, r, ⟨o, I.kIn a o hk, hc, n, by simpa using hs⟩, ?_⟩
    have e := r.length
    simp only [Array.length_toList] at e
    omega
theorem Inv.list_inj (I : Inv X pins σ H s) (h : SqL X.K H a xs) (h' : SqL X.K H a ys) : xs = ys := by
  obtain ⟨its, r, ⟨o, n, e, _, _, d⟩, _⟩ := I.list h
  obtain ⟨its', r', ⟨o', n', e', _, _, d'⟩, _⟩ := I.list h'
  rw [e] at e'; cases e'
  rw [d] at d'
  injection d' with d1 _
  have : its = its' := by simpa using congrArg Array.toList d1
  subst this
  exact r.inj r'
end
abbrev Cx.wish (X : Cx) (E : Value → Shared → Prop) : Cx := { X with xe := E }
/-- no exception leaves -/
abbrev Cx.nox (X : Cx) : Cx := X.wish fun _ _ => False
theorem Cx.Ok.wish {X : Cx} (ok : X.Ok) (E : Value → Shared → Prop) : (X.wish E).Ok :=
  ⟨ok.mod, ok.kind, ok.glob, ok.blt, ok.above, ok.inj, ok.has, ok.cab, ok.hd, ok.frames, ok.stk, ok.exf, ok.bs, ok.bsz, ok.noex, ok.exfs, ok.funs, ok.frf⟩
theorem Cx.Ok.unwish {X : Cx} {E : Value → Shared → Prop} (ok : (X.wish E).Ok) : X.Ok :=
  ⟨ok.mod, ok.kind, ok.glob, ok.blt, ok.above, ok.inj, ok.has, ok.cab, ok.hd, ok.frames, ok.stk, ok.exf, ok.bs, ok.bsz, ok.noex, ok.exfs, ok.funs, ok.frf⟩
section
variable {X : Cx} {pins : List (Addr × Obj)} {σ : St} {H : Hp} {s : Shared} {E : Value → Shared → Prop}
theorem Inv.wish (I : Inv X pins σ H s) (E : Value → Shared → Prop) : Inv (X.wish E) pins σ H s := ⟨I.ok.wish E, I.os, I.bare, I.base, I.loc, I.cell, I.free, I.freeC, I.pin, I.hok, I.len⟩
theorem Inv.unwish (I : Inv (X.wish E) pins σ H s) : Inv X pins σ H s := ⟨I.ok.unwish, I.os, I.bare, I.base, I.loc, I.cell, I.free, I.freeC, I.pin, I.hok, I.len⟩
theorem SP.unwish {D : Ends} {f : Flow} {s' : Shared} (h : SP (X.wish E) pins D f s') : SP X pins D f s' := by
  cases f with
  | next => obtain ⟨σ', H', I, q⟩ := h; exact ⟨σ', H', I.unwish, q⟩
  | brk => obtain ⟨σ', H', I, q⟩ := h; exact ⟨σ', H', I.unwish, q⟩
  | cont => obtain ⟨σ', H', I, q⟩ := h; exact ⟨σ', H', I.unwish, q⟩
  | ret u => obtain ⟨v, σ', H', I, r, q⟩ := h; exact ⟨v, σ', H', I.unwish, r, q⟩
theorem PE.nox {e : Expr} {t : TE} (h : PE X.nox e t) : PE X e t := fun pins s σ H Q I hw =>
  wpAny_mono (h pins s σ H Q (I.wish _) hw) (fun _ _ ⟨v, H', I', r, q⟩ => ⟨v, H', I'.unwish, r, q⟩) fun _ _ z => False.elim z
theorem PT.nox {e : Expr} {t : TT} (h : PT X.nox e t) : PT X e t := fun pins s σ H Q I hw =>
  wpAny_mono (h pins s σ H Q (I.wish _) hw) (fun _ _ ⟨H', I', q⟩ => ⟨H', I'.unwish, q⟩) fun _ _ z => False.elim z
theorem PSs.nox {st : List Stmt} {t : TS} (h : PSs X.nox st t) : PSs X st t := fun pins s σ H D I hw =>
  wpAny_mono (h pins s σ H D (I.wish _) hw) (fun _ _ q => q.unwish) fun _ _ z => False.elim z
end
section
variable {X : Cx} {st : Stmt} {rest : List Stmt} {t u : TS} {e : Expr} {te : TE} {pos : Pos}
def tNext : TS := fun D σ H => D.nx σ H
def tSeq (t u : TS) : TS := fun D σ H => t { D with nx := u D } σ H
theorem pss_nil : PSs X [] tNext := fun _ _ σ H _ I h => wpAny_execs_nil ⟨σ, H, I, h⟩
theorem pss_cons (h1 : PS X st t) (h2 : PSs X rest u) : PSs X (st :: rest) (tSeq t u) := by
  intro pins s σ H D I h
  refine wpAny_execs_cons (thn (h1 pins s σ H { D with nx := u D } I h) fun f s1 q => ?_)
  cases f with
  | next =>
    obtain ⟨σ', H', I', q⟩ := q
    exact h2 pins s1 σ' H' D I' q
  | ret v => exact q
  | brk => exact q
  | cont => exact q
theorem pss_one (h1 : PS X st t) : PSs X [st] t := by
  intro pins s σ H D I h
  refine wpAny_execs_cons (thn (h1 pins s σ H D I h) fun f s1 q => ?_)
  cases f with
  | next => exact wpAny_execs_nil q
  | ret v => exact q
  | brk => exact q
  | cont => exact q
/-- in a def's body nothing is shown -/
theorem Inv.quiet {pins : List (Addr × Obj)} {σ : St} {H : Hp} {s : Shared} (I : Inv X pins σ H s) : interactive X.env = false := by simp [interactive, I.ok.kind]
/-- an expression whose value is dropped -/
def tDrop (te : TE) : TS := fun D σ H => te σ H fun _ H1 => D.nx σ H1
theorem ps_expr (he : PE X e te) (hs : swapsWith e none pos.line X.env = pure false := by rfl) : PS X (.Expr e pos) (tDrop te) := by
  intro pins s σ H D I h
  exact wpAny_Expr_any (thn (he pins s σ H _ I h) fun v s1 ⟨x, H1, I1, r1, q1⟩ => ⟨σ, H1, I1, q1⟩) I.quiet hs
def tRet (te : TE) : TS := fun D σ H => te σ H D.rt
theorem ps_ret (he : PE X e te) : PS X (.Return (some e) pos) (tRet te) := by
  intro pins s σ H D I h
  exact wpAny_Return_some (thn (he pins s σ H _ I h) fun v s1 ⟨x, H1, I1, r1, q1⟩ => ⟨x, σ, H1, I1, r1, q1⟩)
def tIfS (c : TT) (t u : TS) : TS := fun D σ H => c σ H fun b H1 => if b = true then t D σ H1 else u D σ H1
theorem ps_if {c : Expr} {a b : List Stmt} {tc : TT} (hc : PT X c tc) (ha : PSs X a t) (hb : PSs X b u) : PS X (.If c a b pos) (tIfS tc t u) := by
  intro pins s σ H D I h
  refine wpAny_If (thn (hc pins s σ H _ I h) fun d s1 ⟨H1, I1, q1⟩ => ?_)
  cases d with
  | true => exact ha pins s1 σ H1 D I1 q1
  | false => exact hb pins s1 σ H1 D I1 q1
/-- code that the proof never comes to -/
def tNever : TS := fun _ _ _ => False
theorem pss_never {sts : List Stmt} : PSs X sts tNever := fun _ _ _ _ _ _ h => h.elim
end
abbrev TG := V → St → Hp → (St → Hp → Prop) → Prop
def PG (X : Cx) (target : Expr) (t : TG) : Prop :=
  ∀ (pins : List (Addr × Obj)) (s : Shared) (σ : St) (H : Hp) (v : V) (u : Value) (Q : St → Hp → Prop), Inv X pins σ H s → RelV v u → t v σ H Q →
    wpAny (model X.prog X.w) X.A (assign target X.env u) (fun _ s' => ∃ σ' H', Inv X pins σ' H' s' ∧ Q σ' H') X.xe s
/-- o[i] = v, by values -/
abbrev TSet := V → V → V → Hp → (Hp → Prop) → Prop
def PSet (X : Cx) (t : TSet) : Prop :=
  ∀ (pins : List (Addr × Obj)) (s : Shared) (σ : St) (H : Hp) (o i v : V) (ov iv u : Value) (Q : Hp → Prop), Inv X pins σ H s → RelV o ov → RelV i iv → RelV v u → t o i v H Q →
    wpAny (model X.prog X.w) X.A (setItem ov iv u) (fun _ s' => ∃ H', Inv X pins σ H' s' ∧ Q H') X.xe s
section
variable {X : Cx} {pos : Pos}
def gName (i : Nat) : TG := fun v σ H Q => Q (σ.set i (some v)) H
theorem pg_name {i : Nat} {x : Str} (hN : X.N.Nodup) (hi : X.N[i]? = some x) (hx : Loc X.env.scope x) (hf : X.fn x = true ∨ X.env.scope.names.lookup x = some .local := by first | exact .inl rfl | exact .inr rfl | assumption) : PG X (.Name x pos) (gName i) := by
  intro pins s σ H v u Q I r h
  exact wpAny_assign_Name (store_ok I hN hi hx r (fun s' I' => ⟨_, H, I', h⟩) hf)
/-- o[i] = .. -/
def gSub (to ti : TE) (t : TSet) : TG := fun v σ H Q => to σ H fun o H1 => ti σ H1 fun i H2 => t o i v H2 fun H3 => Q σ H3
theorem pg_sub {o i : Expr} {to ti : TE} {t : TSet} (ho : PE X o to) (hi : PE X i ti) (hs : PSet X t)
    (ha : ∀ v, assign (.Subscript o i pos) X.env v = (do
      let ov ← holding [v] (eval o X.env)
      let iv ← holding [v, ov] (eval i X.env)
      standAt pos
      holding [v, ov, iv] (setItem ov iv v)
      release [v, ov, iv] []) := by intro _; rfl) : PG X (.Subscript o i pos) (gSub to ti t) := by
  intro pins s σ H v u Q I r h
  rw [ha]
  refine wpAny_bind (wpAny_holding (thn (ho pins s σ H _ I h) fun ov s1 ⟨x, H1, I1, r1, q1⟩ => ?_))
  refine wpAny_bind (wpAny_holding (thn (hi pins s1 σ H1 _ I1 q1) fun iv s2 ⟨y, H2, I2, r2, q2⟩ => ?_))
  refine wpAny_bind (wpAny_standAt (wpAny_bind (wpAny_holding (thn (hs pins s2 σ H2 x y v ov iv u _ I2 r1 r2 r q2) fun _ s3 ⟨H3, I3, q3⟩ => ?_))))
  exact wpAny_release ⟨σ, H3, I3, q3⟩
/-- target = value -/
def tAsg (te : TE) (g : TG) : TS := fun D σ H => te σ H fun x H1 => g x σ H1 D.nx
theorem ps_asg {tg e : Expr} {te : TE} {g : TG} (he : PE X e te) (hg : PG X tg g) (hs : swapsWithSole [tg] e pos.line X.env = pure false := by rfl) (hw : swappedStores [tg] e X.env = pure none := by rfl)
    (h1 : (assignEach [tg] X.env).map (·.2) = [assign tg X.env] := by rfl) : PS X (.Assign [tg] e pos) (tAsg te g) := by
  intro pins s σ H D I h
  refine wpAny_Assign_stores (thn (he pins s σ H _ I h) fun v s1 ⟨x, H1, I1, r1, q1⟩ => ?_) hs hw
  rw [h1]
  exact thn (hg pins s1 σ H1 x v _ I1 r1 q1) fun _ s2 q => q
/-- name = value -/
theorem ps_set {i : Nat} {x : Str} {e : Expr} {te : TE} {pos' : Pos} (hN : X.N.Nodup) (hi : X.N[i]? = some x) (hx : Loc X.env.scope x) (he : PE X e te) (hs : swapsWith e (some (.Name x pos')) pos.line X.env = pure false := by rfl) (hf : X.fn x = true ∨ X.env.scope.names.lookup x = some .local := by first | exact .inl rfl | exact .inr rfl | assumption) :
    PS X (.Assign [.Name x pos'] e pos) (tAsg te (gName i)) := by
  intro pins s σ H D I h
  refine wpAny_Assign_Name (thn (he pins s σ H _ I h) fun v s1 ⟨y, H1, I1, r1, q1⟩ => ?_) hs
  exact store_ok I1 hN hi hx r1 (fun s2 I2 => ⟨_, H1, I2, q1⟩) hf
end
section
variable {X : Cx} {pos : Pos}
/-- the invariant W with its measure -/
def tWhile (c : TT) (tb : TS) : TS := fun D σ H => ∃ W : Nat → St → Hp → Prop, (∃ m, W m σ H) ∧ ∀ m σ H, W m σ H →
  c σ H fun b H1 => if b = true then ∃ N : St → Hp → Prop, (∀ σ' H', N σ' H' → ∃ m', m' < m ∧ W m' σ' H') ∧ tb { D with nx := N, ct := N, bk := D.nx } σ H1 else D.nx σ H1
theorem ps_while {c : Expr} {body : List Stmt} {tc : TT} {tb : TS} (hp : PassesOwn (model X.prog X.w) X.A X.env X.xe) (hc : PT X c tc) (hb : PSs X body tb) : PS X (.While c body [] pos) (tWhile tc tb) := by
  intro pins s σ H D I h
  obtain ⟨W, ⟨m0, w0⟩, turn⟩ := h
  refine wpAny_While (codeAny_whileLoop (fun n s' => ∃ σ' H', Inv X pins σ' H' s' ∧ W n σ' H') ?_ m0 ⟨σ, H, I, w0⟩)
  rintro n s1 ⟨σ1, H1, I1, w1⟩
  refine wpAny_passesOwn hp (thn (hc pins s1 σ1 H1 _ I1 (turn n σ1 H1 w1)) fun b s2 ⟨H2, I2, q2⟩ => ?_)
  cases b with
  | true =>
    obtain ⟨N, hN, q2⟩ := q2
    rw [if_pos rfl]
    refine wpAny_passesOwn hp (thn (hb pins s2 σ1 H2 _ I2 q2) fun f s3 q3 => ?_)
    cases f with
    | next =>
      obtain ⟨σ3, H3, I3, n3⟩ := q3
      obtain ⟨m', hm, w3⟩ := hN σ3 H3 n3
      exact ⟨m', hm, σ3, H3, I3, w3⟩
    | cont =>
      obtain ⟨σ3, H3, I3, n3⟩ := q3
      obtain ⟨m', hm, w3⟩ := hN σ3 H3 n3
      exact ⟨m', hm, σ3, H3, I3, w3⟩
    | brk => exact q3
    | ret v => exact q3
  | false =>
    rw [if_neg Bool.false_ne_true]
    exact wpAny_execs_nil ⟨σ1, H2, I2, q2⟩
end
/-- at turn i: it yields x (the heap may grow), or it stops -/
structure It where
  go : Nat → Hp → Prop
  yld : Nat → Hp → V → Hp → Prop
  stop : Nat → Hp → Prop
/-- the iterator's own objects may turn: they are not the frame's, not pinned, younger than the entry (or a comprehension's own) -/
def FpOk (X : Cx) (pins : List (Addr × Obj)) (H : Hp) (b : Addr) : Prop :=
  H b = none ∧ b ≠ X.env.locals ∧ b ∉ X.fs ∧ (b ∈ X.ex ∨ X.s_0.heap.objs.size ≤ b) ∧ (∀ x c, X.env.cells.lookup x = some c → c ≠ b) ∧ ∀ p ∈ X.pn ++ pins, p.1 ≠ b
theorem Inv.fpOk {X : Cx} {pins : List (Addr × Obj)} {σ : St} {H H' : Hp} {s : Shared} {b : Addr} (I : Inv X pins σ H s) (hb : s.heap.objs.size ≤ b) (hn : H' b = none) : FpOk X pins H' b := by
  refine ⟨hn, Nat.ne_of_gt (Nat.lt_of_lt_of_le I.lt hb), I.nofs hb, .inr (Nat.le_trans I.sz hb), fun x c e z => ?_, fun p hp z => ?_⟩
  · obtain ⟨v, q⟩ := I.cell x c e
    exact absurd (Nat.lt_of_lt_of_le q.lt (by rw [z]; exact hb)) (Nat.lt_irrefl _)
  · exact absurd (Nat.lt_of_lt_of_le (Heap.lt_size (I.pin p hp).1) (by rw [z]; exact hb)) (Nat.lt_irrefl _)
structure Turn (P : Program) (w : World) (K : PySem.W.Frag) (tg : Expr) (J : It) (fp : List Addr) (it : Addr) (tn : Nat → Heap → Prop) : Prop where
  mem : it ∈ fp
  obj : ∀ i h, tn i h → ∀ b ∈ fp, ∃ o, h.get? b = some o ∧ ∀ v, o.data ≠ .cell v
  keep : ∀ i h h', tn i h → (∀ b ∈ fp, ∀ o, h.get? b = some o → h'.get? b = some o) → tn i h'
  item : ∀ (X : Cx), X.prog = P → X.w = w → X.K = K → X.calm = true → ∀ (i : Nat) (pins : List (Addr × Obj)) (s : Shared) (σ : St) (H : Hp) (E : Value → Shared → Prop), Inv X pins σ H s → (∀ b ∈ fp, FpOk X pins H b) → tn i s.heap → J.go i H →
    wpAny (model P w) X.A (pyNext (.ref it)) (fun r s1 => ∃ u, r = some u ∧
      wpAny (model P w) X.A (letOwnedTupleGo tg (.ref it) u) (fun _ s2 => ∃ x H', Inv X pins σ H' s2 ∧ RelV x u ∧ J.yld i H x H' ∧ tn (i + 1) s2.heap ∧ ∀ b ∈ fp, H' b = none) E s1) E s
  done : ∀ (X : Cx), X.prog = P → X.w = w → X.K = K → X.calm = true → ∀ (i : Nat) (pins : List (Addr × Obj)) (s : Shared) (σ : St) (H : Hp) (E : Value → Shared → Prop), Inv X pins σ H s → (∀ b ∈ fp, FpOk X pins H b) → tn i s.heap → J.stop i H →
    wpAny (model P w) X.A (pyNext (.ref it)) (fun r s1 => r = none ∧ Inv X pins σ H s1) E s
  self : ∀ (A : Around) (i : Nat) (s : Shared) (Q : Value → Shared → Prop) (E : Value → Shared → Prop), tn i s.heap → Q (.ref it) s → wpAny (model P w) A (pyIter (.ref it)) Q E s
abbrev TI := St → Hp → (It → Hp → Prop) → Prop
/-- an iterator has come -/
def PIE (X : Cx) (pins : List (Addr × Obj)) (σ : St) (tg : Expr) (R : It → Hp → Prop) (itv : Value) (s2 : Shared) : Prop :=
  ∃ (it : Addr) (fp : List Addr) (tn : Nat → Heap → Prop) (J : It) (H' : Hp), itv = .ref it ∧ Inv X pins σ H' s2 ∧ Turn X.prog X.w X.K tg J fp it tn ∧ tn 0 s2.heap ∧ (∀ b ∈ fp, FpOk X pins H' b) ∧ R J H'
def PI (X : Cx) (tg iter : Expr) (wi : TI) : Prop :=
  ∀ (pins : List (Addr × Obj)) (s : Shared) (σ : St) (H : Hp) (R : It → Hp → Prop), Inv X pins σ H s → wi σ H R →
    wpAny (model X.prog X.w) X.A (eval iter X.env) (fun v s1 => wpAny (model X.prog X.w) X.A (pyIter v) (PIE X pins σ tg R) X.xe s1) X.xe s
/-- the step ahead of the store is nothing for an iterator that keeps no tuple -/
theorem go_of {M : Model} {A : Around} {E : Value → Shared → Prop} {s : Shared} {tg : Expr} {it : Addr} {u : Value} {o : Obj} {n : String} {vs : Array Value} {Q : Unit → Shared → Prop} (ho : s.heap.get? it = some o) (hc : o.cls = .type n) (hd : o.data = .fields vs)
    (hn : ["enumerate", "zip", "dict_itemiterator", "dict_reverseitemiterator", "odict_iterator", "itertools.zip_longest", "itertools.pairwise"].contains n = false) (hQ : Q () s) : wpAny M A (letOwnedTupleGo tg (.ref it) u) Q E s := by
  unfold letOwnedTupleGo
  cases tg <;> first
    | exact wpAny_pure hQ
    | (cases u <;> first
        | exact wpAny_pure hQ
        | (refine wpAny_bind (wpAny_load ho ?_)
           rw [hc, hd]
           show wpAny M A (if (["enumerate", "zip", "dict_itemiterator", "dict_reverseitemiterator", "odict_iterator", "itertools.zip_longest", "itertools.pairwise"].contains n && vs[0]? == some (rawInt _)) = true then _ else _) Q E s
           rw [if_neg (by intro h; rw [hn, Bool.false_and] at h; cases h)]
           exact wpAny_pure hQ))
/-- the list at a, as it stands at each turn (a loop may append to it) -/
def Itl (K : PySem.W.Frag) (a : Addr) : It :=
  ⟨fun i H => ∃ xs x, SqL K H a xs ∧ xs[i]? = some x, fun i H x H' => H' = H ∧ ∀ xs, SqL K H a xs → xs[i]? = some x, fun i H => ∃ xs, SqL K H a xs ∧ xs.length ≤ i⟩
/-- lo, lo + 1, .. (n of them) -/
def Itr (lo : Int) (n : Nat) : It := ⟨fun i _ => i < n, fun i H x H' => H' = H ∧ x = .int (lo + i), fun i _ => n ≤ i⟩
theorem turn_list {P : Program} {w : World} {K : PySem.W.Frag} {tg : Expr} (a it : Addr) : Turn P w K tg (Itl K a) [it] it (fun i h => h.IsListIter it a i) where
  mem := by simp
  obj := fun i h st b hb => by
    have e : b = it := by simpa using hb
    subst e
    obtain ⟨o, e, c, d⟩ := st
    exact ⟨o, e, fun v z => by rw [d] at z; cases z⟩
  keep := fun i h h' st k => st.at fun o e => k it (by simp) o e
  item := by
    intro X hP hw hK hc i pins s σ H E I hf st hg
    subst hP hw hK
    obtain ⟨xs, x, hq, hx⟩ := hg
    obtain ⟨its, rv, p, hz⟩ := I.list hq
    obtain ⟨u, hu, ru⟩ := rv.get hx
    obtain ⟨f0, f1, f2, f3, f4, f5⟩ := hf it (by simp)
    refine wpAny_pyNext_list_item st p.isList (x := u) (by simpa using hu) fun h' st' sb => ?_
    have I1 : Inv X pins σ H { s with heap := h' } := I.turned (t' := s.toks) (fun b o hb e => (sb.2 b hb).trans e) f0 f1 f3 f4 f5
    obtain ⟨o, e, c, d⟩ := id st'
    exact ⟨u, rfl, go_of (s := { s with heap := h' }) e c d (by decide) ⟨x, H, I1, ru, ⟨rfl, fun ys hy => by rw [I.list_inj hy hq]; exact hx⟩, st', fun b hb => (hf b hb).1⟩⟩
  done := by
    intro X hP hw hK hc i pins s σ H E I hf st hg
    subst hP hw hK
    obtain ⟨xs, hq, hx⟩ := hg
    obtain ⟨its, rv, p, hz⟩ := I.list hq
    obtain ⟨f0, f1, f2, f3, f4, f5⟩ := hf it (by simp)
    have hl := rv.length
    exact wpAny_pyNext_list_end (I.ok.hd hc) st p.isList (by simp; omega) fun h' eb => ⟨rfl, I.turned (t' := s.toks) (fun b o hb e => eb b o hb e) f0 f1 f3 f4 f5⟩
  self := fun _ _ _ _ _ st h => wpAny_pyIter_listiter st h
theorem turn_range {P : Program} {w : World} {K : PySem.W.Frag} {tg : Expr} (it : Addr) (lo : Int) (n : Nat) : Turn P w K tg (Itr lo n) [it] it (fun i h => IsRangeIter h it (lo + (i : Nat) * 1) ((n : Int) - (i : Nat)) 1) where
  mem := by simp
  obj := fun i h st b hb => by
    have e : b = it := by simpa using hb
    subst e
    exact ⟨_, st, fun v z => by
      have z' : Data.fields _ = Data.cell v := z
      cases z'⟩
  keep := fun i h h' st k => k it (by simp) _ st
  item := by
    intro X hP hw hK hc i pins s σ H E I hf st hg
    subst hP hw hK
    obtain ⟨f0, f1, f2, f3, f4, f5⟩ := hf it (by simp)
    have W := Walks.range (prog := X.prog) (w := X.w) (I.ok.hd hc) it lo 1 n
    refine W.item i s _ _ hg st fun v h' tk hv st' kk => ?_
    obtain ⟨t, rfl⟩ := hv
    have I1 : Inv X pins σ H { s with heap := h', toks := tk } := I.turned (fun b o hb e => kk b o (by simpa using hb) e) f0 f1 f3 f4 f5
    refine ⟨_, rfl, go_of (s := { s with heap := h', toks := tk }) (n := "range_iterator") st' rfl rfl (by decide) ⟨.int (lo + i), H, I1, ⟨t, ?_⟩, ⟨rfl, rfl⟩, st', fun b hb => (hf b hb).1⟩⟩
    rw [Int.mul_one]
  done := by
    intro X hP hw hK hc i pins s σ H E I hf st hg
    subst hP hw hK
    obtain ⟨f0, f1, f2, f3, f4, f5⟩ := hf it (by simp)
    exact wpAny_pyNext_range_end (I.ok.hd hc) st (by have : n ≤ i := hg; omega) fun h' eb => ⟨rfl, I.turned (t' := s.toks) (fun b o hb e => eb b o hb e) f0 f1 f3 f4 f5⟩
  self := fun _ _ _ _ _ st h => wpAny_pyIter_rangeiter st h
end L2
namespace L2
open PySem PySem.Spec PyProof.Rows
section
variable {X : Cx} {tg : Expr}
def iList (K : PySem.W.Frag) (tl : TE) : TI := fun σ H R => tl σ H fun x H1 => ∃ a, x = .ref a ∧ (∃ xs, SqL K H1 a xs) ∧ R (Itl K a) H1
theorem pi_list {l : Expr} {tl : TE} (hl : PE X l tl) : PI X tg l (iList X.K tl) := by
  intro pins s σ H R I h
  refine thn (hl pins s σ H _ I h) fun v s1 ⟨x, H1, I1, r1, q1⟩ => ?_
  obtain ⟨a, e, ⟨xs, hq⟩, q⟩ := q1
  subst e
  cases r1
  obtain ⟨its, rv, p, hz⟩ := I1.list hq
  refine wpAny_pyIter_list p.isList ?_
  refine ⟨s1.heap.objs.size, [s1.heap.objs.size], _, _, H1, rfl, I1.kept (t' := s1.toks) fun b o e => Heap.get?_push_of_some _ e, turn_list a _, ⟨_, Heap.get?_push_size _ rfl, rfl, rfl⟩, fun b hb => ?_, q⟩
  have e : b = s1.heap.objs.size := by simpa using hb
  subst e
  exact I1.fpOk (Nat.le_refl _) (I1.hok.fresh (Nat.le_refl _))
/-- a range object just made, walked -/
theorem range_it {pins : List (Addr × Obj)} {σ : St} {H : Hp} {s : Shared} {R : It → Hp → Prop} {E : Value → Shared → Prop} {lo hi : Int} {t u v : Tok} {tk : Nat} (I : Inv X pins σ H s) (h1 : -(2 ^ 62) ≤ lo) (h2 : lo < 2 ^ 62) (h3 : -(2 ^ 62) ≤ hi) (h4 : hi < 2 ^ 62)
    (q : R (Itr lo (hi - lo).toNat) H) : wpAny (model X.prog X.w) X.A (pyIter (.ref s.heap.objs.size)) (PIE X pins σ tg R) E { s with heap := s.heap.push { cls := .type "range", data := .fields #[.int lo t, .int hi u, .int 1 v] }, toks := tk } := by
  refine wpAny_pyIter_range (IsRange.new ..) (small_one h1 h2 h3 h4) ?_
  have I1 : Inv X pins σ H { s with heap := s.heap.push { cls := .type "range", data := .fields #[.int lo t, .int hi u, .int 1 v] }, toks := tk } := I.kept fun b o e => Heap.get?_push_of_some _ e
  refine ⟨(s.heap.push { cls := .type "range", data := .fields #[.int lo t, .int hi u, .int 1 v] }).objs.size, [(s.heap.push { cls := .type "range", data := .fields #[.int lo t, .int hi u, .int 1 v] }).objs.size], _, _, H, rfl,
    I1.kept (t' := tk) fun b o e => Heap.get?_push_of_some _ e, turn_range _ lo (hi - lo).toNat, ?_, fun b hb => ?_, q⟩
  · have e1 : lo + ((0 : Nat) : Int) * 1 = lo := by simp
    have e2 : (((hi - lo).toNat : Nat) : Int) - ((0 : Nat) : Int) = Builtin.Range.rangeSize lo hi 1 := by rw [rangeSize_one]; split <;> omega
    show IsRangeIter _ _ (lo + ((0 : Nat) : Int) * 1) ((((hi - lo).toNat : Nat) : Int) - ((0 : Nat) : Int)) 1
    rw [e1, e2]
    exact Heap.get?_push_size _ rfl
  · have e : b = (s.heap.push { cls := .type "range", data := .fields #[.int lo t, .int hi u, .int 1 v] }).objs.size := by simpa using hb
    subst e
    exact I1.fpOk (Nat.le_refl _) (I1.hok.fresh (Nat.le_refl _))
def iRng1 (ta : TA) : TI := fun σ H R => ta σ H fun vs H1 => ∃ j : Int, vs = [.int j] ∧ -(2 ^ 62) ≤ j ∧ j < 2 ^ 62 ∧ R (Itr 0 j.toNat) H1
theorem pi_range1 {a : Expr} {ta : TA} {p pos : Pos} (hg : Gl X "range") (hm : X.mg "range" = none) (ha : PA X [a] ta) (hs : starEach [a] X.env = [(false, eval a X.env)] := by rfl) : PI X tg (.Call (.Name "range" p) [a] [] pos) (iRng1 ta) := by
  intro pins s σ H R I h
  refine Call_ (ld_blt I hg hm boot_range (PyProof.Rows.callWith_type1 (thn (ha pos pins s σ H _ I h) fun us s1 ⟨vs, H1, I1, r1, q1⟩ => ?_) hs rfl))
  obtain ⟨j, e, q1, q2, q⟩ := q1
  subst e
  cases r1 with
  | cons r rr =>
    cases rr
    obtain ⟨t, rfl⟩ := r
    exact call_range_1 (range_it I1 (by omega) (by omega) q1 q2 (by simpa using q))
/-- W: the invariant by the turn and a measure; N: what the body is to reach -/
def tFor (wi : TI) (g : TG) (tb : TS) : TS := fun D σ H => wi σ H fun J H1 => ∃ W : Nat → Nat → St → Hp → Prop, (∃ m, W 0 m σ H1) ∧ ∀ i m σ H, W i m σ H →
  (J.stop i H ∧ D.nx σ H) ∨ (J.go i H ∧ ∃ N : St → Hp → Prop, (∀ σ' H', N σ' H' → ∃ m', m' < m ∧ W (i + 1) m' σ' H') ∧ ∀ x H', J.yld i H x H' → g x σ H' fun σ2 H2 => tb { D with nx := N, ct := N, bk := D.nx } σ2 H2)
/-- the records at fp as they stand -/
def pinsAt (fp : List Addr) (h : Heap) : List (Addr × Obj) := fp.filterMap fun b => (h.get? b).map fun o => (b, o)
theorem mem_pinsAt {fp : List Addr} {h : Heap} {b : Addr} {o : Obj} (hb : b ∈ fp) (e : h.get? b = some o) : (b, o) ∈ pinsAt fp h := List.mem_filterMap.mpr ⟨b, hb, by rw [e]; rfl⟩
theorem of_pinsAt {fp : List Addr} {h : Heap} {p : Addr × Obj} (hp : p ∈ pinsAt fp h) : p.1 ∈ fp ∧ h.get? p.1 = some p.2 := by
  obtain ⟨b, hb, e⟩ := List.mem_filterMap.mp hp
  cases q : h.get? b with
  | none => rw [q] at e; cases e
  | some o =>
    rw [q] at e
    have e' : (b, o) = p := Option.some.inj e
    subst e'
    exact ⟨hb, q⟩
theorem Inv.pinned {pins : List (Addr × Obj)} {σ : St} {H : Hp} {s : Shared} {fp : List Addr} (I : Inv X pins σ H s) (hf : ∀ b ∈ fp, FpOk X pins H b) (ho : ∀ b ∈ fp, ∃ o, s.heap.get? b = some o ∧ ∀ v, o.data ≠ .cell v) : Inv X (pins ++ pinsAt fp s.heap) σ H s :=
  I.pins_of fun p hp => (List.mem_append.mp hp).elim (fun z => I.pin p (List.mem_append_right _ z)) fun z => by
    obtain ⟨hb, e⟩ := of_pinsAt z
    obtain ⟨f0, f1, f2, _⟩ := hf p.1 hb
    obtain ⟨o, e', d⟩ := ho p.1 hb
    rw [e] at e'; cases e'
    exact ⟨e, f0, f1, f2, d⟩
theorem Inv.unpinned {pins pl : List (Addr × Obj)} {σ : St} {H : Hp} {s : Shared} (I : Inv X (pins ++ pl) σ H s) : Inv X pins σ H s := I.pins_of fun p hp => I.pin p (List.mem_append_right _ (List.mem_append_left _ hp))
theorem ps_for {iter : Expr} {body : List Stmt} {wi : TI} {g : TG} {tb : TS} {pos : Pos} (hp : PassesOwn (model X.prog X.w) X.A X.env X.xe) (hc : X.calm = true) (hi : PI X tg iter wi) (hg : PG X tg g) (hb : PSs X body tb)
    (hs : ∀ x, foldedSetIterable iter X.env x = pure x := by intro _; rfl) : PS X (.For tg iter body [] pos) (tFor wi g tb) := by
  intro pins s σ H D I h
  refine wpAny_For (thn (hi pins s σ H _ I h) fun v s1 h1 => thn h1 fun itv s2 h2 => ?_) hs
  obtain ⟨it, fp, tn, J, H2, e, I2, T, st2, f2, W, ⟨m0, w0⟩, turn⟩ := h2
  subst e
  -- what stays true of the iterator's objects through the loop
  have stat : ∀ {H' : Hp}, (∀ b ∈ fp, H' b = none) → ∀ b ∈ fp, FpOk X pins H' b := fun hn b hb => ⟨hn b hb, (f2 b hb).2⟩
  refine codeAny_forLoop_any (fun n s' => ∃ i σ' H', Inv X pins σ' H' s' ∧ tn i s'.heap ∧ (∀ b ∈ fp, H' b = none) ∧ W i n σ' H') ?_ m0 ⟨0, σ, H2, I2, st2, fun b hb => (f2 b hb).1, w0⟩
  rintro n s3 ⟨i, σ3, H3, I3, st3, fr3, w3⟩
  rcases turn i n σ3 H3 w3 with ⟨stop, qn⟩ | ⟨go, N, hN, step⟩
  · refine wpAny_passesOwn hp (thn (T.done X rfl rfl rfl hc i pins s3 σ3 H3 X.xe I3 (stat fr3) st3 stop) fun r s4 ⟨hr, I4⟩ => ?_)
    subst hr
    exact wpAny_execs_nil ⟨σ3, H3, I4, qn⟩
  · refine wpAny_passesOwn hp (thn (T.item X rfl rfl rfl hc i pins s3 σ3 H3 X.xe I3 (stat fr3) st3 go) fun r s4 ⟨u, hr, h4⟩ => ?_)
    subst hr
    refine wpAny_passesOwn hp (thn h4 fun _ s5 ⟨x, H5, I5, r5, y5, st5, fr5⟩ => ?_)
    have I5' := I5.pinned (stat fr5) (T.obj _ _ st5)
    refine wpAny_passesOwn hp (thn (hg _ s5 σ3 H5 x u _ I5' r5 (step x H5 y5)) fun _ s6 ⟨σ6, H6, I6, q6⟩ => ?_)
    refine wpAny_passesOwn hp (thn (hb _ s6 σ6 H6 _ I6 q6) fun f s7 q7 => ?_)
    have again : ∀ {σ7 : St} {H7 : Hp}, Inv X (pins ++ pinsAt fp s5.heap) σ7 H7 s7 → N σ7 H7 → ∃ m, m < n ∧ ∃ i σ' H', Inv X pins σ' H' s7 ∧ tn i s7.heap ∧ (∀ b ∈ fp, H' b = none) ∧ W i m σ' H' := fun {σ7 H7} I7 n7 => by
      obtain ⟨m', hm, w7⟩ := hN σ7 H7 n7
      refine ⟨m', hm, i + 1, σ7, H7, I7.unpinned, T.keep _ _ _ st5 fun b hb o e => (I7.pin (b, o) (List.mem_append_right _ (List.mem_append_right _ (mem_pinsAt hb e)))).1, fun b hb => ?_, w7⟩
      obtain ⟨o, e, d⟩ := T.obj _ _ st5 b hb
      exact (I7.pin (b, o) (List.mem_append_right _ (List.mem_append_right _ (mem_pinsAt hb e)))).2.1
    cases f with
    | next => obtain ⟨σ7, H7, I7, n7⟩ := q7; exact again I7 n7
    | cont => obtain ⟨σ7, H7, I7, n7⟩ := q7; exact again I7 n7
    | brk => obtain ⟨σ7, H7, I7, q7⟩ := q7; exact ⟨σ7, H7, I7.unpinned, q7⟩
    | ret v => obtain ⟨x7, σ7, H7, I7, r7, q7⟩ := q7; exact ⟨x7, σ7, H7, I7.unpinned, r7, q7⟩
end
/-- over a list that the body leaves as it is -/
theorem for_list {K : PySem.W.Frag} {a : Addr} {xs : List V} {g : TG} {tb : TS} {D : Ends} {σ : St} {H : Hp} (Pv : Nat → St → Hp → Prop) (h0 : Pv 0 σ H) (hl : ∀ i σ H, i ≤ xs.length → Pv i σ H → SqL K H a xs)
    (hs : ∀ i x σ H, xs[i]? = some x → Pv i σ H → g x σ H fun σ2 H2 => tb { D with nx := Pv (i + 1), ct := Pv (i + 1), bk := D.nx } σ2 H2) (hd : ∀ σ H, Pv xs.length σ H → D.nx σ H) :
    ∃ W : Nat → Nat → St → Hp → Prop, (∃ m, W 0 m σ H) ∧ ∀ i m σ H, W i m σ H →
      ((Itl K a).stop i H ∧ D.nx σ H) ∨ ((Itl K a).go i H ∧ ∃ N : St → Hp → Prop, (∀ σ' H', N σ' H' → ∃ m', m' < m ∧ W (i + 1) m' σ' H') ∧ ∀ x H', (Itl K a).yld i H x H' → g x σ H' fun σ2 H2 => tb { D with nx := N, ct := N, bk := D.nx } σ2 H2) := by
  refine ⟨fun i m σ H => m = xs.length - i ∧ i ≤ xs.length ∧ Pv i σ H, ⟨xs.length, by simp, Nat.zero_le _, h0⟩, ?_⟩
  rintro i m σ H ⟨rfl, hi, p⟩
  have q := hl i σ H hi p
  by_cases hlt : i < xs.length
  · refine .inr ⟨⟨xs, xs[i], q, by simp [hlt]⟩, Pv (i + 1), fun σ' H' p' => ⟨xs.length - (i + 1), by omega, rfl, hlt, p'⟩, fun x H' y => ?_⟩
    obtain ⟨e, y⟩ := y
    subst e
    exact hs i x σ _ (y xs q) p
  · have e : i = xs.length := by omega
    subst e
    exact .inl ⟨⟨xs, q, Nat.le_refl _⟩, hd σ H p⟩
theorem for_range {lo : Int} {n : Nat} {g : TG} {tb : TS} {D : Ends} {σ : St} {H : Hp} (Pv : Nat → St → Hp → Prop) (h0 : Pv 0 σ H)
    (hs : ∀ i σ H, i < n → Pv i σ H → g (.int (lo + i)) σ H fun σ2 H2 => tb { D with nx := Pv (i + 1), ct := Pv (i + 1), bk := D.nx } σ2 H2) (hd : ∀ σ H, Pv n σ H → D.nx σ H) :
    ∃ W : Nat → Nat → St → Hp → Prop, (∃ m, W 0 m σ H) ∧ ∀ i m σ H, W i m σ H →
      ((Itr lo n).stop i H ∧ D.nx σ H) ∨ ((Itr lo n).go i H ∧ ∃ N : St → Hp → Prop, (∀ σ' H', N σ' H' → ∃ m', m' < m ∧ W (i + 1) m' σ' H') ∧ ∀ x H', (Itr lo n).yld i H x H' → g x σ H' fun σ2 H2 => tb { D with nx := N, ct := N, bk := D.nx } σ2 H2) := by
  refine ⟨fun i m σ H => m = n - i ∧ i ≤ n ∧ Pv i σ H, ⟨n, by simp, Nat.zero_le _, h0⟩, ?_⟩
  rintro i m σ H ⟨rfl, hi, p⟩
  by_cases hlt : i < n
  · refine .inr ⟨hlt, Pv (i + 1), fun σ' H' p' => ⟨n - (i + 1), by omega, rfl, hlt, p'⟩, fun x H' y => ?_⟩
    obtain ⟨e, y⟩ := y
    subst e y
    exact hs i σ _ hlt p
  · have e : i = n := by omega
    subst e
    exact .inl ⟨Nat.le_refl _, hd σ H p⟩
/-- while, by a word and a measure of the state -/
theorem while_by {c : TT} {tb : TS} {D : Ends} {σ : St} {H : Hp} (Pv : St → Hp → Prop) (μ : St → Hp → Nat) (h0 : Pv σ H)
    (hs : ∀ σ H, Pv σ H → c σ H fun b H1 => if b = true then tb { D with nx := fun σ' H' => Pv σ' H' ∧ μ σ' H' < μ σ H, ct := fun σ' H' => Pv σ' H' ∧ μ σ' H' < μ σ H, bk := D.nx } σ H1 else D.nx σ H1)
    (mono : ∀ σ H Q Q', (∀ b H1, Q b H1 → Q' b H1) → c σ H Q → c σ H Q') : tWhile c tb D σ H := by
  refine ⟨fun m σ H => m = μ σ H ∧ Pv σ H, ⟨_, rfl, h0⟩, ?_⟩
  rintro m σ H ⟨rfl, p⟩
  refine mono σ H _ _ (fun b H1 q => ?_) (hs σ H p)
  cases b with
  | true => exact ⟨_, fun σ' H' ⟨p', l⟩ => ⟨_, l, rfl, p'⟩, q⟩
  | false => exact q
end L2
namespace L2
open PySem PySem.Spec PyProof.Rows
abbrev R2 := V → V → Hp → VK → Prop
/-- a two-place operation on values: f is binaryOp op, inplaceOp op or compareOp op -/
def OpR (X : Cx) (f : Value → Value → Sem Value) (r : R2) : Prop :=
  ∀ (pins : List (Addr × Obj)) (s : Shared) (σ : St) (H : Hp) (x y : V) (v u : Value) (Q : VK), Inv X pins σ H s → RelV x v → RelV y u → r x y H Q →
    wpAny (model X.prog X.w) X.A (f v u) (EP X pins σ Q) X.xe s
/-- a one-place operation -/
def UnR (X : Cx) (f : Value → Sem Value) (r : V → Hp → VK → Prop) : Prop :=
  ∀ (pins : List (Addr × Obj)) (s : Shared) (σ : St) (H : Hp) (x : V) (v : Value) (Q : VK), Inv X pins σ H s → RelV x v → r x H Q →
    wpAny (model X.prog X.w) X.A (f v) (EP X pins σ Q) X.xe s
/-- a call of a value that is known (a builtin, a type) with values -/
def CallR (X : Cx) (f : Value) (r : List V → Hp → VK → Prop) : Prop :=
  ∀ (pins : List (Addr × Obj)) (s : Shared) (σ : St) (H : Hp) (xs : List V) (us : List Value) (Q : VK), Inv X pins σ H s → Vals xs us → r xs H Q →
    wpAny (model X.prog X.w) X.A (call f us) (EP X pins σ Q) X.xe s
def tOp (r : R2) (ta tb : TE) : TE := fun σ H Q => ta σ H fun x H1 => tb σ H1 fun y H2 => r x y H2 Q
def tUn (r : V → Hp → VK → Prop) (ta : TE) : TE := fun σ H Q => ta σ H fun x H1 => r x H1 Q
/-- ints in, under C, and a value out -/
def rI (C : Int → Int → Prop) (g : Int → Int → V) : R2 := fun x y H Q => ∃ i j, x = .int i ∧ y = .int j ∧ C i j ∧ Q (g i j) H
def rI0 (g : Int → Int → V) : R2 := fun x y H Q => ∃ i j, x = .int i ∧ y = .int j ∧ Q (g i j) H
def rU (g : Int → V) : V → Hp → VK → Prop := fun x H Q => ∃ i, x = .int i ∧ Q (g i) H
section
variable {X : Cx} {a b c : Expr} {ta tb tc : TE} {pos : Pos}
theorem binT (ha : PE X a ta) (hb : PE X b tb) {pins : List (Addr × Obj)} {s : Shared} {σ : St} {H : Hp} {R : V → V → Hp → Prop} (I : Inv X pins σ H s)
    (h : ta σ H fun x H1 => tb σ H1 fun y H2 => R x y H2) {Q : Value → Shared → Prop} {f : Value → Value → Sem Value}
    (hf : ∀ v u s2 x y H2, Inv X pins σ H2 s2 → RelV x v → RelV y u → R x y H2 → wpAny (model X.prog X.w) X.A (f v u) Q X.xe s2) :
    wpAny (model X.prog X.w) X.A (eval a X.env) (fun v s₁ => wpAny (model X.prog X.w) X.A (eval b X.env) (fun u s₂ => wpAny (model X.prog X.w) X.A (f v u) Q X.xe s₂) X.xe s₁) X.xe s := by
  refine thn (ha pins s σ H _ I h) fun v s1 ⟨x, H1, I1, r1, q1⟩ => ?_
  refine thn (hb pins s1 σ H1 _ I1 q1) fun u s2 ⟨y, H2, I2, r2, q2⟩ => ?_
  exact hf v u s2 x y H2 I2 r1 r2 q2
theorem pe_op {op : Operator} {r : R2} (ho : OpR X (binaryOp op) r) (ha : PE X a ta) (hb : PE X b tb) : PE X (.BinOp a op b pos) (tOp r ta tb) := by
  intro pins s σ H Q I h
  exact wpAny_BinOp (binT ha hb I h fun v u s2 x y H2 I2 rx ry q => ho pins s2 σ H2 x y v u Q I2 rx ry q)
theorem pe_un {op : UnaryOp} {r : V → Hp → VK → Prop} (ho : UnR X (unaryOp op) r) (ha : PE X a ta) : PE X (.UnaryOp op a pos) (tUn r ta) := by
  intro pins s σ H Q I h
  exact UnaryOp_ (thn (ha pins s σ H _ I h) fun v s1 ⟨x, H1, I1, r1, q1⟩ => ho pins s1 σ H1 x v Q I1 r1 q1)
theorem opI {f : Value → Value → Sem Value} {C : Int → Int → Prop} {g : Int → Int → Int}
    (rule : ∀ (i j : Int) (t u : Tok) (s : Shared) (Q : Value → Shared → Prop) (E : Value → Shared → Prop), C i j → Q (.int (g i j) s.toks) { s with toks := s.toks + 1 } → wpAny (model X.prog X.w) X.A (f (.int i t) (.int j u)) Q E s) :
    OpR X f (rI C fun i j => .int (g i j)) := by
  intro pins s σ H x y v u Q I rx ry h
  obtain ⟨i, j, rfl, rfl, hc, q⟩ := h
  obtain ⟨t, rfl⟩ := rx
  obtain ⟨t', rfl⟩ := ry
  exact rule i j t t' s _ _ hc ⟨.int (g i j), H, I.tok _, ⟨_, rfl⟩, q⟩
theorem opI0 {f : Value → Value → Sem Value} {g : Int → Int → Int}
    (rule : ∀ (i j : Int) (t u : Tok) (s : Shared) (Q : Value → Shared → Prop) (E : Value → Shared → Prop), Q (.int (g i j) s.toks) { s with toks := s.toks + 1 } → wpAny (model X.prog X.w) X.A (f (.int i t) (.int j u)) Q E s) :
    OpR X f (rI0 fun i j => .int (g i j)) := by
  intro pins s σ H x y v u Q I rx ry h
  obtain ⟨i, j, rfl, rfl, q⟩ := h
  obtain ⟨t, rfl⟩ := rx
  obtain ⟨t', rfl⟩ := ry
  exact rule i j t t' s _ _ ⟨.int (g i j), H, I.tok _, ⟨_, rfl⟩, q⟩
theorem opB0 {f : Value → Value → Sem Value} {g : Int → Int → Bool}
    (rule : ∀ (i j : Int) (t u : Tok) (s : Shared) (Q : Value → Shared → Prop) (E : Value → Shared → Prop), Q (.bool (g i j)) s → wpAny (model X.prog X.w) X.A (f (.int i t) (.int j u)) Q E s) :
    OpR X f (rI0 fun i j => .bl (g i j)) := by
  intro pins s σ H x y v u Q I rx ry h
  obtain ⟨i, j, rfl, rfl, q⟩ := h
  obtain ⟨t, rfl⟩ := rx
  obtain ⟨t', rfl⟩ := ry
  exact rule i j t t' s _ _ ⟨.bl (g i j), H, I, rfl, q⟩
def CPow (i j : Int) : Prop := 0 ≤ j ∧ j ≤ 1000000 ∧ i.natAbs < 2 ^ 64
def CMul (i j : Int) : Prop := (-(2 ^ 64) < i ∧ i < 2 ^ 64) ∨ (-(2 ^ 64) < j ∧ j < 2 ^ 64)
theorem CMul.ok {i j : Int} (h : CMul i j) : IntMulOk i j := by
  rcases h with ⟨h1, h2⟩ | ⟨h1, h2⟩
  · exact .of_left (intBits_le_64 h1 h2)
  · exact .of_right (intBits_le_64 h1 h2)
theorem two_pow_nn (k : Nat) : (0 : Int) ≤ 2 ^ k := by
  rw [two_pow_cast]
  exact Int.natCast_nonneg _
theorem op_add : OpR X (binaryOp .Add) (rI0 fun i j => .int (i + j)) := opI0 fun _ _ _ _ _ _ _ q => add_int q
theorem op_sub : OpR X (binaryOp .Sub) (rI0 fun i j => .int (i - j)) := opI0 fun _ _ _ _ _ _ _ q => sub_int q
theorem op_shl : OpR X (binaryOp .LShift) (rI CPow fun i j => .int (i * 2 ^ j.toNat)) := opI fun _ _ _ _ _ _ _ hc q => lshift_int_small hc.1 hc.2.1 hc.2.2 q
theorem op_shr : OpR X (binaryOp .RShift) (rI (fun _ j => 0 ≤ j) fun i j => .int (i / 2 ^ j.toNat)) := opI fun i j _ _ _ _ _ hc q =>
  rshift_int hc (by rw [Int.fdiv_eq_ediv_of_nonneg i (two_pow_nn _)]; exact q)
theorem op_and : OpR X (binaryOp .BitAnd) (rI0 fun i j => .int (Builtin.bitAnd i j)) := opI0 fun _ _ _ _ _ _ _ q => and_int q
theorem op_or : OpR X (binaryOp .BitOr) (rI0 fun i j => .int (Builtin.bitOr i j)) := opI0 fun _ _ _ _ _ _ _ q => or_int q
theorem unI {f : Value → Sem Value} {g : Int → Int}
    (rule : ∀ (i : Int) (t : Tok) (s : Shared) (Q : Value → Shared → Prop) (E : Value → Shared → Prop), Q (.int (g i) s.toks) { s with toks := s.toks + 1 } → wpAny (model X.prog X.w) X.A (f (.int i t)) Q E s) :
    UnR X f (rU fun i => .int (g i)) := by
  intro pins s σ H x v Q I rx h
  obtain ⟨i, rfl, q⟩ := h
  obtain ⟨t, rfl⟩ := rx
  exact rule i t s _ _ ⟨.int (g i), H, I.tok _, ⟨_, rfl⟩, q⟩
theorem un_inv : UnR X (unaryOp .Invert) (rU fun i => .int (Builtin.bitNot i)) := unI fun _ _ _ _ _ q => invert_int q
end
/-- the scalars that == tells apart as data does -/
def scal : V → V → Bool
  | .non, .non => true | .non, .int _ => true | .int _, .non => true | .non, .bl _ => true | .bl _, .non => true | .non, .str _ => true | .str _, .non => true
  | .int _, .int _ => true | .bl _, .bl _ => true | .str _, .str _ => true | .byt _, .byt _ => true
  | .int _, .str _ => true | .str _, .int _ => true | .bl _, .str _ => true | .str _, .bl _ => true
  | _, _ => false
def rEq : R2 := fun x y H Q => scal x y = true ∧ Q (.bl (decide (x = y))) H
def rNe : R2 := fun x y H Q => scal x y = true ∧ Q (.bl (!decide (x = y))) H
theorem dec_int {i j : Int} : decide (V.int i = V.int j) = (i == j) := by
  rw [Bool.eq_iff_iff]
  simp
theorem dec_bl {i j : Bool} : decide (V.bl i = V.bl j) = (i == j) := by
  rw [Bool.eq_iff_iff]
  simp
theorem dec_str {i j : Str} : decide (V.str i = V.str j) = (i == j) := by
  rw [Bool.eq_iff_iff]
  simp
theorem dec_byt {i j : Array UInt8} : decide (V.byt i = V.byt j) = (i.toList == j.toList) := by
  rw [Bool.eq_iff_iff]
  cases i
  cases j
  simp
section
variable {X : Cx} {a b c : Expr} {ta tb tc : TE} {pos : Pos}
theorem fin_bl {pins : List (Addr × Obj)} {σ : St} {H : Hp} {s : Shared} {Q : VK} {k k' : Bool} (I : Inv X pins σ H s) (q : Q (.bl k) H) (e : k = k') : EP X pins σ Q (.bool k') s := by
  subst e
  exact ⟨.bl k, H, I, rfl, q⟩
theorem op_eq : OpR X (compareOp .Eq) rEq := by
  intro pins s σ H x y v u Q I rx ry h
  obtain ⟨hs, q⟩ := h
  cases x with
  | non =>
    cases rx
    cases y with
    | non => cases ry; exact PySem.EqNone.eq_none_none (fin_bl I q (by simp))
    | bl j => cases ry; exact PySem.EqNone.eq_none_bool (fin_bl I q (by simp))
    | int j => obtain ⟨t', rfl⟩ := ry; exact PySem.EqNone.eq_none_int (fin_bl I q (by simp))
    | str j => obtain ⟨t', rfl⟩ := ry; exact PySem.EqNone.eq_none_str (fin_bl I q (by simp))
    | _ => exact absurd (show false = true from hs) Bool.false_ne_true
  | bl i =>
    cases rx
    cases y with
    | non => cases ry; exact PySem.EqNone.eq_bool_none (fin_bl I q (by simp))
    | bl j => cases ry; exact eq_bool (fin_bl I q dec_bl)
    | str j => obtain ⟨t', rfl⟩ := ry; exact PySem.EqMixed.eq_bool_str (fin_bl I q (by simp))
    | _ => exact absurd (show false = true from hs) Bool.false_ne_true
  | int i =>
    obtain ⟨t, rfl⟩ := rx
    cases y with
    | non => cases ry; exact PySem.EqNone.eq_int_none (fin_bl I q (by simp))
    | int j => obtain ⟨t', rfl⟩ := ry; exact eq_int (fin_bl I q dec_int)
    | str j => obtain ⟨t', rfl⟩ := ry; exact PySem.EqMixed.eq_int_str (fin_bl I q (by simp))
    | _ => exact absurd (show false = true from hs) Bool.false_ne_true
  | str i =>
    obtain ⟨t, rfl⟩ := rx
    cases y with
    | non => cases ry; exact PySem.EqNone.eq_str_none (fin_bl I q (by simp))
    | bl j => cases ry; exact PySem.EqMixed.eq_str_bool (fin_bl I q (by simp))
    | int j => obtain ⟨t', rfl⟩ := ry; exact PySem.EqMixed.eq_str_int (fin_bl I q (by simp))
    | str j => obtain ⟨t', rfl⟩ := ry; exact eq_str (fin_bl I q dec_str)
    | _ => exact absurd (show false = true from hs) Bool.false_ne_true
  | byt i =>
    obtain ⟨t, rfl⟩ := rx
    cases y with
    | byt j => obtain ⟨t', rfl⟩ := ry; exact PySem.W.eq_bytes (fin_bl I q dec_byt)
    | _ => exact absurd (show false = true from hs) Bool.false_ne_true
  | _ => cases y <;> exact absurd (show false = true from hs) Bool.false_ne_true
theorem op_ne : OpR X (compareOp .NotEq) rNe := by
  intro pins s σ H x y v u Q I rx ry h
  obtain ⟨hs, q⟩ := h
  cases x with
  | non =>
    cases rx
    cases y with
    | non => cases ry; exact PySem.EqNone.ne_none_none (fin_bl I q (by simp))
    | bl j => cases ry; exact PySem.EqNone.ne_none_bool (fin_bl I q (by simp))
    | int j => obtain ⟨t', rfl⟩ := ry; exact PySem.EqNone.ne_none_int (fin_bl I q (by simp))
    | str j => obtain ⟨t', rfl⟩ := ry; exact PySem.EqNone.ne_none_str (fin_bl I q (by simp))
    | _ => exact absurd (show false = true from hs) Bool.false_ne_true
  | bl i =>
    cases rx
    cases y with
    | non => cases ry; exact PySem.EqNone.ne_bool_none (fin_bl I q (by simp))
    | bl j => cases ry; exact ne_bool (fin_bl I q (congrArg not dec_bl))
    | str j => obtain ⟨t', rfl⟩ := ry; exact PySem.EqMixed.ne_bool_str (fin_bl I q (by simp))
    | _ => exact absurd (show false = true from hs) Bool.false_ne_true
  | int i =>
    obtain ⟨t, rfl⟩ := rx
    cases y with
    | non => cases ry; exact PySem.EqNone.ne_int_none (fin_bl I q (by simp))
    | int j => obtain ⟨t', rfl⟩ := ry; exact ne_int (fin_bl I q (congrArg not dec_int))
    | str j => obtain ⟨t', rfl⟩ := ry; exact PySem.EqMixed.ne_int_str (fin_bl I q (by simp))
    | _ => exact absurd (show false = true from hs) Bool.false_ne_true
  | str i =>
    obtain ⟨t, rfl⟩ := rx
    cases y with
    | non => cases ry; exact PySem.EqNone.ne_str_none (fin_bl I q (by simp))
    | bl j => cases ry; exact PySem.EqMixed.ne_str_bool (fin_bl I q (by simp))
    | int j => obtain ⟨t', rfl⟩ := ry; exact PySem.EqMixed.ne_str_int (fin_bl I q (by simp))
    | str j => obtain ⟨t', rfl⟩ := ry; exact ne_str (fin_bl I q (congrArg not dec_str))
    | _ => exact absurd (show false = true from hs) Bool.false_ne_true
  | byt i =>
    obtain ⟨t, rfl⟩ := rx
    cases y with
    | byt j => obtain ⟨t', rfl⟩ := ry; exact PySem.W.ne_bytes (fin_bl I q (congrArg not dec_byt))
    | _ => exact absurd (show false = true from hs) Bool.false_ne_true
  | _ => cases y <;> exact absurd (show false = true from hs) Bool.false_ne_true
theorem op_lt : OpR X (compareOp .Lt) (rI0 fun i j => .bl (decide (i < j))) := opB0 fun _ _ _ _ _ _ _ q => lt_int q
theorem op_gt : OpR X (compareOp .Gt) (rI0 fun i j => .bl (decide (j < i))) := opB0 fun _ _ _ _ _ _ _ q => gt_int q
theorem op_ge : OpR X (compareOp .GtE) (rI0 fun i j => .bl (decide (j ≤ i))) := opB0 fun _ _ _ _ _ _ _ q => ge_int q
/-- is None, is not None: the right side a value none -/
theorem op_isN : OpR X (compareOp .Is) (fun x y H Q => y = .non ∧ Q (.bl (decide (x = .non))) H) := by
  intro pins s σ H x y v u Q I rx ry h
  obtain ⟨rfl, q⟩ := h
  cases ry
  refine is_none_gen (fin_bl I q ?_)
  cases x <;> first
    | (cases rx; rfl)
    | (obtain ⟨t, rfl⟩ := rx; rfl)
/-- two rules for one operation: by cases -/
theorem OpR.or {f : Value → Value → Sem Value} {r r' : R2} (h : OpR X f r) (h' : OpR X f r') : OpR X f (fun x y H Q => r x y H Q ∨ r' x y H Q) := by
  intro pins s σ H x y v u Q I rx ry q
  rcases q with q | q
  · exact h pins s σ H x y v u Q I rx ry q
  · exact h' pins s σ H x y v u Q I rx ry q
theorem nomark (b : Expr) {op : CmpOp} (h : op ≠ .In := by decide) (h2 : op ≠ .NotIn := by decide) : behindInMarks op b = false := by
  have e1 : (op == CmpOp.In) = false := by cases op <;> first | rfl | exact absurd rfl h
  have e2 : (op == CmpOp.NotIn) = false := by cases op <;> first | rfl | exact absurd rfl h2
  cases b <;> simp [behindInMarks, e1, e2]
/-- a comparison as a value; hm: nomark b, or (for in, not in) by with_unfolding_all rfl -/
theorem pe_cmpR {op : CmpOp} {r : R2} (ho : OpR X (compareOp op) r) (ha : PE X a ta) (hb : PE X b tb) (hm : behindInMarks op b = false) : PE X (.Compare a [op] [b] pos) (tOp r ta tb) := by
  intro pins s σ H Q I h
  exact wpAny_Compare1 (binT ha hb I h fun v u s2 x y H2 I2 rx ry q => ho pins s2 σ H2 x y v u Q I2 rx ry q) hm
/-- a reading of a value as a test -/
def tTest (t : TE) : TT := fun σ H Q => t σ H fun x H' => ∃ k, x = .bl k ∧ Q k H'
theorem pt_cmpR {op : CmpOp} {r : R2} (ho : OpR X (compareOp op) r) (ha : PE X a ta) (hb : PE X b tb) (hm : behindInMarks op b = false) : PT X (.Compare a [op] [b] pos) (tTest (tOp r ta tb)) := by
  intro pins s σ H Q I h
  refine wpAny_isTrue_Compare1 (thn (ha pins s σ H _ I h) fun v s1 ⟨x, H1, I1, r1, q1⟩ => thn (hb pins s1 σ H1 _ I1 q1) fun u s2 ⟨y, H2, I2, r2, q2⟩ =>
    thn (ho pins s2 σ H2 x y v u _ I2 r1 r2 q2) fun c s3 ⟨z, H3, I3, r3, k, e, q3⟩ => ?_) hm
  subst e
  cases r3
  exact wpAny_truthy_bool ⟨H3, I3, q3⟩
theorem line63 : (sizeLine : Nat) < 2 ^ 63 := by rw [sizeLine_eq]; decide
theorem vals1 {x : V} {us : List Value} (r : Vals [x] us) : ∃ u, us = [u] ∧ RelV x u := by
  cases r with
  | cons r1 r2 => cases r2; exact ⟨_, rfl, r1⟩
end
end L2
namespace L2
open PySem PySem.Spec PyProof.Rows
structure ObjM (h : Heap) (x dx C : Addr) (mA : Str → Option Value) : Prop where
  obj : h.get? x = some (PySem.W.instObj C dx)
  ns : h.Ns1 dx mA
  ne : dx ≠ x
theorem lookIn_ns {h : Heap} {dx : Addr} {mA : Str → Option Value} (n : h.Ns1 dx mA) : ∃ od, h.get? dx = some od ∧ ∀ name, PySem.W.lookIn name od = some (mA name) := by
  obtain ⟨o, es, ep, ho, hd, hk, _, hm⟩ := n
  refine ⟨o, ho, fun name => ?_⟩
  have e := hm name
  unfold nsFind findBy at e
  rw [← Array.find?_toList] at e
  unfold PySem.W.lookIn
  rw [hd]
  dsimp only
  split
  · rename_i y q
    rw [q] at e
    exact congrArg some e
  · rename_i q
    rw [q] at e
    have a : es.toList.any (·.refKey) = false := by
      rw [List.any_eq_false]
      intro y hy
      obtain ⟨z, t, hkey⟩ := hk y (Array.mem_toList_iff.mp hy)
      simp [DictEntry.refKey, hkey]
    have a' : ¬ es.toList.any (·.refKey) = true := by rw [a]; exact Bool.false_ne_true
    rw [if_neg a']
    exact congrArg some e
theorem ObjM.look {h : Heap} {x dx C : Addr} {mA : Str → Option Value} (I : ObjM h x dx C mA) : ∃ od, PySem.W.InstAt h x (PySem.W.instObj C dx) C (some od) ∧ ∀ name, PySem.W.lookIn name od = some (mA name) :=
  let ⟨od, ho, hl⟩ := lookIn_ns I.ns
  ⟨od, ⟨I.obj, rfl, rfl, ho⟩, hl⟩
section
variable {prog : Program} {w : World} {A : Around} {E : Value → Shared → Prop} {s : Shared} {K : PySem.W.Frag} {x dx C f : Addr} {mA : Str → Option Value} {name : Str} {v : Value}
theorem get_map {expr : Bool} {Q : Value → Shared → Prop} (X : K.In s.heap) (I : ObjM s.heap x dx C mA) (hg : PySem.W.plainGet K C name = true) (hh : PySem.W.hasDictIn K C = true)
    (ha : PySem.W.findIn K (.ref C) name = some none) (hv : mA name = some v) (hv' : PySem.W.handedIn v = true) (h : Q v { s with toks := s.toks + 1 }) :
    wpAny (model prog w) A (getAttr (.ref x) name expr) Q E s := by
  obtain ⟨od, J, hl⟩ := I.look
  exact PySem.W.get_value X J (PySem.W.plainGet_of hg).1 (PySem.W.findObj_own hh ha rfl (by rw [hl, hv])) hv' h
theorem get_meth {pl : Sem Bool} {Q : Value × List Value → Shared → Prop} (X : K.In s.heap) (I : ObjM s.heap x dx C mA) (hg : PySem.W.plainGet K C name = true)
    (hf : PySem.W.findIn K (.ref C) name = some (some (.ref f))) (ht : PySem.W.isFn K (.ref f) = true) (hv : mA name = none) (h : Q (.ref f, [.ref x]) s) :
    wpAny (model prog w) A (getMethod (.ref x) name pl) Q E s := by
  obtain ⟨od, J, hl⟩ := I.look
  exact PySem.W.method_fn X J (PySem.W.plainGet_of hg).1 (PySem.W.plainGet_of hg).2 hf (beq_iff_eq.mp ht) (by show (PySem.W.lookIn name od).map (·.isSome) = some false; rw [hl, hv]; rfl) h
theorem set_map {ns : List Str} {Q : Unit → Shared → Prop} (X : K.In s.heap) (I : ObjM s.heap x dx C mA)
    (hs : PySem.W.findIn K (.ref C) "__setattr__" = some (some (.builtin "object.__setattr__"))) (hp : PySem.W.plainOver K C = true) (ht : PySem.W.takerIn K C name = some none) (hh : PySem.W.hasDictIn K C = true)
    (hw : PySem.Within mA ns) (hsz : ns.length ≤ sizeLine)
    (h : ∀ h', ObjM h' x dx C (fun y => if y = name then some v else mA y) → Heap.SameBut dx s.heap h' → Q () { s with heap := h', toks := s.toks + 2 }) :
    wpAny (model prog w) A (setAttr (.ref x) name v) Q E s := by
  obtain ⟨od, J, hl⟩ := I.look
  refine PySem.W.set_plain X J hs (PySem.W.osa_open (s := { s with toks := s.toks + 1 }) (r := none) X J hp ht fun b => ?_)
  obtain ⟨cd, hc, hd'⟩ := PySem.W.any_some hh
  have hx : s.heap.get? x = some ⟨.ref C, some dx, .plain, #[]⟩ := I.obj
  refine wpAny_bind (wpAny_pure (wpAny_bind (wpAny_bind (wpAny_loadPart hx (wpAny_bind (PySem.W.Looks.here (s := { s with toks := s.toks + 1 }) (PySem.W.looks_clsIn X hc) ?_))))))
  rw [hd']
  refine wpAny_pure (a := some dx) (wpAny_bind (wpAny_pure (wpAny_bind ?_)))
  refine wpAny_nsSet1 (s := { s with toks := s.toks + 1 }) I.ns fun h' hn2 hs2 => ?_
  obtain ⟨oD, esD, epD, hoD, hdD, hcD⟩ := hn2.count (PySem.Within.cons name v hw)
  refine wpAny_bind (wpAny_lookBehind hoD (by rw [hdD]; exact pastItsLine_dict (Nat.le_trans hcD (by rw [List.length_cons]; omega))) ?_)
  exact wpAny_pure (h _ ⟨(hs2.2 _ (Ne.symm I.ne)).trans I.obj, hn2, I.ne⟩ hs2)
/-- C(..): the dict at the heap's end, the instance behind it; then its __init__ -/
theorem make_map {R : Result → Shared → Prop} {vs : List Value} {kw : List (Str × Value)} (X : K.In s.heap) (hm : PySem.W.makesIn K C = true)
    (hi : PySem.W.findIn K (.ref C) "__init__" = some (some (.ref f))) (hf : PySem.W.typeIn K (.ref f) = some (.type "function"))
    (h : codeAny (model prog w) (A.under (.builtin "type.__call__" ⟨.ref C :: vs, kw⟩)) (.call (.ref f) ⟨.ref (s.heap.objs.size + 1) :: vs, kw⟩) (PySem.W.InitBack (s.heap.objs.size + 1) R)
      { s with heap := (s.heap.push PySem.W.emptyDict).push (PySem.W.instObj C s.heap.objs.size) }) :
    codeAny (model prog w) A (.call (.ref C) ⟨vs, kw⟩) R s := by
  obtain ⟨hh, g, d, t, os⟩ := s
  exact PySem.W.make_core (PySem.W.makes_of X hm) (PySem.W.looks_findIn X hi) (fun self => PySem.W.bind_fn X self hf) (.inl rfl) h
end
def putF (f : Str) (v : V) : List (Str × V) → List (Str × V)
  | [] => [(f, v)]
  | (g, x) :: r => if g = f then (g, v) :: r else (g, x) :: putF f v r
theorem lookup_putF (f g : Str) (v : V) : ∀ fs : List (Str × V), (putF f v fs).lookup g = if g = f then some v else fs.lookup g
  | [] => by
    show List.lookup g [(f, v)] = _
    by_cases h : g = f
    · have hb : (g == f) = true := beq_iff_eq.mpr h
      simp only [List.lookup, hb, if_pos h]
    · have hb : (g == f) = false := beq_eq_false_iff_ne.mpr h
      simp only [List.lookup, hb, if_neg h]
  | (k, x) :: r => by
    have ih := lookup_putF f g v r
    rw [show putF f v ((k, x) :: r) = (if k = f then (k, v) :: r else (k, x) :: putF f v r) from rfl]
    by_cases hk : k = f
    · rw [if_pos hk]
      by_cases h : g = k
      · have hb : (g == k) = true := beq_iff_eq.mpr h
        simp only [List.lookup, hb, if_pos (h.trans hk)]
      · have hb : (g == k) = false := beq_eq_false_iff_ne.mpr h
        simp only [List.lookup, hb, if_neg (fun e : g = f => h (e.trans hk.symm))]
    · rw [if_neg hk]
      by_cases h : g = k
      · have hb : (g == k) = true := beq_iff_eq.mpr h
        simp only [List.lookup, hb, if_neg (fun e : g = f => hk (h.symm.trans e))]
      · have hb : (g == k) = false := beq_eq_false_iff_ne.mpr h
        simp only [List.lookup, hb]
        exact ih
theorem keys_putF (f : Str) (v : V) : ∀ fs : List (Str × V), f ∈ (putF f v fs).map (·.1) ∧ ∀ g, g ∈ fs.map (·.1) → g ∈ (putF f v fs).map (·.1)
  | [] => ⟨by simp [putF], fun g h => by simp at h⟩
  | (k, x) :: r => by
    obtain ⟨i1, i2⟩ := keys_putF f v r
    rw [show putF f v ((k, x) :: r) = (if k = f then (k, v) :: r else (k, x) :: putF f v r) from rfl]
    by_cases hk : k = f
    · rw [if_pos hk]
      subst hk
      exact ⟨by simp, fun g h => by simpa using h⟩
    · rw [if_neg hk]
      refine ⟨?_, fun g h => ?_⟩
      · rw [List.map_cons]
        exact List.mem_cons_of_mem _ i1
      · rw [List.map_cons] at h ⊢
        rcases List.mem_cons.mp h with e | e
        · exact List.mem_cons.mpr (.inl e)
        · exact List.mem_cons_of_mem _ (i2 g e)
theorem length_putF (f : Str) (v : V) : ∀ fs : List (Str × V), (putF f v fs).length ≤ fs.length + 1
  | [] => by simp [putF]
  | (k, x) :: r => by
    have ih := length_putF f v r
    rw [show putF f v ((k, x) :: r) = (if k = f then (k, v) :: r else (k, x) :: putF f v r) from rfl]
    by_cases hk : k = f
    · rw [if_pos hk, List.length_cons, List.length_cons]; omega
    · rw [if_neg hk, List.length_cons, List.length_cons]; omega
theorem RelO.some_of {v : V} {o : Option Value} (r : RelO (some v) o) : ∃ u, o = some u ∧ RelV v u := by
  cases o with
  | none => exact (show False from r).elim
  | some u => exact ⟨u, rfl, r⟩
theorem RelO.none_of {o : Option Value} (r : RelO none o) : o = none := by
  cases o with
  | none => rfl
  | some u => exact (show False from r).elim
theorem handed_of {v : V} {u : Value} (r : RelV v u) : PySem.W.handedIn u = true := by
  cases v with
  | non => cases (show u = Value.none from r); rfl
  | bl b => cases (show u = Value.bool b from r); rfl
  | int i => obtain ⟨t, e⟩ := (show ∃ t, u = Value.int i t from r); cases e; rfl
  | str x => obtain ⟨t, e⟩ := (show ∃ t, u = Value.str x t from r); cases e; rfl
  | byt b => obtain ⟨t, e⟩ := (show ∃ t, u = Value.bytes b t from r); cases e; rfl
  | flt b => obtain ⟨t, e⟩ := (show ∃ t, u = Value.float b t from r); cases e; rfl
  | ref a => cases (show u = Value.ref a from r); rfl
  | ty n => cases (show u = Value.type n from r); rfl
section
variable {P : Program} {w : World} {H H' : Hp} {h h' : Heap} {a C dx : Addr} {fs fs' : List (Str × V)}
theorem ins_get (hok : HOk P w H h) (e : H a = some (.ins C dx fs)) : ∃ mA, ObjM h a dx C mA ∧ (∀ f, RelO (fs.lookup f) (mA f)) ∧ PySem.Within mA (fs.map (·.1)) ∧ fs.length ≤ 1000 ∧ H dx = some (.own a) := by
  obtain ⟨d, z, ne, ob, mA, n, r, q⟩ := (show ObjOk P w H h a (.ins C dx fs) from hok a _ e)
  exact ⟨mA, ⟨ob, n, ne⟩, r, q, z, d⟩
end
structure Cls (K : PySem.W.Frag) (C : Addr) : Prop where
  pg : PySem.W.plainGet K C Str.empty = true
  hd : PySem.W.hasDictIn K C = true
  po : PySem.W.plainOver K C = true
  sa : PySem.W.findIn K (.ref C) "__setattr__" = some (some (.builtin "object.__setattr__"))
theorem Cls.get {K : PySem.W.Frag} {C : Addr} (c : Cls K C) (f : Str) : PySem.W.plainGet K C f = true := c.pg
/-- no class of it has the name -/
def NoAttr (K : PySem.W.Frag) (C : Addr) (f : Str) : Prop := PySem.W.findIn K (.ref C) f = some none
theorem NoAttr.taker {K : PySem.W.Frag} {C : Addr} {f : Str} (n : NoAttr K C f) : PySem.W.takerIn K C f = some none := by
  unfold PySem.W.takerIn
  rw [show PySem.W.findIn K (.ref C) f = some none from n]
  rfl
/-- a method: a plain def of the class or of one above it -/
structure Meth (K : PySem.W.Frag) (C : Addr) (m : Str) (f : Addr) : Prop where
  at_ : PySem.W.findIn K (.ref C) m = some (some (.ref f))
  fn : PySem.W.isFn K (.ref f) = true
  kp : PySem.W.keepIn K (.ref f) = true
section
variable {X : Cx} {pins : List (Addr × Obj)} {σ : St} {H : Hp} {s : Shared} {a C dx : Addr} {fs : List (Str × V)} {f : Str} {v : V} {A : Around} {E : Value → Shared → Prop}
theorem getattr_ok {b : Bool} {Q : Value → Shared → Prop} (I : Inv X pins σ H s) (e : H a = some (.ins C dx fs)) (c : Cls X.K C) (n : NoAttr X.K C f) (l : fs.lookup f = some v)
    (h : ∀ u s', Inv X pins σ H s' → RelV v u → Q u s') : wpAny (model X.prog X.w) A (getAttr (.ref a) f b) Q E s := by
  obtain ⟨mA, O, r, _, _, _⟩ := ins_get I.hok e
  obtain ⟨u, hu, ru⟩ := RelO.some_of (v := v) (o := mA f) (by rw [← l]; exact r f)
  exact get_map I.kIn O (c.get f) c.hd n hu (handed_of ru) (h u _ (I.tok _) ru)
theorem getmeth_ok {m : Str} {g : Addr} {pl : Sem Bool} {Q : Value × List Value → Shared → Prop} (I : Inv X pins σ H s) (e : H a = some (.ins C dx fs)) (c : Cls X.K C) (k : Meth X.K C m g) (l : fs.lookup m = none)
    (h : Q (.ref g, [.ref a]) s) : wpAny (model X.prog X.w) A (getMethod (.ref a) m pl) Q E s := by
  obtain ⟨mA, O, r, _, _, _⟩ := ins_get I.hok e
  have hn : mA m = none := RelO.none_of (by rw [← l]; exact r m)
  exact get_meth I.kIn O (c.get m) k.at_ k.fn hn h
theorem setattr_ok {y : V} {u : Value} {Q : Unit → Shared → Prop} (I : Inv X pins σ H s) (e : H a = some (.ins C dx fs)) (c : Cls X.K C) (n : NoAttr X.K C f) (hl : fs.length < 1000) (ry : RelV y u)
    (h : ∀ s', Inv X pins σ (upd H a (.ins C dx (putF f y fs))) s' → Q () s') : wpAny (model X.prog X.w) A (setAttr (.ref a) f u) Q E s := by
  obtain ⟨mA, O, r, wi, _, ho⟩ := ins_get I.hok e
  have hz : (fs.map (·.1)).length ≤ sizeLine := by rw [List.length_map, sizeLine_eq]; omega
  refine set_map I.kIn O c.sa c.po n.taker c.hd wi hz fun h' O' sb => h _ ?_
  have hd : ∃ o, h'.get? dx = some o := let ⟨o, _, _, e', _⟩ := O'.ns; ⟨o, e'⟩
  refine I.write (x := a) (e := dx) (by rw [e]; exact True.intro) (.inr ho) (fun b q hb z => (sb.2 b hb).trans z) hd ?_
  refine ⟨by rw [upd_ne O.ne]; exact ho, ?_, O.ne, O'.obj, _, O'.ns, fun g => ?_, fun g hg => ?_⟩
  · have := length_putF f y fs; omega
  · show RelO ((putF f y fs).lookup g) (if g = f then some u else mA g)
    rw [lookup_putF]
    by_cases q : g = f
    · rw [if_pos q, if_pos q]; exact ry
    · rw [if_neg q, if_neg q]; exact r g
  · by_cases q : g = f
    · rw [q]; exact (keys_putF f y fs).1
    · refine (keys_putF f y fs).2 g (wi g fun z => hg ?_)
      show (if g = f then some u else mA g) = none
      rw [if_neg q]; exact z
/-- a new instance, tracked, without attributes -/
theorem Inv.made (I : Inv X pins σ H s) : Inv X pins σ (upd (upd H s.heap.objs.size (.own (s.heap.objs.size + 1))) (s.heap.objs.size + 1) (.ins C s.heap.objs.size []))
    { s with heap := (s.heap.push PySem.W.emptyDict).push (PySem.W.instObj C s.heap.objs.size) } := by
  have e1 : (s.heap.push PySem.W.emptyDict).get? s.heap.objs.size = some PySem.W.emptyDict := Heap.get?_push_size s.heap rfl
  have e2 : ((s.heap.push PySem.W.emptyDict).push (PySem.W.instObj C s.heap.objs.size)).get? (s.heap.objs.size + 1) = some (PySem.W.instObj C s.heap.objs.size) := by
    have := Heap.get?_push_size (s.heap.push PySem.W.emptyDict) (o := PySem.W.instObj C s.heap.objs.size) rfl
    rwa [Heap.size_push] at this
  have e3 : (s.heap.push PySem.W.emptyDict).Ns s.heap.objs.size (fun _ => none) := ⟨PySem.W.emptyDict, #[], _, e1, rfl, (fun e he => absurd he (by simp)), fun _ => rfl⟩
  have I1 := I.laid (a := s.heap.objs.size) (o := .own (s.heap.objs.size + 1)) (h' := s.heap.push PySem.W.emptyDict) (t' := s.toks) (fun b u q => Heap.get?_push_of_some _ q) (Nat.le_refl _) ⟨_, e1⟩
  refine I1.laid (a := s.heap.objs.size + 1) (o := .ins C s.heap.objs.size []) (t' := s.toks) (fun b u q => Heap.get?_push_of_some _ q) (Nat.le_of_eq (Heap.size_push _ _)) ?_
  have ne : s.heap.objs.size ≠ s.heap.objs.size + 1 := Nat.ne_of_lt (Nat.lt_succ_self _)
  refine ⟨by rw [upd_ne ne, upd_same], Nat.zero_le _, ne, e2, fun _ => none, (Heap.Ns1.of_empty e3).at fun o q => Heap.get?_push_of_some _ q, fun _ => True.intro, fun y hy => absurd rfl hy⟩
/-- e.f where nothing but the object is asked: through attributeBase (super) and the last hold -/
theorem attr_of {prog : Program} {w : World} {env : Env} {e : Expr} {f : Str} {pos : Pos} {s : Shared} {Q : Value → Shared → Prop} (hb : attributeBase e f env (eval e env) = eval e env)
    (h : wpAny (model prog w) A (eval e env) (fun o s₁ => wpAny (model prog w) A (getAttr o f true) Q E s₁) E s) : wpAny (model prog w) A (eval (.Attribute e f pos) env) Q E s :=
  Attribute_any_ h (by rw [arm_eval_Attribute, hb])
end
/-- e.f, an attribute of the instance -/
def tFld (K : PySem.W.Frag) (ta : TE) (f : Str) : TE := fun σ H Q => ta σ H fun x H1 => ∃ a C dx fs v, x = .ref a ∧ H1 a = some (.ins C dx fs) ∧ Cls K C ∧ NoAttr K C f ∧ fs.lookup f = some v ∧ Q v H1
/-- e.f = value -/
def sFld (K : PySem.W.Frag) (ta tv : TE) (f : Str) : TS := fun D σ H => tv σ H fun y H1 => ta σ H1 fun x H2 => ∃ a C dx fs, x = .ref a ∧ H2 a = some (.ins C dx fs) ∧ Cls K C ∧ NoAttr K C f ∧ fs.length < 1000 ∧
  D.nx σ (upd H2 a (.ins C dx (putF f y fs)))
section
variable {X : Cx} {o e value : Expr} {f : Str} {pos pos' tpos : Pos} {ta tv : TE}
theorem pe_fld (he : PE X e ta) (hb : attributeBase e f X.env (eval e X.env) = eval e X.env) : PE X (.Attribute e f pos) (tFld X.K ta f) := by
  intro pins s σ H Q I h
  refine attr_of hb (thn (he pins s σ H _ I h) fun u s1 ⟨x, H1, I1, rx, a, C, dx, fs, v, ex, ea, c, n, l, q⟩ => ?_)
  subst ex
  obtain rfl : u = Value.ref a := rx
  exact getattr_ok I1 ea c n l fun u' s2 I2 ru => ⟨v, H1, I2, ru, q⟩
theorem ps_fld (ha : PE X o ta) (hv : PE X value tv) (hs : swapsWith value (some (.Attribute o f pos')) pos.line X.env = pure false) : PS X (.Assign [.Attribute o f pos'] value pos) (sFld X.K ta tv f) := by
  intro pins s σ H D I h
  refine plainObj_wpAny_Assign_Attribute (thn (hv pins s σ H _ I h) fun u s1 ⟨y, H1, I1, ry, q⟩ => thn (ha pins s1 σ H1 _ I1 q) fun ov s2 ⟨x, H2, I2, rx, a, C, dx, fs, ex, ea, c, n, l, q2⟩ => ?_) hs
  subst ex
  obtain rfl : ov = Value.ref a := rx
  exact setattr_ok I2 ea c n l ry fun s3 I3 => ⟨σ, _, I3, q2⟩
end
section
variable {X : Cx} {pins : List (Addr × Obj)} {σ : St} {H : Hp} {s : Shared} {A : Around} {E : Value → Shared → Prop} {Q : Value → Shared → Prop} {c : Value} {b : Bool}
end
end L2
namespace L2
open PySem PySem.Spec PyProof.Rows
structure Room (k : Nat) (A : Around) : Prop where
  hd : A.handled = none
  dp : A.depth + 3 * k + 5 < recursionLimit
  un : A.units + 16 * k + 200 < cLine
theorem Room.mono {j k : Nat} {A : Around} (r : Room k A) (h : j ≤ k) : Room j A := ⟨r.hd, by have := r.dp; omega, by have := r.un; omega⟩
theorem Room.deeper {k : Nat} {A : Around} (r : Room (k + 1) A) (env : Env) : Room k (A.deeper env) :=
  ⟨r.hd, by have := r.dp; show A.depth + 1 + 3 * k + 5 < _; omega, by have := r.un; show A.units + 3 + 16 * k + 200 < _; omega⟩
theorem Room.in1 {k : Nat} {A : Around} (r : Room (k + 1) A) : Room k A.in1 :=
  ⟨r.hd, by have := r.dp; show A.depth + 3 * k + 5 < _; omega, by have := r.un; show A.units + 1 + 16 * k + 200 < _; omega⟩
theorem make_depth {A : Around} {C : Addr} {us : List Value} {kw : List (Str × Value)} : (A.under (.builtin "type.__call__" ⟨.ref C :: us, kw⟩)).depth = A.depth + 1 := by
  first | rfl | simp [Around.under, Code.weight, Code.isCreation, Code.isGuard, Code.isCaller, Code.frames, Code.isFrame, guardIds]
theorem make_units {A : Around} {C : Addr} {us : List Value} {kw : List (Str × Value)} : (A.under (.builtin "type.__call__" ⟨.ref C :: us, kw⟩)).units = A.units + 1 := by
  first | rfl | simp [Around.under, Code.cUnits, Code.frames, Code.isFrame]
theorem Room.make {k : Nat} {A : Around} (r : Room (k + 1) A) (C : Addr) (us : List Value) (kw : List (Str × Value)) : Room k (A.under (.builtin "type.__call__" ⟨.ref C :: us, kw⟩)) :=
  ⟨r.hd, by have := r.dp; rw [make_depth]; omega, by have := r.un; rw [make_units]; omega⟩
theorem Room.depth {k : Nat} {A : Around} (r : Room k A) : A.depth < recursionLimit := by have := r.dp; omega
theorem Room.units {k : Nat} {A : Around} (r : Room k A) : A.units + 64 < cLine := by have := r.un; omega
def tNil : TA := fun _ H Q => Q [] H
def tCons (ta : TE) (tr : TA) : TA := fun σ H Q => ta σ H fun x H1 => tr σ H1 fun xs H2 => Q (x :: xs) H2
section
variable {X : Cx} {e : Expr} {es : List Expr} {te : TE} {t : TA} {pos : Pos}
theorem pa_nil : PA X [] tNil := fun _ _ _ _ H Q I h => Calls.spliced_nil ⟨[], H, I, .nil, h⟩
theorem pa_cons (ha : PE X e te) (hr : PA X es t) (hs : starEach (e :: es) X.env = (false, eval e X.env) :: starEach es X.env := by rfl) : PA X (e :: es) (tCons te t) := by
  intro pos pins s σ H Q I h
  rw [hs]
  show wpAny _ _ (spliced ((false, eval e X.env) :: backTo pos (starEach es X.env))) _ _ s
  refine Calls.spliced_cons (thn (ha pins s σ H _ I h) fun u s1 ⟨x, H1, I1, r1, q1⟩ => ?_)
  exact thn (hr pos pins s1 σ H1 _ I1 q1) fun us s2 ⟨xs, H2, I2, r2, q2⟩ => ⟨x :: xs, H2, I2, .cons r1 r2, q2⟩
def tLst (t : TA) : TE := fun σ H Q => t σ H fun xs H1 => xs.length ≤ sizeLine ∧ ∀ p, H1 p = none → Q (.ref p) (upd H1 p (.lst xs))
theorem pe_lst (h : PA X es t) : PE X (.List es pos) (tLst t) := by
  intro pins s σ H Q I hq
  refine wpAny_List_spliced (thn (h pos pins s σ H _ I hq) fun us s1 ⟨xs, H1, I1, r, z, q⟩ => ⟨by rw [← r.length]; exact z, ?_⟩)
  have hf : H1 s1.heap.objs.size = none := I1.hok.fresh (Nat.le_refl _)
  refine ⟨.ref s1.heap.objs.size, upd H1 s1.heap.objs.size (.lst xs), I1.laid (t' := s1.toks) (fun b u e => Heap.get?_push_of_some _ e) (Nat.le_refl _) ?_, rfl, q _ hf⟩
  exact ⟨z, us, 0, r, Heap.get?_push_size _ rfl⟩
end
/-- a def's promise: the bound arguments in the parameters' order, the heap, the wanted end, the wanted exception -/
abbrev Sp := List V → Hp → VK → XK → Prop
/-- how an exception lies behind a call (file 08 gives it): the callers' frames, abstract heap and state ahead of the call, the wish, the exception, the state -/
abbrev CXT := List Env → Hp → Shared → XK → Value → Shared → Prop
/-- the state at a call -/
structure Env0 (P : Program) (w : World) (K : PySem.W.Frag) (mg : Str → Option Value) (base : Heap) (A : Around) (outer : List Env) (s : Shared) (H : Hp) : Prop where
  frames : A.frames = some outer
  mod : Mod K mg base
  bs : ∀ b o, base.get? b = some o → s.heap.get? b = some o ∧ H b = none
  bsz : base.objs.size ≤ s.heap.objs.size
  funs : s.heap.FunFrames base outer
  frf : ∀ b ∈ frs outer, H b = none
  hok : HOk P w H s.heap
  bare : AllBare s.gens
/-- a call's end -/
def CE (outer : List Env) (P : Program) (w : World) (H : Hp) (s : Shared) (Q : VK) (u : Value) (s' : Shared) : Prop :=
  ∃ v H', s'.os = s.os ∧ AllBare s'.gens ∧ Un (frs outer) [] H H' s.heap s'.heap ∧ HOk P w H' s'.heap ∧ RelV v u ∧ Q v H'
def CR (CX : CXT) (outer : List Env) (P : Program) (w : World) (H : Hp) (s : Shared) (Q : VK) (E : XK) (r : Result) (s' : Shared) : Prop :=
  match r with
  | .ok (.ret u) => CE outer P w H s Q u s'
  | .ok _ => False
  | .error e => CX outer H s E e s'
structure FnOk (P : Program) (w : World) (K : PySem.W.Frag) (mg : Str → Option Value) (base : Heap) (CX : CXT) (k : Nat) (f : Addr) (fd : FuncData) (ps : List Str) (sp : Sp) : Prop where
  len : ∀ vs H Q E, sp vs H Q E → vs.length = ps.length
  run : ∀ (A : Around) (outer : List Env) (s : Shared) (H : Hp) (args : Args) (us : List Value) (vs : List V) (Q : VK) (E : XK), Room k A → Env0 P w K mg base A outer s H → BindsTo s fd args (ps.zip us) → Vals vs us → sp vs H Q E →
    codeAny (model P w) A (.call (.ref f) args) (CR CX outer P w H s Q E) s
theorem FnOk.mono {P : Program} {w : World} {K : PySem.W.Frag} {mg : Str → Option Value} {base : Heap} {CX : CXT} {j k : Nat} {f : Addr} {fd : FuncData} {ps : List Str} {sp : Sp} (F : FnOk P w K mg base CX j f fd ps sp) (h : j ≤ k) :
    FnOk P w K mg base CX k f fd ps sp := ⟨F.len, fun A outer s H args us vs Q E hr => F.run A outer s H args us vs Q E (hr.mono h)⟩
theorem Env0.make {P : Program} {w : World} {K : PySem.W.Frag} {mg : Str → Option Value} {base : Heap} {A : Around} {outer : List Env} {s : Shared} {H : Hp} (e : Env0 P w K mg base A outer s H) (C : Addr) (us : List Value) (kw : List (Str × Value)) :
    Env0 P w K mg base (A.under (.builtin "type.__call__" ⟨.ref C :: us, kw⟩)) outer s H := ⟨by first | exact e.frames | (simpa [Around.under, Code.envs, Code.isFrame, pushEnvs] using e.frames), e.mod, e.bs, e.bsz, e.funs, e.frf, e.hok, e.bare⟩
theorem Env0.in1 {P : Program} {w : World} {K : PySem.W.Frag} {mg : Str → Option Value} {base : Heap} {A : Around} {outer : List Env} {s : Shared} {H : Hp} (e : Env0 P w K mg base A outer s H) :
    Env0 P w K mg base A.in1 outer s H := ⟨e.frames, e.mod, e.bs, e.bsz, e.funs, e.frf, e.hok, e.bare⟩
section
variable {X : Cx} {pins : List (Addr × Obj)} {σ : St} {H : Hp} {s s' : Shared}
/-- from a body: what a callee wants -/
theorem Inv.env0 (I : Inv X pins σ H s) : Env0 X.prog X.w X.K X.mg X.base X.A X.stack s H :=
  ⟨I.ok.frames, I.ok.mod, I.bs, Nat.le_trans I.ok.bsz I.sz, I.stack, I.stkFree, I.hok, I.bare⟩
/-- behind a call -/
theorem Inv.after {Q : VK} {u : Value} (I : Inv X pins σ H s) (h : CE X.stack X.prog X.w H s Q u s') : EP X pins σ Q u s' := by
  obtain ⟨v, H', os, bare, un, hok, r, q⟩ := h
  obtain ⟨hh, g, d, t, os'⟩ := s'
  obtain rfl : os' = s.os := os
  exact ⟨v, H', I.call (h' := hh) (g' := g) (d' := d) (t' := t) (ch := []) un hok bare (fun b z => absurd z (by simp)), r, q⟩
end
/-- f(..): the written arguments, then the defaults dvs; E: what is wanted of an exception -/
def tCall (sp : Sp) (dvs : List V) (E : XK) (t : TA) : TE := fun σ H Q => t σ H fun vs H1 => sp (vs ++ dvs) H1 Q E
/-- o.m(..) of an instance of the class at C -/
def tMeth (C : Addr) (m : Str) (sp : Sp) (dvs : List V) (E : XK) (ta : TE) (t : TA) : TE := fun σ H Q => ta σ H fun x H1 => ∃ a dx fs, x = .ref a ∧ H1 a = some (.ins C dx fs) ∧ fs.lookup m = none ∧
  t σ H1 fun vs H2 => sp (x :: (vs ++ dvs)) H2 Q E
/-- C(..): a new instance and its dict, then __init__ -/
def tMake (C : Addr) (sp : Sp) (dvs : List V) (E : XK) (t : TA) : TE := fun σ H Q => t σ H fun vs H1 => ∀ x dx, H1 x = none → H1 dx = none → dx ≠ x →
  sp (.ref x :: (vs ++ dvs)) (upd (upd H1 dx (.own x)) x (.ins C dx [])) (fun v H2 => v = .non ∧ Q (.ref x) H2) E
/-- how the parameters are bound: us the positional arguments, kw the keywords' values by name, ds the defaults that fill up -/
def Binds (K : PySem.W.Frag) (fd : FuncData) (ps : List Str) (ds : List Value) : Prop :=
  ∀ (s : Shared) (us : List Value), K.In s.heap → (us ++ ds).length = ps.length → BindsTo s fd ⟨us, []⟩ (ps.zip (us ++ ds))
/-- every parameter is given -/
theorem Binds.all {K : PySem.W.Frag} {fd : FuncData} {ps : List Str} (h : ∀ us : List Value, us.length = ps.length → bindArgs fd ⟨us, []⟩ = pure (ps.zip us)) : Binds K fd ps [] := fun s us _ hl => by
  rw [List.append_nil] at hl ⊢
  exact .of_eq (h us hl)
/-- an exception of a callee reaches what this body wants of exceptions -/
def Passes (CX : CXT) (X : Cx) (E : XK) : Prop := ∀ (pins : List (Addr × Obj)) (σ : St) (H : Hp) (s : Shared) (e : Value) (s' : Shared), Inv X pins σ H s → CX X.stack H s E e s' → X.xe e s'
section
variable {X : Cx} {CX : CXT} {k : Nat} {f C : Addr} {fd : FuncData} {ps : List Str} {sp : Sp} {dvs : List V} {ds : List Value} {E : XK} {x m : Str} {p pos apos : Pos} {e o : Expr} {es : List Expr} {ta : TE} {t : TA}
/-- the callee runs -/
theorem run_fn {pins : List (Addr × Obj)} {σ : St} {H : Hp} {s : Shared} {Q : VK} {us : List Value} {vs : List V} (F : FnOk X.prog X.w X.K X.mg X.base CX k f fd ps sp) (hr : Room k X.A) (hb : Binds X.K fd ps ds) (hd : Vals dvs ds) (hx : Passes CX X E)
    (I : Inv X pins σ H s) (r : Vals vs us) (h : sp (vs ++ dvs) H Q E) : wpAny (model X.prog X.w) X.A (call (.ref f) us) (EP X pins σ Q) X.xe s := by
  have r2 : Vals (vs ++ dvs) (us ++ ds) := r.append hd
  have hl : (us ++ ds).length = ps.length := by rw [← r2.length]; exact F.len _ _ _ _ h
  refine wpAny_call (codeAny_mono (F.run X.A X.stack s H ⟨us, []⟩ (us ++ ds) (vs ++ dvs) Q E hr I.env0 (hb s us I.kIn hl) r2 h) fun r s' hq => ?_)
  cases r with
  | error e => exact hx pins σ H s e s' I hq
  | ok fl =>
    cases fl with
    | ret u => exact I.after hq
    | next => exact False.elim hq
    | brk => exact False.elim hq
    | cont => exact False.elim hq
theorem pe_call (F : FnOk X.prog X.w X.K X.mg X.base CX k f fd ps sp) (hr : Room k X.A) (hg : Gl X x) (hm : X.mg x = some (.ref f)) (hk : PySem.W.keepIn X.K (.ref f) = true) (hb : Binds X.K fd ps ds) (hd : Vals dvs ds) (hx : Passes CX X E)
    (ha : PA X (e :: es) t) (hdb : (x == ("__debug__" : Str)) = false := by decide) (he : starEach (e :: es) X.env = (false, eval e X.env) :: starEach es X.env := by rfl) (hpl : (backTo pos (starEach es X.env)).any (·.1) = false := by rfl) :
    PE X (.Call (.Name x p) (e :: es) [] pos) (tCall sp dvs E t) := by
  intro pins s σ H Q I h
  refine wpAny_Call_Name_kw (ld_glob I hg hm ?_ hdb)
  refine PySem.W.callWith_K (h₀ := X.base) I.ok.mod.kin hk (thn (ha pos pins s σ H _ I h) fun us s1 ⟨vs, H1, I1, r, q⟩ => ⟨I1.kIn, ?_⟩) he hpl
  exact run_fn F hr hb hd hx I1 r q
/-- o.m(e, ..) -/
theorem pe_meth {pl : Sem Bool} (he : PE X o ta) (c : Cls X.K C) (hm : Meth X.K C m f) (F : FnOk X.prog X.w X.K X.mg X.base CX k f fd ps sp) (hr : Room k X.A) (hb : Binds X.K fd ps ds) (hd : Vals dvs ds) (hx : Passes CX X E) (ha : PA X (e :: es) t)
    (hst : starEach (e :: es) X.env = (false, eval e X.env) :: starEach es X.env := by rfl) (hpl : (backTo pos (starEach es X.env)).any (·.1) = false := by rfl)
    (ht : eval (.Call (.Attribute o m apos) (e :: es) [] pos) X.env = (do
      let ov ← eval o X.env
      standAt apos.atName
      let (f, first) ← holding [ov] (getMethod ov m pl)
      callWith pos f first (backTo pos (starEach (e :: es) X.env)) (backToKw pos (keywordEach [] X.env))) := by rfl) :
    PE X (.Call (.Attribute o m apos) (e :: es) [] pos) (tMeth C m sp dvs E ta t) := by
  intro pins s σ H Q I h
  refine PySem.W.methodCall_KW (pl := pl) (thn (he pins s σ H _ I h) fun u s1 ⟨x, H1, I1, rx, a, dx, fs, ex, ea, l, q⟩ => ?_) ht
  subst ex
  obtain rfl : u = Value.ref a := rx
  refine getmeth_ok I1 ea c hm l ?_
  refine PySem.W.callWith_K (first := [.ref a]) (h₀ := X.base) I.ok.mod.kin hm.kp (thn (ha pos pins s1 σ H1 _ I1 q) fun us s2 ⟨vs, H2, I2, r, q2⟩ => ⟨I2.kIn, ?_⟩) hst hpl
  exact run_fn (us := .ref a :: us) (vs := .ref a :: vs) F hr hb hd hx I2 (.cons rfl r) q2
/-- o.m() -/
theorem pe_meth0 {pl : Sem Bool} (he : PE X o ta) (c : Cls X.K C) (hm : Meth X.K C m f) (F : FnOk X.prog X.w X.K X.mg X.base CX k f fd ps sp) (hr : Room k X.A) (hb : Binds X.K fd ps ds) (hd : Vals dvs ds) (hx : Passes CX X E)
    (ht : eval (.Call (.Attribute o m apos) [] [] pos) X.env = (do
      let ov ← eval o X.env
      standAt apos.atName
      let (f, first) ← holding [ov] (getMethod ov m pl)
      callWith pos f first (backTo pos (starEach [] X.env)) (backToKw pos (keywordEach [] X.env))) := by rfl) :
    PE X (.Call (.Attribute o m apos) [] [] pos) (tMeth C m sp dvs E ta tNil) := by
  intro pins s σ H Q I h
  refine PySem.W.methodCall_KW (pl := pl) (thn (he pins s σ H _ I h) fun u s1 ⟨x, H1, I1, rx, a, dx, fs, ex, ea, l, q⟩ => ?_) ht
  subst ex
  obtain rfl : u = Value.ref a := rx
  refine getmeth_ok I1 ea c hm l ?_
  exact PySem.W.callWith_K0 (first := [.ref a]) I1.kIn hm.kp (run_fn (us := [.ref a]) (vs := [.ref a]) F hr hb hd hx I1 (.cons rfl .nil) q)
/-- what a class must have to be made -/
structure Mk (K : PySem.W.Frag) (C f : Addr) : Prop where
  makes : PySem.W.makesIn K C = true
  init : PySem.W.findIn K (.ref C) "__init__" = some (some (.ref f))
  fn : PySem.W.isFn K (.ref f) = true
  kp : PySem.W.keepIn K (.ref C) = true
theorem run_make {pins : List (Addr × Obj)} {σ : St} {H : Hp} {s : Shared} {Q : VK} {us : List Value} {vs : List V} (M : Mk X.K C f) (F : FnOk X.prog X.w X.K X.mg X.base CX k f fd ps sp) (hr : Room (k + 1) X.A) (hb : Binds X.K fd ps ds) (hd : Vals dvs ds)
    (hx : Passes CX X E) (I : Inv X pins σ H s) (r : Vals vs us)
    (h : ∀ x dx, H x = none → H dx = none → dx ≠ x → sp (.ref x :: (vs ++ dvs)) (upd (upd H dx (.own x)) x (.ins C dx [])) (fun v H2 => v = .non ∧ Q (.ref x) H2) E) :
    wpAny (model X.prog X.w) X.A (call (.ref C) us) (EP X pins σ Q) X.xe s := by
  have hq := h (s.heap.objs.size + 1) s.heap.objs.size (I.hok.fresh (Nat.le_succ _)) (I.hok.fresh (Nat.le_refl _)) (Nat.ne_of_lt (Nat.lt_succ_self _))
  have I2 := Inv.made (C := C) I
  have r2 : Vals (V.ref (s.heap.objs.size + 1) :: (vs ++ dvs)) (Value.ref (s.heap.objs.size + 1) :: (us ++ ds)) := .cons rfl (r.append hd)
  have hl : (Value.ref (s.heap.objs.size + 1) :: us ++ ds).length = ps.length := by
    have e := r2.length
    rw [F.len _ _ _ _ hq] at e
    exact e.symm
  refine wpAny_call (make_map (f := f) I.kIn M.makes M.init (beq_iff_eq.mp M.fn) (codeAny_mono (F.run _ X.stack _ _ ⟨Value.ref (s.heap.objs.size + 1) :: us, []⟩ (Value.ref (s.heap.objs.size + 1) :: (us ++ ds)) _ _ E (hr.make C us [])
    (I2.env0.make C us []) (hb _ (Value.ref (s.heap.objs.size + 1) :: us) I2.kIn hl) r2 hq) fun r s' hq' => ?_))
  cases r with
  | error e => exact hx pins σ _ _ e s' I2 hq'
  | ok fl =>
    cases fl with
    | ret u =>
      obtain ⟨v, H', I3, rv, ev, q3⟩ := I2.after hq'
      subst ev
      exact ⟨rv, ⟨V.ref (s.heap.objs.size + 1), H', I3, rfl, q3⟩⟩
    | next => exact False.elim hq'
    | brk => exact False.elim hq'
    | cont => exact False.elim hq'
theorem pe_make0 (M : Mk X.K C f) (F : FnOk X.prog X.w X.K X.mg X.base CX k f fd ps sp) (hr : Room (k + 1) X.A) (hg : Gl X x) (hm : X.mg x = some (.ref C)) (hb : Binds X.K fd ps ds) (hd : Vals dvs ds) (hx : Passes CX X E)
    (hdb : (x == ("__debug__" : Str)) = false := by decide) : PE X (.Call (.Name x p) [] [] pos) (tMake C sp dvs E tNil) := by
  intro pins s σ H Q I h
  refine wpAny_Call_Name_kw (ld_glob I hg hm ?_ hdb)
  exact PySem.W.callWith_K0 I.kIn M.kp (run_make (us := []) M F hr hb hd hx I .nil h)
end
section
variable {X : Cx} {CX : CXT} {k : Nat} {f C : Addr} {fd : FuncData} {ps ks : List Str} {sp : Sp} {E : XK} {x m : Str} {p pos apos kpos : Pos} {e o : Expr} {es : List Expr} {kws : List Keyword} {te ta : TE} {t tk : TA} {nm : Option Str}
variable {g : List Value → List Value → List Value} {gV : List V → List V → List V}
end
/-- names: the parameters first -/
structure FnScope (N P : List Str) (sc : Scope) : Prop where
  kind : sc.kind = .function
  co : sc.isCoroutine = false
  gen : sc.isGenerator = false
  nd : N.Nodup
  pre : N.take P.length = P
  par : ∀ x ∈ P, sc.names.lookup x = some .local ∨ sc.names.lookup x = some .cell
  nofree : ∀ y ∈ sc.names, y.2 ≠ .free
theorem bindL_out {kindOf : Str → Option NameKind} {x : Str} : ∀ {binds : List (Str × Value)} {m : Str → Option Value}, (∀ v, (x, v) ∉ binds) → bindL kindOf binds m x = m x
  | [], _, _ => rfl
  | (n, v) :: r, m, h => by
    unfold bindL
    rw [bindL_out fun w hw => h w (List.mem_cons_of_mem _ hw)]
    split
    · have : x ≠ n := by rintro rfl; exact h v List.mem_cons_self
      simp [this]
    · rfl
theorem bindC_out {kindOf : Str → Option NameKind} {x : Str} : ∀ {binds : List (Str × Value)} {m : Str → Option Value}, (∀ v, (x, v) ∉ binds) → bindC kindOf binds m x = m x
  | [], _, _ => rfl
  | (n, v) :: r, m, h => by
    unfold bindC
    rw [bindC_out fun w hw => h w (List.mem_cons_of_mem _ hw)]
    split
    · rfl
    · have : x ≠ n := by rintro rfl; exact h v List.mem_cons_self
      simp [this]
theorem bindL_get {kindOf : Str → Option NameKind} {x : Str} {v : Value} : ∀ {P : List Str} {vs : List Value} {i : Nat} {m : Str → Option Value}, P.Nodup → P[i]? = some x → vs[i]? = some v → kindOf x = some .local →
    bindL kindOf (P.zip vs) m x = some v
  | [], _, _, _, _, h, _, _ => by simp at h
  | _ :: _, [], _, _, _, _, h, _ => by simp at h
  | p :: P, w :: vs, 0, m, nd, h1, h2, hk => by
    simp at h1 h2; subst h1; subst h2
    show bindL kindOf ((p, w) :: P.zip vs) m p = _
    unfold bindL
    rw [bindL_out fun v hv => (List.nodup_cons.mp nd).1 (List.of_mem_zip hv).1, if_pos hk]
    simp
  | p :: P, w :: vs, i + 1, m, nd, h1, h2, hk => by
    show bindL kindOf ((p, w) :: P.zip vs) m x = _
    unfold bindL
    exact bindL_get (i := i) (List.nodup_cons.mp nd).2 (by simpa using h1) (by simpa using h2) hk
theorem bindC_get {kindOf : Str → Option NameKind} {x : Str} {v : Value} : ∀ {P : List Str} {vs : List Value} {i : Nat} {m : Str → Option Value}, P.Nodup → P[i]? = some x → vs[i]? = some v → kindOf x ≠ some .local →
    bindC kindOf (P.zip vs) m x = some v
  | [], _, _, _, _, h, _, _ => by simp at h
  | _ :: _, [], _, _, _, _, h, _ => by simp at h
  | p :: P, w :: vs, 0, m, nd, h1, h2, hk => by
    simp at h1 h2; subst h1; subst h2
    show bindC kindOf ((p, w) :: P.zip vs) m p = _
    unfold bindC
    rw [bindC_out fun v hv => (List.nodup_cons.mp nd).1 (List.of_mem_zip hv).1, if_neg hk]
    simp
  | p :: P, w :: vs, i + 1, m, nd, h1, h2, hk => by
    show bindC kindOf ((p, w) :: P.zip vs) m x = _
    unfold bindC
    exact bindC_get (i := i) (List.nodup_cons.mp nd).2 (by simpa using h1) (by simpa using h2) hk
/-- the names' values at the entry -/
def start (N : List Str) (vs : List V) : St := vs.map some ++ List.replicate (N.length - vs.length) none
/-- the context of a def's body, at its entry; an exception leaves the frame, then lies as CX says -/
def cxOf (CX : CXT) (P : Program) (w : World) (K : PySem.W.Frag) (mg : Str → Option Value) (base : Heap) (N : List Str) (qual : Str) (scope : Scope) (f : Addr) (cd : Value) (A : Around) (outer : List Env) (s : Shared) (H : Hp) (E : XK) : Cx where
  prog := P
  w := w
  K := K
  mg := mg
  base := base
  A := A.deeper (envOfC qual scope s.heap.objs.size f cd)
  N := N
  s_0 := s
  H_0 := H
  env := envOfC qual scope s.heap.objs.size f cd
  outer := outer
  stack := envOfC qual scope s.heap.objs.size f cd :: outer
  ex := []
  calm := true
  fn := fun _ => true
  pn := []
  xe := fun e s' => wpAny (model P w) (A.deeper (envOfC qual scope s.heap.objs.size f cd)) (leaving (envOfC qual scope s.heap.objs.size f cd) e) (fun _ s'' => CX outer H s E e s'') (fun e' s'' => CX outer H s E e' s'') s'
theorem cell_has {sc : Scope} {n : Nat} {x : Str} (h : sc.names.lookup x = some .cell) : ∃ c, (cellsFrom n sc.names []).lookup x = some c := by
  have q := PySem.W.cellsFrom_some sc.names n [] (.inl h)
  exact Option.isSome_iff_exists.mp q
theorem inv_start {CX : CXT} {P : Program} {w : World} {K : PySem.W.Frag} {mg : Str → Option Value} {base : Heap} {N ps : List Str} {qual : Str} {scope : Scope} {f : Addr} {cd : Value} {A : Around} {outer : List Env} {s s1 : Shared} {H : Hp} {E : XK} {us : List Value} {vs : List V}
    (S : FnScope N ps scope) (hd : A.handled = none) (e0 : Env0 P w K mg base A outer s H) (hl : vs.length = ps.length) (r : Vals vs us)
    (x : InCallC s s.heap.objs.size (bindL (envOfC qual scope s.heap.objs.size f cd).kindOf (ps.zip us) fun _ => none) (cellsFrom (s.heap.objs.size + 1) scope.names []) (bindC (envOfC qual scope s.heap.objs.size f cd).kindOf (ps.zip us) fun _ => none) s1) :
    Inv (cxOf CX P w K mg base N qual scope f cd A outer s H E) [] (start N vs) H s1 := by
  have hpl : ps.length ≤ N.length := by have := congrArg List.length S.pre; rw [List.length_take] at this; omega
  obtain ⟨h1, tk, rfl, hk⟩ := x.done
  have noA : ∀ b : Addr, b ∉ (cxOf CX P w K mg base N qual scope f cd A outer s H E).ex := fun b z => absurd (show b ∈ ([] : List Addr) from z) (by simp)
  refine ⟨⟨e0.mod, S.kind, rfl, rfl, Nat.le_refl _, fun y z c h1 h2 => ?_, fun y hy => ?_, fun y c _ h => ?_, fun _ => hd, Around.frames_deeper e0.frames, .inr ⟨rfl, rfl⟩, fun b z => absurd z (noA b), e0.bs, e0.bsz, fun b _ _ => noA b, fun b z => absurd z (noA b), e0.funs, e0.frf⟩,
    rfl, e0.bare, Un.kept hk, ⟨_, x.toInCall.ns, fun i y v h1 h2 h3 => ?_⟩, fun y c h => ⟨_, x.cell y c h⟩, e0.hok.fresh (Nat.le_refl _), fun y c h => ?_, fun p hp => absurd (show p ∈ ([] : List (Addr × Obj)) from hp) (by simp), e0.hok.kept hk, ?_⟩
  · exact name_of_addr x.apart (PySem.mem_of_lookup h1) (PySem.mem_of_lookup h2)
  · have hy : scope.names.lookup y = some .cell ∨ scope.names.lookup y = some .free := hy
    rcases hy with hy | hy
    · exact cell_has hy
    · exact absurd rfl (S.nofree _ (PySem.mem_of_lookup hy))
  · exact Nat.le_of_lt (x.above y c (PySem.mem_of_lookup h))
  · have hi : i < vs.length := by
      unfold start at h2
      by_cases hi : i < vs.length
      · exact hi
      · rw [List.getElem?_append_right (by simpa using hi)] at h2
        rw [List.getElem?_replicate] at h2
        split at h2 <;> cases h2
    have ha : vs[i]? = some v := by
      unfold start at h2
      rw [List.getElem?_append_left (by simpa using hi), List.getElem?_map] at h2
      cases e : vs[i]? with
      | none => rw [e] at h2; cases h2
      | some a => rw [e] at h2; cases h2; rfl
    obtain ⟨u, hu, rv⟩ := r.get ha
    have hp : ps[i]? = some y := by
      rw [← S.pre, List.getElem?_take_of_lt (by omega)]; exact h1
    have ndP : ps.Nodup := by rw [← S.pre]; exact S.nd.sublist (List.take_sublist _ _)
    refine ⟨u, rv, ?_⟩
    rcases S.par y (List.mem_of_getElem? hp) with k | k
    · exact .inl ⟨k, bindL_get ndP hp hu k⟩
    · obtain ⟨c, e⟩ := cell_has (n := s.heap.objs.size + 1) k
      refine .inr ⟨.inl k, c, e, ?_⟩
      have q := x.cell y c e
      rw [bindC_get ndP hp hu (by show scope.names.lookup y ≠ _; rw [k]; decide)] at q
      exact q
  · exact e0.hok.fresh (Nat.le_of_lt (x.above y c (PySem.mem_of_lookup h)))
  · unfold start
    show _ = N.length
    rw [List.length_append, List.length_map, List.length_replicate]
    omega
/-- THE RULE: a def (or a method) of the text, by its body. The body's reading t is chosen for each entry; it is run at the parameters' values -/
theorem fn_of {CX : CXT} {P : Program} {w : World} {K : PySem.W.Frag} {mg : Str → Option Value} {base : Heap} {k : Nat} {f : Addr} {name qual : Str} {params : Arguments} {body : List Stmt} {scope : Scope} {dV kV doc pm cdv ct oc : Value} {an od : Option Addr}
    {osl : Array (Option Value)} {N ps : List Str} {sp : Sp} (lk : K.lookup f = some ⟨oc, od, .func (PySem.W.fnOf name qual params body scope dV kV doc pm an cdv ct), osl⟩) (hcd : PySem.W.codeIn K cdv qual = true) (S : FnScope N ps scope)
    (len : ∀ vs H Q E, sp vs H Q E → vs.length = ps.length)
    (hbody : ∀ (A : Around) (outer : List Env) (s : Shared) (H : Hp) (vs : List V) (Q : VK) (E : XK), Room k (A.deeper (envOfC qual scope s.heap.objs.size f cdv)) → sp vs H Q E →
      ∃ t, PSs (cxOf CX P w K mg base N qual scope f cdv A outer s H E) body t ∧ t { nx := fun _ H' => Q .non H', rt := Q } (start N vs) H) :
    FnOk P w K mg base CX (k + 1) f (PySem.W.fnOf name qual params body scope dV kV doc pm an cdv ct) ps sp := by
  refine ⟨len, fun A outer s H args us vs Q E hr e0 hb r hsp => ?_⟩
  have hl := len _ _ _ _ hsp
  have KX : K.In s.heap := e0.mod.kin.keeps fun b o e => (e0.bs b o e).1
  have lim : s.heap.NoLimit := e0.mod.nolimit.keeps fun b o e => (e0.bs b o e).1
  have hkind : ∀ y ∈ ps.zip us, scope.names.lookup y.1 = some .local ∨ (scope.names.lookup y.1 = some .cell ∧ ((cellsFrom (s.heap.objs.size + 1) scope.names []).lookup y.1).isSome = true) := fun ⟨n, v⟩ hy => by
    rcases S.par n (List.of_mem_zip hy).1 with q | q
    · exact .inl q
    · exact .inr ⟨q, PySem.W.cellsFrom_some _ _ _ (.inl q)⟩
  refine codeAny_call_function hr.depth (KX _ _ lk) rfl S.co S.gen rfl (PySem.W.codeRec_of KX hcd) (hb _ _ _ _ ?_)
  refine wpAny_newFunctionEnv_cells S.kind hkind fun env he s1 x => ?_
  subst he
  refine ⟨lim.keeps x.toInCall.keep, codeAny_func ?_⟩
  obtain ⟨t, ht, hq⟩ := hbody A outer s H vs Q E (hr.deeper _) hsp
  have I : Inv (cxOf CX P w K mg base N qual scope f cdv A outer s H E) [] (start N vs) H s1 := inv_start S hr.hd e0 hl r x
  refine wpAny_mono (ht [] s1 (start N vs) H _ I hq) (fun fl s' hs => ?_) fun e s' hs => hs
  have fin : ∀ {σ' : St} {H' : Hp} {v : V} {u : Value}, Inv (cxOf CX P w K mg base N qual scope f cdv A outer s H E) [] σ' H' s' → RelV v u → Q v H' → CE outer P w H s Q u s' :=
    fun {σ' H' v u} J rv q => ⟨v, H', J.os, J.bare, J.base, J.hok, rv, q⟩
  cases fl with
  | ret u =>
    obtain ⟨v, σ', H', J, rv, q⟩ := hs
    exact fin J rv q
  | next =>
    obtain ⟨σ', H', J, q⟩ := hs
    exact fin (v := V.non) (u := Value.none) J rfl q
  | brk =>
    obtain ⟨_, _, _, q⟩ := hs
    exact False.elim q
  | cont =>
    obtain ⟨_, _, _, q⟩ := hs
    exact False.elim q
end L2
namespace L2
open PySem PySem.Spec PyProof.Rows
section
variable {X : Cx} {x : Str} {p pos : Pos} {e : Expr} {es : List Expr} {t : TA} {id T : String} {r : List V → Hp → VK → Prop}
def tCB (r : List V → Hp → VK → Prop) (t : TA) : TE := fun σ H Q => t σ H fun vs H1 => r vs H1 Q
/-- f(e, ..), f a built-in function -/
theorem pe_callB (hc : CallR X (.builtin id) r) (hg : Gl X x) (hm : X.mg x = none) (hv : bootBuiltins x = some (.builtin id)) (ha : PA X (e :: es) t) (hn : x ≠ "__name__" := by decide) (hdb : (x == ("__debug__" : Str)) = false := by decide)
    (he : starEach (e :: es) X.env = (false, eval e X.env) :: starEach es X.env := by rfl) (hpl : (backTo pos (starEach es X.env)).any (·.1) = false := by rfl) : PE X (.Call (.Name x p) (e :: es) [] pos) (tCB r t) := by
  intro pins s σ H Q I h
  refine wpAny_Call_Name_kw (ld_blt I hg hm hv ?_ hn hdb)
  exact PyProof.Rows.callWith_builtin1 (thn (ha pos pins s σ H _ I h) fun us s1 ⟨vs, H1, I1, r1, q1⟩ => hc pins s1 σ H1 vs us Q I1 r1 q1) he hpl
end
end L2
namespace HT
open PySem PyProof.Rows
section
open PySem.SeqAt
open PySem.AutoSeq1 (wpAny_loadPart')
open PySem.MeetsSeq PySem.MeetsSeq2 PySem.MeetsSeq3
end
section
variable {prog : Program} {w : World} {A : Around} {E : Value → Shared → Prop} {s : Shared}
/-- a slice's bound as a place among n (d where it is left out) -/
def sIx (n d : Nat) : Option Int → Nat
  | none => d
  | some v => if v < 0 then (v + (n : Int)).toNat else min v.toNat n
theorem sIx_nat (n d k : Nat) : sIx n d (some (k : Int)) = min k n := by
  show (if (k : Int) < 0 then ((k : Int) + (n : Int)).toNat else min (k : Int).toNat n) = min k n
  rw [if_neg (by omega), Int.toNat_natCast]
end
end HT
namespace L2
open PySem PySem.Spec PyProof.Rows
abbrev TO := St → Hp → (Option Int → Hp → Prop) → Prop
/-- a slice's part (left out, or an int) -/
def PO (X : Cx) (e : Option Expr) (t : TO) : Prop :=
  ∀ (pins : List (Addr × Obj)) (s : Shared) (σ : St) (H : Hp) (Q : Option Int → Hp → Prop), Inv X pins σ H s → t σ H Q →
    wpAny (model X.prog X.w) X.A (evalPart e X.env) (fun u s' => ∃ o H', Inv X pins σ H' s' ∧ IsPart u o ∧ Q o H') X.xe s
def tPart (t : TE) : TO := fun σ H Q => t σ H fun x H1 => ∃ i, x = .int i ∧ Q (some i) H1
section
variable {X : Cx} {e : Expr} {te : TE} {lo hi : Option Expr} {tl th : TO} {pos p2 : Pos}
theorem po_some (h : PE X e te) : PO X (some e) (tPart te) := by
  intro pins s σ H Q I hw
  rw [evalPart_some]
  refine thn (h pins s σ H _ I hw) fun u s1 ⟨x, H1, I1, r1, q1⟩ => ?_
  obtain ⟨i, rfl, q⟩ := q1
  obtain ⟨t, rfl⟩ := r1
  exact ⟨some i, H1, I1, .int i t, q⟩
/-- what a slice of a value is, by values: the slice object stands at sl -/
def SlR (X : Cx) (r : V → Option Int → Option Int → Hp → VK → Prop) : Prop :=
  ∀ (pins : List (Addr × Obj)) (s : Shared) (σ : St) (H : Hp) (x : V) (v vl vu : Value) (lo hi : Option Int) (sl : Addr) (Q : VK), Inv X pins σ H s → RelV x v → s.heap.IsSliceOf sl vl vu .none → IsPart vl lo → IsPart vu hi → r x lo hi H Q →
    ∃ T id, typeLookup (.type T) "__getitem__" = pure (some (.builtin id)) ∧ s.TypeIs v T ∧ wpAny (model X.prog X.w) X.A (getItem v (.ref sl)) (EP X pins σ Q) X.xe s
theorem SlR.or {r r' : V → Option Int → Option Int → Hp → VK → Prop} (h : SlR X r) (h' : SlR X r') : SlR X (fun x lo hi H Q => r x lo hi H Q ∨ r' x lo hi H Q) := by
  intro pins s σ H x v vl vu lo hi sl Q I rx hs pl pu q
  rcases q with q | q
  · exact h pins s σ H x v vl vu lo hi sl Q I rx hs pl pu q
  · exact h' pins s σ H x v vl vu lo hi sl Q I rx hs pl pu q
def tSl (r : V → Option Int → Option Int → Hp → VK → Prop) (te : TE) (tl th : TO) : TE := fun σ H Q => te σ H fun x H1 => tl σ H1 fun l H2 => th σ H2 fun u H3 => r x l u H3 Q
/-- a[lo:hi], any a -/
theorem pe_slice {r : V → Option Int → Option Int → Hp → VK → Prop} (hr : SlR X r) (he : PE X e te) (hl : PO X lo tl) (hu : PO X hi th) : PE X (.Subscript e (.Slice lo hi none p2) pos) (tSl r te tl th) := by
  intro pins s σ H Q I h
  refine Subscript_ (thn (he pins s σ H _ I h) fun v s1 ⟨x, H1, I1, r1, q1⟩ => ?_)
  refine wpAny_Slice (thn (hl pins s1 σ H1 _ I1 q1) fun vl s2 ⟨l, H2, I2, pl, q2⟩ => thn (hu pins s2 σ H2 _ I2 q2) fun vu s3 ⟨u, H3, I3, pu, q3⟩ => ?_)
  rw [evalPart_none]
  refine wpAny_pure ?_
  have I4 : Inv X pins σ H3 { s3 with heap := s3.heap.push { cls := .type "slice", data := .fields #[vl, vu, .none] } } := I3.kept (t' := s3.toks) fun b ob q => Heap.get?_push_of_some _ q
  obtain ⟨T, id, hT, ht, hg⟩ := hr pins { s3 with heap := s3.heap.push { cls := .type "slice", data := .fields #[vl, vu, .none] } } σ H3 x v vl vu l u s3.heap.objs.size Q I4 r1 (Heap.IsSliceOf.new ..) pl pu q3
  show wpAny (model X.prog X.w) X.A (subscriptTail e (.Slice lo hi none p2) v (.ref s3.heap.objs.size)) (EP X pins σ Q) X.xe { s3 with heap := s3.heap.push { cls := .type "slice", data := .fields #[vl, vu, .none] } }
  exact tail_any (ops := [.ref s3.heap.objs.size, v]) ht hT hg (by with_unfolding_all rfl)
/-- the items of xs[lo:hi] -/
def cutV (xs : List V) (lo hi : Option Int) : List V := (xs.drop (HT.sIx xs.length 0 lo)).take (HT.sIx xs.length xs.length hi - HT.sIx xs.length 0 lo)
theorem cutV_length (xs : List V) (lo hi : Option Int) : (cutV xs lo hi).length ≤ xs.length := by
  unfold cutV
  rw [List.length_take, List.length_drop]
  omega
end
end L2
namespace L2
open PySem PySem.Spec PyProof.Rows
/-- the place that an index of any sign means -/
def ixN (n : Nat) (i : Int) : Option Nat := if 0 ≤ i then (if i < n then some i.toNat else none) else if -(n : Int) ≤ i then some (i + n).toNat else none
def atI {α : Type} (xs : List α) (i : Int) : Option α := (ixN xs.length i).bind fun j => xs[j]?
theorem ixN_seq {n : Nat} {i : Int} {j : Nat} (h : ixN n i = some j) : seqIndex? i n = some j ∧ j < n ∧ -(n : Int) ≤ i ∧ i < n := by
  unfold ixN at h
  by_cases h0 : 0 ≤ i
  · rw [if_pos h0] at h
    by_cases h1 : i < n
    · rw [if_pos h1] at h
      have e : i.toNat = j := Option.some.inj h
      exact ⟨by rw [seqIndex_of h0 h1, e], by omega, by omega, h1⟩
    · rw [if_neg h1] at h; cases h
  · rw [if_neg h0] at h
    by_cases h1 : -(n : Int) ≤ i
    · rw [if_pos h1] at h
      have e : (i + n).toNat = j := Option.some.inj h
      exact ⟨by rw [seqIndex_neg (by omega) h1, e], by omega, h1, by omega⟩
    · rw [if_neg h1] at h; cases h
theorem atI_get {α : Type} {xs : List α} {i : Int} {v : α} (h : atI xs i = some v) : ∃ j, seqIndex? i xs.length = some j ∧ xs[j]? = some v ∧ j < xs.length ∧ -(xs.length : Int) ≤ i ∧ i < xs.length := by
  unfold atI at h
  cases e : ixN xs.length i with
  | none => rw [e] at h; cases h
  | some j =>
    rw [e] at h
    obtain ⟨h1, h2, h3, h4⟩ := ixN_seq e
    exact ⟨j, h1, h, h2, h3, h4⟩
theorem atI_nat {α : Type} {xs : List α} {j : Nat} {v : α} (h : xs[j]? = some v) : atI xs (j : Int) = some v := by
  have hj : j < xs.length := (List.getElem?_eq_some_iff.mp h).1
  have e : ixN xs.length (j : Int) = some j := by
    unfold ixN
    rw [if_pos (by omega), if_pos (by omega)]; simp
  unfold atI; rw [e]; exact h
/-- what stands as an index of a plain subscript -/
def PlainIx (b : Expr) : Prop := ∀ o i, subscripted b false o i = operate [o, i] (getItem o i)
/-- a subscript by values -/
def IxR (X : Cx) (r : R2) : Prop :=
  ∀ (value slice : Expr) (pins : List (Addr × Obj)) (s : Shared) (σ : St) (H : Hp) (x y : V) (v u : Value) (Q : VK), Inv X pins σ H s → RelV x v → RelV y u → r x y H Q →
    subscripted slice false v u = operate [v, u] (getItem v u) → wpAny (model X.prog X.w) X.A (subscriptTail value slice v u) (EP X pins σ Q) X.xe s
/-- a call of a builtin's method by values: the receiver, the arguments -/
def MtR (X : Cx) (id : String) (r : V → List V → Hp → VK → Prop) : Prop :=
  ∀ (pins : List (Addr × Obj)) (s : Shared) (σ : St) (H : Hp) (x : V) (xs : List V) (v : Value) (us : List Value) (Q : VK), Inv X pins σ H s → RelV x v → Vals xs us → r x xs H Q →
    wpAny (model X.prog X.w) X.A (call (.builtin id) (v :: us)) (EP X pins σ Q) X.xe s
section
variable {X : Cx} {a b : Expr} {ta tb : TE} {pos : Pos}
theorem IxR.or {r r' : R2} (h : IxR X r) (h' : IxR X r') : IxR X (fun x y H Q => r x y H Q ∨ r' x y H Q) := by
  intro value slice pins s σ H x y v u Q I rx ry q hs
  rcases q with q | q
  · exact h value slice pins s σ H x y v u Q I rx ry q hs
  · exact h' value slice pins s σ H x y v u Q I rx ry q hs
theorem MtR.or {id : String} {r r' : V → List V → Hp → VK → Prop} (h : MtR X id r) (h' : MtR X id r') : MtR X id (fun x xs H Q => r x xs H Q ∨ r' x xs H Q) := by
  intro pins s σ H x xs v us Q I rx rs q
  rcases q with q | q
  · exact h pins s σ H x xs v us Q I rx rs q
  · exact h' pins s σ H x xs v us Q I rx rs q
/-- a[b] -/
theorem pe_ix {r : R2} (hr : IxR X r) (ha : PE X a ta) (hb : PE X b tb) (hs : PlainIx b) : PE X (.Subscript a b pos) (tOp r ta tb) := by
  intro pins s σ H Q I h
  exact Subscript_ (binT ha hb I h fun v u s2 x y H2 I2 rx ry q => hr a b pins s2 σ H2 x y v u Q I2 rx ry q (hs _ _))
def rIxL (K : PySem.W.Frag) : R2 := fun x y H Q => ∃ p xs i v, x = .ref p ∧ y = .int i ∧ SqL K H p xs ∧ atI xs i = some v ∧ Q v H
theorem ix_list : IxR X (rIxL X.K) := by
  intro value slice pins s σ H x y v u Q I rx ry h hs
  obtain ⟨p, xs, i, z, rfl, rfl, hq, he, q⟩ := h
  cases rx
  obtain ⟨t, rfl⟩ := ry
  obtain ⟨its, r, pl, hz⟩ := I.list hq
  obtain ⟨j, h1, h2, h3, h4, h5⟩ := atI_get he
  obtain ⟨w, ew, rw'⟩ := r.get h2
  have hl := r.length
  have hn := line63
  have fin : EP X pins σ Q w s := ⟨z, H, I, rw', q⟩
  by_cases h0 : 0 ≤ i
  · have hj : i.toNat = j := by
      rw [seqIndex_of h0 h5] at h1
      exact Option.some.inj h1
    exact item_listR pl.isList h0 (by omega) (by rw [hj]; simpa using ew) fin hs
  · have hj : (i + (its.toArray.size : Int)).toNat = j := by
      rw [seqIndex_neg (by omega) h4] at h1
      rw [List.size_toArray, ← hl]
      exact Option.some.inj h1
    exact subscriptTail_builtinR (x := w) pl.isList.typeIs slot_list_getitem.lookup
      (wpAny_getItem_list_neg (Q := fun r s' => r = w ∧ EP X pins σ Q r s') pl.isList (by omega) (by rw [List.size_toArray] <;> omega) (by omega) (by rw [hj]; simpa using ew) ⟨rfl, fin⟩) hs
/-- the list's object behind a store -/
theorem mapSeq_set (its : List Value) (n j : Nat) (u : Value) : Obj.mapSeq (·.setIfInBounds j u) { cls := .type "list", data := .seq its.toArray n } = { cls := .type "list", data := .seq (its.set j u).toArray n } := by
  simp [Obj.mapSeq]
theorem Inv.lst {pins : List (Addr × Obj)} {σ : St} {H : Hp} {s : Shared} {p : Addr} {xs : List V} (I : Inv X pins σ H s) (h : H p = some (.lst xs)) :
    ∃ (its : List Value) (n : Nat), Vals xs its ∧ s.heap.get? p = some { cls := .type "list", data := .seq its.toArray n } ∧ xs.length ≤ sizeLine := by
  obtain ⟨z, its, n, r, e⟩ := I.hok p _ h
  exact ⟨its, n, r, e, z⟩
/-- the list at p is written by an update of its object -/
theorem Inv.lstUpd {pins : List (Addr × Obj)} {σ : St} {H : Hp} {s : Shared} {p : Addr} {xs ys : List V} {its its' : List Value} {n n' : Nat} {f : Obj → Obj} (I : Inv X pins σ H s) (h : H p = some (.lst xs))
    (ho : s.heap.get? p = some { cls := .type "list", data := .seq its.toArray n }) (hf : f { cls := .type "list", data := .seq its.toArray n } = { cls := .type "list", data := .seq its'.toArray n' }) (r : Vals ys its') (hz : ys.length ≤ sizeLine) (t : Nat) :
    Inv X pins σ (upd H p (.lst ys)) { s with heap := s.heap.update p f, toks := t } := by
  have e : (s.heap.update p f).get? p = some { cls := .type "list", data := .seq its'.toArray n' } := by
    rw [Heap.get?_update_self f ho (by rw [hf] <;> rfl), hf]
  refine I.write (x := p) (e := p) (by rw [h]; trivial) (.inl rfl) (fun b u hb q => (Heap.get?_update_other _ _ (Ne.symm hb)).trans q) ⟨_, e⟩ ?_
  exact ⟨hz, its', n', r, e⟩
def rSetL : V → V → V → Hp → (Hp → Prop) → Prop := fun o i v H Q => ∃ p xs k j, o = .ref p ∧ i = .int k ∧ H p = some (.lst xs) ∧ ixN xs.length k = some j ∧ Q (upd H p (.lst (xs.set j v)))
theorem set_list : PSet X rSetL := by
  intro pins s σ H o i v ov iv u Q I ro ri rv h
  obtain ⟨p, xs, k, j, rfl, rfl, hp, hj, q⟩ := h
  cases ro
  obtain ⟨t, rfl⟩ := ri
  obtain ⟨its, n, r, ho, hz⟩ := I.lst hp
  obtain ⟨h1, h2, h3, h4⟩ := ixN_seq hj
  have hl := r.length
  have hn := line63
  have I' : Inv X pins σ (upd H p (.lst (xs.set j v))) { s with heap := s.heap.update p (Obj.mapSeq (·.setIfInBounds j u)) } :=
    I.lstUpd hp ho (mapSeq_set its n j u) (r.set rv j) (by rw [List.length_set]; exact hz) s.toks
  by_cases h0 : 0 ≤ k
  · have hk : k.toNat = j := by
      rw [seqIndex_of h0 h4] at h1
      exact Option.some.inj h1
    exact PySem.W.ki_setAt ho h0 (by omega) (by rw [List.size_toArray, ← hl]; exact h4) (by rw [hk]; exact ⟨_, I', q⟩)
  · have hk : (k + (its.toArray.size : Int)).toNat = j := by
      rw [seqIndex_neg (by omega) h3] at h1
      rw [List.size_toArray, ← hl]
      exact Option.some.inj h1
    exact PySem.W.ki_setBack ho (by omega) (by rw [List.size_toArray, ← hl]; exact h3) (by omega) (by rw [hk]; exact ⟨_, I', q⟩)
theorem slice_bounds (lo hi : Option Int) (n : Nat) : (sliceBounds lo hi none n).1 = ((HT.sIx n 0 lo : Nat) : Int) ∧ (sliceBounds lo hi none n).2.1 = ((HT.sIx n n hi : Nat) : Int) ∧ (sliceBounds lo hi none n).2.2 = 1 := by
  refine ⟨?_, ?_, rfl⟩
  · cases lo with
    | none => simp [sliceBounds, HT.sIx]
    | some i =>
      simp only [sliceBounds, HT.sIx, Option.getD_none, show (1 : Int) > 0 by decide, if_true]
      by_cases h : i < 0
      · simp only [h, if_true] <;> omega
      · simp only [h, if_false] <;> omega
  · cases hi with
    | none => simp [sliceBounds, HT.sIx]
    | some i =>
      simp only [sliceBounds, HT.sIx, Option.getD_none, show (1 : Int) > 0 by decide, if_true]
      by_cases h : i < 0
      · simp only [h, if_true] <;> omega
      · simp only [h, if_false] <;> omega
theorem slicePick_cut (its : List Value) (lo hi : Option Int) : slicePick its.toArray lo hi none = ((its.drop (HT.sIx its.length 0 lo)).take (HT.sIx its.length its.length hi - HT.sIx its.length 0 lo)).toArray := by
  obtain ⟨h1, h2, h3⟩ := slice_bounds lo hi its.toArray.size
  unfold slicePick
  rw [h1, h2, h3]
  simp only [sliceRange_one, pick_run, List.size_toArray] <;> rfl
/-- xs[lo:hi] of a list: a new list -/
def rSlL (K : PySem.W.Frag) : V → Option Int → Option Int → Hp → VK → Prop := fun x lo hi H Q => ∃ a xs, x = .ref a ∧ SqL K H a xs ∧ ∀ p, H p = none → Q (.ref p) (upd H p (.lst (cutV xs lo hi)))
theorem sl_list : SlR X (rSlL X.K) := by
  intro pins s σ H x v vl vu lo hi sl Q I rx hs pl pu h
  obtain ⟨a, xs, rfl, hx, q⟩ := h
  cases rx
  obtain ⟨its, r, ht, hz⟩ := I.list hx
  have hlen := r.length
  refine ⟨"list", _, slot_list_getitem.lookup, ht.isList.typeIs, ?_⟩
  refine wpAny_getItem_list_slice ht.isList hs pl pu .none (by simp) ?_ (by rw [List.size_toArray] <;> omega)
  rw [slicePick_cut, ← hlen]
  refine ⟨.ref s.heap.objs.size, _, I.laid (t' := s.toks) (o := .lst (cutV xs lo hi)) (fun b ob q => Heap.get?_push_of_some _ q) (Nat.le_refl _) ?_, rfl, q _ (I.hok.fresh (Nat.le_refl _))⟩
  exact ⟨Nat.le_trans (cutV_length xs lo hi) hz, _, 0, (r.drop (HT.sIx xs.length 0 lo)).take (HT.sIx xs.length xs.length hi - HT.sIx xs.length 0 lo), Heap.get?_push_size _ rfl⟩
theorem call_len_seq : CallR X (.builtin "len") (fun xs H Q => ∃ p ys, xs = [.ref p] ∧ (SqL X.K H p ys ∨ SqT X.K H p ys) ∧ Q (.int ys.length) H) := by
  intro pins s σ H xs us Q I r h
  obtain ⟨p, ys, rfl, hq, q⟩ := h
  obtain ⟨u, rfl, rx⟩ := vals1 r
  cases rx
  have hn := line63
  rcases hq with hq | hq
  · obtain ⟨its, r', pl, hz⟩ := I.list hq
    have hlen := r'.length
    exact Calls.call_len_list pl.isList (by simp only [List.size_toArray] <;> omega) ⟨.int ys.length, H, I.tok _, ⟨s.toks + 1, by rw [List.size_toArray, hlen]⟩, q⟩
  · obtain ⟨its, r', pl, hz⟩ := I.tuple hq
    have hlen := r'.length
    exact len_tuple pl (by simp only [List.size_toArray] <;> omega) ⟨.int ys.length, H, I.tok _, ⟨s.toks + 1, by rw [List.size_toArray, hlen]⟩, q⟩
theorem CallR.or {f : Value} {r r' : List V → Hp → VK → Prop} (h : CallR X f r) (h' : CallR X f r') : CallR X f (fun xs H Q => r xs H Q ∨ r' xs H Q) := by
  intro pins s σ H xs us Q I rs q
  rcases q with q | q
  · exact h pins s σ H xs us Q I rs q
  · exact h' pins s σ H xs us Q I rs q
/-- the value is of that builtin type -/
def tyV (K : PySem.W.Frag) (T : String) (x : V) (H : Hp) : Prop := match x with
  | .str _ => T = "str"
  | .int _ => T = "int"
  | .ref p => (T = "list" ∧ ∃ xs, SqL K H p xs) ∨ (T = "tuple" ∧ ∃ o, K.lookup p = some o ∧ o.cls = .type "tuple" ∧ o.dict = none) ∨
      (T = "dict" ∧ ((∃ kvs, H p = some (.dK kvs)) ∨ ∃ kvs, H p = some (.dT kvs))) ∨ (T = "set" ∧ ∃ S n, H p = some (.set S n))
  | _ => False
theorem tyV_is {pins : List (Addr × Obj)} {σ : St} {H : Hp} {s : Shared} {T : String} {x : V} {v : Value} (I : Inv X pins σ H s) (r : RelV x v) (ty : tyV X.K T x H) :
    s.TypeIs v T ∧ ∀ a, v = .ref a → ∃ ob, s.heap.get? a = some ob ∧ ob.dict = none := by
  cases x with
  | str z =>
    obtain ⟨t, rfl⟩ := r
    cases (show T = "str" from ty)
    exact ⟨typeIs_str s z t, fun _ e => nomatch e⟩
  | int i =>
    obtain ⟨t, rfl⟩ := r
    cases (show T = "int" from ty)
    exact ⟨typeIs_int s i t, fun _ e => nomatch e⟩
  | ref p =>
    cases r
    rcases ty with ⟨rfl, xs, hq⟩ | ⟨rfl, o, hk, hc, hd⟩ | ⟨rfl, hk⟩ | ⟨rfl, S, n, hk⟩
    · obtain ⟨its, _, pl, _⟩ := I.list hq
      refine ⟨pl.isList.typeIs, fun a e => ?_⟩
      cases e
      obtain ⟨o, n, e, c, hd, _⟩ := pl
      exact ⟨o, e, hd⟩
    · refine ⟨⟨o, I.kIn p o hk, hc⟩, fun a e => ?_⟩
      cases e
      exact ⟨o, I.kIn _ o hk, hd⟩
    · have z : ∃ o, s.heap.get? p = some o ∧ o.ExactDict := by
        rcases hk with ⟨kvs, hk⟩ | ⟨kvs, hk⟩
        · obtain ⟨_, _, _, _, o, _, _, e, ex, _⟩ := I.hok p _ hk
          exact ⟨o, e, ex⟩
        · obtain ⟨_, _, _, _, o, _, _, e, ex, _⟩ := I.hok p _ hk
          exact ⟨o, e, ex⟩
      obtain ⟨o, e, ex⟩ := z
      refine ⟨⟨o, e, ex.1⟩, fun a e2 => ?_⟩
      cases e2
      exact ⟨o, e, ex.2.1⟩
    · obtain ⟨o, _, _, _, e, ex, _⟩ := I.hok p _ hk
      refine ⟨⟨o, e, ex.1⟩, fun a e2 => ?_⟩
      cases e2
      exact ⟨o, e, ex.2.1⟩
  | _ => exact False.elim ty
def tBM (K : PySem.W.Frag) (T : String) (r : V → List V → Hp → VK → Prop) (to : TE) (t : TA) : TE := fun σ H Q => to σ H fun x H1 => tyV K T x H1 ∧ t σ H1 fun xs H2 => r x xs H2 Q
variable {o e : Expr} {es : List Expr} {to : TE} {t : TA} {name : Str} {apos cpos : Pos} {T id : String} {r : V → List V → Hp → VK → Prop}
theorem pe_bm (pa : PlainAttrs T) (slot : Slot T name id) (hty : typeOf (.builtin id) = pure (.type "method_descriptor")) (hm : MtR X id r) (ho : PE X o to) (ha : PA X (e :: es) t)
    (hbase : attributeBase o name X.env (eval o X.env) = eval o X.env := by rfl)
    (hfew : ((backTo cpos (starEach (e :: es) X.env)).all (fun x => !x.1) && (backToKw cpos (keywordEach [] X.env)).all (fun x => x.1.isSome)
      && decide ((e :: es).length + ([] : List Keyword).length + (if ([] : List Keyword).isEmpty then 0 else 1) < 30)) = true := by rfl)
    (hline : (apos.endLine == cpos.line) = true := by rfl) (hs : starEach (e :: es) X.env = (false, eval e X.env) :: starEach es X.env := by rfl) (hplain : (backTo cpos (starEach es X.env)).any (·.1) = false := by rfl) :
    PE X (.Call (.Attribute o name apos) (e :: es) [] cpos) (tBM X.K T r to t) := by
  intro pins s σ H Q I h
  refine wpAny_Call_method_late hbase hfew hline rfl (thn (ho pins s σ H _ I h) fun v s1 ⟨x, H1, I1, r1, ty, q1⟩ => ?_)
  obtain ⟨h1, h2⟩ := tyV_is I1 r1 ty
  refine ⟨T, id, pa, slot, hty, h1, h2, ?_⟩
  have hA := ha cpos pins s1 σ H1 _ I1 q1
  rw [hs] at hA ⊢
  refine Calls.callWith_builtin (by show (false || (backTo cpos (starEach es X.env)).any (·.1)) = false; rw [hplain] <;> rfl) (Calls.evalArgs_plain ?_)
  exact thn hA fun us s2 ⟨vs, H2, I2, r2, q2⟩ => hm pins s2 σ H2 x vs v us Q I2 r1 r2 q2
end
end L2
namespace L2
open PySem PySem.Spec PyProof.Rows
def MtM (X : Cx) (id : String) (r : V → List V → Hp → VK → Prop) : Prop :=
  ∀ (pins : List (Addr × Obj)) (s : Shared) (σ : St) (H : Hp) (x : V) (xs : List V) (v : Value) (us : List Value) (Q : VK), Inv X pins σ H s → RelV x v → Vals xs us → r x xs H Q →
    wpAny (model X.prog X.w) X.A (call (.builtin id) (v :: us)) (EP X pins σ Q) X.xe s
theorem Vals.one : ∀ {x : V} {us : List Value}, Vals [x] us → ∃ u, us = [u] ∧ RelV x u
  | _, _, .cons r .nil => ⟨_, rfl, r⟩
theorem Vals.two : ∀ {x y : V} {us : List Value}, Vals [x, y] us → ∃ u v, us = [u, v] ∧ RelV x u ∧ RelV y v
  | _, _, _, .cons r (.cons q .nil) => ⟨_, _, rfl, r, q⟩
section
variable {X : Cx} {pins : List (Addr × Obj)} {σ : St} {H : Hp} {s : Shared} {l b : Addr} {xs ys zs : List V}
theorem Inv.lset {its its' : List Value} {n : Nat} {f : Array Value → Array Value} {t' : Nat} (I : Inv X pins σ H s) (hH : H l = some (.lst xs))
    (e : s.heap.get? l = some { cls := .type "list", data := .seq its.toArray n }) (hf : f its.toArray = its'.toArray) (hv : Vals ys its') (hz : ys.length ≤ sizeLine) :
    Inv X pins σ (upd H l (.lst ys)) { s with heap := s.heap.update l (Obj.mapSeq f), toks := t' } := by
  have q := PySem.IsL.update e f
  rw [hf] at q
  refine I.write (x := l) (e := l) (by rw [hH]; exact trivial) (.inl rfl) (fun b' u hb hu => (Heap.get?_update_other s.heap (Obj.mapSeq f) (Ne.symm hb)).trans hu) ⟨_, q⟩ ?_
  exact ⟨hz, its', _, hv, q⟩
theorem Inv.lnew {its : List Value} {t' : Nat} (I : Inv X pins σ H s) (hv : Vals ys its) (hz : ys.length ≤ sizeLine) :
    Inv X pins σ (upd H s.heap.objs.size (.lst ys)) { s with heap := s.heap.push { cls := .type "list", data := .seq its.toArray }, toks := t' } :=
  I.laid (fun _ _ q => Heap.get?_push_of_some _ q) (Nat.le_refl _) ⟨hz, its, 0, hv, Heap.get?_push_size _ rfl⟩
theorem Inv.fresh (I : Inv X pins σ H s) : H s.heap.objs.size = none := I.hok.fresh (Nat.le_refl _)
theorem Inv.lstM (I : Inv X pins σ H s) (hH : H l = some (.lst xs)) : xs.length ≤ sizeLine ∧ ∃ (its : List Value) (n : Nat), Vals xs its ∧ xs.length = its.length ∧ s.heap.get? l = some { cls := .type "list", data := .seq its.toArray n } := by
  obtain ⟨z, its, n, r, e⟩ := I.hok l _ hH
  exact ⟨z, its, n, r, r.length, e⟩
theorem notLongL {n : Nat} (h : n ≤ sizeLine) : Builtin.List.listTooLong n = false := by
  unfold Builtin.List.listTooLong
  exact decide_eq_false (by omega)
end
section
variable {X : Cx}
def rAppend : V → List V → Hp → VK → Prop := fun x vs H Q => ∃ l xs y, x = .ref l ∧ vs = [y] ∧ H l = some (.lst xs) ∧ xs.length < sizeLine ∧ Q .non (upd H l (.lst (xs ++ [y])))
theorem mt_append : MtM X "list.append" rAppend := by
  intro pins s σ H x vs v us Q I rx rv h
  obtain ⟨l, xs, y, rfl, rfl, hH, hz, q⟩ := h
  cases rx
  obtain ⟨u, rfl, ru⟩ := rv.one
  obtain ⟨z, its, n, r, hl, e⟩ := I.lstM hH
  refine call_meets F.slot_list_append ⟨_, e, rfl⟩ F.entry_list_append (F.args_list_append_2 _ _) (PySem.list_append l its.toArray n u (by rw [List.size_toArray]; omega)) ⟨e, ?_⟩
  refine ⟨.non, _, I.lset (its' := its ++ [u]) hH e (by simp) (r.append (.cons ru .nil)) ?_, rfl, q⟩
  rw [List.length_append, List.length_singleton]
  omega
def rExtend : V → List V → Hp → VK → Prop := fun x vs H Q => ∃ l b xs zs, x = .ref l ∧ vs = [.ref b] ∧ H l = some (.lst xs) ∧ H b = some (.lst zs) ∧ xs.length + zs.length ≤ sizeLine ∧ Q .non (upd H l (.lst (xs ++ zs)))
theorem mt_extend : MtM X "list.extend" rExtend := by
  intro pins s σ H x vs v us Q I rx rv h
  obtain ⟨l, b, xs, zs, rfl, rfl, hH, hB, hz, q⟩ := h
  cases rx
  obtain ⟨u, rfl, ru⟩ := rv.one
  cases ru
  obtain ⟨z, its, n, r, hl, e⟩ := I.lstM hH
  obtain ⟨z2, its2, n2, r2, hl2, e2⟩ := I.lstM hB
  have hsz : its.toArray.size + its2.toArray.size ≤ sizeLine := by rw [List.size_toArray, List.size_toArray]; omega
  have hlong : ¬ (!its.toArray.isEmpty && Builtin.List.listTooLong (its.toArray.size + its2.toArray.size)) = true := by
    rw [notLongL hsz, Bool.and_false]
    exact Bool.false_ne_true
  refine call_meets F.slot_list_extend ⟨_, e, rfl⟩ F.entry_list_extend (F.args_list_extend_2 _ _)
    (AutoSeq1.list_extend_list_list_0 l its.toArray n b its2.toArray n2 hlong (by rw [List.size_toArray]; omega) (by omega)) ⟨e, e2, ?_⟩
  refine ⟨.non, _, I.lset (its' := its ++ its2) hH e (by simp) (r.append r2) ?_, rfl, q⟩
  rw [List.length_append]
  omega
def rCat : R2 := fun x y H Q => ∃ l b xs zs, x = .ref l ∧ y = .ref b ∧ H l = some (.lst xs) ∧ H b = some (.lst zs) ∧ xs.length + zs.length ≤ sizeLine ∧ ∀ p, H p = none → Q (.ref p) (upd H p (.lst (xs ++ zs)))
theorem op_cat : OpR X (binaryOp .Add) rCat := by
  intro pins s σ H x y v u Q I rx ry h
  obtain ⟨l, b, xs, zs, rfl, rfl, hH, hB, hz, q⟩ := h
  cases rx
  cases ry
  obtain ⟨z, its, n, r, hl, e⟩ := I.lstM hH
  obtain ⟨z2, its2, n2, r2, hl2, e2⟩ := I.lstM hB
  refine PySem.P.add_list e e2 ?_ (by rw [List.size_toArray, List.size_toArray]; omega)
  have ea : its.toArray ++ its2.toArray = (its ++ its2).toArray := by simp
  rw [ea]
  exact ⟨.ref _, _, I.lnew (t' := s.toks) (r.append r2) (by rw [List.length_append]; omega), rfl, q _ I.fresh⟩
end
section
variable {prog : Program} {w : World} {A : Around} {E : Value → Shared → Prop} {s : Shared}
end
section
variable {X : Cx}
end
end L2
namespace L2
open PySem PySem.Spec PyProof.Rows
theorem Vals.ints : ∀ {ns : List Int} {us : List Value}, Vals (ns.map V.int) us → IntsAre us ns
  | [], us, h => by
    rw [List.map_nil] at h
    cases h
    exact IntsAre.nil
  | n :: ns, us, h => by
    rw [List.map_cons] at h
    cases h with
    | cons r t =>
      obtain ⟨k, rfl⟩ := r
      exact IntsAre.cons n k (Vals.ints t)
theorem Vals.strs : ∀ {xs : List Str} {us : List Value}, Vals (xs.map V.str) us → StrsAre us xs
  | [], us, h => by
    rw [List.map_nil] at h
    cases h
    exact StrsAre.nil
  | x :: xs, us, h => by
    rw [List.map_cons] at h
    cases h with
    | cons r t =>
      obtain ⟨k, rfl⟩ := r
      exact StrsAre.cons x k (Vals.strs t)
theorem Vals.bls : ∀ {bs : List Bool} {us : List Value}, Vals (bs.map V.bl) us → us = bs.map Value.bool
  | [], us, h => by
    rw [List.map_nil] at h
    cases h
    rfl
  | b :: bs, us, h => by
    rw [List.map_cons] at h
    cases h with
    | cons r t =>
      cases r
      rw [Vals.bls t, List.map_cons]
theorem Vals.ref1 {a : Addr} {us : List Value} (r : Vals [V.ref a] us) : us = [Value.ref a] := by
  cases r with
  | cons r t =>
    cases t
    cases r
    rfl
section
variable {prog : Program} {w : World} {A : Around} {E : Value → Shared → Prop} {s : Shared} {l : Addr} {its : List Value} {ns : List Int} {Q : Value → Shared → Prop}
theorem sum_raw (hh : A.handled = none) (hl : s.heap.IsList l its.toArray) (hi : IntsAre its ns)
    (h : ∀ h' tk t', (∀ b o, s.heap.get? b = some o → h'.get? b = some o) → Q (.int ns.sum t') { s with heap := h', toks := tk }) : wpAny (model prog w) A (call (.builtin "sum") [.ref l]) Q E s := by
  obtain ⟨xs, e⟩ := hi.allInts.items
  have hn : numsOf (intItems xs).toList = ns := by rw [← e]; exact hi.numsOf
  rw [nums_intItems] at hn
  rw [e] at hl
  refine PySem.sum_intListG hh hl fun h' tk t' hk => ?_
  have := h h' tk t' hk
  rw [preSum_eq, List.take_of_length_le (by simp), hn]; exact this
end
section
variable {X : Cx}
/-- sum(xs) of a list of ints -/
def rSum (K : PySem.W.Frag) : List V → Hp → VK → Prop := fun vs H Q => ∃ (a : Addr) (ns : List Int), vs = [V.ref a] ∧ SqL K H a (ns.map V.int) ∧ Q (.int ns.sum) H
theorem cr_sum (hc : X.calm = true) : CallR X (.builtin "sum") (rSum X.K) := by
  intro pins s σ H vs us Q I r h
  obtain ⟨a, ns, rfl, hs, q⟩ := h
  obtain ⟨its, rv, hl, _⟩ := I.list hs
  rw [Vals.ref1 r]
  exact sum_raw (I.ok.hd hc) hl.isList rv.ints fun h' tk t' hk => ⟨.int _, H, I.kept hk, ⟨_, rfl⟩, q⟩
end
section
variable {X : Cx}
end
section
variable {X : Cx}
end
theorem iter_any {prog : Program} {w : World} {A : Around} {E : Value → Shared → Prop} {s : Shared} {l : Addr} {items : Array Value} {Q : Value → Shared → Prop} (hl : s.heap.IsList l items)
    (h : ∀ s₂ : Shared, s₂ = { s with heap := s.heap.push { cls := .type "list_iterator", data := .fields #[.ref l, .int 0 0] } } →
      (s₂.heap.IsListIter s.heap.objs.size l 0 ∧ s₂.heap.IsList l items) → l ≠ s.heap.objs.size → Q (.ref s.heap.objs.size) s₂) : wpAny (model prog w) A (pyIter (.ref l)) Q E s := by
  have hlt : l < s.heap.objs.size := by obtain ⟨_, e, _⟩ := hl; exact Heap.lt_size e
  exact wpAny_pyIter_list hl (h _ rfl ⟨⟨_, Heap.get?_push_size _ rfl, rfl, rfl⟩, hl.push _⟩ (Nat.ne_of_lt hlt))
theorem truth_bools {prog : Program} {w : World} {A : Around} {bs : List Bool} {its : List Value} (e : its = bs.map Value.bool) :
    TruthOf prog w A (fun i v => its.toArray[i]? = some v) (fun i => bs.getD i false) := fun i v s Q E hv hq => by
  have hv' : its[i]? = some v := by simpa using hv
  rw [e, List.getElem?_map] at hv'
  obtain ⟨b, hb, rfl⟩ := Option.map_eq_some_iff.mp hv'
  have hg : bs.getD i false = b := by rw [List.getD_eq_getElem?_getD, hb] <;> rfl
  have hq' : Q (bs.getD i false) s := hq
  rw [hg] at hq'
  exact wpAny_truthy_bool hq'
theorem any_range : ∀ bs : List Bool, (List.range bs.length).any (fun i => bs.getD i false) = bs.any id
  | [] => rfl
  | b :: bs => by
    rw [List.length_cons, List.range_succ_eq_map, List.any_cons, List.any_map, List.any_cons, ← any_range bs]
    all_goals rfl
section
variable {X : Cx}
def rAny (K : PySem.W.Frag) : List V → Hp → VK → Prop := fun vs H Q => ∃ (a : Addr) (bs : List Bool), vs = [V.ref a] ∧ SqL K H a (bs.map V.bl) ∧ Q (.bl (bs.any id)) H
theorem cr_any (hc : X.calm = true) : CallR X (.builtin "any") (rAny X.K) := by
  intro pins s σ H vs us Q I r h
  obtain ⟨a, bs, rfl, hs, q⟩ := h
  obtain ⟨its, rv, hl, _⟩ := I.list hs
  rw [Vals.ref1 r]
  have hb := rv.bls
  refine call_any_walk (iter_any hl.isList fun s₂ e2 st hne => ?_)
  subst e2
  refine ⟨_, _, _, _, _, _, _, rfl, Walks.list (A := X.A.in1) (I.ok.hd hc) _ a hne its.toArray, st, truth_bools hb, fun h' tk hk => ?_⟩
  refine ⟨.bl _, H, I.kept fun b o eo => hk b o (fun hmem => ?_) (Heap.get?_push_of_some _ eo), ?_, q⟩
  · rcases List.mem_cons.mp hmem with e1 | hmem
    · exact absurd (e1 ▸ Heap.lt_size eo) (Nat.lt_irrefl _)
    · cases hmem
  · show Value.bool _ = Value.bool _
    rw [← any_range, hb, List.size_toArray, List.length_map]
end
mutual
inductive Dp (K : PySem.W.Frag) (H : Hp) : V → PyData → Prop
  | non : Dp K H .non .none
  | bl (b : Bool) : Dp K H (.bl b) (.bool b)
  | int (i : Int) : Dp K H (.int i) (.int i)
  | str (x : Str) : Dp K H (.str x) (.str x)
  | lst {a : Addr} {xs : List V} {ds : List PyData} : SqL K H a xs → DpAll K H xs ds → Dp K H (.ref a) (.list ds)
  | tup {a : Addr} {xs : List V} {ds : List PyData} : SqT K H a xs → DpAll K H xs ds → Dp K H (.ref a) (.tuple ds)
inductive DpAll (K : PySem.W.Frag) (H : Hp) : List V → List PyData → Prop
  | nil : DpAll K H [] []
  | cons {v : V} {vs : List V} {d : PyData} {ds : List PyData} : Dp K H v d → DpAll K H vs ds → DpAll K H (v :: vs) (d :: ds)
end
section
variable {X : Cx} {pins : List (Addr × Obj)} {σ : St} {H : Hp} {s : Shared}
mutual
theorem Dp.reads (I : Inv X pins σ H s) : ∀ (d : PyData) (v : V) (u : Value), Dp X.K H v d → RelV v u → ∃ as, Reads s.heap u d as
  | .none, _, _, h, r => by
    cases h
    cases r
    exact ⟨_, Reads.none⟩
  | .bool b, _, _, h, r => by
    cases h
    cases r
    exact ⟨_, Reads.bool b⟩
  | .int i, _, _, h, r => by
    cases h
    obtain ⟨t, rfl⟩ := r
    exact ⟨_, Reads.int i t⟩
  | .str x, _, _, h, r => by
    cases h
    obtain ⟨t, rfl⟩ := r
    exact ⟨_, Reads.str x t⟩
  | .list ds, _, _, h, r => by
    cases h with
    | lst hs ha =>
      cases r
      obtain ⟨its, rv, ⟨o, n, ho, hc, _, hd⟩, _⟩ := I.list hs
      obtain ⟨as, hr⟩ := Dp.readsAll I ds _ its ha rv
      exact ⟨_, Reads.list ho hc hd hr⟩
  | .tuple ds, _, _, h, r => by
    cases h with
    | tup hs ha =>
      cases r
      obtain ⟨its, rv, ⟨o, ho, hc, n, hd⟩, _⟩ := I.tuple hs
      obtain ⟨as, hr⟩ := Dp.readsAll I ds _ its ha rv
      exact ⟨_, Reads.tuple ho hc hd hr⟩
  | .dict _, _, _, h, _ => by cases h
theorem Dp.readsAll (I : Inv X pins σ H s) : ∀ (ds : List PyData) (vs : List V) (us : List Value), DpAll X.K H vs ds → Vals vs us → ∃ as, ReadsAll s.heap us ds as
  | [], _, _, h, r => by
    cases h
    cases r
    exact ⟨_, ReadsAll.nil⟩
  | d :: ds, _, _, h, r => by
    cases h with
    | cons h1 h2 =>
      cases r with
      | cons r1 r2 =>
        obtain ⟨as, q1⟩ := Dp.reads I d _ _ h1 r1
        obtain ⟨bs, q2⟩ := Dp.readsAll I ds _ _ h2 r2
        exact ⟨_, ReadsAll.cons q1 q2⟩
end
end
section
variable {X : Cx}
end
end L2
namespace L2
open PySem PySem.Spec PyProof.Rows
abbrev CellAt (h : Heap) (c : Addr) (v : Option Value) : Prop := h.IsCell c v
def relS (scope sc : Scope) : Scope :=
  { scope with names := scope.names.map fun (n, k) => if (k == .free && sc.kind == .function && sc.names.lookup n == some .cell) then (n, .cell) else (n, k) }
def cloFrom (cells : List (Str × Addr)) : List (Str × NameKind) → List (Str × Addr) → List (Str × Addr)
  | [], acc => acc
  | (n, k) :: r, acc => if k == .free then cloFrom cells r ((n, (cells.lookup n).getD 0) :: acc) else cloFrom cells r acc
theorem closure_loop (env : Env) (f : Str × NameKind → List (Str × Addr) → Sem (ForInStep (List (Str × Addr))))
    (hf : ∀ n k c, f (n, k) c = if k == .free then (do let a ← cellOf env n; pure (.yield ((n, a) :: c))) else pure (.yield c)) :
    ∀ (names : List (Str × NameKind)) (acc : List (Str × Addr)), (∀ y ∈ names, y.2 = .free → ∃ c, env.cells.lookup y.1 = some c) → forIn names acc f = pure (cloFrom env.cells names acc)
  | [], acc, _ => by rw [List.forIn_nil]; rfl
  | (n, k) :: r, acc, h => by
    rw [List.forIn_cons, hf]
    have ih := fun acc => closure_loop env f hf r acc fun y hy => h y (List.mem_cons_of_mem _ hy)
    unfold cloFrom
    by_cases hk : (k == NameKind.free) = true
    · rw [if_pos hk, if_pos hk]
      obtain ⟨c, hc⟩ := h (n, k) List.mem_cons_self (by simpa using hk)
      have e : cellOf env n = pure c := by unfold cellOf; rw [hc]
      rw [e]
      have e2 : (env.cells.lookup n).getD 0 = c := by rw [hc]; rfl
      rw [e2]
      exact ih _
    · rw [if_neg hk, if_neg hk]
      exact ih _
theorem closure_ok {scope : Scope} {env : Env} (h : ∀ y ∈ scope.names, y.2 = .free → ∃ c, env.cells.lookup y.1 = some c) : closureFor scope env = pure (cloFrom env.cells scope.names []) := by
  simp only [closureFor]
  rw [closure_loop env _ (fun n k c => rfl) scope.names [] h]
  rfl
theorem mem_lookup {α : Type} : ∀ {l : List (Str × α)} {n : Str} {c : α}, (n, c) ∈ l → ∃ c', l.lookup n = some c'
  | (k, v) :: r, n, c, h => by
    rw [List.lookup_cons]
    cases hb : n == k with
    | true => exact ⟨_, rfl⟩
    | false =>
      rcases List.mem_cons.mp h with e | h
      · cases e; simp at hb
      · exact mem_lookup h
theorem cloFrom_mem {cells : List (Str × Addr)} : ∀ {names : List (Str × NameKind)} {acc : List (Str × Addr)} {n : Str} {c : Addr}, (n, c) ∈ cloFrom cells names acc → (n, c) ∈ acc ∨ ((n, .free) ∈ names ∧ c = (cells.lookup n).getD 0)
  | [], _, _, _, h => .inl h
  | (m, k) :: r, acc, n, c, h => by
    unfold cloFrom at h
    split at h
    · rename_i hk
      have hk : k = .free := by simpa using hk
      rcases cloFrom_mem h with h | ⟨h1, h2⟩
      · rcases List.mem_cons.mp h with e | h
        · cases e; exact .inr ⟨hk ▸ List.mem_cons_self, rfl⟩
        · exact .inl h
      · exact .inr ⟨List.mem_cons_of_mem _ h1, h2⟩
    · rcases cloFrom_mem h with h | ⟨h1, h2⟩
      · exact .inl h
      · exact .inr ⟨List.mem_cons_of_mem _ h1, h2⟩
theorem cloFrom_acc {cells : List (Str × Addr)} : ∀ {names : List (Str × NameKind)} {acc : List (Str × Addr)} {p : Str × Addr}, p ∈ acc → p ∈ cloFrom cells names acc
  | [], _, _, h => h
  | (m, k) :: r, acc, p, h => by
    unfold cloFrom
    split
    · exact cloFrom_acc (List.mem_cons_of_mem _ h)
    · exact cloFrom_acc h
theorem cloFrom_has {cells : List (Str × Addr)} : ∀ {names : List (Str × NameKind)} {acc : List (Str × Addr)} {n : Str}, (n, .free) ∈ names → (n, (cells.lookup n).getD 0) ∈ cloFrom cells names acc
  | (m, k) :: r, acc, n, h => by
    unfold cloFrom
    rcases List.mem_cons.mp h with e | h
    · cases e
      exact cloFrom_acc List.mem_cons_self
    · split
      · exact cloFrom_has h
      · exact cloFrom_has h
theorem cells_mem : ∀ {names : List (Str × NameKind)} {h : Heap} {acc : List (Str × Addr)} {x : Str} {c : Addr}, (x, c) ∈ cellsFrom h.objs.size names acc →
    (x, c) ∈ acc ∨ ((x, .cell) ∈ names ∧ h.objs.size ≤ c ∧ CellAt (pushCells h names) c none)
  | [], _, _, _, _, h => .inl h
  | (n, k) :: r, h, acc, x, c, hm => by
    unfold cellsFrom at hm
    unfold pushCells
    split at hm
    · rename_i hk
      rw [if_pos hk]
      have hk : k = .cell := by simpa using hk
      rw [← Heap.size_push h { cls := .type "cell", data := .cell none }] at hm
      rcases cells_mem hm with hm | ⟨h1, h2, h3⟩
      · rcases List.mem_cons.mp hm with e | hm
        · cases e
          exact .inr ⟨hk ▸ List.mem_cons_self, Nat.le_refl _, _, pushCells_keeps r _ _ _ (Heap.get?_push_size _ rfl), rfl⟩
        · exact .inl hm
      · rw [Heap.size_push] at h2
        exact .inr ⟨List.mem_cons_of_mem _ h1, Nat.le_of_succ_le h2, h3⟩
    · rename_i hk
      rw [if_neg hk]
      rcases cells_mem hm with hm | ⟨h1, h2, h3⟩
      · exact .inl hm
      · exact .inr ⟨List.mem_cons_of_mem _ h1, h2, h3⟩
theorem cells_acc : ∀ {names : List (Str × NameKind)} {n : Nat} {acc : List (Str × Addr)} {p : Str × Addr}, p ∈ acc → p ∈ cellsFrom n names acc
  | [], _, _, _, h => h
  | (m, k) :: r, n, acc, p, h => by
    unfold cellsFrom
    split
    · exact cells_acc (List.mem_cons_of_mem _ h)
    · exact cells_acc h
theorem cells_has : ∀ {names : List (Str × NameKind)} {n : Nat} {acc : List (Str × Addr)} {x : Str}, (x, .cell) ∈ names → ∃ c, (x, c) ∈ cellsFrom n names acc
  | (m, k) :: r, n, acc, x, h => by
    unfold cellsFrom
    rcases List.mem_cons.mp h with e | h
    · cases e
      exact ⟨n, cells_acc List.mem_cons_self⟩
    · split
      · exact cells_has h
      · exact cells_has h
theorem cells_inj : ∀ {names : List (Str × NameKind)} {h : Heap} {acc : List (Str × Addr)} {x y : Str} {c : Addr}, (∀ p ∈ acc, p.2 < h.objs.size) → (∀ x y c, (x, c) ∈ acc → (y, c) ∈ acc → x = y) →
    (x, c) ∈ cellsFrom h.objs.size names acc → (y, c) ∈ cellsFrom h.objs.size names acc → x = y
  | [], _, _, _, _, _, _, hi, h1, h2 => hi _ _ _ h1 h2
  | (n, k) :: r, h, acc, x, y, c, hl, hi, h1, h2 => by
    unfold cellsFrom at h1 h2
    split at h1
    · rename_i hk
      rw [if_pos hk] at h2
      rw [← Heap.size_push h { cls := .type "cell", data := .cell none }] at h1 h2
      refine cells_inj (h := h.push _) (fun p hp => ?_) (fun x y c a b => ?_) h1 h2
      · rw [Heap.size_push]
        rcases List.mem_cons.mp hp with rfl | hp
        · exact Nat.lt_succ_self _
        · exact Nat.lt_succ_of_lt (hl p hp)
      · rcases List.mem_cons.mp a with e | a <;> rcases List.mem_cons.mp b with e' | b
        · cases e; cases e'; rfl
        · cases e; exact absurd (hl _ b) (Nat.lt_irrefl _)
        · cases e'; exact absurd (hl _ a) (Nat.lt_irrefl _)
        · exact hi _ _ _ a b
    · rename_i hk
      rw [if_neg hk] at h2
      exact cells_inj hl hi h1 h2
theorem newEnv_comp {M : Model} {A : Around} {E : Value → Shared → Prop} {s : Shared} {scope : Scope} {globals : Addr} {closure : List (Str × Addr)} {qual : Str} {func : Option Addr} {code : Value} {around : Env} {builtins : Addr} {Q : Env → Shared → Prop}
    (h : Q (newEnv scope s.heap.objs.size globals (cellsFrom (s.heap.objs.size + 1) scope.names closure) qual func code (some around) builtins)
      { s with heap := pushCells (s.heap.push { cls := .type "dict", data := .dict #[] }) scope.names }) :
    wpAny M A (newFunctionEnv scope globals closure [] qual func code (some around) builtins) Q E s := by
  simp only [newFunctionEnv, Option.isSome_some, if_true]
  refine wpAny_bind (wpAny_alloc ?_)
  refine wpAny_bind (wpAny_layCells _ (fun n k c => rfl) scope.names closure _ _ ?_)
  rw [show ({ s with heap := s.heap.push { cls := .type "dict", data := .dict #[] } } : Shared).heap.objs.size = s.heap.objs.size + 1 from Heap.size_push ..]
  rw [List.forIn_nil]
  exact wpAny_bind (wpAny_pure (wpAny_pure h))
/-- every name of the written scope, in the scope that runs -/
theorem lookup_relS {sc : Scope} : ∀ {names : List (Str × NameKind)} {x : Str} {k : NameKind},
    (names.map fun (n, k) => if (k == NameKind.free && sc.kind == .function && sc.names.lookup n == some .cell) then (n, NameKind.cell) else (n, k)).lookup x = some k →
    ∃ k', names.lookup x = some k' ∧ (k = k' ∨ (k' = .free ∧ k = .cell))
  | [], _, _, h => by simp at h
  | (n, k₀) :: r, x, k, h => by
    have ih := @lookup_relS sc r x k
    have h' : List.lookup x ((if (k₀ == NameKind.free && sc.kind == .function && sc.names.lookup n == some .cell) = true then (n, NameKind.cell) else (n, k₀)) :: (r.map _)) = some k := h
    cases hx : x == n with
    | true =>
      simp only [List.lookup_cons, hx]
      by_cases hc : (k₀ == NameKind.free && sc.kind == .function && sc.names.lookup n == some .cell) = true
      · rw [if_pos hc] at h'
        simp only [List.lookup_cons, hx] at h'
        cases h'
        simp only [Bool.and_eq_true, beq_iff_eq] at hc
        exact ⟨k₀, rfl, .inr ⟨hc.1.1, rfl⟩⟩
      · rw [if_neg hc] at h'
        simp only [List.lookup_cons, hx] at h'
        cases h'
        exact ⟨_, rfl, .inl rfl⟩
    | false =>
      simp only [List.lookup_cons, hx]
      by_cases hc : (k₀ == NameKind.free && sc.kind == .function && sc.names.lookup n == some .cell) = true
      · rw [if_pos hc] at h'
        simp only [List.lookup_cons, hx] at h'
        exact ih h'
      · rw [if_neg hc] at h'
        simp only [List.lookup_cons, hx] at h'
        exact ih h'
/-- the names of a comprehension's block: its own (with their places in N), or captured -/
structure BlkOk (N : List Str) (sc scope : Scope) (own : List (Str × Nat)) : Prop where
  kind : scope.kind = .function
  uniq : ∀ y ∈ scope.names, scope.names.lookup y.1 = some y.2
  ix : ∀ p ∈ own, N[p.2]? = some p.1
  free : ∀ y ∈ scope.names, y.2 = .free → sc.names.lookup y.1 = some .cell ∨ sc.names.lookup y.1 = some .free
  own : ∀ y ∈ scope.names, y.2 = .local ∨ y.2 = .cell → y.1 ∈ own.map (·.1) ∨ y.1 ∉ N
/-- the slots of the block's own names forgotten -/
def wipe (σ : St) : List Nat → St
  | [] => σ
  | v :: vs => (wipe σ vs).set v none
theorem wipe_length (σ : St) : ∀ vs : List Nat, (wipe σ vs).length = σ.length
  | [] => rfl
  | v :: vs => by unfold wipe; rw [List.length_set, wipe_length σ vs]
theorem wipe_some {σ : St} {i : Nat} {x : V} : ∀ {vs : List Nat}, (wipe σ vs)[i]? = some (some x) → σ[i]? = some (some x) ∧ i ∉ vs
  | [], h => ⟨h, by simp⟩
  | v :: vs, h => by
    unfold wipe at h
    by_cases hi : v = i
    · subst hi
      by_cases hv : v < (wipe σ vs).length
      · rw [List.getElem?_set_self hv] at h; cases h
      · rw [List.getElem?_eq_none (by simpa using hv)] at h; cases h
    · rw [List.getElem?_set_ne hi] at h
      obtain ⟨h1, h2⟩ := wipe_some h
      exact ⟨h1, by simp only [List.mem_cons, not_or]; exact ⟨fun e => hi e.symm, h2⟩⟩
/-- the context of a block that starts at s, its iterator's objects at fp -/
abbrev Cx.blk (X : Cx) (s : Shared) (H : Hp) (scope : Scope) (cenv : Env) (fp : List Addr) : Cx := { X with s_0 := s, H_0 := H, env := cenv, outer := X.stack, ex := fp, fn := fun x => scope.names.lookup x == some .cell, pn := [], xe := fun _ _ => False }
section
variable {X : Cx} {pins : List (Addr × Obj)} {σ : St} {H : Hp} {s : Shared}
theorem block_start {scope : Scope} {own : List (Str × Nat)} {fp : List Addr} (I : Inv X pins σ H s) (ok : BlkOk X.N X.env.scope scope own) (hN : X.N.Nodup) (hfp : ∀ b ∈ fp, FpOk X pins H b ∧ b < s.heap.objs.size) :
    Inv (X.blk s H scope (compEnvC scope (cellsFrom (s.heap.objs.size + 1) scope.names (cloFrom X.env.cells scope.names [])) s.heap.objs.size X.env) fp) [] (wipe σ (own.map (·.2))) H { s with heap := pushCells (s.heap.push { cls := .type "dict", data := .dict #[] }) scope.names } := by
  have hfree : ∀ y ∈ scope.names, y.2 = .free → ∃ c, X.env.cells.lookup y.1 = some c := fun y hy e => by
    rcases ok.free y hy e with k | k
    · exact I.ok.has _ (.inl k)
    · exact I.ok.has _ (.inr k)
  generalize hcenv : compEnvC scope (cellsFrom (s.heap.objs.size + 1) scope.names (cloFrom X.env.cells scope.names [])) s.heap.objs.size X.env = cenv
  have kp : ∀ b o, s.heap.get? b = some o → (pushCells (s.heap.push { cls := .type "dict", data := .dict #[] }) scope.names).get? b = some o := fun b o e => pushCells_keeps _ _ _ _ (Heap.get?_push_of_some _ e)
  have hL : cenv.locals = s.heap.objs.size := by rw [← hcenv]; rfl
  have hcl : cenv.cells = cellsFrom (s.heap.objs.size + 1) scope.names (cloFrom X.env.cells scope.names []) := by rw [← hcenv]; rfl
  have hsc : cenv.scope = relS scope X.env.scope := by rw [← hcenv]; rfl
  rw [← Heap.size_push s.heap { cls := .type "dict", data := .dict #[] }] at hcl
  have cm : ∀ {y c}, (y, c) ∈ cloFrom X.env.cells scope.names [] → X.env.cells.lookup y = some c ∧ c < s.heap.objs.size := fun {y c} hm => by
    rcases cloFrom_mem hm with hm | ⟨h1, rfl⟩
    · cases hm
    · obtain ⟨c, hc⟩ := hfree _ h1 rfl
      rw [hc]
      obtain ⟨w, z⟩ := I.cell _ _ hc
      exact ⟨rfl, z.lt⟩
  have mem : ∀ {y c}, cenv.cells.lookup y = some c → (X.env.cells.lookup y = some c ∧ c < s.heap.objs.size) ∨ (s.heap.objs.size + 1 ≤ c ∧ CellAt (pushCells (s.heap.push { cls := .type "dict", data := .dict #[] }) scope.names) c none) := fun {y c} e => by
    rw [hcl] at e
    rcases cells_mem (PySem.mem_of_lookup e) with hm | ⟨_, h2, h3⟩
    · exact .inl (cm hm)
    · rw [Heap.size_push] at h2; exact .inr ⟨h2, h3⟩
  have look : ∀ {y}, scope.names.lookup y = some .free → ∃ c, cenv.cells.lookup y = some c ∧ X.env.cells.lookup y = some c := fun {y} hl => by
    have hy : (y, NameKind.free) ∈ scope.names := PySem.mem_of_lookup hl
    obtain ⟨c', e'⟩ := mem_lookup (cells_acc (names := scope.names) (n := (s.heap.push { cls := .type "dict", data := .dict #[] }).objs.size) (cloFrom_has (cells := X.env.cells) (acc := []) hy))
    rw [← hcl] at e'
    refine ⟨c', e', ?_⟩
    rw [hcl] at e'
    rcases cells_mem (PySem.mem_of_lookup e') with hm | ⟨h1, _, _⟩
    · exact (cm hm).1
    · have := ok.uniq _ h1
      rw [hl] at this; cases this
  have okB : (X.blk s H scope cenv fp).Ok := by
    refine ⟨I.ok.mod, by show cenv.scope.kind = _; rw [hsc]; exact ok.kind, by show cenv.globals = _; rw [← hcenv]; exact I.ok.glob, by show cenv.builtins = _; rw [← hcenv]; exact I.ok.blt, by show s.heap.objs.size ≤ cenv.locals; rw [hL]; exact Nat.le_refl _,
      fun y z c e1 e2 => ?_, fun y hy => ?_, fun y c z e => ?_, I.ok.hd, I.ok.frames, .inl rfl, fun b hb => ⟨?_, fun y c e z => ?_⟩, I.bs, Nat.le_trans I.ok.bsz I.sz, fun b o e hb => ?_, fun b hb z => ?_, I.stack, I.stkFree⟩
    · have e1 : cenv.cells.lookup y = some c := e1
      have e2 : cenv.cells.lookup z = some c := e2
      rw [hcl] at e1 e2
      refine cells_inj (fun p hp => ?_) (fun y z c a b => I.ok.inj y z c (cm a).1 (cm b).1) (PySem.mem_of_lookup e1) (PySem.mem_of_lookup e2)
      rw [Heap.size_push]
      exact Nat.lt_succ_of_lt (cm (y := p.1) (c := p.2) hp).2
    · show ∃ c, cenv.cells.lookup y = some c
      have key : ∀ k, cenv.kindOf y = some k → (k = .cell ∨ k = .free) → ∃ c, cenv.cells.lookup y = some c := fun k hk hk' => by
        unfold Env.kindOf at hk
        rw [hsc] at hk
        obtain ⟨k', e, r⟩ := lookup_relS hk
        have : k' = .cell ∨ k' = .free := by
          rcases r with rfl | ⟨rfl, _⟩
          · exact hk'
          · exact .inr rfl
        rcases this with rfl | rfl
        · obtain ⟨c, hm⟩ := cells_has (n := (s.heap.push { cls := .type "dict", data := .dict #[] }).objs.size) (acc := cloFrom X.env.cells scope.names []) (PySem.mem_of_lookup e)
          obtain ⟨c', e'⟩ := mem_lookup hm
          exact ⟨c', by rw [hcl]; exact e'⟩
        · obtain ⟨c, h1, _⟩ := look e
          exact ⟨c, h1⟩
      rcases hy with hy | hy
      · exact key _ hy (.inl rfl)
      · exact key _ hy (.inr rfl)
    · have z : (scope.names.lookup y == some NameKind.cell) = true := z
      have z : scope.names.lookup y = some .cell := by simpa using z
      have e : cenv.cells.lookup y = some c := e
      rw [hcl] at e
      rcases cells_mem (PySem.mem_of_lookup e) with hm | ⟨_, h2, _⟩
      · rcases cloFrom_mem hm with hm | ⟨h1, _⟩
        · cases hm
        · have q := ok.uniq _ h1
          rw [z] at q; cases q
      · rw [Heap.size_push] at h2
        exact Nat.le_of_succ_le h2
    · show b ≠ cenv.locals
      rw [hL]; exact Nat.ne_of_lt (hfp b hb).2
    · have e : cenv.cells.lookup y = some c := e
      rcases mem e with ⟨h1, _⟩ | ⟨h1, _⟩
      · exact (hfp b hb).1.2.2.2.2.1 y c h1 z
      · have h2 : s.heap.objs.size + 1 ≤ b := by rw [← z]; exact h1
        exact absurd (Nat.lt_of_lt_of_le (hfp b hb).2 (Nat.le_of_succ_le h2)) (Nat.lt_irrefl _)
    · rcases (hfp b hb).1.2.2.2.1 with z | z
      · exact I.ok.noex b o e z
      · exact absurd (Nat.lt_of_lt_of_le (Heap.lt_size e) (Nat.le_trans I.ok.bsz z)) (Nat.lt_irrefl _)
    · rcases List.mem_cons.mp (I.stkSub b z) with z | z
      · exact (hfp b hb).1.2.1 z
      · exact (hfp b hb).1.2.2.1 z
  refine ⟨okB, rfl, I.bare, Un.kept kp, ⟨fun _ => none, ?_, fun i y av e1 e2 e3 => ?_⟩, fun y c e => ?_, ?_, fun y c e => ?_, fun p hp => ?_, I.hok.kept kp, by rw [wipe_length]; exact I.len⟩
  · show Heap.Ns _ cenv.locals _
    rw [hL]
    exact Heap.Ns.keeps (Heap.Ns.new ..) fun b o e => pushCells_keeps _ _ _ _ e
  · obtain ⟨e2, hne⟩ := wipe_some e2
    have hfr : scope.names.lookup y = some .free ∧ (cenv.kindOf y = some .cell ∨ cenv.kindOf y = some .free) := by
      have key : ∀ k, cenv.scope.names.lookup y = some k → k = .local ∨ k = .cell ∨ k = .free → scope.names.lookup y = some .free ∧ (cenv.kindOf y = some .cell ∨ cenv.kindOf y = some .free) := fun k hk hk' => by
        have hk0 := hk
        rw [hsc] at hk
        obtain ⟨k', e, r⟩ := lookup_relS hk
        have no : ¬ (k' = .local ∨ k' = .cell) := fun hh => by
          rcases ok.own _ (PySem.mem_of_lookup e) hh with e' | e'
          · obtain ⟨p, hp, hpy⟩ := List.mem_map.mp e'
            have e3 := ok.ix p hp
            have : p.1 = y := hpy
            rw [this] at e3
            exact hne (List.mem_map.mpr ⟨p, hp, nodup_ix hN e3 e1⟩)
          · exact e' (List.mem_of_getElem? e1)
        rcases r with rfl | ⟨rfl, rfl⟩
        · rcases hk' with rfl | rfl | rfl
          · exact absurd (.inl rfl) no
          · exact absurd (.inr rfl) no
          · exact ⟨e, .inr hk0⟩
        · exact ⟨e, .inl hk0⟩
      have e3 : Vis cenv.scope y := e3
      rcases e3 with e3 | e3 | e3
      · exact key _ e3 (.inl rfl)
      · exact key _ e3 (.inr (.inl rfl))
      · exact key _ e3 (.inr (.inr rfl))
    obtain ⟨m, hn, hl⟩ := I.loc
    have hvis : Vis X.env.scope y := (ok.free _ (PySem.mem_of_lookup hfr.1) rfl).elim (fun k => .inr (.inl k)) (fun k => .inr (.inr k))
    obtain ⟨w, r, q⟩ := hl i y av e1 e2 hvis
    refine ⟨w, r, .inr ⟨hfr.2, ?_⟩⟩
    obtain ⟨c, h1, h2⟩ := look hfr.1
    rcases q with ⟨k, _⟩ | ⟨_, c', e', z⟩
    · have k : X.env.scope.names.lookup y = some .local := k
      rcases ok.free _ (PySem.mem_of_lookup hfr.1) rfl with k' | k' <;> rw [show X.env.scope.names.lookup y = _ from k'] at k <;> cases k
    · rw [h2] at e'; cases e'
      exact ⟨c, h1, z.keeps kp⟩
  · have e : cenv.cells.lookup y = some c := e
    rcases mem e with ⟨h1, _⟩ | ⟨_, z⟩
    · obtain ⟨w, z⟩ := I.cell y c h1
      exact ⟨w, z.keeps kp⟩
    · exact ⟨_, z⟩
  · show H cenv.locals = none
    rw [hL]; exact I.hok.fresh (Nat.le_refl _)
  · have e : cenv.cells.lookup y = some c := e
    rcases mem e with ⟨h1, _⟩ | ⟨h1, _⟩
    · exact I.freeC y c h1
    · exact I.hok.fresh (Nat.le_of_succ_le h1)
  · exact absurd (show p ∈ ([] : List (Addr × Obj)) ++ [] from hp) (by simp)
/-- an item appended to a tracked list -/
theorem app_ok {E : Value → Shared → Prop} {D : Addr} {xs : List V} {y : V} {v : Value} {Q : Value → Shared → Prop} (I : Inv X pins σ H s) (hD : H D = some (.lst xs)) (hz : xs.length < sizeLine) (r : RelV y v)
    (h : ∀ s', Inv X pins σ (upd H D (.lst (xs ++ [y]))) s' → Q .none s') : wpAny (model X.prog X.w) X.A (call (.builtin "list.append") [.ref D, v]) Q E s := by
  obtain ⟨hz', its, n, ri, e⟩ := I.hok D _ hD
  have hl := ri.length
  refine append_at (hsz := by rw [List.size_toArray]; omega) e fun h' sb ho' => ?_
  refine h { s with heap := h' } (I.write (t' := s.toks) (by rw [hD]; trivial) (.inl rfl) (fun b u hb q => (sb.2 b hb).trans q) ⟨_, ho'⟩ ⟨by rw [List.length_append]; exact hz, its ++ [v], n + 1, ri.append (.cons r .nil), ?_⟩)
  rw [ho']
  simp
/-- a clause's tests -/
def PTs (X : Cx) (ifs : List Expr) (t : TT) : Prop :=
  ∀ (pins : List (Addr × Obj)) (s : Shared) (σ : St) (H : Hp) (Q : Bool → Hp → Prop), Inv X pins σ H s → t σ H Q →
    wpAny (model X.prog X.w) X.A (forIn ifs true fun c r => if r = true then do let ok ← isTrue c X.env (eval c X.env); pure (ForInStep.yield ok) else pure (ForInStep.yield r)) (TP X pins σ Q) X.xe s
def tYes : TT := fun _ H Q => Q true H
theorem pts_nil : PTs X [] tYes := fun _ _ _ H _ I h => wpAny_tests_nil ⟨H, I, h⟩
theorem pts_one {c : Expr} {t : TT} (h : PT X c t) : PTs X [c] t := fun pins s σ H Q I hw => wpAny_tests_one (h pins s σ H Q I hw)
end
theorem thnF {α : Type} {t : Sem α} {Q Q' : α → Shared → Prop} {M : Model} {A : Around} {E : Value → Shared → Prop} {s : Shared} (h : wpAny M A t Q (fun _ _ => False) s) (hQ : ∀ a s, Q a s → Q' a s) : wpAny M A t Q' E s := wpAny_mono h hQ fun _ _ z => False.elim z
/-- the loop of a list comprehension's block, the target of any form (codeAny_compLoop_tests asks a target that no tuple goes to; statement and proof follow it, PyProof/CompMap.lean:41-61, with the step letOwnedTupleGo kept) -/
theorem compLoop_any {prog : Program} {w : World} {A : Around} {R : Result → Shared → Prop} {s : Shared} {elt target iter : Expr} {ifs : List Expr} {scope : Scope} {pos : Pos} {it acc : Value} {env : Env} (I : Nat → Shared → Prop)
    (turn : ∀ n s, I n s → wpAny (model prog w) A (pyNext it) (fun r s₁ => match r with
      | none => R (.ok .next) s₁
      | some v => wpAny (model prog w) A (letOwnedTupleGo target it v) (fun _ s₁' => wpAny (model prog w) A (assign target env v) (fun _ s₂ =>
          wpAny (model prog w) A (forIn ifs true fun c r => if r = true then do let ok ← isTrue c env (eval c env); pure (ForInStep.yield ok) else pure (ForInStep.yield r)) (fun ok s₃ =>
            if ok = true then wpAny (model prog w) A (eval elt env) (fun x s₄ =>
              wpAny (model prog w) A (call (.builtin "list.append") [acc, x]) (fun _ s₅ => ∃ m, m < n ∧ I m s₅) (notedBy (model prog w) A env fun e s' => R (.error e) s') s₄) (notedBy (model prog w) A env fun e s' => R (.error e) s') s₃
            else ∃ m, m < n ∧ I m s₃) (notedBy (model prog w) A env fun e s' => R (.error e) s') s₂) (notedBy (model prog w) A env fun e s' => R (.error e) s') s₁') (notedBy (model prog w) A env fun e s' => R (.error e) s') s₁) (notedBy (model prog w) A env fun e s' => R (.error e) s') s)
    (n : Nat) (h : I n s) :
    codeAny (model prog w) A (.compLoop (.ListComp elt [⟨target, iter, ifs, 0⟩] scope pos) 0 it acc env) R s := by
  refine codeAny_loop rfl I (fun n s hI => ?_) n h
  show wpAny _ A ((compTurn (.ListComp elt [⟨target, iter, ifs, 0⟩] scope pos) 0 it acc env).onRaise (fun x => do noteFrame x env; theTreesLotGoes x)) _ _ s
  refine wpAny_noted ?_
  rw [compTurn_list]
  refine wpAny_bind (wpAny_standAt (wpAny_bind (wpAny_mono (turn n s hI) (fun r s₁ h₁ => ?_) fun _ _ h' => h')))
  cases r with
  | none => exact wpAny_pure h₁
  | some v =>
    refine wpAny_bind (wpAny_mono h₁ (fun _ s₁' h₁' => ?_) fun _ _ h' => h')
    refine wpAny_bind (wpAny_mono h₁' (fun _ s₂ h₂ => wpAny_bind (wpAny_mono h₂ (fun ok s₃ h₃ => ?_) fun _ _ h' => h')) fun _ _ h' => h')
    cases ok with
    | false => exact wpAny_pure ⟨rfl, h₃⟩
    | true =>
      exact wpAny_bind (wpAny_bind (wpAny_mono h₃ (fun x s₄ h₄ => wpAny_bind (wpAny_mono h₄ (fun _ s₅ h₅ => wpAny_pure (wpAny_pure ⟨rfl, h₅⟩)) fun _ _ h' => h')) fun _ _ h' => h'))
section
variable {X : Cx}
/-- [elt for target in iter if ..]: D the new list; W by the turn and a measure, Nx what a turn is to reach -/
def tLc (wi : TI) (g : TG) (tt : TT) (te : TE) (vs : List Nat) : TE := fun σ H Q => wi σ H fun J H1 => ∀ D, H1 D = none → ∃ W : Nat → Nat → Hp → Prop, (∃ m, W 0 m (upd H1 D (.lst []))) ∧ ∀ i m H, W i m H →
  (J.stop i H ∧ Q (.ref D) H) ∨ (J.go i H ∧ ∃ Nx : Hp → Prop, (∀ H', Nx H' → ∃ m', m' < m ∧ W (i + 1) m' H') ∧ ∀ x H', J.yld i H x H' → g x (wipe σ vs) H' fun σ2 H2 => wipe σ2 vs = wipe σ vs ∧ tt σ2 H2 fun b H3 =>
    if b = true then te σ2 H3 fun y H4 => ∃ acc, H4 D = some (.lst acc) ∧ acc.length < sizeLine ∧ Nx (upd H4 D (.lst (acc ++ [y]))) else Nx H3)
theorem lc_core {pins : List (Addr × Obj)} {s : Shared} {σ : St} {H : Hp} {Q : VK} {elt tg iter : Expr} {ifs : List Expr} {scope : Scope} {own : List (Str × Nat)} {pos pos' : Pos} {wi : TI} {g : TG} {tt : TT} {te : TE} {use : Option (Value → Sem Unit)} {Qf : Value → Shared → Prop}
    (hc : X.calm = true) (hN : X.N.Nodup) (I : Inv X pins σ H s) (hi : PI X tg iter wi) (ok : BlkOk X.N X.env.scope scope own)
    (hg : ∀ (s : Shared) (H : Hp) (C : Addr) (cl : List (Str × Addr)) (fp : List Addr), PG (X.blk s H scope (compEnvC scope cl C X.env) fp) tg g) (ht : ∀ (s : Shared) (H : Hp) (C : Addr) (cl : List (Str × Addr)) (fp : List Addr), PTs (X.blk s H scope (compEnvC scope cl C X.env) fp) ifs tt)
    (he : ∀ (s : Shared) (H : Hp) (C : Addr) (cl : List (Str × Addr)) (fp : List Addr), PE (X.blk s H scope (compEnvC scope cl C X.env) fp) elt te) (hs : ∀ x, foldedSetIterable iter X.env x = pure x)
    (h : tLc wi g tt te (own.map (·.2)) σ H Q)
    (hRR : ∀ D C s' m H', Inv X pins σ H' s' → Q (.ref D) H' → s'.heap.Ns C m → FpOk X pins H' C → compPost (model X.prog X.w) X.A X.xe use Qf (.ref D) C (.ok .next) s') :
    wpAny (model X.prog X.w) X.A (comprehension (.ListComp elt [⟨tg, iter, ifs, 0⟩] scope pos) scope X.env pos' (newList []) false (eval iter X.env) use) Qf X.xe s := by
  have hfree : ∀ y ∈ scope.names, y.2 = .free → ∃ c, X.env.cells.lookup y.1 = some c := fun y hy e => by
    rcases ok.free y hy e with k | k
    · exact I.ok.has _ (.inl k)
    · exact I.ok.has _ (.inr k)
  refine wpAny_comprehension_free (use := use) rfl hs (closure_ok hfree) ok.kind (fun y hy e => by rw [ok.uniq y hy, e])
    (thn (hi pins s σ H _ I h) fun xv s1 hx => thn hx fun itv s2 h2 => ?_)
  obtain ⟨it, fp, tn, J, H2, e, I2, T, st2, f2, q⟩ := h2
  subst e
  refine wpAny_newObj_type (newEnv_comp ?_) (by show 0 ≤ sizeLine; decide)
  generalize hD : s2.heap.objs.size = D
  have hDn : H2 D = none := I2.hok.fresh (Nat.le_of_eq hD)
  obtain ⟨W, ⟨m0, w0⟩, turn⟩ := q D hDn
  -- the new list
  generalize hs3 : ({ s2 with heap := s2.heap.push { cls := .type "list", data := .seq ([] : List Value).toArray } } : Shared) = s3
  have I3 : Inv X pins σ (upd H2 D (.lst [])) s3 := by
    rw [← hs3]
    refine I2.laid (t' := s2.toks) (fun b o e => Heap.get?_push_of_some _ e) (Nat.le_of_eq hD) ⟨Nat.zero_le _, [], 0, .nil, ?_⟩
    rw [← hD]
    exact Heap.get?_push_size _ rfl
  have h3 : s3.heap = s2.heap.push { cls := .type "list", data := .seq ([] : List Value).toArray } := by rw [← hs3]
  have sz : ∀ b ∈ fp, b < s2.heap.objs.size := fun b hb => by
    obtain ⟨o, e, _⟩ := T.obj _ _ st2 b hb
    exact Heap.lt_size e
  have f3 : ∀ b ∈ fp, FpOk X pins (upd H2 D (.lst [])) b ∧ b < s3.heap.objs.size := fun b hb => by
    have hlt := sz b hb
    refine ⟨⟨?_, (f2 b hb).2⟩, by rw [h3, Heap.size_push]; exact Nat.lt_succ_of_lt hlt⟩
    rw [upd_ne (by rw [← hD]; exact Nat.ne_of_lt hlt)]
    exact (f2 b hb).1
  have st3 : tn 0 s3.heap := T.keep _ _ _ st2 fun b _ o e => by rw [h3]; exact Heap.get?_push_of_some _ e
  have I4 := block_start I3 ok hN f3
  have pg := hg s3 (upd H2 D (.lst [])) s3.heap.objs.size (cellsFrom (s3.heap.objs.size + 1) scope.names (cloFrom X.env.cells scope.names [])) fp
  have pt := ht s3 (upd H2 D (.lst [])) s3.heap.objs.size (cellsFrom (s3.heap.objs.size + 1) scope.names (cloFrom X.env.cells scope.names [])) fp
  have pe := he s3 (upd H2 D (.lst [])) s3.heap.objs.size (cellsFrom (s3.heap.objs.size + 1) scope.names (cloFrom X.env.cells scope.names [])) fp
  show codeAny _ _ (.compStart (.ListComp elt [⟨tg, iter, ifs, 0⟩] scope pos) 0 (.ref it) (.ref D) (compEnvC scope (cellsFrom (s3.heap.objs.size + 1) scope.names (cloFrom X.env.cells scope.names [])) s3.heap.objs.size X.env)) (compPost (model X.prog X.w) X.A X.xe use Qf (.ref D) s3.heap.objs.size) { s3 with heap := pushCells (s3.heap.push { cls := .type "dict", data := .dict #[] }) scope.names }
  have nfp : ∀ b ∈ fp, (upd H2 D (.lst [])) b = none := fun b hb => (f3 b hb).1.1
  generalize hce : compEnvC scope (cellsFrom (s3.heap.objs.size + 1) scope.names (cloFrom X.env.cells scope.names [])) s3.heap.objs.size X.env = ce at I4 pg pt pe ⊢
  have cL : ce.locals = s3.heap.objs.size := by subst hce; rfl
  generalize hH3 : upd H2 D (.lst []) = H3 at I3 I4 pg pt pe w0 nfp f3
  generalize hs4 : ({ s3 with heap := pushCells (s3.heap.push { cls := .type "dict", data := .dict #[] }) scope.names } : Shared) = s4 at I4 ⊢
  have st4 : tn 0 s4.heap := T.keep _ _ _ st3 fun b _ o e => by rw [← hs4]; exact pushCells_keeps _ _ _ _ (Heap.get?_push_of_some _ e)
  have stat : ∀ {σ' : St} {H' : Hp} {s' : Shared}, Inv (X.blk s3 H3 scope ce fp) [] σ' H' s' → (∀ b ∈ fp, H' b = none) → ∀ b ∈ fp, FpOk (X.blk s3 H3 scope ce fp) [] H' b := fun {σ' H' s'} I' hn b hb =>
    ⟨hn b hb, (I'.ok.exf b hb).1, I'.ok.exfs b hb, .inl hb, fun x c e => (I'.ok.exf b hb).2 x c e, fun p hp => absurd (show p ∈ ([] : List (Addr × Obj)) ++ [] from hp) (by simp)⟩
  have loop : codeAny (model X.prog X.w) X.A (.compLoop (.ListComp elt [⟨tg, iter, ifs, 0⟩] scope pos) 0 (.ref it) (.ref D) ce) (compPost (model X.prog X.w) X.A X.xe use Qf (.ref D) s3.heap.objs.size) s4 := by
    refine compLoop_any (fun n s' => ∃ i H', Inv (X.blk s3 H3 scope ce fp) [] (wipe σ (own.map (·.2))) H' s' ∧ tn i s'.heap ∧ (∀ b ∈ fp, H' b = none) ∧ W i n H') ?_ m0 ⟨0, H3, I4, st4, nfp, w0⟩
    rintro n s5 ⟨i, H5, I5, st5, n5, w5⟩
    rcases turn i n H5 w5 with ⟨stop, qq⟩ | ⟨go, Nx, hNx, step⟩
    · have td := T.done (X.blk s3 H3 scope ce fp) rfl rfl rfl hc i [] s5 _ H5 (fun _ _ => False) I5 (stat I5 n5) st5 stop
      refine thnF td fun r s6 ⟨hr, I6⟩ => ?_
      subst hr
      -- back in the def's context
      have I7 : Inv X pins σ H5 s6 := I3.call' (ch := fp) I6.os I6.base I6.hok I6.bare fun b hb => ⟨(f3 b hb).1.2.2.2.1, (f3 b hb).1.2.1, (f3 b hb).1.2.2.2.2.1, (f3 b hb).1.2.2.2.2.2⟩
      have nC : H5 s3.heap.objs.size = none := by
        have z : H5 ce.locals = none := I6.free
        rw [cL] at z
        exact z
      obtain ⟨m, hn, _⟩ := I6.loc
      have hn : s6.heap.Ns ce.locals m := hn
      rw [cL] at hn
      exact hRR D s3.heap.objs.size s6 m H5 I7 qq hn (I3.fpOk (Nat.le_refl _) nC)
    · have ti := T.item (X.blk s3 H3 scope ce fp) rfl rfl rfl hc i [] s5 _ H5 (fun _ _ => False) I5 (stat I5 n5) st5 go
      refine thnF ti fun r s6 ⟨u, hr, h6⟩ => ?_
      subst hr
      refine thnF h6 fun _ s7 ⟨x, H7, I7, r7, y7, st7, n7⟩ => ?_
      have I7' := I7.pinned (stat I7 n7) (T.obj _ _ st7)
      refine thnF (pg _ s7 _ H7 x u _ I7' r7 (step x H7 y7)) fun _ s8 ⟨σ8, H8, I8, hw8, q8⟩ => ?_
      refine thnF (pt _ s8 σ8 H8 _ I8 q8) fun b s9 ⟨H9, I9, q9⟩ => ?_
      -- the turn's end
      have fin : ∀ {s' : Shared} {H' : Hp}, Inv (X.blk s3 H3 scope ce fp) ([] ++ pinsAt fp s7.heap) σ8 H' s' → Nx H' → ∃ m, m < n ∧ ∃ i H', Inv (X.blk s3 H3 scope ce fp) [] (wipe σ (own.map (·.2))) H' s' ∧ tn i s'.heap ∧ (∀ b ∈ fp, H' b = none) ∧ W i m H' := fun {s' H'} I' nx => by
        obtain ⟨m', hm, w'⟩ := hNx H' nx
        have pin' : ∀ b ∈ fp, ∀ o, s7.heap.get? b = some o → s'.heap.get? b = some o ∧ H' b = none := fun b hb o e =>
          let z := I'.pin (b, o) (List.mem_append_right _ (List.mem_append_right _ (mem_pinsAt hb e)))
          ⟨z.1, z.2.1⟩
        have hl : (wipe σ (own.map (·.2))).length = σ8.length := by rw [← hw8, wipe_length]
        refine ⟨m', hm, i + 1, H', (I'.unpinned (pins := [])).weak hl (fun j v e => ?_), T.keep _ _ _ st7 fun b hb o e => (pin' b hb o e).1, fun b hb => ?_, w'⟩
        · rw [← hw8] at e
          exact (wipe_some e).1
        · obtain ⟨o, e, _⟩ := T.obj _ _ st7 b hb
          exact (pin' b hb o e).2
      cases b with
      | false =>
        simp only [Bool.false_eq_true, if_false] at q9 ⊢
        exact fin I9 q9
      | true =>
        simp only [if_true] at q9 ⊢
        refine thnF (pe _ s9 σ8 H9 _ I9 q9) fun z s10 ⟨yv, H10, I10, r10, acc, hD10, hz10, nx⟩ => ?_
        exact app_ok (X := X.blk s3 H3 scope ce fp) I10 hD10 hz10 r10 fun s11 I11 => fin I11 nx
  exact codeAny_compStart_list loop (T.self X.A 0 _ _ _ st4 loop)
/-- as a value -/
theorem pe_lc {elt tg iter : Expr} {ifs : List Expr} {scope : Scope} {own : List (Str × Nat)} {pos : Pos} {wi : TI} {g : TG} {tt : TT} {te : TE} (hc : X.calm = true) (hN : X.N.Nodup) (hi : PI X tg iter wi) (ok : BlkOk X.N X.env.scope scope own)
    (hg : ∀ (s : Shared) (H : Hp) (C : Addr) (cl : List (Str × Addr)) (fp : List Addr), PG (X.blk s H scope (compEnvC scope cl C X.env) fp) tg g) (ht : ∀ (s : Shared) (H : Hp) (C : Addr) (cl : List (Str × Addr)) (fp : List Addr), PTs (X.blk s H scope (compEnvC scope cl C X.env) fp) ifs tt)
    (he : ∀ (s : Shared) (H : Hp) (C : Addr) (cl : List (Str × Addr)) (fp : List Addr), PE (X.blk s H scope (compEnvC scope cl C X.env) fp) elt te) (hs : ∀ x, foldedSetIterable iter X.env x = pure x := by intro _; rfl) :
    PE X (.ListComp elt [⟨tg, iter, ifs, 0⟩] scope pos) (tLc wi g tt te (own.map (·.2))) := by
  intro pins s σ H Q I h
  rw [eval_ListComp]
  refine lc_core hc hN I hi ok hg ht he hs h fun D C s' m H' I' q hn f => ⟨m, hn, fun h'' sb => ?_⟩
  obtain ⟨f0, f1, f2, f3, f4, f5⟩ := f
  exact ⟨.ref D, H', I'.turned (t' := s'.toks) (fun b o hb e => (sb.2 b hb).trans e) f0 f1 f3 f4 f5, rfl, q⟩
/-- name = [..] on one line, the name a local -/
theorem ps_setLc {i : Nat} {y : Str} {py : Pos} {elt tg iter : Expr} {ifs : List Expr} {scope : Scope} {own : List (Str × Nat)} {pos spos : Pos} {wi : TI} {g : TG} {tt : TT} {te : TE} (hc : X.calm = true) (hN : X.N.Nodup) (hy : X.N[i]? = some y) (hyl : X.env.scope.names.lookup y = some .local)
    (hsw : swapsWith (.ListComp elt [⟨tg, iter, ifs, 0⟩] scope pos) (some (.Name y py)) spos.line X.env = pure true) (hi : PI X tg iter wi) (ok : BlkOk X.N X.env.scope scope own)
    (hg : ∀ (s : Shared) (H : Hp) (C : Addr) (cl : List (Str × Addr)) (fp : List Addr), PG (X.blk s H scope (compEnvC scope cl C X.env) fp) tg g) (ht : ∀ (s : Shared) (H : Hp) (C : Addr) (cl : List (Str × Addr)) (fp : List Addr), PTs (X.blk s H scope (compEnvC scope cl C X.env) fp) ifs tt)
    (he : ∀ (s : Shared) (H : Hp) (C : Addr) (cl : List (Str × Addr)) (fp : List Addr), PE (X.blk s H scope (compEnvC scope cl C X.env) fp) elt te) (hs : ∀ x, foldedSetIterable iter X.env x = pure x := by intro _; rfl) :
    PS X (.Assign [.Name y py] (.ListComp elt [⟨tg, iter, ifs, 0⟩] scope pos) spos) (tAsg (tLc wi g tt te (own.map (·.2))) (gName i)) := by
  intro pins s σ H D I h
  rw [exec_Assign_Name_used _ _ _ _ hsw]
  refine wpAny_bind (wpAny_standAt (wpAny_bind ?_))
  show wpAny _ X.A (do let _ ← comprehension (.ListComp elt [⟨tg, iter, ifs, 0⟩] scope pos) scope X.env (firstIterPos [⟨tg, iter, ifs, 0⟩] pos) (newList []) false (eval iter X.env) (some (assign (.Name y py) X.env))) _ _ s
  have h : tLc wi g tt te (own.map (·.2)) σ H (fun x H1 => gName i x σ H1 D.nx) := h
  refine wpAny_bind (thn (lc_core (Qf := fun _ s' => SP X pins D .next s') hc hN I hi ok hg ht he hs h fun L C s' m H' I' q hn f => ?_) fun _ s' hq => wpAny_pure (wpAny_pure hq))
  show wpAny _ _ (assign (.Name y py) X.env (.ref L)) _ _ _
  refine wpAny_assign_Name (store_ok2 (v := V.ref L) I' hN hy (.inl hyl) rfl (fun s2 I2 ⟨a, sb, ha⟩ => ?_) (.inr hyl))
  obtain ⟨f0, f1, f2, f3, f4, f5⟩ := f
  have haC : C ≠ a := by
    rcases ha with z | z
    · rw [z]; exact f1
    · exact fun e => f4 y a z e.symm
  refine ⟨m, hn.sameBut sb haC, fun h3 sb3 => ?_⟩
  exact ⟨_, H', I2.turned (t' := s2.toks) (fun b o hb e => (sb3.2 b hb).trans e) f0 f1 f3 f4 f5, q⟩
theorem sw_true {elt : Expr} {gs : List Comprehension} {scope : Scope} {pos py : Pos} {y : Str} {l : Nat} {env : Env} (hk : env.scope.kind = .function) (hy : env.scope.names.lookup y = some .local) (hl : (py.line == pos.line) = true)
    (ha : (scope.names.any fun (n, k) => n == y && (k == .local || k == .cell)) = false) : swapsWith (.ListComp elt gs scope pos) (some (.Name y py)) l env = pure true := by
  have ky : env.kindOf y = some .local := hy
  have hb : env.blockKind = .function := by unfold Env.blockKind; rw [hk]; rfl
  unfold swapsWith
  simp only [hb, ky, ha, Expr.pos, hl]
  rfl
end
/-- over a range: Pv by the turn and the heap (the new list at D within) -/
theorem lc_range {lo : Int} {n : Nat} {g : TG} {tt : TT} {te : TE} {vs : List Nat} {σ : St} {H1 : Hp} {D : Addr} {Qd : Hp → Prop} (Pv : Nat → Hp → Prop) (h0 : Pv 0 (upd H1 D (.lst [])))
    (hs : ∀ i H, i < n → Pv i H → g (.int (lo + i)) (wipe σ vs) H fun σ2 H2 => wipe σ2 vs = wipe σ vs ∧ tt σ2 H2 fun b H3 =>
      if b = true then te σ2 H3 fun y H4 => ∃ acc, H4 D = some (.lst acc) ∧ acc.length < sizeLine ∧ Pv (i + 1) (upd H4 D (.lst (acc ++ [y]))) else Pv (i + 1) H3) (hd : ∀ H, Pv n H → Qd H) :
    ∃ W : Nat → Nat → Hp → Prop, (∃ m, W 0 m (upd H1 D (.lst []))) ∧ ∀ i m H, W i m H →
      ((Itr lo n).stop i H ∧ Qd H) ∨ ((Itr lo n).go i H ∧ ∃ Nx : Hp → Prop, (∀ H', Nx H' → ∃ m', m' < m ∧ W (i + 1) m' H') ∧ ∀ x H', (Itr lo n).yld i H x H' → g x (wipe σ vs) H' fun σ2 H2 => wipe σ2 vs = wipe σ vs ∧ tt σ2 H2 fun b H3 =>
        if b = true then te σ2 H3 fun y H4 => ∃ acc, H4 D = some (.lst acc) ∧ acc.length < sizeLine ∧ Nx (upd H4 D (.lst (acc ++ [y]))) else Nx H3) := by
  refine ⟨fun i m H => m = n - i ∧ i ≤ n ∧ Pv i H, ⟨n, by simp, Nat.zero_le _, h0⟩, ?_⟩
  rintro i m H ⟨rfl, hi, p⟩
  by_cases hlt : i < n
  · refine .inr ⟨hlt, Pv (i + 1), fun H' p' => ⟨n - (i + 1), by omega, rfl, hlt, p'⟩, fun x H' y => ?_⟩
    obtain ⟨e, y⟩ := y
    subst e y
    exact hs i _ hlt p
  · have e : i = n := by omega
    subst e
    exact .inl ⟨Nat.le_refl _, hd H p⟩
/-- over a list that the block leaves as it is -/
theorem lc_list {K : PySem.W.Frag} {a : Addr} {xs : List V} {g : TG} {tt : TT} {te : TE} {vs : List Nat} {σ : St} {H1 : Hp} {D : Addr} {Qd : Hp → Prop} (Pv : Nat → Hp → Prop) (h0 : Pv 0 (upd H1 D (.lst []))) (hl : ∀ i H, i ≤ xs.length → Pv i H → SqL K H a xs)
    (hs : ∀ i x H, xs[i]? = some x → Pv i H → g x (wipe σ vs) H fun σ2 H2 => wipe σ2 vs = wipe σ vs ∧ tt σ2 H2 fun b H3 =>
      if b = true then te σ2 H3 fun y H4 => ∃ acc, H4 D = some (.lst acc) ∧ acc.length < sizeLine ∧ Pv (i + 1) (upd H4 D (.lst (acc ++ [y]))) else Pv (i + 1) H3) (hd : ∀ H, Pv xs.length H → Qd H) :
    ∃ W : Nat → Nat → Hp → Prop, (∃ m, W 0 m (upd H1 D (.lst []))) ∧ ∀ i m H, W i m H →
      ((Itl K a).stop i H ∧ Qd H) ∨ ((Itl K a).go i H ∧ ∃ Nx : Hp → Prop, (∀ H', Nx H' → ∃ m', m' < m ∧ W (i + 1) m' H') ∧ ∀ x H', (Itl K a).yld i H x H' → g x (wipe σ vs) H' fun σ2 H2 => wipe σ2 vs = wipe σ vs ∧ tt σ2 H2 fun b H3 =>
        if b = true then te σ2 H3 fun y H4 => ∃ acc, H4 D = some (.lst acc) ∧ acc.length < sizeLine ∧ Nx (upd H4 D (.lst (acc ++ [y]))) else Nx H3) := by
  refine ⟨fun i m H => m = xs.length - i ∧ i ≤ xs.length ∧ Pv i H, ⟨xs.length, by simp, Nat.zero_le _, h0⟩, ?_⟩
  rintro i m H ⟨rfl, hi, p⟩
  have q := hl i H hi p
  by_cases hlt : i < xs.length
  · refine .inr ⟨⟨xs, xs[i], q, by simp [hlt]⟩, Pv (i + 1), fun H' p' => ⟨xs.length - (i + 1), by omega, rfl, hlt, p'⟩, fun x H' y => ?_⟩
    obtain ⟨e, y⟩ := y
    subst e
    exact hs i x _ (y xs q) p
  · have e : i = xs.length := by omega
    subst e
    exact .inl ⟨⟨xs, q, Nat.le_refl _⟩, hd H p⟩
def blkC (N : List Str) (sc scope : Scope) (own : List (Str × Nat)) : Bool :=
  (match scope.kind with | .function => true | _ => false) && (scope.names.all fun y => decide (scope.names.lookup y.1 = some y.2)) && (own.all fun p => decide (N[p.2]? = some p.1)) &&
    (scope.names.all fun y => match y.2 with
      | .free => (match sc.names.lookup y.1 with | some .cell => true | some .free => true | _ => false)
      | .local => decide (y.1 ∈ own.map (·.1)) || decide (y.1 ∉ N)
      | .cell => decide (y.1 ∈ own.map (·.1)) || decide (y.1 ∉ N)
      | _ => true)
theorem blkOk_by {N : List Str} {sc scope : Scope} {own : List (Str × Nat)} (h : blkC N sc scope own = true) : BlkOk N sc scope own := by
  unfold blkC at h
  simp only [Bool.and_eq_true, List.all_eq_true, decide_eq_true_eq] at h
  obtain ⟨⟨⟨h1, h2⟩, h3⟩, h4⟩ := h
  refine ⟨?_, h2, h3, fun y hy e => ?_, fun y hy e => ?_⟩
  · split at h1
    · assumption
    · cases h1
  · have q := h4 y hy
    simp only [e] at q
    split at q <;> first | exact .inl (by assumption) | exact .inr (by assumption) | cases q
  · have q := h4 y hy
    rcases e with e | e <;> (simp only [e, Bool.or_eq_true, decide_eq_true_eq] at q; exact q)
end L2
namespace L2
open PySem PySem.Spec PyProof.Rows
section
variable {prog : Program} {w : World} {A : Around} {R : Result → Shared → Prop} {s : Shared} {elt t0 i0 t1 i1 : Expr} {ifs0 ifs1 : List Expr} {scope : Scope} {pos : Pos} {it acc : Value} {env : Env}
end
section
variable {X : Cx}
end
end L2
namespace L2
open PySem PySem.Spec PyProof.Rows
section
variable {κ : Type} [DecidableEq κ]
def valV (kvs : List (κ × V)) (k : κ) : Option V := (kvs.find? fun kv => decide (kv.1 = k)).map (·.2)
/-- in its place, or at the end -/
def putK (kvs : List (κ × V)) (k : κ) (v : V) : List (κ × V) :=
  if (kvs.any fun kv => decide (kv.1 = k)) = true then kvs.map (fun kv => if kv.1 = k then (kv.1, v) else kv) else kvs ++ [(k, v)]
def dropK (kvs : List (κ × V)) (k : κ) : List (κ × V) := kvs.filter fun kv => decide (kv.1 ≠ k)
theorem valV_pos {p : κ × V} {r : List (κ × V)} {k : κ} (e : p.1 = k) : valV (p :: r) k = some p.2 := by simp [valV, List.find?_cons, e]
theorem valV_neg {p : κ × V} {r : List (κ × V)} {k : κ} (e : ¬ p.1 = k) : valV (p :: r) k = valV r k := by simp [valV, List.find?_cons, e]
theorem valV_any (k : κ) : ∀ kvs : List (κ × V), (kvs.any fun kv => decide (kv.1 = k)) = (valV kvs k).isSome
  | [] => rfl
  | p :: r => by
    rw [List.any_cons]
    by_cases e : p.1 = k
    · simp only [valV_pos e, decide_eq_true e, Bool.true_or, Option.isSome_some]
    · rw [valV_neg e, decide_eq_false e, Bool.false_or]; exact valV_any k r
theorem length_putK (kvs : List (κ × V)) (k : κ) (v : V) : (putK kvs k v).length ≤ kvs.length + 1 := by
  unfold putK
  split
  · rw [List.length_map]; omega
  · rw [List.length_append, List.length_cons, List.length_nil]; omega
theorem putK_new {kvs : List (κ × V)} {k : κ} (v : V) (h : valV kvs k = none) : putK kvs k v = kvs ++ [(k, v)] := by
  unfold putK
  rw [valV_any, h]
  exact if_neg (by decide)
theorem RelO.isSome_eq {o : Option V} {u : Option Value} (r : RelO o u) : o.isSome = u.isSome := by
  cases o with
  | none => cases u with
    | none => rfl
    | some _ => exact (show False from r).elim
  | some _ => cases u with
    | none => exact (show False from r).elim
    | some _ => rfl
theorem RelO.getD {o : Option V} {u : Option Value} {d : V} {d' : Value} (r : RelO o u) (rd : RelV d d') : RelV (o.getD d) (u.getD d') := by
  cases o with
  | none => cases u with
    | none => exact rd
    | some _ => exact (show False from r).elim
  | some _ => cases u with
    | none => exact (show False from r).elim
    | some _ => exact r
/-- raw tables of the same keys -/
theorem KV.val {kvs : List (κ × V)} {vs : List (κ × Value)} (r : KV kvs vs) (k : κ) : RelO (valV kvs k) (valueAt vs k) := by
  unfold KV at r
  induction r with
  | nil => exact True.intro
  | @cons p q ps qs h t ih =>
    obtain ⟨h1, h2⟩ := h
    by_cases e : p.1 = k
    · have e' : q.1 = k := h1.symm.trans e
      have b : valueAt (q :: qs) k = some q.2 := by simp [valueAt, List.find?_cons, e']
      rw [valV_pos e, b]; exact h2
    · have e' : ¬ q.1 = k := fun z => e (h1.trans z)
      have b : valueAt (q :: qs) k = valueAt qs k := by simp [valueAt, List.find?_cons, e']
      rw [valV_neg e, b]; exact ih
theorem KV.any {kvs : List (κ × V)} {vs : List (κ × Value)} (r : KV kvs vs) (k : κ) : (kvs.any fun kv => decide (kv.1 = k)) = vs.any fun kv => decide (kv.1 = k) := by
  unfold KV at r
  induction r with
  | nil => rfl
  | cons h t ih => rw [List.any_cons, List.any_cons, ih, h.1]
theorem KV.repl {kvs : List (κ × V)} {vs : List (κ × Value)} (r : KV kvs vs) (k : κ) {y : V} {u : Value} (ry : RelV y u) :
    KV (kvs.map fun kv => if kv.1 = k then (kv.1, y) else kv) (vs.map fun kv => if kv.1 = k then (kv.1, u) else kv) := by
  unfold KV at r ⊢
  induction r with
  | nil => exact .nil
  | @cons p q ps qs h t ih =>
    rw [List.map_cons, List.map_cons]
    refine .cons ?_ ih
    obtain ⟨h1, h2⟩ := h
    by_cases e : p.1 = k
    · rw [if_pos e, if_pos (h1.symm.trans e)]; exact ⟨h1, ry⟩
    · rw [if_neg e, if_neg (fun z => e (h1.trans z))]; exact ⟨h1, h2⟩
theorem KV.put {kvs : List (κ × V)} {vs : List (κ × Value)} (r : KV kvs vs) (k : κ) {y : V} {u : Value} (ry : RelV y u) : KV (putK kvs k y) (stored vs k u) := by
  unfold putK stored
  rw [r.any k]
  by_cases e : (vs.any fun kv => decide (kv.1 = k)) = true
  · rw [if_pos e, if_pos e]; exact r.repl k ry
  · rw [if_neg e, if_neg e]; exact Paired.snoc r ⟨rfl, ry⟩
theorem KV.drop {kvs : List (κ × V)} {vs : List (κ × Value)} (r : KV kvs vs) (k : κ) : KV (dropK kvs k) (without vs k) := by
  unfold KV at r ⊢
  unfold dropK without
  induction r with
  | nil => exact .nil
  | @cons p q ps qs h t ih =>
    obtain ⟨h1, h2⟩ := h
    rw [List.filter_cons, List.filter_cons]
    by_cases e : p.1 = k
    · have a : ¬ decide (p.1 ≠ k) = true := by simp [e]
      have b : ¬ decide (q.1 ≠ k) = true := by simp [h1.symm.trans e]
      rw [if_neg a, if_neg b]; exact ih
    · have e' : ¬ q.1 = k := fun z => e (h1.trans z)
      have a : decide (p.1 ≠ k) = true := by simp [e]
      have b : decide (q.1 ≠ k) = true := by simp [e']
      rw [if_pos a, if_pos b]; exact .cons ⟨h1, h2⟩ ih
theorem KV.keys {kvs : List (κ × V)} {vs : List (κ × Value)} (r : KV kvs vs) : kvs.map (·.1) = vs.map (·.1) := by
  unfold KV at r
  induction r with
  | nil => rfl
  | cons h t ih => rw [List.map_cons, List.map_cons, ih, h.1]
theorem KV.length {kvs : List (κ × V)} {vs : List (κ × Value)} (r : KV kvs vs) : kvs.length = vs.length := Paired.length r
end
theorem kV_is {P : Program} {w : World} {k : Key} {u : Value} (r : RelV (kV k) u) : (mixKind P w).is k u = true := by
  cases k with
  | inl i => obtain ⟨t, e⟩ := (show ∃ t, u = Value.int i t from r); subst e; exact mixKind_int P w i t
  | inr x => obtain ⟨t, e⟩ := (show ∃ t, u = Value.str x t from r); subst e; exact mixKind_str P w x t
theorem items_are {P : Program} {w : World} : ∀ {ks : List Key} {us : List Value}, Vals (ks.map kV) us → ItemsAre (mixKind P w) ks us
  | [], _, r => by rw [List.map_nil] at r; cases r; exact .nil
  | k :: ks, _, r => by
    rw [List.map_cons] at r
    cases r with
    | cons h t => exact .cons (kV_is h) (items_are t)
/-- raw entries of a dict with tuple keys -/
abbrev KT (H : Hp) : List (List Key × V) → List (List Key × Addr × Value) → Prop := Paired fun p q => p.1 = q.1 ∧ H q.2.1 = some (.tup (p.1.map kV)) ∧ RelV p.2 q.2.2
theorem KT.val {H : Hp} {kvs : List (List Key × V)} {xs : List (List Key × Addr × Value)} (r : KT H kvs xs) (k : List Key) : RelO (valV kvs k) ((atKey xs k).map (·.2)) := by
  induction r with
  | nil => exact True.intro
  | @cons p q ps qs h t ih =>
    obtain ⟨h1, _, h2⟩ := h
    by_cases e : p.1 = k
    · have e' : q.1 = k := h1.symm.trans e
      have b : atKey (q :: qs) k = some q.2 := by simp [atKey, List.find?_cons, e']
      rw [valV_pos e, b]; exact h2
    · have e' : ¬ q.1 = k := fun z => e (h1.trans z)
      have b : atKey (q :: qs) k = atKey qs k := by simp [atKey, List.find?_cons, e']
      rw [valV_neg e, b]; exact ih
theorem KT.repl {H : Hp} {kvs : List (List Key × V)} {xs : List (List Key × Addr × Value)} (r : KT H kvs xs) (k : List Key) {y : V} {u : Value} (ry : RelV y u) :
    KT H (kvs.map fun kv => if kv.1 = k then (kv.1, y) else kv) (xs.map (putAt k u)) := by
  induction r with
  | nil => exact .nil
  | @cons p q ps qs h t ih =>
    rw [List.map_cons, List.map_cons]
    refine .cons ?_ ih
    obtain ⟨h1, h2, h3⟩ := h
    unfold putAt
    by_cases e : p.1 = k
    · rw [if_pos e, if_pos (h1.symm.trans e)]; exact ⟨h1, h2, ry⟩
    · rw [if_neg e, if_neg (fun z => e (h1.trans z))]; exact ⟨h1, h2, h3⟩
theorem KT.put {H : Hp} {kvs : List (List Key × V)} {xs : List (List Key × Addr × Value)} (r : KT H kvs xs) (k : List Key) {b : Addr} {y : V} {u : Value} (hb : H b = some (.tup (k.map kV))) (ry : RelV y u) :
    KT H (putK kvs k y) (storedH xs k b u) := by
  have e : (kvs.any fun kv => decide (kv.1 = k)) = (atKey xs k).isSome := by
    rw [valV_any, (r.val k).isSome_eq, Option.isSome_map]
  unfold putK storedH
  rw [e]
  by_cases q : (atKey xs k).isSome = true
  · rw [if_pos q, if_pos q]; exact r.repl k ry
  · rw [if_neg q, if_neg q]; exact Paired.snoc r ⟨rfl, hb, ry⟩
theorem KT.keeps {H H' : Hp} {kvs : List (List Key × V)} {xs : List (List Key × Addr × Value)} (r : KT H kvs xs) (ht : ∀ b ys, H b = some (.tup ys) → H' b = some (.tup ys)) : KT H' kvs xs :=
  Paired.mapP r fun _ _ z => ⟨z.1, ht _ _ z.2.1, z.2.2⟩
section
variable {P : Program} {w : World} {H : Hp} {h : Heap} {a : Addr}
theorem rd_of {u : HO} (ok : HOk P w H h) (e : Rd H a u) : ObjOk P w H h a u := e.ok ok
theorem dk_rd {kvs : List (Key × V)} (ok : HOk P w H h) (e : Rd H a (.dK kvs)) : kvs.length ≤ sizeLine ∧ (a == sysModules) = false ∧ ∃ vs, KV kvs vs ∧ h.DictOf (mixKind P w) a vs :=
  show ObjOk P w H h a (.dK kvs) from rd_of ok e
theorem dk_of {kvs : List (Key × V)} (ok : HOk P w H h) (e : H a = some (.dK kvs)) : kvs.length ≤ sizeLine ∧ (a == sysModules) = false ∧ ∃ vs, KV kvs vs ∧ h.DictOf (mixKind P w) a vs := dk_rd ok (.inl e)
/-- a tracked tuple of ints and texts is a key -/
theorem key_of {ks : List Key} (ok : HOk P w H h) (e : H a = some (.tup (ks.map kV))) : (tupleKind (mixKind P w)).is h ks a := by
  obtain ⟨_, its, r, o, h1, h2, n, h3⟩ := (show ObjOk P w H h a (.tup (ks.map kV)) from ok a _ e)
  exact ⟨o, its.toArray, n, h1, h2, h3, by simpa using items_are r⟩
theorem dt_rd {kvs : List (List Key × V)} (ok : HOk P w H h) (e : Rd H a (.dT kvs)) : kvs.length ≤ sizeLine ∧ (a == sysModules) = false ∧
    ∃ xs, KT H kvs xs ∧ h.DictOfH (tupleKind (mixKind P w)) a xs := by
  obtain ⟨z, y, xs, r, o, es, ep, h1, h2, h3, h4, h5⟩ := (show ObjOk P w H h a (.dT kvs) from rd_of ok e)
  refine ⟨z, y, xs, r, o, es, ep, h1, h2, h3, h4, fun x hx => ?_, h5⟩
  have all : ∀ {l : List (List Key × V)} {m : List (List Key × Addr × Value)}, KT H l m → ∀ x ∈ m, (tupleKind (mixKind P w)).is h x.1 x.2.1 := by
    intro l m q
    induction q with
    | nil => intro x hx; exact nomatch hx
    | @cons p q ps qs hq t ih =>
      intro x hx
      rcases List.mem_cons.mp hx with e | hx
      · subst e
        exact key_of ok (by rw [← hq.1]; exact hq.2.1)
      · exact ih x hx
  exact all r x hx
theorem dt_of {kvs : List (List Key × V)} (ok : HOk P w H h) (e : H a = some (.dT kvs)) : kvs.length ≤ sizeLine ∧ (a == sysModules) = false ∧
    ∃ xs, KT H kvs xs ∧ h.DictOfH (tupleKind (mixKind P w)) a xs := dt_rd ok (.inl e)
end
/-- what the dict at a holds at the key y -/
def DGet (H : Hp) (a : Addr) (y : V) (r : Option V) : Prop :=
  (∃ kvs k, Rd H a (.dK kvs) ∧ y = kV k ∧ r = valV kvs k) ∨ ∃ kvs k b, Rd H a (.dT kvs) ∧ y = .ref b ∧ H b = some (.tup (k.map kV)) ∧ r = valV kvs k
/-- the heap behind a[y] = v -/
def DPut (H : Hp) (a : Addr) (y v : V) (H' : Hp) : Prop :=
  (∃ kvs k, H a = some (.dK kvs) ∧ y = kV k ∧ kvs.length < sizeLine ∧ H' = upd H a (.dK (putK kvs k v))) ∨
  ∃ kvs k b, H a = some (.dT kvs) ∧ y = .ref b ∧ H b = some (.tup (k.map kV)) ∧ kvs.length < sizeLine ∧ H' = upd H a (.dT (putK kvs k v))
theorem DGet.k {H : Hp} {a : Addr} {kvs : List (Key × V)} {k : Key} (e : H a = some (.dK kvs)) : DGet H a (kV k) (valV kvs k) := .inl ⟨kvs, k, .inl e, rfl, rfl⟩
theorem DGet.t {H : Hp} {a b : Addr} {kvs : List (List Key × V)} {k : List Key} (e : H a = some (.dT kvs)) (eb : H b = some (.tup (k.map kV))) : DGet H a (.ref b) (valV kvs k) := .inr ⟨kvs, k, b, .inl e, rfl, eb, rfl⟩
theorem DPut.k {H : Hp} {a : Addr} {kvs : List (Key × V)} {k : Key} {v : V} (e : H a = some (.dK kvs)) (hl : kvs.length < sizeLine) : DPut H a (kV k) v (upd H a (.dK (putK kvs k v))) := .inl ⟨kvs, k, e, rfl, hl, rfl⟩
theorem DPut.t {H : Hp} {a b : Addr} {kvs : List (List Key × V)} {k : List Key} {v : V} (e : H a = some (.dT kvs)) (eb : H b = some (.tup (k.map kV))) (hl : kvs.length < sizeLine) :
    DPut H a (.ref b) v (upd H a (.dT (putK kvs k v))) := .inr ⟨kvs, k, b, e, rfl, eb, hl, rfl⟩
section
variable {X : Cx} {pins : List (Addr × Obj)} {σ : St} {H : Hp} {s : Shared} {a : Addr} {y v : V} {u r : Value} {o : Option V} {A : Around} {E : Value → Shared → Prop}
theorem Inv.big (I : Inv X pins σ H s) : sysModules < s.heap.objs.size := by
  have h : mainGlobals < s.heap.objs.size := (I.mod.glob.keeps I.bk).lt
  exact Nat.lt_trans (by decide) h
/-- d[y], there -/
theorem d_getItem {Q : Value → Shared → Prop} (hu : A.units + 1 < cLine) (I : Inv X pins σ H s) (g : DGet H a y (some v)) (ry : RelV y u) (h : ∀ w' s', Inv X pins σ H s' → RelV v w' → Q w' s') :
    wpAny (model X.prog X.w) A (getItem (.ref a) u) Q E s := by
  rcases g with ⟨kvs, k, e, ey, l⟩ | ⟨kvs, k, b, e, ey, eb, l⟩
  · subst ey
    obtain ⟨z, hd, vs, rel, dd⟩ := dk_rd I.hok e
    obtain ⟨w', hw, rw'⟩ := RelO.some_of (v := v) (o := valueAt vs k) (by rw [l]; exact rel.val k)
    exact wpAny_getItem_of (kV_is ry) dd.mapOf hw (h w' _ (I.tok _) rw')
  · subst ey
    cases (show u = Value.ref b from ry)
    obtain ⟨z, hd, xs, rel, dd⟩ := dt_rd I.hok e
    obtain ⟨w', hw, rw'⟩ := RelO.some_of (v := v) (o := (atKey xs k).map (·.2)) (by rw [l]; exact rel.val k)
    obtain ⟨p, hp, hp2⟩ := Option.map_eq_some_iff.mp hw
    refine wpAny_getItem_heap (tupleKind_room_in1 hu) (key_of I.hok eb) dd hp ?_
    rw [hp2]
    exact h w' _ (I.tok _) rw'
theorem d_notIn {Q : Value → Shared → Prop} (hu : A.units + 1 < cLine) (I : Inv X pins σ H s) (g : DGet H a y o) (ry : RelV y u) (h : ∀ s', Inv X pins σ H s' → Q (.bool (!o.isSome)) s') :
    wpAny (model X.prog X.w) A (compareOp .NotIn u (.ref a)) Q E s := by
  rcases g with ⟨kvs, k, e, ey, l⟩ | ⟨kvs, k, b, e, ey, eb, l⟩
  · subst ey
    obtain ⟨z, hd, vs, rel, dd⟩ := dk_rd I.hok e
    refine wpAny_notIn_of (kV_is ry) hd dd.mapOf ?_
    rw [← (rel.val k).isSome_eq, ← l]
    exact h _ (I.tok _)
  · subst ey
    cases (show u = Value.ref b from ry)
    obtain ⟨z, hd, xs, rel, dd⟩ := dt_rd I.hok e
    refine wpAny_notIn_heap (tupleKind_room_in1 hu) (key_of I.hok eb) hd dd ?_
    have q := (rel.val k).isSome_eq
    rw [Option.isSome_map] at q
    rw [← q, ← l]
    exact h _ (I.tok _)
/-- a dict's object is replaced -/
theorem d_write {h' : Heap} {t' : Nat} {ob : HO} (I : Inv X pins σ H s) (mu : Mut (H a)) (hs : Heap.SameBut a s.heap h') (he : ∃ q, h'.get? a = some q) (new : ObjOk X.prog X.w (upd H a ob) h' a ob) :
    Inv X pins σ (upd H a ob) { s with heap := h', toks := t' } :=
  I.write (x := a) (e := a) mu (.inl rfl) (fun b q hb z => (hs.2 b hb).trans z) he new
theorem dk_new {P : Program} {w : World} {H' : Hp} {h' : Heap} {kvs : List (Key × V)} {vs : List (Key × Value)} (z : kvs.length ≤ sizeLine) (hd : (a == sysModules) = false) (rel : KV kvs vs) (dd : h'.DictOf (mixKind P w) a vs) :
    ObjOk P w H' h' a (.dK kvs) := ⟨z, hd, vs, rel, dd⟩
/-- d[y] = v -/
theorem d_setItem {H' : Hp} {Q : Unit → Shared → Prop} (hu : A.units + 1 < cLine) (I : Inv X pins σ H s) (g : DPut H a y v H') (ry : RelV y u) (rv : RelV v r) (h : ∀ s', Inv X pins σ H' s' → Q () s') :
    wpAny (model X.prog X.w) A (setItem (.ref a) u r) Q E s := by
  rcases g with ⟨kvs, k, e, ey, l, eH⟩ | ⟨kvs, k, b, e, ey, eb, l, eH⟩
  · subst ey eH
    obtain ⟨z, hd, vs, rel, dd⟩ := dk_of I.hok e
    have hz : vs.length ≤ sizeLine := by rw [← rel.length]; exact z
    have hl : (putK kvs k v).length ≤ sizeLine := by have := length_putK kvs k v; omega
    refine wpAny_setItem_pairs (hsz := hz) (kV_is ry) dd fun h' dd' hs => h _ ?_
    have he : ∃ q, h'.get? a = some q := let ⟨q, _, _, hq, _⟩ := dd'; ⟨q, hq⟩
    exact d_write I (by rw [e]; exact True.intro) hs he (dk_new hl hd (rel.put k rv) dd')
  · subst ey eH
    cases (show u = Value.ref b from ry)
    obtain ⟨z, hd, xs, rel, dd⟩ := dt_of I.hok e
    have hz : xs.length ≤ sizeLine := by rw [← Paired.length rel]; exact z
    have hl : (putK kvs k v).length ≤ sizeLine := by have := length_putK kvs k v; omega
    refine wpAny_setItem_heap (hsz := hz) (tupleKind_room_in1 hu) (key_of I.hok eb) dd fun h' dd' hs => h _ ?_
    obtain ⟨q, es, ep, hq, h2, h3, h4, _, h5⟩ := dd'
    refine d_write I (by rw [e]; exact True.intro) hs ⟨q, hq⟩ ⟨hl, hd, _, (rel.put k eb rv).keeps fun c ys ec => ?_, q, es, ep, hq, h2, h3, h4, h5⟩
    rw [upd_ne (ne_of ec e (fun z => nomatch z))]
    exact ec
end
section
variable {X : Cx} {pins : List (Addr × Obj)} {σ : St} {H : Hp} {s : Shared} {a : Addr} {kvs : List (Key × V)} {k : Key} {u : Value} {A : Around} {E : Value → Shared → Prop}
end
/-- the element of a subscription, not a slice -/
def NoSl (i : Expr) : Prop := ∀ ov iv, subscripted i false ov iv = operate [ov, iv] (getItem ov iv)
theorem subD_of {prog : Program} {w : World} {A : Around} {E : Value → Shared → Prop} {s : Shared} {env : Env} {value slice : Expr} {pos : Pos} {T id : String} {Q : Value → Shared → Prop}
    (hl : typeLookup (.type T) "__getitem__" = pure (some (.builtin id))) (hs : NoSl slice)
    (h : wpAny (model prog w) A (eval value env) (fun o s₁ => wpAny (model prog w) A (eval slice env) (fun i s₂ => s₂.TypeIs o T ∧ wpAny (model prog w) A (getItem o i) Q E s₂) E s₁) E s) :
    wpAny (model prog w) A (eval (.Subscript value slice pos) env) Q E s := by
  refine Subscript_ (wpAny_mono h (fun o s₁ h₁ => wpAny_mono h₁ (fun i s₂ h₂ => ?_) fun _ _ x => x) fun _ _ x => x)
  obtain ⟨hT, h₂⟩ := h₂
  unfold subscriptTail
  refine wpAny_bind ?_
  rw [getitemInPython_of_ne hT.not_modules]
  refine wpAny_bind (wpAny_specialOf hT hl ?_)
  have fin : wpAny (model prog w) A (subscripted slice false o i) (fun r s₃ => wpAny (model prog w) A (letTemporaryGo value o r >>= fun _ => pure r) Q E s₃) E s₂ := by
    rw [hs o i]
    exact wpAny_operating (wpAny_mono h₂ (fun r s₃ h₃ => wpAny_bind (wpAny_letTemporaryGo (wpAny_pure h₃))) fun _ _ x => x)
  first
    | exact wpAny_pure (wpAny_bind fin)
    | exact wpAny_bind (wpAny_pure (wpAny_bind fin))
    | exact wpAny_bind fin
theorem dict_typeIs {X : Cx} {pins : List (Addr × Obj)} {σ : St} {H : Hp} {s : Shared} {a : Addr} {y : V} {o : Option V} (I : Inv X pins σ H s) (g : DGet H a y o) : s.TypeIs (.ref a) "dict" := by
  rcases g with ⟨kvs, k, e, _, _⟩ | ⟨kvs, k, b, e, _, _, _⟩
  · obtain ⟨_, _, vs, _, dd⟩ := dk_rd I.hok e
    exact dd.typeIs
  · obtain ⟨_, _, xs, _, dd⟩ := dt_rd I.hok e
    exact dd.typeIs
/-- d[y] -/
def tDGet (td ty : TE) : TE := fun σ H Q => td σ H fun x H1 => ty σ H1 fun y H2 => ∃ a v, x = .ref a ∧ DGet H2 a y (some v) ∧ Q v H2
def tDNotIn (ty td : TE) : TE := fun σ H Q => ty σ H fun y H1 => td σ H1 fun x H2 => ∃ a o, x = .ref a ∧ DGet H2 a y o ∧ Q (.bl (!o.isSome)) H2
/-- d[y] = v -/
def sDPut (td ty tv : TE) : TS := fun D σ H => tv σ H fun v H1 => td σ H1 fun x H2 => ty σ H2 fun y H3 => ∃ a H4, x = .ref a ∧ DPut H3 a y v H4 ∧ D.nx σ H4
section
variable {X : Cx} {o i e value : Expr} {pos pos' tpos : Pos} {td ty tv : TE}
theorem pe_dget (hu : X.A.units + 1 < cLine) (ho : PE X o td) (hi : PE X i ty) (hs : NoSl i) : PE X (.Subscript o i pos) (tDGet td ty) := by
  intro pins s σ H Q I h
  refine subD_of PySem.F.slot_dict_getitem.lookup hs (thn (ho pins s σ H _ I h) fun u s1 ⟨x, H1, I1, rx, q1⟩ => thn (hi pins s1 σ H1 _ I1 q1) fun iv s2 ⟨y, H2, I2, ry, a, v, ex, g, q2⟩ => ?_)
  subst ex
  obtain rfl : u = Value.ref a := rx
  exact ⟨dict_typeIs I2 g, d_getItem hu I2 g ry fun w' s3 I3 rw' => ⟨v, H2, I3, rw', q2⟩⟩
theorem pc_dnotin (hu : X.A.units + 1 < cLine) (hi : PE X i ty) (ho : PE X o td) : PC X .NotIn i o (tDNotIn ty td) := by
  intro pins s σ H Q I h
  refine thn (hi pins s σ H _ I h) fun iv s1 ⟨y, H1, I1, ry, q1⟩ => thn (ho pins s1 σ H1 _ I1 q1) fun u s2 ⟨x, H2, I2, rx, a, ov, ex, g, q2⟩ => ?_
  subst ex
  obtain rfl : u = Value.ref a := rx
  exact d_notIn hu I2 g ry fun s3 I3 => ⟨.bl (!ov.isSome), H2, I3, rfl, q2⟩
theorem ps_dput (hu : X.A.units + 1 < cLine) (ho : PE X o td) (hi : PE X i ty) (hv : PE X value tv) (hs : swapsWith value (some (.Subscript o i pos')) pos.line X.env = pure false) :
    PS X (.Assign [.Subscript o i pos'] value pos) (sDPut td ty tv) := by
  intro pins s σ H D I h
  refine wpAny_Assign_Subscript (thn (hv pins s σ H _ I h) fun r s1 ⟨v, H1, I1, rv, q1⟩ => thn (ho pins s1 σ H1 _ I1 q1) fun u s2 ⟨x, H2, I2, rx, q2⟩ => thn (hi pins s2 σ H2 _ I2 q2) fun iv s3 ⟨y, H3, I3, ry, a, H4, ex, g, q3⟩ => ?_) hs
  subst ex
  obtain rfl : u = Value.ref a := rx
  exact d_setItem hu I3 g ry rv fun s4 I4 => ⟨σ, H4, I4, q3⟩
end
theorem dk_empty {P : Program} {w : World} {H : Hp} (h : Heap) (hb : sysModules < h.objs.size) : ObjOk P w H (h.push { cls := .type "dict", data := .dict #[] }) h.objs.size (.dK []) :=
  ⟨Nat.zero_le _, beq_eq_false_iff_ne.mpr (Ne.symm (Nat.ne_of_lt hb)), [], .nil, Heap.DictOf.new h⟩
section
variable {X : Cx} {pos : Pos}
end
/-- the pairs of a display, from the left -/
def tPairs : List (TE × TE) → St → Hp → (List (V × V) → Hp → Prop) → Prop
  | [], _, H, Q => Q [] H
  | (tk, tv) :: r, σ, H, Q => tk σ H fun x H1 => tv σ H1 fun y H2 => tPairs r σ H2 fun ps H3 => Q ((x, y) :: ps) H3
abbrev VV : List (V × V) → List (Value × Value) → Prop := Paired fun p q => RelV p.1 q.1 ∧ RelV p.2 q.2
def PPs (X : Cx) (pos : Pos) (keys : List (Option Expr)) (values : List Expr) (trs : List (TE × TE)) : Prop :=
  ∀ (pins : List (Addr × Obj)) (s : Shared) (σ : St) (H : Hp) (Q : List (V × V) → Hp → Prop), Inv X pins σ H s → tPairs trs σ H Q →
    wpAny (model X.prog X.w) X.A (evalPairs (pairTrees keys values X.env pos)) (fun vs s' => ∃ ps H', Inv X pins σ H' s' ∧ VV ps vs ∧ Q ps H') X.xe s
theorem pps_nil {X : Cx} {pos : Pos} : PPs X pos [] [] [] := fun pins s σ H Q I h => pairTrees_nil_walk ⟨[], H, I, .nil, h⟩
theorem pps_cons {X : Cx} {pos : Pos} {k v : Expr} {ks : List (Option Expr)} {vs : List Expr} {tk tv : TE} {trs : List (TE × TE)} (hk : PE X k tk) (hv : PE X v tv) (hr : PPs X pos ks vs trs) :
    PPs X pos (some k :: ks) (v :: vs) ((tk, tv) :: trs) := fun pins s σ H Q I h =>
  pairTrees_cons_walk (thn (hk pins s σ H _ I h) fun u s1 ⟨x, H1, I1, rx, q1⟩ => thn (hv pins s1 σ H1 _ I1 q1) fun w2 s2 ⟨y, H2, I2, ry, q2⟩ =>
    thn (hr pins s2 σ H2 _ I2 q2) fun ws s3 ⟨ps, H3, I3, rel, q3⟩ => ⟨(x, y) :: ps, H3, I3, .cons ⟨rx, ry⟩ rel, q3⟩)
def mergeK (kvs more : List (Key × V)) : List (Key × V) := more.foldl (fun acc kv => putK acc kv.1 kv.2) kvs
theorem KV.merge : ∀ {more : List (Key × V)} {rs : List (Key × Value)} {kvs : List (Key × V)} {vs : List (Key × Value)}, KV more rs → KV kvs vs → KV (mergeK kvs more) (merged vs rs) := by
  intro more rs kvs vs r
  unfold KV at r
  induction r generalizing kvs vs with
  | nil => intro q; exact q
  | @cons p q ps qs h t ih =>
    intro r0
    have e : KV (putK kvs p.1 p.2) (stored vs q.1 q.2) := by
      have := r0.put p.1 h.2
      rw [← h.1]; exact this
    exact ih e
theorem length_mergeK : ∀ (more kvs : List (Key × V)), (mergeK kvs more).length ≤ kvs.length + more.length
  | [], kvs => by show kvs.length ≤ kvs.length + 0; omega
  | p :: r, kvs => by
    have h1 := length_mergeK r (putK kvs p.1 p.2)
    have h2 := length_putK kvs p.1 p.2
    show (mergeK (putK kvs p.1 p.2) r).length ≤ _
    rw [List.length_cons]; omega
theorem carries_of {P : Program} {w : World} : ∀ {kvs : List (Key × V)} {ws : List (Value × Value)}, VV (kvs.map fun kv => (kV kv.1, kv.2)) ws → ∃ rs, Carries (mixKind P w) ws rs ∧ KV kvs rs
  | [], _, r => by rw [List.map_nil] at r; cases r; exact ⟨[], True.intro, .nil⟩
  | p :: kvs, _, r => by
    rw [List.map_cons] at r
    cases r with
    | @cons a b as bs h t =>
      obtain ⟨rs, c, q⟩ := carries_of (P := P) (w := w) t
      obtain ⟨b1, b2⟩ := b
      exact ⟨(p.1, b2) :: rs, ⟨kV_is h.1, rfl, c⟩, .cons ⟨rfl, h.2⟩ q⟩
/-- {k: v, ..} with keys ints and texts; the new dict stands empty while the pairs are made -/
def tDisp (trs : List (TE × TE)) : TE := fun σ H Q => ∀ p, H p = none → tPairs trs σ (upd H p (.dK [])) fun ps H2 => H2 p = some (.dK []) ∧ ∃ kvs : List (Key × V), ps = kvs.map (fun kv => (kV kv.1, kv.2)) ∧ kvs.length ≤ 15 ∧ Q (.ref p) (upd H2 p (.dK (mergeK [] kvs)))
theorem pe_disp {X : Cx} {pos : Pos} {keys : List (Option Expr)} {values : List Expr} {trs : List (TE × TE)} (h : PPs X pos keys values trs) (hall : keys.all (·.isSome) = true) (hl : keys.length = values.length) (h0 : keys ≠ [])
    (h15 : keys.length ≤ 15) : PE X (.Dict keys values pos) (tDisp trs) := by
  intro pins s σ H Q I q
  have hn := I.hok.fresh (Nat.le_refl s.heap.objs.size)
  have I1 := I.laid (a := s.heap.objs.size) (o := .dK []) (h' := s.heap.push { cls := .type "dict", data := .dict #[] }) (t' := s.toks) (fun _ _ q => Heap.get?_push_of_some _ q) (Nat.le_refl _) (dk_empty s.heap I.big)
  refine wpAny_Dict_walk (knd := mixKind X.prog X.w) hall hl h0 h15 (thn (h pins _ σ _ _ I1 (q _ hn)) fun ws s2 ⟨ps, H2, I2, rel, e, kvs, ep, lk, q2⟩ => ?_)
  subst ep
  obtain ⟨rs, c, rk⟩ := carries_of (P := X.prog) (w := X.w) rel
  obtain ⟨z, hd, vs0, r0, dd⟩ := dk_of I2.hok e
  cases r0
  refine ⟨rs, c, dd, fun h' dd' hs => ⟨.ref s.heap.objs.size, _, ?_, rfl, q2⟩⟩
  have hz : (mergeK [] kvs).length ≤ sizeLine := by
    have h1 := length_mergeK kvs []
    rw [List.length_nil] at h1
    rw [sizeLine_eq]; omega
  have he : ∃ q, h'.get? s.heap.objs.size = some q := let ⟨q, _, _, hq, _⟩ := dd'; ⟨q, hq⟩
  exact d_write I2 (by rw [e]; exact True.intro) hs he (dk_new hz hd (rk.merge .nil) dd')
section
variable {X : Cx} {pins : List (Addr × Obj)} {σ : St} {H : Hp} {s : Shared} {a : Addr} {y d : V} {u r : Value} {o : Option V} {A : Around} {E : Value → Shared → Prop}
end
section
variable {X : Cx} {o e f : Expr} {apos cpos : Pos} {td ty tx : TE}
end
section
variable {X : Cx} {pins : List (Addr × Obj)} {σ : St} {H : Hp} {s : Shared} {a : Addr} {kvs : List (Key × V)} {A : Around} {E : Value → Shared → Prop}
end
section
variable {X : Cx} {pins : List (Addr × Obj)} {σ : St} {H : Hp} {s : Shared} {a : Addr} {y : V} {u : Value} {A : Around} {E : Value → Shared → Prop}
end
end L2
namespace L2
open PySem PySem.Spec PyProof.Rows
section
variable {prog : Program} {w : World} {A : Around} {E : Value → Shared → Prop}
end
section
variable {X : Cx}
end
end L2
namespace L2
open PySem PySem.Spec PyProof.Rows
section
variable {X : Cx} {pins : List (Addr × Obj)} {σ : St} {H : Hp} {s : Shared} {h' : Heap}
end
section
variable {X : Cx}
end
section
variable {X : Cx} {tg : Expr}
end
section
variable {X : Cx} {tg : Expr}
end
section
variable {prog : Program} {w : World} {A : Around} {E : Value → Shared → Prop} {s : Shared}
end
section
variable {X : Cx} {pins : List (Addr × Obj)} {σ : St} {H : Hp} {s : Shared} {d : Addr} {o : Obj}
end
section
variable {P : Program} {w : World} {K : PySem.W.Frag} {tg : Expr} {d : Addr} {o : Obj} {es : Array DictEntry} {ep : Nat}
end
section
variable {X : Cx} {tg e : Expr} {td : TE} {apos cpos : Pos}
end
end L2
section 
namespace Bits
open PySem PyProof.Rows
end Bits
end 
section 
namespace TL
open PySem PySem.Builtin PySem.Builtin.Str PySem.StrLaws
abbrev tl (x : Str) : List Nat := x.cps.toList
/-- S stands at the head of l -/
def pre (S l : List Nat) : Bool := l.take S.length == S
/-- what stands before the first S, and behind it -/
def par (S : List Nat) : List Nat → List Nat → Option (List Nat × List Nat)
  | _, [] => none
  | acc, c :: r => if pre S (c :: r) = true then some (acc, (c :: r).drop S.length) else par S (acc ++ [c]) r
end TL
end 
namespace L2
open PySem PySem.Spec PyProof.Rows
section
variable {X : Cx} {pins : List (Addr × Obj)} {σ : St} {H : Hp} {s : Shared} {Q : VK}
end
section
variable {X : Cx}
end
section
variable {X : Cx} {o e : Expr} {to te : TE}
end
end L2
namespace L2
open PySem PySem.Spec PyProof.Rows
section
variable {X : Cx}
end
theorem IsPart.raw {v : Value} {o : Option Int} (p : IsPart v o) : ∃ l : Option (Int × Tok), v = partValue l ∧ l.map (·.1) = o := by
  cases p with
  | none => exact ⟨none, rfl, rfl⟩
  | int i t => exact ⟨some (i, t), rfl, rfl⟩
end L2
namespace Att
open PySem PySem.W PySem.Calls PyProof.Rows
section
variable {prog : Program} {w : World} {A : Around} {E : Value → Shared → Prop} {s : Shared} {K : Frag}
end
end Att
namespace L2
open PySem PySem.Spec PyProof.Rows
end L2
namespace L2
open PySem PySem.Spec PyProof.Rows
end L2
namespace L2
open PySem PySem.Spec PyProof.Rows
/-- the j-th statement of a class's body -/
def inClass (s : Stmt) (j : Nat) : Stmt := match s with
  | .ClassDef _ _ _ body _ _ _ _ _ _ _ => body.getD j (.Pass ⟨0, 0, 0, 0⟩)
  | _ => .Pass ⟨0, 0, 0, 0⟩
def defArgs (s : Stmt) : Arguments := match s with
  | .FunctionDef _ a _ _ _ _ _ _ _ _ => a
  | _ => { posonlyargs := [], args := [], vararg := none, kwonlyargs := [], kw_defaults := [], kwarg := none, defaults := [] }
def defBody (s : Stmt) : List Stmt := match s with
  | .FunctionDef _ _ b _ _ _ _ _ _ _ => b
  | _ => []
def defScope (s : Stmt) : Scope := match s with
  | .FunctionDef _ _ _ _ _ _ sc _ _ _ => sc
  | _ => { kind := .function, names := [], isGenerator := false, isCoroutine := false }
abbrev CX0 : CXT := fun _ _ _ _ _ _ => False
abbrev E0 : XK := fun _ _ _ => False
theorem pass0 {X : Cx} : Passes CX0 X E0 := fun _ _ _ _ _ _ _ h => h.elim
structure Fun (K : PySem.W.Frag) (x qual : Str) (st : Stmt) (f : Addr) (fd : FuncData) : Prop where
  ex : ∃ (oc : Value) (od : Option Addr) (kV doc pm : Value) (an : Option Addr) (cdv ct : Value) (osl : Array (Option Value)),
    fd = PySem.W.fnOf x qual (defArgs st) (defBody st) (defScope st) .none kV doc pm an cdv ct ∧ K.lookup f = some ⟨oc, od, .func fd, osl⟩ ∧ PySem.W.codeIn K cdv qual = true
  kp : PySem.W.keepIn K (.ref f) = true
section
variable {P : Program} {w : World} {K : PySem.W.Frag} {mg : Str → Option Value} {base : Heap}
/-- THE RULE for a def: its body as a term of rules, and the reading of that term -/
theorem Fun.ok {x qual : Str} {st : Stmt} {f : Addr} {fd : FuncData} {N ps : List Str} {k : Nat} {sp : Sp} (F : Fun K x qual st f fd) (S : FnScope N ps (defScope st)) (len : ∀ vs H Q E, sp vs H Q E → vs.length = ps.length)
    (hbody : ∀ (cdv : Value) (A : Around) (outer : List Env) (s : Shared) (H : Hp) (vs : List V) (Q : VK) (E : XK), Room k (A.deeper (envOfC qual (defScope st) s.heap.objs.size f cdv)) → sp vs H Q E →
      ∃ t, PSs (cxOf CX0 P w K mg base N qual (defScope st) f cdv A outer s H E).nox (defBody st) t ∧ t { nx := fun _ H' => Q .non H', rt := Q } (start N vs) H) : FnOk P w K mg base CX0 (k + 1) f fd ps sp := by
  obtain ⟨oc, od, kV, doc, pm, an, cdv, ct, osl, rfl, lk, hcd⟩ := F.ex
  refine fn_of lk hcd S len fun A outer s H vs Q E hr hsp => ?_
  obtain ⟨t, h, q⟩ := hbody cdv A outer s H vs Q E hr hsp
  exact ⟨t, h.nox, q⟩
/-- how its arguments bind (no defaults): h is «fun _ _ _ _ _ _ us hl => match us, hl with | [_, _], _ => rfl», one _ a parameter -/
theorem Fun.binds {x qual : Str} {st : Stmt} {f : Addr} {fd : FuncData} {ps : List Str} (F : Fun K x qual st f fd)
    (h : ∀ (kV doc pm : Value) (an : Option Addr) (cdv ct : Value) (us : List Value), us.length = ps.length → bindArgs (PySem.W.fnOf x qual (defArgs st) (defBody st) (defScope st) .none kV doc pm an cdv ct) ⟨us, []⟩ = pure (ps.zip us)) : Binds K fd ps [] := by
  obtain ⟨oc, od, kV, doc, pm, an, cdv, ct, osl, rfl, lk, hcd⟩ := F.ex
  exact .all (h kV doc pm an cdv ct)
theorem fun_mk {x qual : Str} {st : Stmt} {f : Addr} {oc : Value} {od an : Option Addr} {osl : Array (Option Value)} {kV doc pm cdv ct : Value} (l : K.lookup f = some ⟨oc, od, .func (PySem.W.fnOf x qual (defArgs st) (defBody st) (defScope st) .none kV doc pm an cdv ct), osl⟩)
    (c : PySem.W.codeIn K cdv qual = true) (k : PySem.W.keepIn K (.ref f) = true) : Fun K x qual st f (PySem.W.fnOf x qual (defArgs st) (defBody st) (defScope st) .none kV doc pm an cdv ct) := ⟨⟨oc, od, kV, doc, pm, an, cdv, ct, osl, rfl, l, c⟩, k⟩
end
theorem hu_of {A : Around} {k : Nat} (hr : Room k A) : A.units + 1 < cLine := Nat.lt_of_le_of_lt (Nat.add_le_add_left (by decide : 1 ≤ 64) _) hr.units
theorem small1000 {n : Nat} (h : n ≤ 1000) : n < sizeLine := Nat.lt_of_le_of_lt h (by decide)
section
variable {X : Cx}
theorem pv (i : Nat) {x : Str} {pos : Pos} (hN : X.N[i]? = some x := by rfl) (hv : Vis X.env.scope x := by first | exact Or.inl rfl | exact Or.inr (Or.inl rfl) | exact Or.inr (Or.inr rfl)) (hd : (x == ("__debug__" : Str)) = false := by decide)
    (hcd : (x == ("__classdict__" : Str)) = false := by decide) : PE X (.Name x pos) (tVar i) := pe_var hN hv hd hcd
end
theorem iteF {A B : Prop} (h : B) : if false = true then A else B := by
  rw [if_neg Bool.false_ne_true]
  exact h
theorem iteT {A B : Prop} (h : A) : if true = true then A else B := by
  rw [if_pos rfl]
  exact h
theorem ite2 {c A B : Prop} [Decidable c] (h1 : c → A) (h2 : ¬ c → B) : if c then A else B := by
  by_cases h : c
  · rw [if_pos h]
    exact h1 h
  · rw [if_neg h]
    exact h2 h
/-- all that was tracked is as it was -/
def Same (H H' : Hp) : Prop := ∀ b o, H b = some o → H' b = some o
theorem Same.refl (H : Hp) : Same H H := fun _ _ h => h
theorem Same.trans {H H1 H2 : Hp} (a : Same H H1) (b : Same H1 H2) : Same H H2 := fun c o h => b c o (a c o h)
theorem Same.free {H H' : Hp} (e : Same H H') {l : Addr} (h : H' l = Option.none) : H l = Option.none := by
  cases q : H l with
  | none => rfl
  | some o =>
    rw [e l o q] at h
    cases h
theorem Same.seq {K : PySem.W.Frag} {H H' : Hp} {a : Addr} {xs : List V} (e : Same H H') (h : SqL K H a xs) : SqL K H' a xs := by
  rcases h with (h | ⟨o, h⟩) | h
  · exact .inl (.inl (e _ _ h))
  · exact .inl (.inr ⟨o, e _ _ h⟩)
  · exact .inr h
section
variable {κ : Type} [DecidableEq κ]
end
theorem at_of {xs : List V} {z : Int} {j : Nat} {v : V} (e : z = (j : Int)) (h : xs[j]? = some v) : atI xs z = some v := by
  rw [e]
  exact atI_nat h
/-- a new instance and its __init__ leave all that was tracked as it was -/
theorem Same.made {H H1 : Hp} {x dx C : Addr} (nx : H x = Option.none) (nd : H dx = Option.none) (k : ∀ b o, (upd (upd H dx (.own x)) x (.ins C dx [])) b = some o → b ≠ x → H1 b = some o) : Same H H1 := fun b o e =>
  k b o (by rw [upd_ne (ne_of_none e nx), upd_ne (ne_of_none e nd)]; exact e) (ne_of_none e nx)
end L2
section
set_option Elab.async false
set_option linter.all false
set_option maxRecDepth 100000
set_option maxHeartbeats 2000000
namespace L2
open PySem PySem.Spec PyProof.Rows
open PySem.W (WData Codec OpenSpec Well WellAll ReadsW ReadsAllW)
mutual
/-- x stands for the datum d, lists and tuples all the way -/
inductive Dw (K : PySem.W.Frag) (H : Hp) : V → WData → Prop
  | non : Dw K H .non .none
  | bl (b : Bool) : Dw K H (.bl b) (.bool b)
  | int (i : Int) : Dw K H (.int i) (.int i)
  | str (x : Str) : Dw K H (.str x) (.str x)
  | byt (b : Array UInt8) : Dw K H (.byt b) (.bytes b.toList)
  | lst {a : Addr} {xs : List V} {ds : List WData} : SqL K H a xs → DwAll K H xs ds → Dw K H (.ref a) (.list ds)
  | tup {a : Addr} {xs : List V} {ds : List WData} : SqT K H a xs → DwAll K H xs ds → Dw K H (.ref a) (.tuple ds)
inductive DwAll (K : PySem.W.Frag) (H : Hp) : List V → List WData → Prop
  | nil : DwAll K H [] []
  | cons {v : V} {vs : List V} {d : WData} {ds : List WData} : Dw K H v d → DwAll K H vs ds → DwAll K H (v :: vs) (d :: ds)
end
theorem dw_ints {K : PySem.W.Frag} {H : Hp} : ∀ ns : List Int, DwAll K H (ns.map V.int) (ns.map WData.int)
  | [] => .nil
  | n :: r => .cons (.int n) (dw_ints r)
theorem ints_dw {K : PySem.W.Frag} {H : Hp} : ∀ (ns : List Int) (xs : List V), DwAll K H xs (ns.map WData.int) → xs = ns.map V.int
  | [], xs, h => by
    cases h
    rfl
  | n :: r, xs, h => by
    cases h with
    | cons h1 h2 =>
      cases h1
      rw [ints_dw r _ h2] <;> rfl
section
variable {P : Program} {w : World} {K : PySem.W.Frag} {H : Hp} {h : Heap} {R : PySem.W.WRecords} {cl : Str → Option Addr}
theorem sqL_at {a : Addr} {xs : List V} (hok : HOk P w H h) (KX : K.In h) (q : SqL K H a xs) : ∃ (its : List Value) (o : Obj) (n : Nat), Vals xs its ∧ h.get? a = some o ∧ o.cls = .type "list" ∧ o.data = .seq its.toArray n := by
  rcases q with q | ⟨o, its, n, e, hc, _, hd, _, hv⟩
  · obtain ⟨_, its, n, hv, e⟩ := (show ObjOk P w H h a (.lst xs) from q.ok hok)
    exact ⟨its, _, n, hv, e, rfl, rfl⟩
  · exact ⟨its.toList, o, n, hv, KX _ _ e, hc, by simp [hd]⟩
theorem sqT_at {a : Addr} {xs : List V} (hok : HOk P w H h) (KX : K.In h) (q : SqT K H a xs) : ∃ (its : List Value) (o : Obj) (n : Nat), Vals xs its ∧ h.get? a = some o ∧ o.cls = .type "tuple" ∧ o.data = .seq its.toArray n := by
  rcases q with q | ⟨o, its, n, e, hc, hd, _, hv⟩
  · obtain ⟨_, its, hv, o, e, hc, n, hd⟩ := (show ObjOk P w H h a (.tup xs) from q.ok hok)
    exact ⟨its, o, n, hv, e, hc, hd⟩
  · exact ⟨its.toList, o, n, hv, KX _ _ e, hc, by simp [hd]⟩
mutual
theorem Dw.reads (hok : HOk P w H h) (KX : K.In h) : ∀ (d : WData) (v : V) (u : Value), Dw K H v d → RelV v u → ∃ as, ReadsW R cl h u d as
  | .none, _, _, x, r => by
    cases x
    cases r
    exact ⟨_, ReadsW.none⟩
  | .bool b, _, _, x, r => by
    cases x
    cases r
    exact ⟨_, ReadsW.bool b⟩
  | .int i, _, _, x, r => by
    cases x
    obtain ⟨t, rfl⟩ := r
    exact ⟨_, ReadsW.int i t⟩
  | .str s, _, _, x, r => by
    cases x
    obtain ⟨t, rfl⟩ := r
    exact ⟨_, ReadsW.str s t⟩
  | .bytes b, _, _, x, r => by
    cases x
    obtain ⟨t, rfl⟩ := r
    exact ⟨_, ReadsW.bytes _ t⟩
  | .list ds, _, _, x, r => by
    cases x with
    | lst hs ha =>
      cases r
      obtain ⟨its, o, n, rv, ho, hc, hd⟩ := sqL_at hok KX hs
      obtain ⟨as, hr⟩ := Dw.readsAll hok KX ds _ its ha rv
      exact ⟨_, ReadsW.list ho hc hd hr⟩
  | .tuple ds, _, _, x, r => by
    cases x with
    | tup hs ha =>
      cases r
      obtain ⟨its, o, n, rv, ho, hc, hd⟩ := sqT_at hok KX hs
      obtain ⟨as, hr⟩ := Dw.readsAll hok KX ds _ its ha rv
      exact ⟨_, ReadsW.tuple ho hc hd hr⟩
  | .float _, _, _, x, _ => by cases x
  | .dict _, _, _, x, _ => by cases x
  | .bytearray _, _, _, x, _ => by cases x
  | .set _, _, _, x, _ => by cases x
  | .frozenset _, _, _, x, _ => by cases x
  | .obj _ _, _, _, x, _ => by cases x
theorem Dw.readsAll (hok : HOk P w H h) (KX : K.In h) : ∀ (ds : List WData) (vs : List V) (us : List Value), DwAll K H vs ds → Vals vs us → ∃ as, ReadsAllW R cl h us ds as
  | [], _, _, x, r => by
    cases x
    cases r
    exact ⟨_, ReadsAllW.nil⟩
  | d :: ds, _, _, x, r => by
    cases x with
    | cons h1 h2 =>
      cases r with
      | cons r1 r2 =>
        obtain ⟨as, q1⟩ := Dw.reads hok KX d _ _ h1 r1
        obtain ⟨bs, q2⟩ := Dw.readsAll hok KX ds _ _ h2 r2
        exact ⟨_, ReadsAllW.cons q1 q2⟩
end
end
mutual
/-- data that a codec tells -/
def plW : WData → Bool
  | .none => true
  | .bool _ => true
  | .int _ => true
  | .str _ => true
  | .bytes _ => true
  | .list xs => plWs xs
  | .tuple xs => plWs xs
  | _ => false
def plWs : List WData → Bool
  | [] => true
  | x :: r => plW x && plWs r
end
theorem plWs_map {α : Type} {f : α → WData} (h : ∀ a, plW (f a) = true) : ∀ l : List α, plWs (l.map f) = true
  | [] => rfl
  | x :: r => by
    show (plW (f x) && plWs (r.map f)) = true
    rw [h x, plWs_map h r] <;> rfl
theorem pl_enc : ∀ (c : Codec) (a : c.denote), plW (c.enc a) = true
  | .unit, _ => rfl
  | .bool, _ => rfl
  | .int _ _, _ => rfl
  | .nat _ _, _ => rfl
  | .u8, _ => rfl
  | .bytes _ _, _ => rfl
  | .text _ _ _ _, _ => rfl
  | .list _ _ c, a => plWs_map (fun x => pl_enc c x) a
  | .pair c d, a => by
    show (plW (c.enc a.1) && (plW (d.enc a.2) && true)) = true
    rw [pl_enc c a.1, pl_enc d a.2] <;> rfl
  | .triple c d e, a => by
    show (plW (c.enc a.1) && (plW (d.enc a.2.1) && (plW (e.enc a.2.2) && true))) = true
    rw [pl_enc c a.1, pl_enc d a.2.1, pl_enc e a.2.2] <;> rfl
  | .option c, none => rfl
  | .option c, some x => pl_enc c x
theorem pl_encAll : ∀ (cs : List Codec) (a : Codec.denoteAll cs), plWs (Codec.encAll cs a) = true
  | [], _ => rfl
  | c :: cs, a => by
    show (plW (c.enc a.1) && plWs (Codec.encAll cs a.2)) = true
    rw [pl_enc c a.1, pl_encAll cs a.2] <;> rfl
theorem weight_mem : ∀ {xs : List WData} {d : WData}, d ∈ xs → d.weight ≤ WData.weightAll xs
  | [], d, h => absurd h (by simp)
  | x :: r, d, h => by
    show d.weight ≤ x.weight + 1 + WData.weightAll r
    rcases List.mem_cons.mp h with e | m
    · rw [e]
      omega
    · have z := weight_mem m
      omega
def toV : Value → V
  | .none => .non
  | .bool b => .bl b
  | .int i _ => .int i
  | .str x _ => .str x
  | .bytes b _ => .byt b
  | .ref a => .ref a
  | _ => .non
/-- a value of the arguments, its objects among A -/
def OkU (A : List Addr) : Value → Prop
  | .none => True
  | .bool _ => True
  | .int _ _ => True
  | .str _ _ => True
  | .bytes _ _ => True
  | .ref a => a ∈ A
  | _ => False
theorem OkU.mono {A B : List Addr} (h : ∀ a ∈ A, a ∈ B) : ∀ {u : Value}, OkU A u → OkU B u := fun {u} x => by
  cases u with
  | ref a => exact h a x
  | none => trivial
  | bool b => trivial
  | int i t => trivial
  | str s t => trivial
  | bytes b t => trivial
  | _ => exact False.elim x
theorem relV_toV {A : List Addr} {u : Value} (x : OkU A u) : RelV (toV u) u := by
  cases u with
  | ref a => rfl
  | none => rfl
  | bool b => rfl
  | int i t => exact ⟨t, rfl⟩
  | str s t => exact ⟨t, rfl⟩
  | bytes b t => exact ⟨t, rfl⟩
  | _ => exact False.elim x
theorem vals_toV {A : List Addr} : ∀ {vs : List Value}, (∀ u ∈ vs, OkU A u) → Vals (vs.map toV) vs
  | [], _ => .nil
  | u :: r, h => .cons (relV_toV (h u (List.mem_cons_self ..))) (vals_toV fun x hx => h x (List.mem_cons_of_mem _ hx))
/-- an object of the arguments -/
def ArgOb (h : Heap) (A : List Addr) (a : Addr) : Prop := ∃ vs : List Value, vs.length ≤ sizeLine ∧ (∀ u ∈ vs, OkU A u) ∧
  (h.get? a = some { cls := .type "list", data := .seq vs.toArray } ∨ h.get? a = some { cls := .type "tuple", data := .seq vs.toArray })
theorem ArgOb.mono {h : Heap} {A B : List Addr} {a : Addr} (k : ∀ a ∈ A, a ∈ B) (x : ArgOb h A a) : ArgOb h B a := by
  obtain ⟨vs, h1, h2, h3⟩ := x
  exact ⟨vs, h1, fun u hu => (h2 u hu).mono k, h3⟩
theorem wellAll_len {P : Params} {h : Heap} : ∀ {vs : List Value} {ds : List WData}, WellAll P h vs ds → vs.length = ds.length
  | _, _, .nil => rfl
  | _, _, .cons _ b => by
    show _ + 1 = _ + 1
    rw [wellAll_len b]
theorem well_list {P : Params} {h : Heap} {v : Value} {ds : List WData} (x : Well P h v (.list ds)) : ∃ (a : Addr) (vs : List Value), v = .ref a ∧ h.get? a = some { cls := .type "list", data := .seq vs.toArray } ∧ WellAll P h vs ds := by
  cases x with
  | list ho hall => exact ⟨_, _, rfl, ho, hall⟩
theorem well_tuple {P : Params} {h : Heap} {v : Value} {ds : List WData} (x : Well P h v (.tuple ds)) : ∃ (a : Addr) (vs : List Value), v = .ref a ∧ h.get? a = some { cls := .type "tuple", data := .seq vs.toArray } ∧ WellAll P h vs ds := by
  cases x with
  | tuple ho hall => exact ⟨_, _, rfl, ho, hall⟩
theorem well_cons {P : Params} {h : Heap} {us : List Value} {d : WData} {ds : List WData} (x : WellAll P h us (d :: ds)) : ∃ (v : Value) (vs : List Value), us = v :: vs ∧ Well P h v d ∧ WellAll P h vs ds := by
  cases x with
  | cons a b => exact ⟨_, _, rfl, a, b⟩
theorem line_of {n : Nat} (h : n ≤ 1048576) : n ≤ sizeLine := Nat.le_trans h (by decide)
section
variable {P : Params} {h : Heap}
mutual
theorem area_one : ∀ (d : WData) (v : Value), Well P h v d → plW d = true → d.weight ≤ 1048576 → ∃ A : List Addr, OkU A v ∧ ∀ a ∈ A, ArgOb h A a
  | .none, _, x, _, _ => by
    cases x
    exact ⟨[], trivial, fun a m => absurd m (by simp)⟩
  | .bool b, _, x, _, _ => by
    cases x
    exact ⟨[], trivial, fun a m => absurd m (by simp)⟩
  | .int i, _, x, _, _ => by
    cases x
    exact ⟨[], trivial, fun a m => absurd m (by simp)⟩
  | .str s, _, x, _, _ => by
    cases x
    exact ⟨[], trivial, fun a m => absurd m (by simp)⟩
  | .bytes b, _, x, _, _ => by
    cases x
    exact ⟨[], trivial, fun a m => absurd m (by simp)⟩
  | .list ds, _, x, p, z => by
    obtain ⟨a, vs, rfl, ho, hall⟩ := well_list x
    have z2 : WData.weightAll ds ≤ 1048576 := z
    obtain ⟨A, h1, h2⟩ := area_all ds _ hall p fun d hd => Nat.le_trans (weight_mem hd) z2
    have k : ∀ b ∈ A, b ∈ a :: A := fun b hb => List.mem_cons_of_mem _ hb
    refine ⟨a :: A, List.mem_cons_self .., fun b hb => ?_⟩
    rcases List.mem_cons.mp hb with e | m
    · rw [e]
      exact ⟨vs, line_of (by rw [wellAll_len hall]; exact Nat.le_trans (PySem.W.length_le_weightAllW ds) z2), fun u hu => (h1 u hu).mono k, .inl ho⟩
    · exact (h2 b m).mono k
  | .tuple ds, _, x, p, z => by
    obtain ⟨a, vs, rfl, ho, hall⟩ := well_tuple x
    have z2 : WData.weightAll ds ≤ 1048576 := z
    obtain ⟨A, h1, h2⟩ := area_all ds _ hall p fun d hd => Nat.le_trans (weight_mem hd) z2
    have k : ∀ b ∈ A, b ∈ a :: A := fun b hb => List.mem_cons_of_mem _ hb
    refine ⟨a :: A, List.mem_cons_self .., fun b hb => ?_⟩
    rcases List.mem_cons.mp hb with e | m
    · rw [e]
      exact ⟨vs, line_of (by rw [wellAll_len hall]; exact Nat.le_trans (PySem.W.length_le_weightAllW ds) z2), fun u hu => (h1 u hu).mono k, .inr ho⟩
    · exact (h2 b m).mono k
  | .float _, _, _, p, _ => Bool.noConfusion (show false = true from p)
  | .dict _, _, _, p, _ => Bool.noConfusion (show false = true from p)
  | .bytearray _, _, _, p, _ => Bool.noConfusion (show false = true from p)
  | .set _, _, _, p, _ => Bool.noConfusion (show false = true from p)
  | .frozenset _, _, _, p, _ => Bool.noConfusion (show false = true from p)
  | .obj _ _, _, _, p, _ => Bool.noConfusion (show false = true from p)
theorem area_all : ∀ (ds : List WData) (vs : List Value), WellAll P h vs ds → plWs ds = true → (∀ d ∈ ds, d.weight ≤ 1048576) → ∃ A : List Addr, (∀ u ∈ vs, OkU A u) ∧ ∀ a ∈ A, ArgOb h A a
  | [], _, x, _, _ => by
    cases x
    exact ⟨[], fun u m => absurd m (by simp), fun a m => absurd m (by simp)⟩
  | d :: ds, _, x, p, z => by
    obtain ⟨v, vs, rfl, x1, x2⟩ := well_cons x
    have q : plW d = true ∧ plWs ds = true := Bool.and_eq_true_iff.mp p
    obtain ⟨A, a1, a2⟩ := area_one d v x1 q.1 (z d (List.mem_cons_self ..))
    obtain ⟨B, b1, b2⟩ := area_all ds vs x2 q.2 fun e he => z e (List.mem_cons_of_mem _ he)
    have kA : ∀ b ∈ A, b ∈ A ++ B := fun b hb => List.mem_append.mpr (.inl hb)
    have kB : ∀ b ∈ B, b ∈ A ++ B := fun b hb => List.mem_append.mpr (.inr hb)
    refine ⟨A ++ B, fun u hu => ?_, fun b hb => ?_⟩
    · rcases List.mem_cons.mp hu with e | m
      · rw [e]
        exact a1.mono kA
      · exact (b1 u m).mono kB
    · rcases List.mem_append.mp hb with m | m
      · exact (a2 b m).mono kA
      · exact (b2 b m).mono kB
end
end
/-- what is tracked of an argument's object -/
def hoOf (o : Obj) : Option HO := match o.data with
  | .seq vs _ => if (o.cls == Value.type "list") = true then some (.frz o (.lst (vs.toList.map toV))) else some (.frz o (.tup (vs.toList.map toV)))
  | _ => none
def argH (K : PySem.W.Frag) (h : Heap) (A : List Addr) : Hp := fun b => if b ∈ A then (if (K.lookup b).isNone = true then (h.get? b).bind hoOf else none) else none
/-- nothing is tracked but what is known to the object -/
def OnlyF (H : Hp) : Prop := ∀ b, H b = none ∨ ∃ o u, H b = some (.frz o u)
theorem hoOf_lst (vs : List Value) : hoOf { cls := .type "list", data := .seq vs.toArray } = some (.frz { cls := .type "list", data := .seq vs.toArray } (.lst (vs.map toV))) := by
  show (if (Value.type "list" == Value.type "list") = true then some (HO.frz { cls := .type "list", data := .seq vs.toArray } (.lst (vs.toArray.toList.map toV))) else some (HO.frz { cls := .type "list", data := .seq vs.toArray } (.tup (vs.toArray.toList.map toV)))) = _
  rw [if_pos (beq_self_eq_true _)]
theorem hoOf_tup (vs : List Value) : hoOf { cls := .type "tuple", data := .seq vs.toArray } = some (.frz { cls := .type "tuple", data := .seq vs.toArray } (.tup (vs.map toV))) := by
  show (if (Value.type "tuple" == Value.type "list") = true then some (HO.frz { cls := .type "tuple", data := .seq vs.toArray } (.lst (vs.toArray.toList.map toV))) else some (HO.frz { cls := .type "tuple", data := .seq vs.toArray } (.tup (vs.toArray.toList.map toV)))) = _
  rw [if_neg (by decide)]
section
variable {P : Program} {w : World} {K : PySem.W.Frag} {h : Heap} {A : List Addr}
theorem argH_at {b : Addr} {o : Obj} (hb : b ∈ A) (hk : K.lookup b = none) (e : h.get? b = some o) : argH K h A b = hoOf o := by
  unfold argH
  rw [if_pos hb, hk, if_pos (show (none : Option Obj).isNone = true from rfl), e] <;> rfl
theorem of_argH {b : Addr} {u : HO} (q : argH K h A b = some u) : b ∈ A ∧ K.lookup b = none := by
  unfold argH at q
  by_cases hb : b ∈ A
  · rw [if_pos hb] at q
    cases hk : K.lookup b with
    | none => exact ⟨hb, rfl⟩
    | some o =>
      rw [hk, if_neg (by simp)] at q
      cases q
  · rw [if_neg hb] at q
    cases q
/-- what stands tracked -/
theorem argH_is (ar : ∀ a ∈ A, ArgOb h A a) {b : Addr} {u : HO} (q : argH K h A b = some u) : K.lookup b = none ∧ ∃ vs : List Value, vs.length ≤ sizeLine ∧ (∀ u ∈ vs, OkU A u) ∧
    ((h.get? b = some { cls := .type "list", data := .seq vs.toArray } ∧ u = .frz { cls := .type "list", data := .seq vs.toArray } (.lst (vs.map toV))) ∨
     (h.get? b = some { cls := .type "tuple", data := .seq vs.toArray } ∧ u = .frz { cls := .type "tuple", data := .seq vs.toArray } (.tup (vs.map toV)))) := by
  obtain ⟨hb, hk⟩ := of_argH q
  obtain ⟨vs, h1, h2, h3⟩ := ar b hb
  refine ⟨hk, vs, h1, h2, ?_⟩
  rcases h3 with e | e
  · rw [argH_at hb hk e, hoOf_lst] at q
    exact .inl ⟨e, (Option.some.inj q).symm⟩
  · rw [argH_at hb hk e, hoOf_tup] at q
    exact .inr ⟨e, (Option.some.inj q).symm⟩
theorem argH_only (ar : ∀ a ∈ A, ArgOb h A a) : OnlyF (argH K h A) := fun b => by
  cases q : argH K h A b with
  | none => exact .inl rfl
  | some u =>
    obtain ⟨_, vs, _, _, ⟨_, e⟩ | ⟨_, e⟩⟩ := argH_is ar q
    · exact .inr ⟨_, _, by rw [e]⟩
    · exact .inr ⟨_, _, by rw [e]⟩
theorem argH_ok (ar : ∀ a ∈ A, ArgOb h A a) : HOk P w (argH K h A) h := fun b u q => by
  obtain ⟨_, vs, h1, h2, ⟨e, rfl⟩ | ⟨e, rfl⟩⟩ := argH_is ar q
  · exact ⟨e, by rw [List.length_map]; exact h1, vs, _, vals_toV h2, e⟩
  · exact ⟨e, by rw [List.length_map]; exact h1, vs, vals_toV h2, _, e, rfl, _, rfl⟩
theorem seq_inj {c c' : Value} {vs us : List Value} (e : (some { cls := c, data := .seq vs.toArray } : Option Obj) = some { cls := c', data := .seq us.toArray }) : c = c' ∧ vs = us := by
  have e1 := Option.some.inj e
  have e2 : c = c' := congrArg Obj.cls e1
  have e3 : Data.seq vs.toArray = Data.seq us.toArray := congrArg Obj.data e1
  injection e3 with e4
  refine ⟨e2, ?_⟩
  have e5 := congrArg Array.toList e4
  simpa using e5
/-- a list argument -/
theorem argL (KX : K.In h) (ar : ∀ a ∈ A, ArgOb h A a) {a : Addr} {vs : List Value} (ha : a ∈ A) (e : h.get? a = some { cls := .type "list", data := .seq vs.toArray }) : (∀ u ∈ vs, OkU A u) ∧ SqL K (argH K h A) a (vs.map toV) := by
  obtain ⟨us, h1, h2, h3⟩ := ar a ha
  have hu : us = vs := by
    rcases h3 with q | q
    · rw [e] at q
      exact (seq_inj q).2.symm
    · rw [e] at q
      exact absurd (Value.type.inj (seq_inj q).1) (by decide)
  subst hu
  refine ⟨h2, ?_⟩
  cases hk : K.lookup a with
  | none => exact .inl (.inr ⟨_, by rw [argH_at ha hk e, hoOf_lst]⟩)
  | some o =>
    have e2 := KX a o hk
    rw [e] at e2
    obtain rfl := Option.some.inj e2
    exact .inr ⟨_, us.toArray, _, hk, rfl, rfl, rfl, by rw [List.size_toArray]; exact h1, by simpa using vals_toV h2⟩
theorem argT (KX : K.In h) (ar : ∀ a ∈ A, ArgOb h A a) {a : Addr} {vs : List Value} (ha : a ∈ A) (e : h.get? a = some { cls := .type "tuple", data := .seq vs.toArray }) : (∀ u ∈ vs, OkU A u) ∧ SqT K (argH K h A) a (vs.map toV) := by
  obtain ⟨us, h1, h2, h3⟩ := ar a ha
  have hu : us = vs := by
    rcases h3 with q | q
    · rw [e] at q
      exact absurd (Value.type.inj (seq_inj q).1) (by decide)
    · rw [e] at q
      exact (seq_inj q).2.symm
  subst hu
  refine ⟨h2, ?_⟩
  cases hk : K.lookup a with
  | none => exact .inl (.inr ⟨_, by rw [argH_at ha hk e, hoOf_tup]⟩)
  | some o =>
    have e2 := KX a o hk
    rw [e] at e2
    obtain rfl := Option.some.inj e2
    exact .inr ⟨_, us.toArray, _, hk, rfl, rfl, by rw [List.size_toArray]; exact h1, by simpa using vals_toV h2⟩
mutual
theorem dw_one {Pm : Params} (KX : K.In h) (ar : ∀ a ∈ A, ArgOb h A a) : ∀ (d : WData) (v : Value), Well Pm h v d → plW d = true → OkU A v → Dw K (argH K h A) (toV v) d
  | .none, _, x, _, _ => by
    cases x
    exact .non
  | .bool b, _, x, _, _ => by
    cases x
    exact .bl b
  | .int i, _, x, _, _ => by
    cases x
    exact .int i
  | .str s, _, x, _, _ => by
    cases x
    exact .str s
  | .bytes b, _, x, _, _ => by
    cases x
    have z := Dw.byt (K := K) (H := argH K h A) b.toArray
    exact z
  | .list ds, _, x, p, hu => by
    obtain ⟨a, vs, rfl, ho, hall⟩ := well_list x
    obtain ⟨h2, hs⟩ := argL KX ar hu ho
    exact .lst hs (dw_all KX ar ds _ hall p h2)
  | .tuple ds, _, x, p, hu => by
    obtain ⟨a, vs, rfl, ho, hall⟩ := well_tuple x
    obtain ⟨h2, hs⟩ := argT KX ar hu ho
    exact .tup hs (dw_all KX ar ds _ hall p h2)
  | .float _, _, _, p, _ => Bool.noConfusion (show false = true from p)
  | .dict _, _, _, p, _ => Bool.noConfusion (show false = true from p)
  | .bytearray _, _, _, p, _ => Bool.noConfusion (show false = true from p)
  | .set _, _, _, p, _ => Bool.noConfusion (show false = true from p)
  | .frozenset _, _, _, p, _ => Bool.noConfusion (show false = true from p)
  | .obj _ _, _, _, p, _ => Bool.noConfusion (show false = true from p)
theorem dw_all {Pm : Params} (KX : K.In h) (ar : ∀ a ∈ A, ArgOb h A a) : ∀ (ds : List WData) (vs : List Value), WellAll Pm h vs ds → plWs ds = true → (∀ u ∈ vs, OkU A u) → DwAll K (argH K h A) (vs.map toV) ds
  | [], _, x, _, _ => by
    cases x
    exact .nil
  | d :: ds, _, x, p, hu => by
    obtain ⟨v, vs, rfl, x1, x2⟩ := well_cons x
    have q : plW d = true ∧ plWs ds = true := Bool.and_eq_true_iff.mp p
    exact .cons (dw_one KX ar d v x1 q.1 (hu _ (List.mem_cons_self ..))) (dw_all KX ar ds vs x2 q.2 fun u m => hu u (List.mem_cons_of_mem _ m))
end
end
theorem spec_call {P : Program} {w : World} {K : PySem.W.Frag} {mg mb : Str → Option Value} {CX : CXT} {k : Nat} {fa : Addr} {fd : FuncData} {ps : List Str} {sp : Sp} {s₁ : Shared} {vals : List Value} {ds : List WData} {R : PySem.W.WRecords} {cl : Str → Option Addr} {d0 : WData}
    (KX : K.In s₁.heap) (hns : s₁.heap.Ns mainGlobals mg) (hb : s₁.heap.Ns builtinsNs mb) (hbb : ∀ x : Str, x ≠ "__name__" → mb x = bootBuiltins x) (hlim : s₁.heap.NoLimit) (hg : s₁.gens = #[])
    (hwl : WellAll w.params s₁.heap vals ds) (hpl : plWs ds = true) (hwt : ∀ d ∈ ds, d.weight ≤ 1048576) (hr : Room k callerA)
    (F : ∀ base : Heap, K.In base → base.Ns mainGlobals mg → FnOk P w K mg base CX k fa fd ps sp) (hbind : ∀ (s : Shared) (us : List Value), us.length = ps.length → BindsTo s fd ⟨us, []⟩ (ps.zip us)) (hlen : ds.length = ps.length)
    (hsp : ∀ (H : Hp) (xs : List V), OnlyF H → DwAll K H xs ds → sp xs H (fun v H' => Dw K H' v d0) fun _ _ _ => False)
    (hCX : ∀ H e s', CX [] H s₁ (fun _ _ _ => False) e s' → False) :
    codeAny (model P w) callerA (.call (.ref fa) ⟨vals, []⟩) (fun r s' => ∃ u as, r = .ok (.ret u) ∧ ReadsW R cl s'.heap u d0 as ∧ OldK s₁.heap s'.heap ∧ s'.os = s₁.os ∧ AllBare s'.gens) s₁ := by
  obtain ⟨A, ho, ar⟩ := area_all ds vals hwl hpl hwt
  have hO : OnlyF (argH K s₁.heap A) := argH_only ar
  have hok : HOk P w (argH K s₁.heap A) s₁.heap := argH_ok ar
  have hS := dw_all KX ar ds vals hwl hpl ho
  have hV := vals_toV ho
  have hK : ∀ b u, argH K s₁.heap A b = some u → K.lookup b = none := fun b u q => (argH_is ar q).1
  have noA : ∀ {b : Addr} {o : Obj} {es : Array DictEntry} {ep : Nat}, s₁.heap.get? b = some o → o.data = .dict es ep → argH K s₁.heap A b = none := fun {b o es ep} e d => by
    cases q : argH K s₁.heap A b with
    | none => rfl
    | some u =>
      obtain ⟨_, vs, _, _, ⟨e2, _⟩ | ⟨e2, _⟩⟩ := argH_is ar q
      · rw [e2] at e
        cases e
        have d' : Data.seq vs.toArray _ = Data.dict es ep := d
        cases d'
      · rw [e2] at e
        cases e
        have d' : Data.seq vs.toArray _ = Data.dict es ep := d
        cases d'
  generalize argH K s₁.heap A = H at hO hok hS hK noA
  have base_of : ∀ {b : Addr} {o : Obj}, s₁.heap.get? b = some o → H b = none → (hidT s₁.heap H).get? b = some o := fun e n => hidT_get e n
  have nsK : ∀ {b : Addr} {m : Str → Option Value}, s₁.heap.Ns b m → (hidT s₁.heap H).Ns b m := fun {b m} ⟨o, es, ep, e, d, r⟩ => ⟨o, es, ep, base_of e (noA e d), d, r⟩
  have nK : ∀ b o, K.lookup b = some o → H b = none := fun b o e => by
    cases q : H b with
    | none => rfl
    | some u =>
      rw [hK b u q] at e
      cases e
  have hKb : K.In (hidT s₁.heap H) := fun b o e => base_of (KX b o e) (nK b o e)
  have hM : Mod K mg (hidT s₁.heap H) := ⟨hKb, nsK hns, ⟨mb, nsK hb, hbb⟩, let ⟨mc, h1, h2⟩ := hlim; ⟨mc, nsK h1, h2⟩⟩
  have e0 : Env0 P w K mg (hidT s₁.heap H) callerA [] s₁ H := ⟨rfl, hM, fun b o e => of_hidT e, Nat.le_of_eq (hidT_size _ _), trivial, fun b hb => absurd (show b ∈ ([] : List Addr) from hb) (by simp), hok, .of_eq hg⟩
  have hl : vals.length = ps.length := by rw [wellAll_len hwl]; exact hlen
  refine codeAny_mono ((F _ hKb (nsK hns)).run callerA [] s₁ H ⟨vals, []⟩ vals (vals.map toV) _ _ hr e0 (hbind s₁ vals hl) hV (hsp H _ hO hS)) fun r s' x => ?_
  cases r with
  | error e => exact (hCX H e s' x).elim
  | ok fl =>
    cases fl with
    | next => exact False.elim x
    | brk => exact False.elim x
    | cont => exact False.elim x
    | ret u =>
      obtain ⟨v, H', os, bare, un, hok', r', q⟩ := x
      have kept : ∀ b o, s₁.heap.get? b = some o → s'.heap.get? b = some o := fun b o e => by
        cases q2 : H b with
        | none => exact un.keep b o e q2 (by intro z; exact absurd (show b ∈ ([] : List Addr) from z) (by simp)) (by simp)
        | some u2 =>
          rcases hO b with z | ⟨ob, u3, z⟩
          · rw [q2] at z
            cases z
          · have z2 := un.frzs b ob _ z
            obtain ⟨e1, _⟩ := hok b _ z
            obtain ⟨e2, _⟩ := hok' b _ z2
            rw [e] at e1
            cases e1
            exact e2
      have KX' : K.In s'.heap := fun b o e => kept b o (KX b o e)
      obtain ⟨as, hrd⟩ := Dw.reads (R := R) (cl := cl) hok' KX' d0 v u q r'
      exact ⟨u, as, rfl, hrd, OldK.of_keep kept, os, bare⟩
theorem layable_weight {ds : List WData} (h : WData.layableAll ds = true) : ∀ d ∈ ds, d.weight ≤ 1048576 := fun d hd =>
  (PySem.W.layableW_iff.mp (List.all_eq_true.mp h d hd)).2.2
theorem encAll_len : ∀ (cs : List Codec) (a : Codec.denoteAll cs), (Codec.encAll cs a).length = cs.length
  | [], _ => rfl
  | c :: cs, a => by
    show (Codec.encAll cs a.2).length + 1 = cs.length + 1
    rw [encAll_len cs a.2]
/-- the goal that k_headS leaves (case hc), from the promise of the row's def: whatever the arguments that the codecs let and the row asks for, the def gives what stands for enc (f ..) -/
theorem walk_spec {r : OpenSpec} {k : Nat} {q : Program} {loose : List Str} {XP : (Str → Option Value) → Heap → Prop} {YP : World → Heap → Prop} {d : DefRec} {K : Params → PySem.W.Frag} {CX : World → CXT} {ps : List Str} {sp : World → Sp}
    (hwell : r.wellSaid = true) (hdf : d.params.defaults = []) (hlen : r.args.length = ps.length) (hr : Room k callerA)
    (hY : ∀ (w : World) (h : Heap), YP w h → (K w.params).In h)
    (F : ∀ (w : World) (mg : Str → Option Value) (fa : Addr) (h : Heap), YP w h → (K w.params).In h → h.Ns mainGlobals mg → mg d.name = some (.ref fa) →
      ∃ fd : FuncData, (∀ (s : Shared) (us : List Value), us.length = ps.length → BindsTo s fd ⟨us, []⟩ (ps.zip us)) ∧
        ∀ base : Heap, (K w.params).In base → base.Ns mainGlobals mg → FnOk r.prog w (K w.params) mg base (CX w) k fa fd ps (sp w))
    (hsp : ∀ (w : World) (H : Hp) (xs : List V) (a : Codec.denoteAll r.args), OnlyF H → Codec.withinAll r.args a = true → Codec.app r.args r.asked a = true → DwAll (K w.params) H xs (Codec.encAll r.args a) →
      sp w xs H (fun v H' => Dw (K w.params) H' v (r.ret.enc (Codec.app r.args r.f a))) fun _ _ _ => False)
    (hCX : ∀ (w : World) (H : Hp) (s : Shared) (e : Value) (s' : Shared), CX w [] H s (fun _ _ _ => False) e s' → False) :
    PySem.W.WalkOS q loose XP YP r d [] (fun f vs => PySem.call f vs) := by
  intro w s_0 s₁ mg mb G Y fa o pm cd doc dV kV ho hd hcd hD hmg hg args vals as hpre hlay hrd hwl hlo
  obtain ⟨a, e1, e2⟩ := PySem.W.os_pre_some hpre
  obtain ⟨e3, hwi⟩ := Codec.encAll_of_decAll r.args args a e1
  subst e3
  have KX := hY w _ Y
  obtain ⟨fd, hb, hF⟩ := F w mg fa _ Y KX G.T.g hmg
  refine PySem.W.enter_call (codeAny_mono (spec_call (R := []) (cl := classAt s_0.heap) (d0 := r.ret.enc (Codec.app r.args r.f a)) KX G.T.g G.T.b G.T.builtins G.T.nolimit hg hwl (pl_encAll _ _) (layable_weight hlay) hr hF hb (by rw [encAll_len]; exact hlen)
    (fun H xs hO hS => hsp w H xs a hO hwi e2 hS) fun H e s' => hCX w H s₁ e s') fun r' s' hq => ?_)
  obtain ⟨u, as', rfl, h1, h2, h3, h4⟩ := hq
  exact ⟨.inl ⟨u, _, as', rfl, fun _ => rfl, h1, (OpenSpec.post_iff hwell hwi _ _).mpr rfl, fun z => Bool.noConfusion (show false = true from z)⟩, h2, h3, h4⟩
/-- the same where the promise hangs on the written part alone -/
theorem walk_specK {r : OpenSpec} {k : Nat} {q : Program} {loose : List Str} {XP : (Str → Option Value) → Heap → Prop} {YP : World → Heap → Prop} {d : DefRec} {K : Params → PySem.W.Frag} {CX : CXT} {ps : List Str} {sp : PySem.W.Frag → Sp}
    (hwell : r.wellSaid = true) (hdf : d.params.defaults = []) (hlen : r.args.length = ps.length) (hr : Room k callerA)
    (hY : ∀ (w : World) (h : Heap), YP w h → (K w.params).In h)
    (F : ∀ (w : World) (mg : Str → Option Value) (fa : Addr) (h : Heap), YP w h → (K w.params).In h → h.Ns mainGlobals mg → mg d.name = some (.ref fa) →
      ∃ fd : FuncData, (∀ (s : Shared) (us : List Value), us.length = ps.length → BindsTo s fd ⟨us, []⟩ (ps.zip us)) ∧
        ∀ base : Heap, (K w.params).In base → base.Ns mainGlobals mg → FnOk r.prog w (K w.params) mg base CX k fa fd ps (sp (K w.params)))
    (hsp : ∀ (K : PySem.W.Frag) (H : Hp) (xs : List V) (a : Codec.denoteAll r.args), OnlyF H → Codec.withinAll r.args a = true → Codec.app r.args r.asked a = true → DwAll K H xs (Codec.encAll r.args a) →
      sp K xs H (fun v H' => Dw K H' v (r.ret.enc (Codec.app r.args r.f a))) fun _ _ _ => False)
    (hCX : ∀ (H : Hp) (s : Shared) (e : Value) (s' : Shared), CX [] H s (fun _ _ _ => False) e s' → False) :
    PySem.W.WalkOS q loose XP YP r d [] (fun f vs => PySem.call f vs) :=
  walk_spec (K := K) (CX := fun _ => CX) (sp := fun w => sp (K w.params)) hwell hdf hlen hr hY F (fun w H xs a h1 h2 h3 h4 => hsp (K w.params) H xs a h1 h2 h3 h4) fun _ H s e s' => hCX H s e s'
end L2
end
set_option Elab.async false
set_option maxRecDepth 100000
set_option maxHeartbeats 2000000
namespace G
open PySem PySem.Spec PyProof.Rows L2
/-! ### fields by place -/
theorem lookup_at {f : Str} {v : V} : ∀ {fs : List (Str × V)} (i : Nat), fs[i]? = some (f, v) → f ∉ (fs.take i).map (·.1) → fs.lookup f = some v
  | [], i, h, _ => by simp at h
  | (g, x) :: r, 0, h, _ => by
    have e : (g, x) = (f, v) := Option.some.inj h
    cases e
    simp [List.lookup]
  | (g, x) :: r, i + 1, h, n => by
    have n' : f ∉ g :: (r.take i).map (·.1) := n
    have ne : ¬ f = g := fun q => n' (by rw [q]; exact List.mem_cons_self ..)
    have hb : (f == g) = false := beq_eq_false_iff_ne.mpr ne
    simp only [List.lookup, hb]
    exact lookup_at i h fun m => n' (List.mem_cons_of_mem _ m)
theorem lookup_no {m : Str} : ∀ {fs : List (Str × V)}, m ∉ fs.map (·.1) → fs.lookup m = none
  | [], _ => rfl
  | (g, x) :: r, n => by
    have n' : m ∉ g :: r.map (·.1) := n
    have ne : ¬ m = g := fun q => n' (by rw [q]; exact List.mem_cons_self ..)
    have hb : (m == g) = false := beq_eq_false_iff_ne.mpr ne
    simp only [List.lookup, hb]
    exact lookup_no fun q => n' (List.mem_cons_of_mem _ q)
theorem putF_at {f : Str} {v x : V} : ∀ {fs : List (Str × V)} (i : Nat), fs[i]? = some (f, x) → f ∉ (fs.take i).map (·.1) → putF f v fs = fs.set i (f, v)
  | [], i, h, _ => by simp at h
  | (g, y) :: r, 0, h, _ => by
    have e : (g, y) = (f, x) := Option.some.inj h
    cases e
    show (if f = f then (f, v) :: r else _) = _
    rw [if_pos rfl]
    rfl
  | (g, y) :: r, i + 1, h, n => by
    have n' : f ∉ g :: (r.take i).map (·.1) := n
    have ne : ¬ g = f := fun q => n' (by rw [q]; exact List.mem_cons_self ..)
    show (if g = f then (g, v) :: r else (g, y) :: putF f v r) = _
    rw [if_neg ne, putF_at i h fun m => n' (List.mem_cons_of_mem _ m)]
    rfl
theorem putF_new {f : Str} {v : V} : ∀ {fs : List (Str × V)}, f ∉ fs.map (·.1) → putF f v fs = fs ++ [(f, v)]
  | [], _ => rfl
  | (g, y) :: r, n => by
    have n' : f ∉ g :: r.map (·.1) := n
    have ne : ¬ g = f := fun q => n' (by rw [q]; exact List.mem_cons_self ..)
    show (if g = f then (g, v) :: r else (g, y) :: putF f v r) = _
    rw [if_neg ne, putF_new fun m => n' (List.mem_cons_of_mem _ m)]
    rfl
theorem itN {c A B : Prop} [Decidable c] (h : ¬ c) (b : B) : if c then A else B := by
  rw [if_neg h]
  exact b
theorem itY {c A B : Prop} [Decidable c] (h : c) (a : A) : if c then A else B := by
  rw [if_pos h]
  exact a
/-! ### fields and items, in a comprehension's block too -/
theorem pe_fldK {X : Cx} {K : PySem.W.Frag} {e : Expr} {f : Str} {pos : Pos} {ta : TE} (hK : X.K = K) (he : PE X e ta) (hb : attributeBase e f X.env (eval e X.env) = eval e X.env) : PE X (.Attribute e f pos) (tFld K ta f) := by
  subst hK
  exact pe_fld he hb
theorem ix_listK {X : Cx} {K : PySem.W.Frag} (hK : X.K = K) : IxR X (rIxL K) := by
  subst hK
  exact ix_list
/-! ### numbers as values -/
def vn (n : Nat) : V := .int (n : Int)
theorem vn_get {l : List Nat} {i : Nat} (h : i < l.length) : (l.map vn)[i]? = some (vn (l.getD i 0)) := by
  rw [List.getElem?_map, List.getD_eq_getElem?_getD, List.getElem?_eq_getElem h]
  rfl
theorem vn_at {l : List Nat} {i : Nat} (h : i < l.length) : atI (l.map vn) (i : Int) = some (vn (l.getD i 0)) := atI_nat (vn_get h)
theorem vn_ix {l : List Nat} {i : Nat} (h : i < l.length) : ixN (l.map vn).length (i : Int) = some i := by
  unfold ixN
  rw [List.length_map, if_pos (by omega), if_pos (by omega)]
  simp
theorem vn_set {l : List Nat} {i v : Nat} : (l.map vn).set i (vn v) = (l.set i v).map vn := by
  rw [List.map_set]
theorem vn_ints (l : List Nat) : l.map vn = (Si67.ints l).map V.int := by
  unfold Si67.ints
  rw [List.map_map]
  rfl
/-! ### the text by places -/
def top (i : Nat) : Stmt := PySem.Challenge.pw_glasshelpers_s01_answers.main.body.getD i (.Pass ⟨0, 0, 0, 0⟩)
abbrev sHolds : Stmt := top 8
abbrev sInit : Stmt := inClass (top 9) 0
abbrev sRenew : Stmt := inClass (top 9) 1
abbrev sBegins : Stmt := inClass (top 9) 2
abbrev sEats : Stmt := inClass (top 9) 3
abbrev sCost : Stmt := inClass (top 9) 4
abbrev sWeeks : Stmt := inClass (top 9) 5
abbrev sWeek : Stmt := inClass (top 9) 6
abbrev sBest : Stmt := inClass (top 9) 7
abbrev sRids : Stmt := inClass (top 9) 8
abbrev sPrice : Stmt := inClass (top 9) 9
abbrev sFree : Stmt := inClass (top 9) 10
abbrev sGoes : Stmt := inClass (top 9) 11
abbrev sChoice : Stmt := inClass (top 9) 12
abbrev sRow : Stmt := inClass (top 9) 13
abbrev sLen : Stmt := inClass (top 9) 14
abbrev sAnswer : Stmt := top 19
abbrev sAns : Stmt := top 20
/-! ### the object -/
/-- the fields, in the order in which they are first set -/
def gf (k p : Int) (pa : Addr) (t : Int) (ca : Addr) : List (Str × V) := [("kinds", .int k), ("pests", .int p), ("prey", .ref pa), ("told", .int t), ("costs", .ref ca)]
def names : List Str := ["kinds", "pests", "prey", "told", "costs"]
section
variable (k p : Int) (pa : Addr) (t : Int) (ca : Addr)
theorem gf_names : (gf k p pa t ca).map (·.1) = names := rfl
theorem gf_take (i : Nat) : ((gf k p pa t ca).take i).map (·.1) = names.take i := by
  rw [List.map_take, gf_names]
theorem gf_kinds : (gf k p pa t ca).lookup ("kinds" : Str) = some (.int k) := lookup_at 0 rfl (by rw [gf_take]; decide +kernel)
theorem gf_pests : (gf k p pa t ca).lookup ("pests" : Str) = some (.int p) := lookup_at 1 rfl (by rw [gf_take]; decide +kernel)
theorem gf_prey : (gf k p pa t ca).lookup ("prey" : Str) = some (.ref pa) := lookup_at 2 rfl (by rw [gf_take]; decide +kernel)
theorem gf_told : (gf k p pa t ca).lookup ("told" : Str) = some (.int t) := lookup_at 3 rfl (by rw [gf_take]; decide +kernel)
theorem gf_costs : (gf k p pa t ca).lookup ("costs" : Str) = some (.ref ca) := lookup_at 4 rfl (by rw [gf_take]; decide +kernel)
theorem gf_no {m : Str} (h : m ∉ names) : (gf k p pa t ca).lookup m = none := lookup_no (by rw [gf_names]; exact h)
theorem put_kinds (x : Int) : putF "kinds" (.int x) (gf k p pa t ca) = gf x p pa t ca := putF_at 0 (x := .int k) rfl (by rw [gf_take]; decide +kernel)
theorem put_pests (x : Int) : putF "pests" (.int x) (gf k p pa t ca) = gf k x pa t ca := putF_at 1 (x := .int p) rfl (by rw [gf_take]; decide +kernel)
theorem put_prey (x : Addr) : putF "prey" (.ref x) (gf k p pa t ca) = gf k p x t ca := putF_at 2 (x := .ref pa) rfl (by rw [gf_take]; decide +kernel)
theorem put_told (x : Int) : putF "told" (.int x) (gf k p pa t ca) = gf k p pa x ca := putF_at 3 (x := .int t) rfl (by rw [gf_take]; decide +kernel)
theorem put_costs (x : Addr) : putF "costs" (.ref x) (gf k p pa t ca) = gf k p pa t x := putF_at 4 (x := .ref ca) rfl (by rw [gf_take]; decide +kernel)
end
/-- the glasshouse with the numbers n stands at p, its dict at dx, its lists at pa and ca -/
structure GA (C : Addr) (H : Hp) (p dx pa ca : Addr) (n : GM.Nums) : Prop where
  ins : H p = some (.ins C dx (gf n.kinds n.pests pa n.told ca))
  prey : H pa = some (.lst (n.prey.map vn))
  costs : H ca = some (.lst (n.costs.map vn))
  ne : pa ≠ ca
/-- all but the object and its lists is as it was -/
def Kept (H H' : Hp) (p pa ca : Addr) : Prop := ∀ b o, H b = some o → b ≠ p → b ≠ pa → b ≠ ca → H' b = some o
theorem Same.kept {H H' : Hp} (e : Same H H') (p pa ca : Addr) : Kept H H' p pa ca := fun b o h _ _ _ => e b o h
theorem same_new {H : Hp} {l : Addr} {o : HO} (h : H l = none) : Same H (upd H l o) := fun b u e => by
  rw [upd_ne (ne_of_none e h)]
  exact e
theorem GA.same {C : Addr} {H H' : Hp} {p dx pa ca : Addr} {n : GM.Nums} (g : GA C H p dx pa ca n) (e : Same H H') : GA C H' p dx pa ca n := ⟨e _ _ g.ins, e _ _ g.prey, e _ _ g.costs, g.ne⟩
/-! ### the promises -/
/-- a call of the document: the object, its numbers; the answer is a new list -/
def spCall (C : Addr) (args : Si67.Call → List V → Prop) : Sp := fun vs H Q _ => ∃ (p dx pa ca : Addr) (n : GM.Nums) (h : Si67.House) (c : Si67.Call) (as : List V), vs = .ref p :: as ∧ args c as ∧ GA C H p dx pa ca n ∧ GM.Rel h n ∧
  ∀ (H' : Hp) (l pa' ca' : Addr) (n' : GM.Nums), GA C H' p dx pa' ca' n' → GM.Rel (Si67.step h c).1 n' → H' l = some (.lst ((GM.ans h c).map V.int)) → H l = none → (pa' = pa ∨ H pa' = none) → (ca' = ca ∨ H ca' = none) → Kept H H' p pa ca → Q (.ref l) H'
def aBegins : Si67.Call → List V → Prop := fun c as => ∃ k q : Nat, c = .begins k q ∧ as = [vn k, vn q]
def aEats : Si67.Call → List V → Prop := fun c as => ∃ a b : Nat, c = .eats a b ∧ as = [vn a, vn b]
def aCost : Si67.Call → List V → Prop := fun c as => ∃ k m : Nat, c = .cost k m ∧ as = [vn k, vn m]
def aWeeks : Si67.Call → List V → Prop := fun c as => ∃ s : Nat, c = .weeks s ∧ as = [vn s]
def spHolds : Sp := fun vs H Q _ => ∃ g k : Nat, vs = [vn g, vn k] ∧ Q (.bl (g.testBit k)) H
def spRenew (C : Addr) : Sp := fun vs H Q _ => ∃ (p dx : Addr) (k q : Nat) (fs : List (Str × V)), vs = [.ref p, vn k, vn q] ∧ k ≤ 6 ∧ H p = some (.ins C dx fs) ∧ (fs = [] ∨ ∃ k p pa t ca, fs = gf k p pa t ca) ∧
  ∀ (H' : Hp) (pa ca : Addr), GA C H' p dx pa ca ⟨k, q, List.replicate k 0, 0, List.replicate k 0⟩ → H pa = none → H ca = none → (∀ b o, H b = some o → b ≠ p → H' b = some o) → Q .non H'
def spInit (C : Addr) : Sp := fun vs H Q _ => ∃ (p dx : Addr), vs = [.ref p] ∧ H p = some (.ins C dx []) ∧
  ∀ (H' : Hp) (pa ca : Addr), GA C H' p dx pa ca ⟨1, 0, [0], 0, [0]⟩ → H pa = none → H ca = none → (∀ b o, H b = some o → b ≠ p → H' b = some o) → Q .non H'
def spWeek (C : Addr) : Sp := fun vs H Q _ => ∃ (p dx pa ca : Addr) (n : GM.Nums) (h : Si67.House) (x : Nat), vs = [.ref p, vn x] ∧ GA C H p dx pa ca n ∧ GM.Rel h n ∧ x < 2 ^ h.kinds ∧ Q (vn (h.week x)) H
def aBest : Si67.Call → List V → Prop := fun c as => c = .best ∧ as = []
def aRow : Si67.Call → List V → Prop := fun c as => c = .row ∧ as = []
def spFree (C : Addr) : Sp := fun vs H Q _ => ∃ (p dx pa ca : Addr) (n : GM.Nums) (x : Nat), vs = [.ref p, vn x] ∧ GA C H p dx pa ca n ∧ Q (.bl (decide (x &&& n.pests = 0))) H
def spRids (C : Addr) : Sp := fun vs H Q _ => ∃ (p dx pa ca : Addr) (n : GM.Nums) (h : Si67.House) (x : Nat), vs = [.ref p, vn x] ∧ GA C H p dx pa ca n ∧ GM.Rel h n ∧ x < 2 ^ h.kinds ∧ Q (.bl (decide (h.after h.kinds (x ||| h.pests) &&& h.pests = 0))) H
def spPrice (C : Addr) : Sp := fun vs H Q _ => ∃ (p dx pa ca : Addr) (n : GM.Nums) (h : Si67.House) (x : Nat), vs = [.ref p, vn x] ∧ GA C H p dx pa ca n ∧ GM.Rel h n ∧ ∀ H', Same H H' → Q (vn (h.cost x)) H'
def spChoice (C : Addr) : Sp := fun vs H Q _ => ∃ (p dx pa ca : Addr) (n : GM.Nums) (h : Si67.House) (x k : Nat), vs = [.ref p, vn x, vn k] ∧ GA C H p dx pa ca n ∧ GM.Rel h n ∧ x < 2 ^ h.kinds ∧ Q (vn (h.loose x k)) H
/-- goes: the row is a list -/
def spGoes (C : Addr) : Sp := fun vs H Q _ => ∃ (p dx pa ca nl : Addr) (n : GM.Nums) (h : Si67.House) (l : List Nat), vs = [.ref p, .ref nl] ∧ H nl = some (.lst (l.map vn)) ∧ GA C H p dx pa ca n ∧ GM.Rel h n ∧
  ∀ (H' : Hp) (r : Addr), Same H H' → H' r = some (.lst ((GM.ans h (.goes l)).map V.int)) → H r = none → Q (.ref r) H'
/-! ### the sets that are found, each with its row and where this stands -/
abbrev Ent := Nat × List Nat × Addr
def kvE (e : Ent) : Key × V := (Sum.inl (e.1 : Int), V.ref e.2.2)
def dE (e : Ent) : Nat × List Nat := (e.1, e.2.1)
def xE (e : Ent) : V := vn e.1
structure DR (H : Hp) (d : Addr) (E : List Ent) : Prop where
  dict : H d = some (.dK (E.map kvE))
  rows : ∀ e ∈ E, H e.2.2 = some (.lst (e.2.1.map vn))
  short : ∀ e ∈ E, e.2.1.length < E.length
def spLen (C : Addr) : Sp := fun vs H Q _ => ∃ (p dx pa ca d nl : Addr) (n : GM.Nums) (h : Si67.House) (E : List Ent) (i : Nat), vs = [.ref p, .ref d, .ref nl] ∧ GA C H p dx pa ca n ∧ GM.Rel h n ∧ DR H d E ∧ H nl = some (.lst ((E.drop i).map xE)) ∧ i ≤ E.length ∧ GM.Bfs h (E.map dE) i 0 ∧
  ∀ (H' : Hp) (l : Addr) (M : List Ent), DR H' d (E ++ M) → H' l = some (.lst (M.map xE)) → H l = none → GM.Bfs h ((E ++ M).map dE) E.length 0 → (∀ b o, H b = some o → b ≠ d → H' b = some o) → Q (.ref l) H'
/-- what of the text is known -/
structure Txt (K : PySem.W.Frag) (mg : Str → Option Value) (C : Addr) : Prop where
  cl : Cls K C
  nKinds : NoAttr K C "kinds"
  nPests : NoAttr K C "pests"
  nPrey : NoAttr K C "prey"
  nTold : NoAttr K C "told"
  nCosts : NoAttr K C "costs"
  mgC : mg "Glasshouse" = some (.ref C)
  range : mg "range" = none
  len : mg "len" = none
  sum : mg "sum" = none
  any : mg "any" = none
  mKinds : ∃ t, mg "MOST_KINDS" = some (.int 6 t)
  mCost : ∃ t, mg "MOST_COST" = some (.int 1000 t)
  mWeeks : ∃ t, mg "MOST_WEEKS" = some (.int 20 t)
  bad : ∃ t, mg "BAD_NUMBER" = some (.int (-1) t)
  there : ∃ t, mg "NOT_THERE" = some (.int (-2) t)
  allowed : ∃ t, mg "NOT_ALLOWED" = some (.int (-4) t)
  noway : ∃ t, mg "NO_WAY" = some (.int (-6) t)
  cBegins : ∃ t, mg "BEGINS" = some (.int 0 t)
  cEats : ∃ t, mg "EATS" = some (.int 1 t)
  cCost : ∃ t, mg "COST" = some (.int 2 t)
  cWeeks : ∃ t, mg "WEEKS" = some (.int 3 t)
  cBest : ∃ t, mg "BEST" = some (.int 4 t)
  cGoes : ∃ t, mg "GOES" = some (.int 5 t)
  cRow : ∃ t, mg "ROW" = some (.int 6 t)
end G
set_option Elab.async false
set_option maxRecDepth 100000
set_option maxHeartbeats 2000000
namespace G
open PySem PySem.Spec PyProof.Rows L2
section
variable {P : Program} {w : World} {K : PySem.W.Frag} {mg : Str → Option Value} {base : Heap}
/-! ### holds -/
theorem scH : FnScope ["group", "kind"] ["group", "kind"] (defScope sHolds) := ⟨rfl, rfl, rfl, by decide +kernel, rfl, by decide +kernel, by decide +kernel⟩
theorem holds_val (g k : Nat) : decide (V.int (Builtin.bitAnd ((g : Int) / 2 ^ ((k : Int)).toNat) 1) = V.int 1) = g.testBit k := by
  rw [GM.shr_int, bitAnd_m1, ← GM.test_int, decide_eq_decide, V.int.injEq]
theorem ok_holds {f : Addr} {fd : FuncData} (F : Fun K "holds" "holds" sHolds f fd) : FnOk P w K mg base CX0 1 f fd ["group", "kind"] spHolds := by
  refine F.ok scH (fun vs H Q E h => ?_) (fun cdv A outer s H vs Q E hr h => ?_)
  · obtain ⟨g, k, rfl, _⟩ := h
    rfl
  · obtain ⟨g, k, rfl, q⟩ := h
    refine ⟨_, pss_one (ps_ret (pe_cmpR op_eq (pe_op op_and (pe_op op_shr (pv 0) (pv 1)) pe_int) pe_int (nomark _))), ?_⟩
    refine ⟨_, rfl, _, rfl, _, _, rfl, rfl, Int.natCast_nonneg k, _, _, rfl, rfl, rfl, ?_⟩
    have e := holds_val g k
    rw [e]
    exact q
theorem zero_val (x p : Nat) : decide (V.int (Builtin.bitAnd (x : Int) (p : Int)) = V.int 0) = decide (x &&& p = 0) := by
  rw [GM.band, decide_eq_decide, V.int.injEq]
  omega
theorem zeroN_val (x p : Nat) : (!decide (V.int (Builtin.bitAnd (x : Int) (p : Int)) = V.int 0)) = !decide (x &&& p = 0) := by
  rw [zero_val]
/-! ### after_week -/
theorem scW : FnScope ["self", "there", "eaten", "fed", "kind"] ["self", "there"] (defScope sWeek) := ⟨rfl, rfl, rfl, by decide +kernel, rfl, by decide +kernel, by decide +kernel⟩
theorem shl_ok {k : Nat} (h : k ≤ 6) : CPow 1 (k : Int) := ⟨by omega, by omega, by decide⟩
theorem ok_week {f C fH : Addr} {fd fdH : FuncData} (F : Fun K "after_week" "Glasshouse.after_week" sWeek f fd) (T : Txt K mg C) (FH : Fun K "holds" "holds" sHolds fH fdH) (bH : Binds K fdH ["group", "kind"] []) (mH : mg "holds" = some (.ref fH)) :
    FnOk P w K mg base CX0 2 f fd ["self", "there"] (spWeek C) := by
  have GH : FnOk P w K mg base CX0 1 fH fdH ["group", "kind"] spHolds := ok_holds FH
  refine F.ok scW (fun vs H Q E h => ?_) (fun cdv A outer s H vs Q E hr h => ?_)
  · obtain ⟨p, dx, pa, ca, n, h, x, rfl, _⟩ := h
    rfl
  · obtain ⟨p, dx, pa, ca, n, h, x, rfl, g, R, hx, q⟩ := h
    have hk6 : n.kinds ≤ 6 := by rw [R.kinds]; exact R.k6
    refine ⟨_, pss_cons (ps_set (i := 2) scW.nd rfl (Or.inl rfl) pe_int)
      (pss_cons (ps_set (i := 3) scW.nd rfl (Or.inl rfl) (pe_fld (pv 0) rfl))
      (pss_cons (ps_for PassesOwn.never rfl (pi_range1 rfl T.range (pa_cons (pe_fld (pv 0) rfl) pa_nil)) (pg_name (i := 4) scW.nd rfl (Or.inl rfl))
        (pss_one (ps_if (pt_val (pe_call GH hr rfl mH FH.kp bH .nil pass0 (pa_cons (pv 1) (pa_cons (pv 4) pa_nil))))
          (pss_cons (ps_set (i := 2) scW.nd rfl (Or.inl rfl) (pe_op op_or (pv 2) (pe_ix ix_list (pe_fld (pv 0) rfl) (pv 4) (fun _ _ => rfl))))
            (pss_one (ps_if (pt_cmpR op_ne (pe_op op_and (pe_ix ix_list (pe_fld (pv 0) rfl) (pv 4) (fun _ _ => rfl)) (pv 1)) pe_int (nomark _))
              (pss_one (ps_set (i := 3) scW.nd rfl (Or.inl rfl) (pe_op op_or (pv 3) (pe_op op_shl pe_int (pv 4))))) pss_nil))) pss_nil)))
      (pss_one (ps_ret (pe_op op_and (pe_op op_and (pv 1) (pv 3)) (pe_un un_inv (pv 2))))))), ?_⟩
    refine ⟨_, rfl, p, C, dx, _, _, rfl, g.ins, T.cl, T.nPests, gf_pests _ _ _ _ _, ?_⟩
    refine ⟨_, rfl, p, C, dx, _, _, rfl, g.ins, T.cl, T.nKinds, gf_kinds _ _ _ _ _, (n.kinds : Int), rfl, by omega, by omega, ?_⟩
    rw [Int.toNat_natCast]
    refine for_range (n := n.kinds) (fun i σ H' => H' = H ∧ ∃ v4 : Option V, σ = [some (.ref p), some (vn x), some (vn (GM.eatenTo n.prey x i)), some (vn (GM.fedTo n.pests n.prey x i)), v4]) ⟨rfl, none, rfl⟩ ?_ ?_
    · rintro i σ H' hi ⟨rfl, v4, rfl⟩
      rw [Int.zero_add]
      refine ⟨_, rfl, _, rfl, x, i, rfl, _, rfl, ?_⟩
      have hl : i < n.prey.length := by rw [R.plen, ← R.kinds]; exact hi
      refine ite2 (fun hb => ?_) (fun hb => ?_)
      · refine ⟨_, rfl, _, rfl, p, C, dx, _, _, rfl, g.ins, T.cl, T.nPrey, gf_prey _ _ _ _ _, _, rfl, pa, _, _, _, rfl, rfl, SqL.of g.prey, vn_at hl, _, _, rfl, rfl, ?_⟩
        refine ⟨_, rfl, p, C, dx, _, _, rfl, g.ins, T.cl, T.nPrey, gf_prey _ _ _ _ _, _, rfl, pa, _, _, _, rfl, rfl, SqL.of g.prey, vn_at hl, _, rfl, _, _, rfl, rfl, rfl, _, rfl, ?_⟩
        have eE : Builtin.bitOr ((GM.eatenTo n.prey x i : Nat) : Int) ((n.prey.getD i 0 : Nat) : Int) = ((GM.eatenTo n.prey x (i + 1) : Nat) : Int) := by
          rw [GM.bor]
          show _ = (((if x.testBit i = true then _ else _) : Nat) : Int)
          rw [if_pos hb]
        have eT : (!decide (V.int (Builtin.bitAnd ((n.prey.getD i 0 : Nat) : Int) (x : Int)) = V.int 0)) = !decide (n.prey.getD i 0 &&& x = 0) := by
          rw [zero_val]
        dsimp only
        rw [eE, eT]
        refine ite2 (fun hc => ?_) (fun hc => ?_)
        · have hc' : n.prey.getD i 0 &&& x ≠ 0 := by simpa using hc
          refine ⟨_, rfl, _, rfl, _, _, rfl, rfl, shl_ok (by omega), _, _, rfl, rfl, ?_⟩
          have eF : Builtin.bitOr ((GM.fedTo n.pests n.prey x i : Nat) : Int) ((1 : Int) * 2 ^ ((i : Int)).toNat) = ((GM.fedTo n.pests n.prey x (i + 1) : Nat) : Int) := by
            rw [GM.shl_int, GM.bor]
            show _ = (((if x.testBit i = true then (if n.prey.getD i 0 &&& x ≠ 0 then _ else _) else _) : Nat) : Int)
            rw [if_pos hb, if_pos hc']
          dsimp only
          rw [eF]
          exact ⟨rfl, _, rfl⟩
        · have hc' : ¬ n.prey.getD i 0 &&& x ≠ 0 := by simpa using hc
          have eF : GM.fedTo n.pests n.prey x (i + 1) = GM.fedTo n.pests n.prey x i := by
            show (if x.testBit i = true then (if n.prey.getD i 0 &&& x ≠ 0 then _ else _) else _) = _
            rw [if_pos hb, if_neg hc']
          exact ⟨rfl, _, by rw [eF]; rfl⟩
      · have eE : GM.eatenTo n.prey x (i + 1) = GM.eatenTo n.prey x i := by
          show (if x.testBit i = true then _ else _) = _
          rw [if_neg hb]
        have eF : GM.fedTo n.pests n.prey x (i + 1) = GM.fedTo n.pests n.prey x i := by
          show (if x.testBit i = true then _ else _) = _
          rw [if_neg hb]
        exact ⟨rfl, _, by rw [eE, eF]; rfl⟩
    · rintro σ H' ⟨rfl, v4, rfl⟩
      refine ⟨_, rfl, _, rfl, _, _, rfl, rfl, _, rfl, _, rfl, _, _, rfl, rfl, ?_⟩
      have e := GM.weekN_eq R hx
      dsimp only
      rw [GM.band, GM.bandnot]
      have e2 : ((x &&& GM.fedTo n.pests n.prey x n.kinds) - (x &&& GM.fedTo n.pests n.prey x n.kinds &&& GM.eatenTo n.prey x n.kinds)) = h.week x := e
      rw [e2]
      exact q
/-! ### renew -/
theorem scN : FnScope ["self", "kinds", "pests", "kind"] ["self", "kinds", "pests"] (defScope sRenew) := ⟨rfl, rfl, rfl, by decide +kernel, rfl, by decide +kernel, by decide +kernel⟩
/-- the five stores give all fields, whether they were there or not -/
theorem five {fs : List (Str × V)} (hf : fs = [] ∨ ∃ k p pa t ca, fs = gf k p pa t ca) (k q : Int) (pa ca : Addr) :
    putF "costs" (.ref ca) (putF "told" (.int 0) (putF "prey" (.ref pa) (putF "pests" (.int q) (putF "kinds" (.int k) fs)))) = gf k q pa 0 ca := by
  rcases hf with rfl | ⟨k', p', pa', t', ca', rfl⟩
  · rw [putF_new (f := "kinds") (by decide +kernel), putF_new (f := "pests") (by show ("pests" : Str) ∉ (["kinds"] : List Str); decide +kernel), putF_new (f := "prey") (by show ("prey" : Str) ∉ (["kinds", "pests"] : List Str); decide +kernel),
      putF_new (f := "told") (by show ("told" : Str) ∉ (["kinds", "pests", "prey"] : List Str); decide +kernel), putF_new (f := "costs") (by show ("costs" : Str) ∉ (["kinds", "pests", "prey", "told"] : List Str); decide +kernel)]
    rfl
  · rw [put_kinds, put_pests, put_prey, put_told, put_costs]
theorem ok_renew {f C : Addr} {fd : FuncData} (F : Fun K "renew" "Glasshouse.renew" sRenew f fd) (T : Txt K mg C) : FnOk P w K mg base CX0 1 f fd ["self", "kinds", "pests"] (spRenew C) := by
  refine F.ok scN (fun vs H Q E h => ?_) (fun cdv A outer s H vs Q E hr h => ?_)
  · obtain ⟨p, dx, k, q, fs, rfl, _⟩ := h
    rfl
  · obtain ⟨p, dx, k, q, fs, rfl, hk, hp, hf, z⟩ := h
    have l0 : fs.length ≤ 5 := by
      rcases hf with rfl | ⟨_, _, _, _, _, rfl⟩
      · exact Nat.zero_le _
      · exact Nat.le_refl 5
    refine ⟨_, pss_cons (ps_fld (pv 0) (pv 1) rfl) (pss_cons (ps_fld (pv 0) (pv 2) rfl)
      (pss_cons (ps_fld (pv 0) (pe_lc (own := [("kind", 3)]) rfl scN.nd (pi_range1 rfl T.range (pa_cons (pv 1) pa_nil)) (blkOk_by (by show blkC ["self", "kinds", "pests", "kind"] (defScope sRenew) _ _ = true; decide +kernel)) (fun _ _ _ _ _ => pg_name (i := 3) scN.nd rfl (Or.inl rfl)) (fun _ _ _ _ _ => pts_nil) (fun _ _ _ _ _ => pe_int)) rfl)
      (pss_cons (ps_fld (pv 0) pe_int rfl)
      (pss_one (ps_fld (pv 0) (pe_lc (own := [("kind", 3)]) rfl scN.nd (pi_range1 rfl T.range (pa_cons (pv 1) pa_nil)) (blkOk_by (by show blkC ["self", "kinds", "pests", "kind"] (defScope sRenew) _ _ = true; decide +kernel)) (fun _ _ _ _ _ => pg_name (i := 3) scN.nd rfl (Or.inl rfl)) (fun _ _ _ _ _ => pts_nil) (fun _ _ _ _ _ => pe_int)) rfl))))), ?_⟩
    have l1 := length_putF "kinds" (vn k) fs
    have l2 := length_putF "pests" (vn q) (putF "kinds" (vn k) fs)
    refine ⟨_, rfl, _, rfl, p, C, dx, fs, rfl, hp, T.cl, T.nKinds, by omega, ?_⟩
    refine ⟨_, rfl, _, rfl, p, C, dx, _, rfl, upd_same, T.cl, T.nPests, by omega, ?_⟩
    rw [upd_upd]
    -- prey
    refine ⟨_, rfl, (k : Int), rfl, by omega, by omega, fun D1 hD1 => ?_⟩
    have fr1 : H D1 = none := by
      by_cases e : D1 = p
      · rw [e, upd_same] at hD1
        cases hD1
      · rw [upd_ne e] at hD1
        exact hD1
    have n1 : p ≠ D1 := ne_of_none upd_same hD1
    rw [Int.toNat_natCast]
    refine lc_range (n := k) (fun i H' => H' = upd (upd H p (.ins C dx (putF "pests" (vn q) (putF "kinds" (vn k) fs)))) D1 (.lst ((List.replicate i 0).map vn))) rfl ?_ ?_
    · rintro i H' hi rfl
      refine ⟨rfl, _, upd_same, ?_, ?_⟩
      · rw [List.length_map, List.length_replicate]
        exact small1000 (by omega)
      · rw [upd_upd, List.replicate_succ', List.map_append]
        rfl
    rintro H2 rfl
    have l3 := length_putF "prey" (.ref D1) (putF "pests" (vn q) (putF "kinds" (vn k) fs))
    have l4 := length_putF "told" (.int 0) (putF "prey" (.ref D1) (putF "pests" (vn q) (putF "kinds" (vn k) fs)))
    refine ⟨_, rfl, p, C, dx, _, rfl, by rw [upd_ne n1]; exact upd_same, T.cl, T.nPrey, by omega, ?_⟩
    refine ⟨_, rfl, p, C, dx, _, rfl, upd_same, T.cl, T.nTold, by omega, ?_⟩
    rw [upd_upd]
    -- costs
    refine ⟨_, rfl, (k : Int), rfl, by omega, by omega, fun D2 hD2 => ?_⟩
    have n2 : p ≠ D2 := ne_of_none upd_same hD2
    have n12 : D1 ≠ D2 := by
      refine ne_of_none (o := .lst ((List.replicate k 0).map vn)) ?_ hD2
      rw [upd_ne n1.symm]
      exact upd_same
    have fr2 : H D2 = none := by
      rw [upd_ne n2.symm, upd_ne n12.symm, upd_ne n2.symm] at hD2
      exact hD2
    rw [Int.toNat_natCast]
    refine lc_range (n := k) (fun i H' => H' = upd (upd (upd (upd H p (.ins C dx (putF "pests" (vn q) (putF "kinds" (vn k) fs)))) D1 (.lst ((List.replicate k 0).map vn))) p (.ins C dx (putF "told" (.int 0) (putF "prey" (.ref D1) (putF "pests" (vn q) (putF "kinds" (vn k) fs)))))) D2 (.lst ((List.replicate i 0).map vn))) rfl ?_ ?_
    · rintro i H' hi rfl
      refine ⟨rfl, _, upd_same, ?_, ?_⟩
      · rw [List.length_map, List.length_replicate]
        exact small1000 (by omega)
      · rw [upd_upd, List.replicate_succ', List.map_append]
        rfl
    rintro H3 rfl
    refine ⟨_, rfl, p, C, dx, _, rfl, by rw [upd_ne n2]; exact upd_same, T.cl, T.nCosts, by omega, ?_⟩
    have e5 := five hf (k : Int) (q : Int) D1 D2
    refine z _ D1 D2 ⟨?_, ?_, ?_, n12⟩ fr1 fr2 fun b o e hb => ?_
    · rw [upd_same]
      exact congrArg (fun u => some (HO.ins C dx u)) e5
    · rw [upd_ne n1.symm, upd_ne n12, upd_ne n1.symm]
      exact upd_same
    · rw [upd_ne n2.symm]
      exact upd_same
    · rw [upd_ne hb, upd_ne (ne_of_none e fr2), upd_ne hb, upd_ne (ne_of_none e fr1), upd_ne hb]
      exact e
/-! ### __init__ -/
theorem scI : FnScope ["self"] ["self"] (defScope sInit) := ⟨rfl, rfl, rfl, by decide +kernel, rfl, by decide +kernel, by decide +kernel⟩
theorem ok_init {f C fR : Addr} {fd fdR : FuncData} (F : Fun K "__init__" "Glasshouse.__init__" sInit f fd) (T : Txt K mg C) (FR : Fun K "renew" "Glasshouse.renew" sRenew fR fdR) (bR : Binds K fdR ["self", "kinds", "pests"] []) (mR : Meth K C "renew" fR) :
    FnOk P w K mg base CX0 2 f fd ["self"] (spInit C) := by
  have GR : FnOk P w K mg base CX0 1 fR fdR ["self", "kinds", "pests"] (spRenew C) := ok_renew FR T
  refine F.ok scI (fun vs H Q E h => ?_) (fun cdv A outer s H vs Q E hr h => ?_)
  · obtain ⟨p, dx, rfl, _⟩ := h
    rfl
  · obtain ⟨p, dx, rfl, hp, z⟩ := h
    refine ⟨_, pss_one (ps_expr (pe_meth (pv 0) T.cl mR GR hr bR .nil pass0 (pa_cons pe_int (pa_cons pe_int pa_nil)))), ?_⟩
    refine ⟨_, rfl, p, dx, [], rfl, hp, rfl, p, dx, 1, 0, [], rfl, by decide, hp, .inl rfl, fun H' pa ca g f1 f2 kp => ?_⟩
    exact z H' pa ca g f1 f2 kp
end
end G
set_option Elab.async false
set_option maxRecDepth 100000
set_option maxHeartbeats 2000000
namespace G
open PySem PySem.Spec PyProof.Rows L2
/-! ### the end of a call that changes nothing -/
abbrev Cont (C : Addr) (H : Hp) (p dx pa ca : Addr) (h : Si67.House) (c : Si67.Call) (Q : VK) : Prop :=
  ∀ (H' : Hp) (l pa' ca' : Addr) (n' : GM.Nums), GA C H' p dx pa' ca' n' → GM.Rel (Si67.step h c).1 n' → H' l = some (.lst ((GM.ans h c).map V.int)) → H l = none → (pa' = pa ∨ H pa' = none) → (ca' = ca ∨ H ca' = none) → Kept H H' p pa ca → Q (.ref l) H'
theorem done_same {C : Addr} {H H' : Hp} {p dx pa ca l : Addr} {n : GM.Nums} {h : Si67.House} {c : Si67.Call} {Q : VK} {xs : List Int} (z : Cont C H p dx pa ca h c Q) (g : GA C H p dx pa ca n) (R : GM.Rel h n) (a : (Si67.step h c).1 = h ∧ GM.ans h c = xs)
    (e : Same H H') (hl : H l = none) (hx : H' l = some (.lst (xs.map V.int))) : Q (.ref l) H' :=
  z H' l pa ca n (g.same e) (by rw [a.1]; exact R) (by rw [a.2]; exact hx) hl (.inl rfl) (.inl rfl) (Same.kept e p pa ca)
theorem done_new {C : Addr} {H : Hp} {p dx pa ca l : Addr} {n : GM.Nums} {h : Si67.House} {c : Si67.Call} {Q : VK} {xs : List Int} (z : Cont C H p dx pa ca h c Q) (g : GA C H p dx pa ca n) (R : GM.Rel h n) (a : (Si67.step h c).1 = h ∧ GM.ans h c = xs)
    (hl : H l = none) : Q (.ref l) (upd H l (.lst (xs.map V.int))) := done_same z g R a (same_new hl) hl upd_same
theorem le_line {n : Nat} (h : n ≤ 1000) : n ≤ sizeLine := Nat.le_of_lt (small1000 h)
theorem le1 (x : V) : ([x] : List V).length ≤ sizeLine := le_line (by show 1 ≤ 1000; decide)
section
variable {P : Program} {w : World} {K : PySem.W.Frag} {mg : Str → Option Value} {base : Heap}
/-! ### begins -/
theorem scB : FnScope ["self", "kinds", "pests"] ["self", "kinds", "pests"] (defScope sBegins) := ⟨rfl, rfl, rfl, by decide +kernel, rfl, by decide +kernel, by decide +kernel⟩
theorem ok_begins {f C fR : Addr} {fd fdR : FuncData} (F : Fun K "begins" "Glasshouse.begins" sBegins f fd) (T : Txt K mg C) (FR : Fun K "renew" "Glasshouse.renew" sRenew fR fdR) (bR : Binds K fdR ["self", "kinds", "pests"] []) (mR : Meth K C "renew" fR) :
    FnOk P w K mg base CX0 2 f fd ["self", "kinds", "pests"] (spCall C aBegins) := by
  have GR : FnOk P w K mg base CX0 1 fR fdR ["self", "kinds", "pests"] (spRenew C) := ok_renew FR T
  obtain ⟨t6, hm6⟩ := T.mKinds
  obtain ⟨tb, hmb⟩ := T.bad
  refine F.ok scB (fun vs H Q E h => ?_) (fun cdv A outer s H vs Q E hr h => ?_)
  · obtain ⟨p, dx, pa, ca, n, h, c, as, rfl, ⟨k, q, rfl, rfl⟩, _⟩ := h
    rfl
  · obtain ⟨p, dx, pa, ca, n, h, c, as, rfl, ⟨k, q, rfl, rfl⟩, g, R, z⟩ := h
    refine ⟨_, pss_cons (ps_if (PW.pt (pw_or (pt_cmpR op_eq (pv 1) pe_int (nomark _)) (pw_or (pt_cmpR op_gt (pv 1) (pe_glob (v := .int 6) rfl hm6 ⟨_, rfl⟩) (nomark _)) (pw_or1 (pt_cmpR op_ge (pv 2) (pe_op op_shl pe_int (pv 1)) (nomark _))))))
        (pss_one (ps_ret (pe_lst (pa_cons (pe_glob (v := .int (-1)) rfl hmb ⟨_, rfl⟩) pa_nil)))) pss_nil)
      (pss_cons (ps_expr (pe_meth (pv 0) T.cl mR GR hr bR .nil pass0 (pa_cons (pv 1) (pa_cons (pv 2) pa_nil))))
      (pss_one (ps_ret (pe_lst (pa_cons pe_int pa_nil))))), ?_⟩
    have no : (k < 1 ∨ Si67.KINDS < k ∨ 2 ^ k ≤ q) → tRet (tLst (tCons (tC (.int (-1))) tNil)) { nx := fun _ H' => Q .non H', rt := Q } (start ["self", "kinds", "pests"] [.ref p, vn k, vn q]) H := fun e =>
      ⟨le_line (by decide), fun l hl => done_new z g R (GM.ans_begins_no e) hl⟩
    refine ⟨_, rfl, rfl, _, rfl, ite2 (fun h0 => ?_) (fun h0 => ?_)⟩
    · have e : k = 0 := by
        have := of_decide_eq_true h0
        injection this with e
        omega
      exact iteT (no (.inl (by omega)))
    have k0 : k ≠ 0 := fun e => h0 (decide_eq_true (by rw [e]; rfl))
    refine ⟨_, rfl, _, _, rfl, rfl, _, rfl, ite2 (fun h1 => ?_) (fun h1 => ?_)⟩
    · have e : (6 : Int) < (k : Int) := of_decide_eq_true h1
      exact iteT (no (.inr (.inl (by show 6 < k; omega))))
    have k6 : k ≤ 6 := by
      have e : ¬ (6 : Int) < (k : Int) := fun q => h1 (decide_eq_true q)
      omega
    refine ⟨_, rfl, _, rfl, _, _, rfl, rfl, shl_ok k6, _, _, rfl, rfl, _, rfl, ite2 (fun h2 => ?_) (fun h2 => ?_)⟩
    · have e : (1 : Int) * 2 ^ ((k : Int)).toNat ≤ (q : Int) := of_decide_eq_true h2
      rw [GM.shl_int] at e
      exact no (.inr (.inr (by omega)))
    have lt : q < 2 ^ k := by
      have e : ¬ (1 : Int) * 2 ^ ((k : Int)).toNat ≤ (q : Int) := fun q => h2 (decide_eq_true q)
      rw [GM.shl_int] at e
      omega
    have yes : ¬ (k < 1 ∨ Si67.KINDS < k ∨ 2 ^ k ≤ q) := by
      show ¬ (k < 1 ∨ 6 < k ∨ 2 ^ k ≤ q)
      omega
    refine ⟨_, rfl, p, dx, _, rfl, g.ins, gf_no _ _ _ _ _ (by decide +kernel), _, rfl, _, rfl, p, dx, k, q, _, rfl, k6, g.ins, .inr ⟨_, _, _, _, _, rfl⟩, fun H' pa' ca' g' n1 n2 kp => ?_⟩
    refine ⟨le_line (by decide), fun l hl => ?_⟩
    have a := GM.ans_begins (h := h) yes
    have sm : ∀ b o, H b = some o → b ≠ p → (upd H' l (.lst [.int 0])) b = some o := fun b o e hb => same_new hl _ _ (kp b o e hb)
    have hlH : H l = none := by
      cases e : H l with
      | none => rfl
      | some o =>
        by_cases hb : l = p
        · rw [hb, g'.ins] at hl
          cases hl
        · rw [kp l o e hb] at hl
          cases hl
    refine z _ l pa' ca' _ (g'.same (same_new hl)) ?_ ?_ hlH (.inr n1) (.inr n2) fun b o e hb _ _ => sm b o e hb
    · rw [a.1]
      exact GM.rel_begins (by omega) k6 lt
    · rw [a.2]
      exact upd_same
/-! ### eats -/
theorem scE : FnScope ["self", "kind", "other"] ["self", "kind", "other"] (defScope sEats) := ⟨rfl, rfl, rfl, by decide +kernel, rfl, by decide +kernel, by decide +kernel⟩
theorem ok_eats {f C fH : Addr} {fd fdH : FuncData} (F : Fun K "eats" "Glasshouse.eats" sEats f fd) (T : Txt K mg C) (FH : Fun K "holds" "holds" sHolds fH fdH) (bH : Binds K fdH ["group", "kind"] []) (mH : mg "holds" = some (.ref fH)) :
    FnOk P w K mg base CX0 2 f fd ["self", "kind", "other"] (spCall C aEats) := by
  have GH : FnOk P w K mg base CX0 1 fH fdH ["group", "kind"] spHolds := ok_holds FH
  obtain ⟨tt, hmt⟩ := T.there
  obtain ⟨ta, hma⟩ := T.allowed
  refine F.ok scE (fun vs H Q E h => ?_) (fun cdv A outer s H vs Q E hr h => ?_)
  · obtain ⟨p, dx, pa, ca, n, h, c, as, rfl, ⟨a, b, rfl, rfl⟩, _⟩ := h
    rfl
  · obtain ⟨p, dx, pa, ca, n, h, c, as, rfl, ⟨a, b, rfl, rfl⟩, g, R, z⟩ := h
    have ek := R.kinds
    refine ⟨_, pss_cons (ps_if (PW.pt (pw_or (pt_cmpR op_ge (pv 1) (pe_fld (pv 0) rfl) (nomark _)) (pw_or1 (pt_cmpR op_ge (pv 2) (pe_fld (pv 0) rfl) (nomark _)))))
        (pss_one (ps_ret (pe_lst (pa_cons (pe_glob (v := .int (-2)) rfl hmt ⟨_, rfl⟩) pa_nil)))) pss_nil)
      (pss_cons (ps_if (PW.pt (pw_or (pt_cmpR op_eq (pv 1) (pv 2) (nomark _)) (pw_or1 (pt_val (pe_call GH hr rfl mH FH.kp bH .nil pass0 (pa_cons (pe_ix ix_list (pe_fld (pv 0) rfl) (pv 1) (fun _ _ => rfl)) (pa_cons (pv 2) pa_nil)))))))
        (pss_one (ps_ret (pe_lst (pa_cons (pe_glob (v := .int (-4)) rfl hma ⟨_, rfl⟩) pa_nil)))) pss_nil)
      (pss_cons (ps_asg (pe_op op_or (pe_ix ix_list (pe_fld (pv 0) rfl) (pv 1) (fun _ _ => rfl)) (pe_op op_shl pe_int (pv 2))) (pg_sub (pe_fld (pv 0) rfl) (pv 1) set_list))
      (pss_cons (ps_fld (pv 0) (pe_op op_add (pe_fld (pv 0) rfl) pe_int) rfl)
      (pss_one (ps_ret (pe_lst (pa_cons (pe_fld (pv 0) rfl) pa_nil))))))), ?_⟩
    have no : (h.kinds ≤ a ∨ h.kinds ≤ b) → tRet (tLst (tCons (tC (.int (-2))) tNil)) { nx := fun _ H' => Q .non H', rt := Q } (start ["self", "kind", "other"] [.ref p, vn a, vn b]) H := fun e =>
      ⟨le_line (by decide), fun l hl => done_new z g R (GM.ans_eats_1 e) hl⟩
    refine ⟨_, rfl, _, rfl, p, C, dx, _, _, rfl, g.ins, T.cl, T.nKinds, gf_kinds _ _ _ _ _, _, _, rfl, rfl, _, rfl, ite2 (fun h0 => ?_) (fun h0 => ?_)⟩
    · have e : (n.kinds : Int) ≤ (a : Int) := of_decide_eq_true h0
      exact iteT (no (.inl (by omega)))
    have la : a < h.kinds := by
      have e : ¬ (n.kinds : Int) ≤ (a : Int) := fun q => h0 (decide_eq_true q)
      omega
    refine ⟨_, rfl, _, rfl, p, C, dx, _, _, rfl, g.ins, T.cl, T.nKinds, gf_kinds _ _ _ _ _, _, _, rfl, rfl, _, rfl, ite2 (fun h1 => ?_) (fun h1 => ?_)⟩
    · have e : (n.kinds : Int) ≤ (b : Int) := of_decide_eq_true h1
      exact no (.inr (by omega))
    have lb : b < h.kinds := by
      have e : ¬ (n.kinds : Int) ≤ (b : Int) := fun q => h1 (decide_eq_true q)
      omega
    have e1 : ¬ (h.kinds ≤ a ∨ h.kinds ≤ b) := by omega
    have lp : a < n.prey.length := by rw [R.plen]; exact la
    have no2 : (a = b ∨ h.preys a b = true) → tRet (tLst (tCons (tC (.int (-4))) tNil)) { nx := fun _ H' => Q .non H', rt := Q } (start ["self", "kind", "other"] [.ref p, vn a, vn b]) H := fun e =>
      ⟨le_line (by decide), fun l hl => done_new z g R (GM.ans_eats_2 e1 e) hl⟩
    refine ⟨_, rfl, _, rfl, rfl, _, rfl, ite2 (fun h2 => ?_) (fun h2 => ?_)⟩
    · have e : a = b := by
        have := of_decide_eq_true h2
        injection this with e
        omega
      exact iteT (no2 (.inl e))
    have nab : a ≠ b := fun e => h2 (decide_eq_true (by rw [e]))
    refine ⟨_, rfl, p, C, dx, _, _, rfl, g.ins, T.cl, T.nPrey, gf_prey _ _ _ _ _, _, rfl, pa, _, _, _, rfl, rfl, SqL.of g.prey, vn_at lp, _, rfl, n.prey.getD a 0, b, rfl, _, rfl, ite2 (fun h3 => ?_) (fun h3 => ?_)⟩
    · rw [R.prey a b la] at h3
      exact no2 (.inr h3)
    have e2 : ¬ (a = b ∨ h.preys a b = true) := by
      rw [R.prey a b la] at h3
      rintro (q | q)
      · exact nab q
      · exact h3 q
    -- self.prey[kind] = self.prey[kind] | 1 << other
    refine ⟨_, rfl, p, C, dx, _, _, rfl, g.ins, T.cl, T.nPrey, gf_prey _ _ _ _ _, _, rfl, pa, _, _, _, rfl, rfl, SqL.of g.prey, vn_at lp, _, rfl, _, _, rfl, rfl, shl_ok (by have := R.k6; omega), _, _, rfl, rfl, ?_⟩
    refine ⟨_, rfl, p, C, dx, _, _, rfl, g.ins, T.cl, T.nPrey, gf_prey _ _ _ _ _, _, rfl, pa, _, _, a, rfl, rfl, g.prey, vn_ix lp, ?_⟩
    dsimp only
    rw [GM.shl_int, GM.bor]
    have npa : p ≠ pa := ne_of g.ins g.prey (by intro q; cases q)
    have nca : p ≠ ca := ne_of g.ins g.costs (by intro q; cases q)
    have hp1 : (upd H pa (.lst ((n.prey.map vn).set a (.int ((n.prey.getD a 0 ||| 2 ^ b : Nat) : Int))))) p = some (.ins C dx (gf n.kinds n.pests pa n.told ca)) := by
      rw [upd_ne npa]
      exact g.ins
    -- self.told = self.told + 1
    refine ⟨_, rfl, p, C, dx, _, _, rfl, hp1, T.cl, T.nTold, gf_told _ _ _ _ _, _, _, rfl, rfl, _, rfl, p, C, dx, _, rfl, hp1, T.cl, T.nTold, (by show 5 < 1000; decide), ?_⟩
    rw [put_told]
    refine ⟨_, rfl, p, C, dx, _, _, rfl, upd_same, T.cl, T.nTold, gf_told _ _ _ _ _, le1 _, fun l hl => ?_⟩
    have a3 := GM.ans_eats (h := h) e1 e2
    generalize hH1 : upd (upd H pa (.lst ((n.prey.map vn).set a (.int ((n.prey.getD a 0 ||| 2 ^ b : Nat) : Int))))) p (.ins C dx (gf n.kinds n.pests pa ((n.told : Int) + 1) ca)) = H1 at hl ⊢
    have g1 : GA C H1 p dx pa ca { n with prey := n.prey.set a (n.prey.getD a 0 ||| 2 ^ b), told := n.told + 1 } := by
      subst hH1
      refine ⟨?_, ?_, ?_, g.ne⟩
      · rw [upd_same]
        rfl
      · rw [upd_ne npa.symm, upd_same, ← vn_set]
        rfl
      · rw [upd_ne nca.symm, upd_ne g.ne.symm]
        exact g.costs
    have kp : ∀ b o, H b = some o → b ≠ p → b ≠ pa → H1 b = some o := fun b o e h1 h2 => by
      subst hH1
      rw [upd_ne h1, upd_ne h2]
      exact e
    have hlH : H l = none := by
      cases e : H l with
      | none => rfl
      | some o =>
        by_cases hb : l = p
        · rw [hb, g1.ins] at hl
          cases hl
        · by_cases hb2 : l = pa
          · rw [hb2, g1.prey] at hl
            cases hl
          · rw [kp l o e hb hb2] at hl
            cases hl
    refine z _ l pa ca _ (g1.same (same_new hl)) ?_ ?_ hlH (.inl rfl) (.inl rfl) fun b o e h1 h2 _ => same_new hl _ _ (kp b o e h1 h2)
    · rw [a3.1]
      exact GM.rel_eats R la lb
    · rw [a3.2, upd_same, R.told]
      rfl
/-! ### cost -/
theorem scC : FnScope ["self", "helper", "price"] ["self", "helper", "price"] (defScope sCost) := ⟨rfl, rfl, rfl, by decide +kernel, rfl, by decide +kernel, by decide +kernel⟩
theorem ok_cost {f C fH : Addr} {fd fdH : FuncData} (F : Fun K "cost" "Glasshouse.cost" sCost f fd) (T : Txt K mg C) (FH : Fun K "holds" "holds" sHolds fH fdH) (bH : Binds K fdH ["group", "kind"] []) (mH : mg "holds" = some (.ref fH)) :
    FnOk P w K mg base CX0 2 f fd ["self", "helper", "price"] (spCall C aCost) := by
  have GH : FnOk P w K mg base CX0 1 fH fdH ["group", "kind"] spHolds := ok_holds FH
  obtain ⟨tt, hmt⟩ := T.there
  obtain ⟨ta, hma⟩ := T.allowed
  obtain ⟨tb, hmb⟩ := T.bad
  obtain ⟨tc, hmc⟩ := T.mCost
  refine F.ok scC (fun vs H Q E h => ?_) (fun cdv A outer s H vs Q E hr h => ?_)
  · obtain ⟨p, dx, pa, ca, n, h, c, as, rfl, ⟨a, b, rfl, rfl⟩, _⟩ := h
    rfl
  · obtain ⟨p, dx, pa, ca, n, h, c, as, rfl, ⟨a, b, rfl, rfl⟩, g, R, z⟩ := h
    have ek := R.kinds
    refine ⟨_, pss_cons (ps_if (pt_cmpR op_ge (pv 1) (pe_fld (pv 0) rfl) (nomark _)) (pss_one (ps_ret (pe_lst (pa_cons (pe_glob (v := .int (-2)) rfl hmt ⟨_, rfl⟩) pa_nil)))) pss_nil)
      (pss_cons (ps_if (pt_cmpR op_gt (pv 2) (pe_glob (v := .int 1000) rfl hmc ⟨_, rfl⟩) (nomark _)) (pss_one (ps_ret (pe_lst (pa_cons (pe_glob (v := .int (-1)) rfl hmb ⟨_, rfl⟩) pa_nil)))) pss_nil)
      (pss_cons (ps_if (pt_val (pe_call GH hr rfl mH FH.kp bH .nil pass0 (pa_cons (pe_fld (pv 0) rfl) (pa_cons (pv 1) pa_nil)))) (pss_one (ps_ret (pe_lst (pa_cons (pe_glob (v := .int (-4)) rfl hma ⟨_, rfl⟩) pa_nil)))) pss_nil)
      (pss_cons (ps_asg (pv 2) (pg_sub (pe_fld (pv 0) rfl) (pv 1) set_list))
      (pss_one (ps_ret (pe_lst (pa_cons pe_int pa_nil))))))), ?_⟩
    refine ⟨_, rfl, _, rfl, p, C, dx, _, _, rfl, g.ins, T.cl, T.nKinds, gf_kinds _ _ _ _ _, _, _, rfl, rfl, _, rfl, ite2 (fun h0 => ?_) (fun h0 => ?_)⟩
    · have e : (n.kinds : Int) ≤ (a : Int) := of_decide_eq_true h0
      exact ⟨le_line (by decide), fun l hl => done_new z g R (GM.ans_cost_1 (by omega)) hl⟩
    have la : a < h.kinds := by
      have e : ¬ (n.kinds : Int) ≤ (a : Int) := fun q => h0 (decide_eq_true q)
      omega
    have e1 : ¬ h.kinds ≤ a := by omega
    refine ⟨_, rfl, _, _, rfl, rfl, _, rfl, ite2 (fun h1 => ?_) (fun h1 => ?_)⟩
    · have e : (1000 : Int) < (b : Int) := of_decide_eq_true h1
      exact ⟨le_line (by decide), fun l hl => done_new z g R (GM.ans_cost_2 e1 (by show 1000 < b; omega)) hl⟩
    have lb : b ≤ 1000 := by
      have e : ¬ (1000 : Int) < (b : Int) := fun q => h1 (decide_eq_true q)
      omega
    have e2 : ¬ Si67.COST < b := by show ¬ 1000 < b; omega
    refine ⟨_, rfl, p, C, dx, _, _, rfl, g.ins, T.cl, T.nPests, gf_pests _ _ _ _ _, _, rfl, n.pests, a, rfl, _, rfl, ite2 (fun h2 => ?_) (fun h2 => ?_)⟩
    · rw [R.pests] at h2
      exact ⟨le_line (by decide), fun l hl => done_new z g R (GM.ans_cost_3 e1 e2 h2) hl⟩
    have e3 : ¬ Si67.has h.pests a = true := by rw [R.pests] at h2; exact h2
    have lc : a < n.costs.length := by rw [R.costs, R.clen]; exact la
    refine ⟨_, rfl, _, rfl, p, C, dx, _, _, rfl, g.ins, T.cl, T.nCosts, gf_costs _ _ _ _ _, _, rfl, ca, _, _, a, rfl, rfl, g.costs, vn_ix lc, ?_⟩
    refine ⟨le_line (by decide), fun l hl => ?_⟩
    have a3 := GM.ans_cost (h := h) e1 e2 e3
    have nca : p ≠ ca := ne_of g.ins g.costs (by intro q; cases q)
    generalize hH1 : upd H ca (.lst ((n.costs.map vn).set a (vn b))) = H1 at hl ⊢
    have g1 : GA C H1 p dx pa ca { n with costs := n.costs.set a b } := by
      subst hH1
      refine ⟨?_, ?_, ?_, g.ne⟩
      · rw [upd_ne nca]
        exact g.ins
      · rw [upd_ne g.ne]
        exact g.prey
      · rw [upd_same, ← vn_set]
    have kp : ∀ b o, H b = some o → b ≠ ca → H1 b = some o := fun b o e h1 => by
      subst hH1
      rw [upd_ne h1]
      exact e
    have hlH : H l = none := by
      cases e : H l with
      | none => rfl
      | some o =>
        by_cases hb : l = ca
        · rw [hb, g1.costs] at hl
          cases hl
        · rw [kp l o e hb] at hl
          cases hl
    refine z _ l pa ca _ (g1.same (same_new hl)) ?_ ?_ hlH (.inl rfl) (.inl rfl) fun b o e _ _ h3 => same_new hl _ _ (kp b o e h3)
    · rw [a3.1]
      exact GM.rel_cost R lb
    · rw [a3.2]
      exact upd_same
/-! ### weeks -/
theorem scS : FnScope ["self", "helpers", "there", "seen", "later"] ["self", "helpers"] (defScope sWeeks) := ⟨rfl, rfl, rfl, by decide +kernel, rfl, by decide +kernel, by decide +kernel⟩
/-- the number in a slot -/
def slot (i : Nat) (σ : L2.St) : Nat := match σ[i]? with
  | some (some (.int z)) => z.toNat
  | _ => 0
theorem ok_weeks {f C fW fH : Addr} {fd fdW fdH : FuncData} (F : Fun K "weeks" "Glasshouse.weeks" sWeeks f fd) (T : Txt K mg C) (FW : Fun K "after_week" "Glasshouse.after_week" sWeek fW fdW) (bW : Binds K fdW ["self", "there"] []) (mW : Meth K C "after_week" fW)
    (FH : Fun K "holds" "holds" sHolds fH fdH) (bH : Binds K fdH ["group", "kind"] []) (mH : mg "holds" = some (.ref fH)) :
    FnOk P w K mg base CX0 3 f fd ["self", "helpers"] (spCall C aWeeks) := by
  have GW : FnOk P w K mg base CX0 2 fW fdW ["self", "there"] (spWeek C) := ok_week FW T FH bH mH
  obtain ⟨ta, hma⟩ := T.allowed
  obtain ⟨tb, hmb⟩ := T.bad
  refine F.ok scS (fun vs H Q E h => ?_) (fun cdv A outer s H vs Q E hr h => ?_)
  · obtain ⟨p, dx, pa, ca, n, h, c, as, rfl, ⟨a, rfl, rfl⟩, _⟩ := h
    rfl
  · obtain ⟨p, dx, pa, ca, n, h, c, as, rfl, ⟨a, rfl, rfl⟩, g, R, z⟩ := h
    have ek := R.kinds
    refine ⟨_, pss_cons (ps_if (pt_cmpR op_ge (pv 1) (pe_op op_shl pe_int (pe_fld (pv 0) rfl)) (nomark _)) (pss_one (ps_ret (pe_lst (pa_cons (pe_glob (v := .int (-1)) rfl hmb ⟨_, rfl⟩) pa_nil)))) pss_nil)
      (pss_cons (ps_if (pt_cmpR op_ne (pe_op op_and (pv 1) (pe_fld (pv 0) rfl)) pe_int (nomark _)) (pss_one (ps_ret (pe_lst (pa_cons (pe_glob (v := .int (-4)) rfl hma ⟨_, rfl⟩) pa_nil)))) pss_nil)
      (pss_cons (ps_set (i := 2) scS.nd rfl (Or.inl rfl) (pe_op op_or (pv 1) (pe_fld (pv 0) rfl)))
      (pss_cons (ps_set (i := 3) scS.nd rfl (Or.inl rfl) (pe_lst (pa_cons (pv 2) pa_nil)))
      (pss_cons (ps_set (i := 4) scS.nd rfl (Or.inl rfl) (pe_meth (pv 0) T.cl mW GW hr bW .nil pass0 (pa_cons (pv 2) pa_nil)))
      (pss_cons (ps_while PassesOwn.never (pt_cmpR op_ne (pv 4) (pv 2) (nomark _))
        (pss_cons (ps_expr (pe_bm PySem.F.plainAttrs_list PySem.F.slot_list_append PySem.F.type_list_append mt_append (pv 3) (pa_cons (pv 4) pa_nil)))
        (pss_cons (ps_set (i := 2) scS.nd rfl (Or.inl rfl) (pv 4))
        (pss_one (ps_set (i := 4) scS.nd rfl (Or.inl rfl) (pe_meth (pv 0) T.cl mW GW hr bW .nil pass0 (pa_cons (pv 2) pa_nil)))))))
      (pss_one (ps_ret (pe_op op_cat (pe_lst (pa_cons (pe_op op_sub (pe_callB call_len_seq rfl T.len PySem.boot_len (pa_cons (pv 3) pa_nil)) pe_int) pa_nil)) (pv 3))))))))), ?_⟩
    refine ⟨_, rfl, _, rfl, p, C, dx, _, _, rfl, g.ins, T.cl, T.nKinds, gf_kinds _ _ _ _ _, _, _, rfl, rfl, shl_ok (by rw [ek]; exact R.k6), _, _, rfl, rfl, _, rfl, ite2 (fun h0 => ?_) (fun h0 => ?_)⟩
    · have e : (1 : Int) * 2 ^ ((n.kinds : Int)).toNat ≤ (a : Int) := of_decide_eq_true h0
      rw [GM.shl_int, ek] at e
      exact ⟨le_line (by decide), fun l hl => done_new z g R (GM.ans_weeks_1 (by omega)) hl⟩
    have e1 : ¬ 2 ^ h.kinds ≤ a := by
      have e : ¬ (1 : Int) * 2 ^ ((n.kinds : Int)).toNat ≤ (a : Int) := fun q => h0 (decide_eq_true q)
      rw [GM.shl_int, ek] at e
      omega
    refine ⟨_, rfl, _, rfl, p, C, dx, _, _, rfl, g.ins, T.cl, T.nPests, gf_pests _ _ _ _ _, _, _, rfl, rfl, rfl, _, rfl, ?_⟩
    rw [zeroN_val, R.pests]
    refine ite2 (fun h1 => ?_) (fun h1 => ?_)
    · have e2 : ¬ a &&& h.pests = 0 := fun q => by
        rw [decide_eq_true q] at h1
        cases h1
      exact ⟨le_line (by decide), fun l hl => done_new z g R (GM.ans_weeks_2 R.plt e1 e2) hl⟩
    have e2 : a &&& h.pests = 0 := by
      apply Classical.byContradiction
      intro q
      apply h1
      rw [decide_eq_false q]
      rfl
    have lt : a ||| h.pests < 2 ^ h.kinds := Nat.or_lt_two_pow (by omega) R.plt
    refine ⟨_, rfl, _, rfl, p, C, dx, _, _, rfl, g.ins, T.cl, T.nPests, gf_pests _ _ _ _ _, _, _, rfl, rfl, ?_⟩
    dsimp only
    rw [GM.bor, R.pests]
    refine ⟨_, rfl, le1 _, fun sl hsl => ?_⟩
    generalize hx : a ||| h.pests = x at lt ⊢
    have sm : ∀ xs : List V, Same H (upd H sl (.lst xs)) := fun xs => same_new hsl
    have g0 : ∀ xs : List V, GA C (upd H sl (.lst xs)) p dx pa ca n := fun xs => g.same (sm xs)
    refine ⟨_, rfl, p, dx, _, rfl, (g0 _).ins, gf_no _ _ _ _ _ (by decide +kernel), _, rfl, p, dx, pa, ca, n, h, x, rfl, g0 _, R, lt, ?_⟩
    refine while_by (fun σ H' => ∃ i : Nat, σ = [some (.ref p), some (vn a), some (vn (h.after i x)), some (.ref sl), some (vn (h.after (i + 1) x))] ∧ H' = upd H sl (.lst ((h.sets i x).map vn)) ∧ ∀ j, j < i → h.week (h.after j x) ≠ h.after j x)
      (fun σ _ => slot 2 σ) ⟨0, rfl, rfl, fun j hj => by omega⟩ ?_ (fun σ H Q Q' f ⟨u, eu, v, ev, sc, k, ek, q⟩ => ⟨u, eu, v, ev, sc, k, ek, f _ _ q⟩)
    rintro σ H' ⟨i, rfl, rfl, ch⟩
    refine ⟨_, rfl, _, rfl, rfl, _, rfl, ite2 (fun h2 => ?_) (fun h2 => ?_)⟩
    · have ne : h.week (h.after i x) ≠ h.after i x := fun q => by
        have : vn (h.after (i + 1) x) = vn (h.after i x) := by rw [GM.after_succ, q]
        rw [this] at h2
        simp at h2
      have ch' : ∀ j, j < i + 1 → h.week (h.after j x) ≠ h.after j x := fun j hj => by
        rcases Nat.lt_or_ge j i with q | q
        · exact ch j q
        · have : j = i := by omega
          rw [this]
          exact ne
      have le := GM.steps_le h lt ch'
      refine ⟨_, rfl, .inl ⟨rfl, _, SqL.of upd_same⟩, _, rfl, sl, _, _, rfl, rfl, upd_same, ?_, ?_⟩
      · rw [List.length_map, GM.sets_len]
        exact small1000 (by have := R.k6; omega)
      rw [upd_upd]
      refine ⟨_, rfl, ?_⟩
      refine ⟨_, rfl, p, dx, _, rfl, (g0 _).ins, gf_no _ _ _ _ _ (by decide +kernel), _, rfl, p, dx, pa, ca, n, h, h.after (i + 1) x, rfl, g0 _, R, GM.after_lt h lt _, ?_⟩
      refine ⟨⟨i + 1, ?_, ?_, ch'⟩, ?_⟩
      · rw [GM.after_succ h (i + 1) x]
        rfl
      · rw [GM.sets_succ, List.map_append]
        rfl
      · show (((h.after (i + 1) x : Nat) : Int)).toNat < (((h.after i x : Nat) : Int)).toNat
        rw [Int.toNat_natCast, Int.toNat_natCast, GM.after_succ]
        exact GM.week_less h ne
    · have fx : h.week (h.after i x) = h.after i x := by
        apply Classical.byContradiction
        intro q
        apply h2
        have : ¬ vn (h.after (i + 1) x) = vn (h.after i x) := fun r => by
          rw [GM.after_succ] at r
          unfold vn at r
          injection r with r
          omega
        rw [decide_eq_false this]
        rfl
      have le := GM.steps_le h lt ch
      have k6 := R.k6
      refine ⟨_, rfl, sl, _, rfl, .inl (SqL.of upd_same), _, _, rfl, rfl, le1 _, fun l1 hl1 => ?_⟩
      have n1 : sl ≠ l1 := ne_of_none upd_same hl1
      refine ⟨_, rfl, l1, sl, _, _, rfl, rfl, upd_same, by rw [upd_ne n1]; exact upd_same, ?_, fun l hl => ?_⟩
      · rw [List.length_map, GM.sets_len]
        exact le_line (by show 1 + (i + 1) ≤ 1000; omega)
      subst hx
      have a3 := GM.ans_weeks R.plt e1 e2 ch fx
      have s1 : Same H (upd (upd H sl (.lst ((h.sets i (a ||| h.pests)).map vn))) l1 (.lst [V.int (((h.sets i (a ||| h.pests)).map vn).length - 1)])) := Same.trans (sm _) (same_new hl1)
      refine done_same z g R a3 (Same.trans s1 (same_new hl)) (Same.free s1 hl) ?_
      rw [upd_same, vn_ints, List.length_map]
      have el : ((Si67.ints (h.sets i (a ||| h.pests))).length : Int) - 1 = (i : Int) := by
        unfold Si67.ints
        rw [List.length_map, GM.sets_len]
        omega
      dsimp only
      rw [el]
      rfl
end
end G
set_option Elab.async false
set_option maxRecDepth 100000
set_option maxHeartbeats 2000000
namespace G
open PySem PySem.Spec PyProof.Rows L2
section
variable {P : Program} {w : World} {K : PySem.W.Frag} {mg : Str → Option Value} {base : Heap}
/-! ### free_of_pests -/
theorem scF : FnScope ["self", "there"] ["self", "there"] (defScope sFree) := ⟨rfl, rfl, rfl, by decide +kernel, rfl, by decide +kernel, by decide +kernel⟩
theorem ok_free {f C : Addr} {fd : FuncData} (F : Fun K "free_of_pests" "Glasshouse.free_of_pests" sFree f fd) (T : Txt K mg C) : FnOk P w K mg base CX0 1 f fd ["self", "there"] (spFree C) := by
  refine F.ok scF (fun vs H Q E h => ?_) (fun cdv A outer s H vs Q E hr h => ?_)
  · obtain ⟨p, dx, pa, ca, n, x, rfl, _⟩ := h
    rfl
  · obtain ⟨p, dx, pa, ca, n, x, rfl, g, q⟩ := h
    refine ⟨_, pss_one (ps_ret (pe_cmpR op_eq (pe_op op_and (pv 1) (pe_fld (pv 0) rfl)) pe_int (nomark _))), ?_⟩
    refine ⟨_, rfl, _, rfl, p, C, dx, _, _, rfl, g.ins, T.cl, T.nPests, gf_pests _ _ _ _ _, _, _, rfl, rfl, rfl, ?_⟩
    rw [zero_val]
    exact q
/-! ### rids -/
theorem scR : FnScope ["self", "helpers", "there", "week"] ["self", "helpers"] (defScope sRids) := ⟨rfl, rfl, rfl, by decide +kernel, rfl, by decide +kernel, by decide +kernel⟩
theorem ok_rids {f C fW fF : Addr} {fd fdW fdF : FuncData} (F : Fun K "rids" "Glasshouse.rids" sRids f fd) (T : Txt K mg C)
    (GW : FnOk P w K mg base CX0 2 fW fdW ["self", "there"] (spWeek C)) (bW : Binds K fdW ["self", "there"] []) (mW : Meth K C "after_week" fW)
    (GF : FnOk P w K mg base CX0 2 fF fdF ["self", "there"] (spFree C)) (bF : Binds K fdF ["self", "there"] []) (mF : Meth K C "free_of_pests" fF) :
    FnOk P w K mg base CX0 3 f fd ["self", "helpers"] (spRids C) := by
  refine F.ok scR (fun vs H Q E h => ?_) (fun cdv A outer s H vs Q E hr h => ?_)
  · obtain ⟨p, dx, pa, ca, n, h, x, rfl, _⟩ := h
    rfl
  · obtain ⟨p, dx, pa, ca, n, h, x, rfl, g, R, hx, q⟩ := h
    have ek := R.kinds
    have ep := R.pests
    have k6 := R.k6
    have lt2 : x ||| h.pests < 2 ^ h.kinds := Nat.or_lt_two_pow hx R.plt
    refine ⟨_, pss_cons (ps_set (i := 2) scR.nd rfl (Or.inl rfl) (pe_op op_or (pv 1) (pe_fld (pv 0) rfl)))
      (pss_cons (ps_for PassesOwn.never rfl (pi_range1 rfl T.range (pa_cons (pe_fld (pv 0) rfl) pa_nil)) (pg_name (i := 3) scR.nd rfl (Or.inl rfl))
        (pss_one (ps_set (i := 2) scR.nd rfl (Or.inl rfl) (pe_meth (pv 0) T.cl mW GW hr bW .nil pass0 (pa_cons (pv 2) pa_nil)))))
      (pss_one (ps_ret (pe_meth (pv 0) T.cl mF GF hr bF .nil pass0 (pa_cons (pv 2) pa_nil))))), ?_⟩
    refine ⟨_, rfl, _, rfl, p, C, dx, _, _, rfl, g.ins, T.cl, T.nPests, gf_pests _ _ _ _ _, _, _, rfl, rfl, ?_⟩
    dsimp only
    rw [GM.bor]
    refine ⟨_, rfl, p, C, dx, _, _, rfl, g.ins, T.cl, T.nKinds, gf_kinds _ _ _ _ _, (n.kinds : Int), rfl, by omega, by omega, ?_⟩
    rw [Int.toNat_natCast]
    refine for_range (n := n.kinds) (fun i σ H' => H' = H ∧ ∃ v3 : Option V, σ = [some (.ref p), some (vn x), some (vn (h.after i (x ||| h.pests))), v3]) ⟨rfl, none, by rw [ep]; rfl⟩ ?_ ?_
    · rintro i σ H' hi ⟨rfl, v3, rfl⟩
      refine ⟨_, rfl, p, dx, _, rfl, g.ins, gf_no _ _ _ _ _ (by decide +kernel), _, rfl, p, dx, pa, ca, n, h, h.after i (x ||| h.pests), rfl, g, R, GM.after_lt h lt2 i, ?_⟩
      exact ⟨rfl, _, by rw [GM.after_succ]; rfl⟩
    · rintro σ H' ⟨rfl, v3, rfl⟩
      refine ⟨_, rfl, p, dx, _, rfl, g.ins, gf_no _ _ _ _ _ (by decide +kernel), _, rfl, p, dx, pa, ca, n, h.after n.kinds (x ||| h.pests), rfl, g, ?_⟩
      rw [ek, ep]
      exact q
/-! ### price_of -/
theorem scP : FnScope ["self", "helpers", "kind"] ["self", "helpers"] (defScope sPrice) := ⟨rfl, rfl, rfl, by decide +kernel, rfl, by decide +kernel, by decide +kernel⟩
theorem ok_price {f C fH : Addr} {fd fdH : FuncData} (F : Fun K "price_of" "Glasshouse.price_of" sPrice f fd) (T : Txt K mg C)
    (GH : FnOk P w K mg base CX0 1 fH fdH ["group", "kind"] spHolds) (FH : Fun K "holds" "holds" sHolds fH fdH) (bH : Binds K fdH ["group", "kind"] []) (mH : mg "holds" = some (.ref fH)) :
    FnOk P w K mg base CX0 2 f fd ["self", "helpers"] (spPrice C) := by
  refine F.ok scP (fun vs H Q E h => ?_) (fun cdv A outer s H vs Q E hr h => ?_)
  · obtain ⟨p, dx, pa, ca, n, h, x, rfl, _⟩ := h
    rfl
  · obtain ⟨p, dx, pa, ca, n, h, x, rfl, g, R, q⟩ := h
    have ek := R.kinds
    have k6 := R.k6
    refine ⟨_, pss_one (ps_ret (pe_callB (cr_sum rfl) rfl T.sum boot_sum (pa_cons (pe_lc (own := [("kind", 2)]) rfl scP.nd (pi_range1 rfl T.range (pa_cons (pe_fld (pv 0) rfl) pa_nil)) (blkOk_by (by show blkC ["self", "helpers", "kind"] (defScope sPrice) _ _ = true; decide +kernel))
      (fun _ _ _ _ _ => pg_name (i := 2) scP.nd rfl (Or.inl rfl))
      (fun _ _ _ _ _ => pts_one (pt_val (pe_call GH hr rfl mH FH.kp bH .nil pass0 (pa_cons (pv 1) (pa_cons (pv 2) pa_nil)))))
      (fun _ _ _ _ _ => pe_ix (ix_listK (K := K) rfl) (pe_fldK (K := K) rfl (pv 0) rfl) (pv 2) (fun _ _ => rfl))) pa_nil))), ?_⟩
    refine ⟨_, rfl, p, C, dx, _, _, rfl, g.ins, T.cl, T.nKinds, gf_kinds _ _ _ _ _, (n.kinds : Int), rfl, by omega, by omega, fun D hD => ?_⟩
    rw [Int.toNat_natCast]
    refine lc_range (n := n.kinds) (fun i H' => H' = upd H D (.lst ((GM.paid n.costs x i).map vn))) rfl ?_ ?_
    · rintro i H' hi rfl
      have gi := g.same (same_new (o := .lst ((GM.paid n.costs x i).map vn)) hD)
      have lc : i < n.costs.length := by rw [R.costs, R.clen, ← ek]; exact hi
      rw [Int.zero_add]
      refine ⟨rfl, _, rfl, _, rfl, x, i, rfl, _, rfl, ite2 (fun hb => ?_) (fun hb => ?_)⟩
      · refine ⟨_, rfl, p, C, dx, _, _, rfl, gi.ins, T.cl, T.nCosts, gf_costs _ _ _ _ _, _, rfl, ca, _, _, _, rfl, rfl, SqL.of gi.costs, vn_at lc, _, upd_same, ?_, ?_⟩
        · rw [List.length_map]
          have := GM.paid_len n.costs x i
          exact small1000 (by omega)
        · rw [upd_upd, GM.paid_succ, if_pos hb, List.map_append]
          rfl
      · rw [GM.paid_succ, if_neg hb]
    · rintro H' rfl
      refine ⟨D, Si67.ints (GM.paid n.costs x n.kinds), rfl, SqL.of (by rw [upd_same, vn_ints]), ?_⟩
      rw [GM.sum_ints, R.costs, ek]
      exact q _ (same_new hD)
/-! ### after_choice -/
theorem scL : FnScope ["self", "there", "choice"] ["self", "there", "choice"] (defScope sChoice) := ⟨rfl, rfl, rfl, by decide +kernel, rfl, by decide +kernel, by decide +kernel⟩
theorem ok_choice {f C fW : Addr} {fd fdW : FuncData} (F : Fun K "after_choice" "Glasshouse.after_choice" sChoice f fd) (T : Txt K mg C)
    (GW : FnOk P w K mg base CX0 2 fW fdW ["self", "there"] (spWeek C)) (bW : Binds K fdW ["self", "there"] []) (mW : Meth K C "after_week" fW) :
    FnOk P w K mg base CX0 3 f fd ["self", "there", "choice"] (spChoice C) := by
  refine F.ok scL (fun vs H Q E h => ?_) (fun cdv A outer s H vs Q E hr h => ?_)
  · obtain ⟨p, dx, pa, ca, n, h, x, k, rfl, _⟩ := h
    rfl
  · obtain ⟨p, dx, pa, ca, n, h, x, k, rfl, g, R, hx, q⟩ := h
    have ek := R.kinds
    have k6 := R.k6
    refine ⟨_, pss_cons (ps_if (pt_cmpR op_lt (pv 2) (pe_fld (pv 0) rfl) (nomark _)) (pss_one (ps_set (i := 1) scL.nd rfl (Or.inl rfl) (pe_op op_or (pv 1) (pe_op op_shl pe_int (pv 2))))) pss_nil)
      (pss_one (ps_ret (pe_meth (pv 0) T.cl mW GW hr bW .nil pass0 (pa_cons (pv 1) pa_nil)))), ?_⟩
    rw [GM.loose_eq h hx] at q
    refine ⟨_, rfl, _, rfl, p, C, dx, _, _, rfl, g.ins, T.cl, T.nKinds, gf_kinds _ _ _ _ _, _, _, rfl, rfl, _, rfl, ite2 (fun h0 => ?_) (fun h0 => ?_)⟩
    · have e : (k : Int) < (n.kinds : Int) := of_decide_eq_true h0
      have hk : k < h.kinds := by omega
      refine ⟨_, rfl, _, rfl, _, _, rfl, rfl, shl_ok (by omega), _, _, rfl, rfl, ?_⟩
      dsimp only
      rw [GM.shl_int, GM.bor]
      have el : GM.loosed h x k = x ||| 2 ^ k := if_pos hk
      have lt := GM.loosed_lt h hx k
      rw [el] at q lt
      exact ⟨_, rfl, p, dx, _, rfl, g.ins, gf_no _ _ _ _ _ (by decide +kernel), _, rfl, p, dx, pa, ca, n, h, _, rfl, g, R, lt, q⟩
    · have e : ¬ (k : Int) < (n.kinds : Int) := fun q => h0 (decide_eq_true q)
      have el : GM.loosed h x k = x := if_neg (by omega)
      rw [el] at q
      exact ⟨_, rfl, p, dx, _, rfl, g.ins, gf_no _ _ _ _ _ (by decide +kernel), _, rfl, p, dx, pa, ca, n, h, x, rfl, g, R, hx, q⟩
end
end G
set_option Elab.async false
set_option maxRecDepth 100000
set_option maxHeartbeats 2000000
namespace G
open PySem PySem.Spec PyProof.Rows L2
section
variable {P : Program} {w : World} {K : PySem.W.Frag} {mg : Str → Option Value} {base : Heap}
/-! ### best -/
theorem scT : FnScope ["self", "least", "sets", "helpers", "price"] ["self"] (defScope sBest) := ⟨rfl, rfl, rfl, by decide +kernel, rfl, by decide +kernel, by decide +kernel⟩
/-- none, or a number -/
def ov : Option Nat → V
  | none => .non
  | some m => vn m
/-- the state of the loop -/
structure AtB (C : Addr) (H H' : Hp) (h : Si67.House) (i : Nat) (sl : Addr) (v : Option Nat) (L : List Nat) : Prop where
  sm : Same H H'
  fr : H sl = none
  ls : H' sl = some (.lst (L.map vn))
  ac : GM.Acc (GM.bestTo h i) v L
  le : L.length ≤ i
theorem ok_best {f C fR fP : Addr} {fd fdR fdP : FuncData} (F : Fun K "best" "Glasshouse.best" sBest f fd) (T : Txt K mg C)
    (GR : FnOk P w K mg base CX0 3 fR fdR ["self", "helpers"] (spRids C)) (bR : Binds K fdR ["self", "helpers"] []) (mR : Meth K C "rids" fR)
    (GP : FnOk P w K mg base CX0 3 fP fdP ["self", "helpers"] (spPrice C)) (bP : Binds K fdP ["self", "helpers"] []) (mP : Meth K C "price_of" fP) :
    FnOk P w K mg base CX0 4 f fd ["self"] (spCall C aBest) := by
  obtain ⟨tn, hmn⟩ := T.noway
  refine F.ok scT (fun vs H Q E h => ?_) (fun cdv A outer s H vs Q E hr h => ?_)
  · obtain ⟨p, dx, pa, ca, n, h, c, as, rfl, ⟨rfl, rfl⟩, _⟩ := h
    rfl
  · obtain ⟨p, dx, pa, ca, n, h, c, as, rfl, ⟨rfl, rfl⟩, g, R, z⟩ := h
    have ek := R.kinds
    have ep := R.pests
    have k6 := R.k6
    have p64 := GM.pow_le_64 k6
    refine ⟨_, pss_cons (ps_set (i := 1) scT.nd rfl (Or.inl rfl) pe_non)
      (pss_cons (ps_set (i := 2) scT.nd rfl (Or.inl rfl) (pe_lst pa_nil))
      (pss_cons (ps_for PassesOwn.never rfl (pi_range1 rfl T.range (pa_cons (pe_op op_shl pe_int (pe_fld (pv 0) rfl)) pa_nil)) (pg_name (i := 3) scT.nd rfl (Or.inl rfl))
        (pss_one (ps_if (PW.pt (pw_and (pt_cmpR op_eq (pe_op op_and (pv 3) (pe_fld (pv 0) rfl)) pe_int (nomark _)) (pw_and1 (pt_val (pe_meth (pv 0) T.cl mR GR hr bR .nil pass0 (pa_cons (pv 3) pa_nil))))))
          (pss_cons (ps_set (i := 4) scT.nd rfl (Or.inl rfl) (pe_meth (pv 0) T.cl mP GP hr bP .nil pass0 (pa_cons (pv 3) pa_nil)))
          (pss_cons (ps_if (PW.pt (pw_or (pt_cmpR op_isN (pv 1) pe_non (nomark _)) (pw_or1 (pt_cmpR op_lt (pv 4) (pv 1) (nomark _)))))
            (pss_cons (ps_set (i := 1) scT.nd rfl (Or.inl rfl) (pv 4)) (pss_one (ps_set (i := 2) scT.nd rfl (Or.inl rfl) (pe_lst pa_nil)))) pss_nil)
          (pss_one (ps_if (pt_cmpR op_eq (pv 4) (pv 1) (nomark _))
            (pss_one (ps_expr (pe_bm PySem.F.plainAttrs_list PySem.F.slot_list_append PySem.F.type_list_append mt_append (pv 2) (pa_cons (pv 3) pa_nil)))) pss_nil)))) pss_nil)))
      (pss_cons (ps_if (pt_cmpR op_isN (pv 1) pe_non (nomark _)) (pss_one (ps_ret (pe_lst (pa_cons (pe_glob (v := .int (-6)) rfl hmn ⟨_, rfl⟩) pa_nil)))) pss_nil)
      (pss_one (ps_ret (pe_lst (pa_cons (pv 1) (pa_cons (pe_callB call_len_seq rfl T.len PySem.boot_len (pa_cons (pv 2) pa_nil)) (pa_cons (pe_ix ix_list (pv 2) pe_int (fun _ _ => rfl)) pa_nil))))))))), ?_⟩
    refine ⟨le_line (by decide), fun sl0 hsl0 => ?_⟩
    have g0 := g.same (same_new (o := .lst []) hsl0)
    refine ⟨_, rfl, p, C, dx, _, _, rfl, g0.ins, T.cl, T.nKinds, gf_kinds _ _ _ _ _, _, _, rfl, rfl, shl_ok (by omega), ((2 ^ n.kinds : Nat) : Int), congrArg (fun y => [V.int y]) (GM.shl_int n.kinds), Int.le_trans (by decide) (Int.natCast_nonneg _), Int.lt_of_le_of_lt (Int.ofNat_le.mpr (by rw [ek]; exact p64)) (by decide), ?_⟩
    rw [Int.toNat_natCast]
    refine for_range (n := 2 ^ n.kinds) (fun i σ H' => ∃ (sl : Addr) (v : Option Nat) (L : List Nat) (v3 v4 : Option V), σ = [some (.ref p), some (ov v), some (.ref sl), v3, v4] ∧ AtB C H H' h i sl v L)
      ⟨sl0, none, [], none, none, rfl, ⟨same_new hsl0, hsl0, upd_same, GM.acc_start, Nat.le_refl _⟩⟩ ?_ ?_
    · rintro i σ H' hi ⟨sl, v, L, v3, v4, rfl, I⟩
      rw [ek] at hi
      have gi := g.same I.sm
      rw [Int.zero_add]
      have eR := GM.bestTo_succ h i
      rw [GM.rids_eq h R.plt hi] at eR
      have stay : ¬ (decide (i &&& h.pests = 0) && decide (h.after h.kinds (i ||| h.pests) &&& h.pests = 0)) = true → AtB C H H' h (i + 1) sl v L := fun c => by
        rw [if_neg c] at eR
        exact ⟨I.sm, I.fr, I.ls, by rw [eR]; exact I.ac, Nat.le_succ_of_le I.le⟩
      refine ⟨_, rfl, _, rfl, p, C, dx, _, _, rfl, gi.ins, T.cl, T.nPests, gf_pests _ _ _ _ _, _, _, rfl, rfl, rfl, _, rfl, ?_⟩
      rw [zero_val, ep]
      refine ite2 (fun h0 => ?_) (fun h0 => ?_)
      · refine ⟨_, rfl, p, dx, _, rfl, gi.ins, gf_no _ _ _ _ _ (by decide +kernel), _, rfl, p, dx, pa, ca, n, h, i, rfl, gi, R, hi, _, rfl, ite2 (fun h1 => ?_) (fun h1 => ?_)⟩
        · rw [h0, h1] at eR
          have eR : GM.bestTo h (i + 1) = GM.betterB h (GM.bestTo h i) i := eR
          refine ⟨_, rfl, p, dx, _, rfl, gi.ins, gf_no _ _ _ _ _ (by decide +kernel), _, rfl, p, dx, pa, ca, n, h, i, rfl, gi, R, fun H2 s2 => ?_⟩
          have sm2 : Same H H2 := Same.trans I.sm s2
          have ls2 := s2 _ _ I.ls
          -- the first or a cheaper one
          have fresh : (v = none ∨ ∃ m, v = some m ∧ h.cost i < m) → ∀ (l : Addr), H2 l = none → AtB C H (upd (upd H2 l (.lst [])) l (.lst ([] ++ [vn i]))) h (i + 1) l (some (h.cost i)) [i] := fun c l hl => by
            have hlH := Same.free sm2 hl
            refine ⟨fun b o e => ?_, hlH, by rw [upd_same]; rfl, by rw [eR]; exact GM.acc_new I.ac c, by show 1 ≤ i + 1; omega⟩
            rw [upd_ne (ne_of_none e hlH), upd_ne (ne_of_none e hlH)]
            exact sm2 _ _ e
          have dear : ∀ m, v = some m → ¬ h.cost i < m → ¬ h.cost i = m → AtB C H H2 h (i + 1) sl v L := fun m e c1 c2 => by
            refine ⟨sm2, I.fr, ls2, ?_, Nat.le_succ_of_le I.le⟩
            rw [eR, e]
            have ac := I.ac
            rw [e] at ac
            exact GM.acc_more ac (by omega)
          have also : ∀ m, v = some m → h.cost i = m → AtB C H (upd H2 sl (.lst (L.map vn ++ [vn i]))) h (i + 1) sl v (L ++ [i]) := fun m e c1 => by
            refine ⟨fun b o eb => ?_, I.fr, by rw [upd_same, List.map_append]; rfl, ?_, by rw [List.length_append]; exact Nat.succ_le_succ I.le⟩
            · rw [upd_ne (ne_of_none eb I.fr)]
              exact sm2 _ _ eb
            · rw [eR, e]
              have ac := I.ac
              rw [e] at ac
              exact GM.acc_same ac c1
          cases v with
          | none =>
            refine ⟨_, rfl, rfl, _, rfl, itY (by decide) (iteT ?_)⟩
            refine ⟨_, rfl, le_line (by decide), fun l hl => ?_⟩
            refine ⟨_, rfl, _, rfl, rfl, _, rfl, itY (decide_eq_true rfl) ?_⟩
            exact ⟨_, rfl, .inl ⟨rfl, _, SqL.of upd_same⟩, _, rfl, l, _, _, rfl, rfl, upd_same, small1000 (by decide), ⟨l, some (h.cost i), [i], _, _, rfl, fresh (.inl rfl) l hl⟩⟩
          | some m =>
            refine ⟨_, rfl, rfl, _, rfl, itN (by intro q; cases (of_decide_eq_true q)) ?_⟩
            refine ⟨_, rfl, _, rfl, _, _, rfl, rfl, _, rfl, ite2 (fun h2 => ?_) (fun h2 => ?_)⟩
            · have c : h.cost i < m := by
                have e : ((h.cost i : Nat) : Int) < (m : Int) := of_decide_eq_true h2
                omega
              refine ⟨_, rfl, le_line (by decide), fun l hl => ?_⟩
              refine ⟨_, rfl, _, rfl, rfl, _, rfl, itY (decide_eq_true rfl) ?_⟩
              exact ⟨_, rfl, .inl ⟨rfl, _, SqL.of upd_same⟩, _, rfl, l, _, _, rfl, rfl, upd_same, small1000 (by decide), ⟨l, some (h.cost i), [i], _, _, rfl, fresh (.inr ⟨m, rfl, c⟩) l hl⟩⟩
            · have c : ¬ h.cost i < m := fun q => h2 (decide_eq_true (by omega))
              refine ⟨_, rfl, _, rfl, rfl, _, rfl, ite2 (fun h3 => ?_) (fun h3 => ?_)⟩
              · have c3 : h.cost i = m := by
                  have e : vn (h.cost i) = vn m := of_decide_eq_true h3
                  injection e with e
                  omega
                refine ⟨_, rfl, .inl ⟨rfl, _, SqL.of ls2⟩, _, rfl, sl, _, _, rfl, rfl, ls2, ?_, ⟨sl, some m, L ++ [i], _, _, rfl, also m rfl c3⟩⟩
                rw [List.length_map]
                have := I.le
                exact small1000 (by omega)
              · have c3 : ¬ h.cost i = m := fun q => h3 (decide_eq_true (by rw [q]; rfl))
                exact ⟨sl, some m, L, _, _, rfl, dear m rfl c c3⟩
        · exact ⟨_, _, _, _, _, rfl, stay (by rw [h0]; exact h1)⟩
      · exact iteF ⟨_, _, _, _, _, rfl, stay (by intro q; rw [Bool.and_eq_true] at q; exact h0 q.1)⟩
    · rintro σ H' ⟨sl, v, L, v3, v4, rfl, I⟩
      have ac := I.ac
      rw [ek, ← GM.best_is h] at ac
      have gi := g.same I.sm
      cases e : h.best with
      | none =>
        obtain ⟨ev, _⟩ := ac.no e
        subst ev
        refine ⟨_, rfl, rfl, _, rfl, itY (by decide) ⟨le_line (by decide), fun l hl => ?_⟩⟩
        exact done_same z g R (GM.ans_best_no e) (Same.trans I.sm (same_new hl)) (Same.free I.sm hl) upd_same
      | some b =>
        obtain ⟨ev, el, e0⟩ := ac.yes b e
        subst ev
        refine ⟨_, rfl, rfl, _, rfl, itN (by intro q; cases (of_decide_eq_true q)) ?_⟩
        have at0 : (L.map vn)[0]? = some (vn b.set_) := by rw [List.getElem?_map, e0]; rfl
        refine ⟨_, rfl, _, rfl, sl, _, rfl, .inl (SqL.of I.ls), _, rfl, sl, _, _, _, rfl, rfl, SqL.of I.ls, at_of (j := 0) rfl at0, le_line (by show 3 ≤ 1000; decide), fun l hl => ?_⟩
        refine done_same z g R (GM.ans_best e) (Same.trans I.sm (same_new hl)) (Same.free I.sm hl) ?_
        rw [upd_same, List.length_map, el]
        rfl
/-! ### goes -/
theorem scG : FnScope ["self", "choices", "there", "seen", "choice"] ["self", "choices"] (defScope sGoes) := ⟨rfl, rfl, rfl, by decide +kernel, rfl, by decide +kernel, by decide +kernel⟩
theorem any_map (l : List Nat) (q : Nat → Bool) : (l.map q).any id = true ↔ ∃ k ∈ l, q k = true := by
  rw [List.any_map, List.any_eq_true]
  exact Iff.rfl
theorem take_succ_map {α β : Type} (l : List α) (f : α → β) {i : Nat} {x : α} (e : l[i]? = some x) : (l.take (i + 1)).map f = (l.take i).map f ++ [f x] := by
  rw [List.take_add_one, e, List.map_append]
  rfl
theorem get_vn {l : List Nat} {i : Nat} {x : V} (e : (l.map vn)[i]? = some x) : ∃ k, l[i]? = some k ∧ x = vn k := by
  rw [List.getElem?_map] at e
  obtain ⟨k, a, b⟩ := Option.map_eq_some_iff.mp e
  exact ⟨k, a, b.symm⟩
theorem ok_goes {f C fH fL fF : Addr} {fd fdH fdL fdF : FuncData} (F : Fun K "goes" "Glasshouse.goes" sGoes f fd) (T : Txt K mg C)
    (GH : FnOk P w K mg base CX0 3 fH fdH ["group", "kind"] spHolds) (FH : Fun K "holds" "holds" sHolds fH fdH) (bH : Binds K fdH ["group", "kind"] []) (mH : mg "holds" = some (.ref fH))
    (GL : FnOk P w K mg base CX0 3 fL fdL ["self", "there", "choice"] (spChoice C)) (bL : Binds K fdL ["self", "there", "choice"] []) (mL : Meth K C "after_choice" fL)
    (GF : FnOk P w K mg base CX0 3 fF fdF ["self", "there"] (spFree C)) (bF : Binds K fdF ["self", "there"] []) (mF : Meth K C "free_of_pests" fF) :
    FnOk P w K mg base CX0 4 f fd ["self", "choices"] (spGoes C) := by
  obtain ⟨t20, hm20⟩ := T.mWeeks
  obtain ⟨tb, hmb⟩ := T.bad
  obtain ⟨ta, hma⟩ := T.allowed
  refine F.ok scG (fun vs H Q E h => ?_) (fun cdv A outer s H vs Q E hr h => ?_)
  · obtain ⟨p, dx, pa, ca, nl, n, h, l, rfl, _⟩ := h
    rfl
  · obtain ⟨p, dx, pa, ca, nl, n, h, l, rfl, hn, g, R, z⟩ := h
    have ek := R.kinds
    have ep := R.pests
    have k6 := R.k6
    refine ⟨_, pss_cons (ps_if (PW.pt (pw_or (pt_cmpR op_gt (pe_callB call_len_seq rfl T.len PySem.boot_len (pa_cons (pv 1) pa_nil)) (pe_glob (v := .int 20) rfl hm20 ⟨_, rfl⟩) (nomark _))
          (pw_or1 (pt_val (pe_callB (cr_any rfl) rfl T.any boot_any (pa_cons (pe_lc (own := [("choice", 4)]) rfl scG.nd (pi_list (pv 1)) (blkOk_by (by show blkC ["self", "choices", "there", "seen", "choice"] (defScope sGoes) _ _ = true; decide +kernel))
            (fun _ _ _ _ _ => pg_name (i := 4) scG.nd rfl (Or.inl rfl)) (fun _ _ _ _ _ => pts_nil)
            (fun _ _ _ _ _ => pe_cmpR op_gt (pv 4) (pe_fldK (K := K) rfl (pv 0) rfl) (nomark _))) pa_nil))))))
        (pss_one (ps_ret (pe_lst (pa_cons (pe_glob (v := .int (-1)) rfl hmb ⟨_, rfl⟩) pa_nil)))) pss_nil)
      (pss_cons (ps_if (pt_val (pe_callB (cr_any rfl) rfl T.any boot_any (pa_cons (pe_lc (own := [("choice", 4)]) rfl scG.nd (pi_list (pv 1)) (blkOk_by (by show blkC ["self", "choices", "there", "seen", "choice"] (defScope sGoes) _ _ = true; decide +kernel))
            (fun _ _ _ _ _ => pg_name (i := 4) scG.nd rfl (Or.inl rfl)) (fun _ _ _ _ _ => pts_nil)
            (fun _ _ _ _ _ => pe_call GH hr rfl mH FH.kp bH .nil pass0 (pa_cons (pe_fldK (K := K) rfl (pv 0) rfl) (pa_cons (pv 4) pa_nil)))) pa_nil)))
        (pss_one (ps_ret (pe_lst (pa_cons (pe_glob (v := .int (-4)) rfl hma ⟨_, rfl⟩) pa_nil)))) pss_nil)
      (pss_cons (ps_set (i := 2) scG.nd rfl (Or.inl rfl) (pe_fld (pv 0) rfl))
      (pss_cons (ps_set (i := 3) scG.nd rfl (Or.inl rfl) (pe_lst (pa_cons (pv 2) pa_nil)))
      (pss_cons (ps_for PassesOwn.never rfl (pi_list (pv 1)) (pg_name (i := 4) scG.nd rfl (Or.inl rfl))
        (pss_cons (ps_set (i := 2) scG.nd rfl (Or.inl rfl) (pe_meth (pv 0) T.cl mL GL hr bL .nil pass0 (pa_cons (pv 2) (pa_cons (pv 4) pa_nil))))
        (pss_one (ps_expr (pe_bm PySem.F.plainAttrs_list PySem.F.slot_list_append PySem.F.type_list_append mt_append (pv 3) (pa_cons (pv 2) pa_nil))))))
      (pss_one (ps_ret (pe_op op_cat (pe_lst (pa_cons (pe_ifExp (pt_val (pe_meth (pv 0) T.cl mF GF hr bF .nil pass0 (pa_cons (pv 2) pa_nil))) pe_int pe_int) pa_nil)) (pv 3)))))))), ?_⟩
    -- a refusal
    have no : ∀ (H1 : Hp) (x : Int), Same H H1 → (Si67.step h (.goes l)).1 = h ∧ GM.ans h (.goes l) = [x] → tLst (tCons (tC (.int x)) tNil) (start ["self", "choices", "there", "seen", "choice"] [.ref p, .ref nl]) H1 Q := fun H1 x s1 a =>
      ⟨le1 _, fun r hr => z _ r (Same.trans s1 (same_new hr)) (by rw [upd_same, a.2]; rfl) (Same.free s1 hr)⟩
    refine ⟨_, rfl, nl, _, rfl, .inl (SqL.of hn), _, _, rfl, rfl, _, rfl, ite2 (fun h0 => ?_) (fun h0 => ?_)⟩
    · have e : (20 : Int) < ((l.map vn).length : Int) := of_decide_eq_true h0
      rw [List.length_map] at e
      exact iteT (no H (-1) (Same.refl H) (GM.ans_goes_1 (.inl (by show 20 < l.length; omega))))
    have l20 : l.length ≤ 20 := by
      have e : ¬ (20 : Int) < ((l.map vn).length : Int) := fun q => h0 (decide_eq_true q)
      rw [List.length_map] at e
      omega
    refine ⟨_, rfl, nl, rfl, ⟨_, SqL.of hn⟩, fun D1 hD1 => ?_⟩
    refine lc_list (xs := l.map vn) (fun i H' => H' = upd H D1 (.lst (((l.take i).map fun k => decide (n.kinds < k)).map V.bl))) rfl (fun i H' _ e => by rw [e]; exact SqL.of (same_new hD1 _ _ hn)) ?_ ?_
    · rintro i x H' ei rfl
      obtain ⟨k, ek', rfl⟩ := get_vn ei
      have gi := g.same (same_new (o := .lst (((l.take i).map fun k => decide (n.kinds < k)).map V.bl)) hD1)
      refine ⟨rfl, _, rfl, _, rfl, p, C, dx, _, _, rfl, gi.ins, T.cl, T.nKinds, gf_kinds _ _ _ _ _, _, _, rfl, rfl, _, upd_same, ?_, ?_⟩
      · rw [List.length_map, List.length_map, List.length_take]
        exact small1000 (by omega)
      · rw [upd_upd, take_succ_map l _ ek', List.map_append]
        have : decide ((n.kinds : Int) < (k : Int)) = decide (n.kinds < k) := by
          rw [decide_eq_decide]
          omega
        dsimp only
        rw [this]
        rfl
    rintro H1 rfl
    rw [List.length_map, List.take_length]
    have s1 : Same H (upd H D1 (.lst ((l.map fun k => decide (n.kinds < k)).map V.bl))) := same_new hD1
    generalize hH1 : upd H D1 (.lst ((l.map fun k => decide (n.kinds < k)).map V.bl)) = H1 at s1
    have hD1' : H1 D1 = some (.lst ((l.map fun k => decide (n.kinds < k)).map V.bl)) := by rw [← hH1]; exact upd_same
    refine ⟨D1, _, rfl, SqL.of hD1', _, rfl, ite2 (fun h1 => ?_) (fun h1 => ?_)⟩
    · obtain ⟨k, m, e⟩ := (any_map l _).mp h1
      have e := of_decide_eq_true e
      exact no H1 (-1) s1 (GM.ans_goes_1 (.inr ⟨k, m, by omega⟩))
    have lk : ∀ k ∈ l, k ≤ h.kinds := fun k m => by
      apply Classical.byContradiction
      intro q
      exact h1 ((any_map l _).mpr ⟨k, m, decide_eq_true (by omega)⟩)
    have hn1 := s1 _ _ hn
    have g1 := g.same s1
    refine ⟨_, rfl, nl, rfl, ⟨_, SqL.of hn1⟩, fun D2 hD2 => ?_⟩
    refine lc_list (xs := l.map vn) (fun i H' => H' = upd H1 D2 (.lst (((l.take i).map fun k => n.pests.testBit k).map V.bl))) rfl (fun i H' _ e => by rw [e]; exact SqL.of (same_new hD2 _ _ hn1)) ?_ ?_
    · rintro i x H' ei rfl
      obtain ⟨k, ek', rfl⟩ := get_vn ei
      have gi := g1.same (same_new (o := .lst (((l.take i).map fun k => n.pests.testBit k).map V.bl)) hD2)
      refine ⟨rfl, _, rfl, p, C, dx, _, _, rfl, gi.ins, T.cl, T.nPests, gf_pests _ _ _ _ _, _, rfl, n.pests, k, rfl, _, upd_same, ?_, ?_⟩
      · rw [List.length_map, List.length_map, List.length_take]
        exact small1000 (by omega)
      · rw [upd_upd, take_succ_map l _ ek', List.map_append]
        rfl
    rintro H2 rfl
    rw [List.length_map, List.take_length]
    have s2 : Same H (upd H1 D2 (.lst ((l.map fun k => n.pests.testBit k).map V.bl))) := Same.trans s1 (same_new hD2)
    generalize hH2 : upd H1 D2 (.lst ((l.map fun k => n.pests.testBit k).map V.bl)) = H2 at s2
    have hD2' : H2 D2 = some (.lst ((l.map fun k => n.pests.testBit k).map V.bl)) := by rw [← hH2]; exact upd_same
    refine ⟨D2, _, rfl, SqL.of hD2', _, rfl, ite2 (fun h2 => ?_) (fun h2 => ?_)⟩
    · obtain ⟨k, m, e⟩ := (any_map l _).mp h2
      rw [ep] at e
      exact no H2 (-4) s2 (GM.ans_goes_2 l20 lk ⟨k, m, GM.test_lt R.plt e, e⟩)
    have lp : ∀ k ∈ l, ¬ (k < h.kinds ∧ h.pests.testBit k = true) := fun k m ⟨_, q⟩ => h2 ((any_map l _).mpr ⟨k, m, by rw [ep]; exact q⟩)
    have g2 := g.same s2
    refine ⟨_, rfl, p, C, dx, _, _, rfl, g2.ins, T.cl, T.nPests, gf_pests _ _ _ _ _, ?_⟩
    refine ⟨_, rfl, le1 _, fun sl hsl => ?_⟩
    have fsl := Same.free s2 hsl
    refine ⟨_, rfl, nl, rfl, ⟨_, SqL.of (same_new hsl _ _ (s2 _ _ hn))⟩, ?_⟩
    refine for_list (xs := l.map vn) (fun i σ H' => Same H H' ∧ ∃ v4 : Option V, σ = [some (.ref p), some (.ref nl), some (vn (h.through h.pests (l.take i))), some (.ref sl), v4] ∧ H' sl = some (.lst ((h.passes h.pests (l.take i)).map vn)))
      ⟨Same.trans s2 (same_new hsl), none, by rw [ep]; rfl, by rw [upd_same, ep]; rfl⟩ (fun i σ H' _ I => SqL.of (I.1 _ _ hn)) ?_ ?_
    · rintro i x σ H' ei ⟨sm, v4, rfl, hl⟩
      obtain ⟨k, ek', rfl⟩ := get_vn ei
      have gi := g.same sm
      have tk : l.take (i + 1) = l.take i ++ [k] := by
        rw [List.take_add_one, ek']
        rfl
      refine ⟨_, rfl, p, dx, _, rfl, gi.ins, gf_no _ _ _ _ _ (by decide +kernel), _, rfl, _, rfl, p, dx, pa, ca, n, h, h.through h.pests (l.take i), k, rfl, gi, R, GM.through_lt h _ R.plt, ?_⟩
      refine ⟨_, rfl, .inl ⟨rfl, _, SqL.of hl⟩, _, rfl, sl, _, _, rfl, rfl, hl, ?_, ?_⟩
      · rw [List.length_map, GM.passes_len, List.length_take]
        exact small1000 (by omega)
      · refine ⟨fun b o e => ?_, _, by rw [tk, GM.through_snoc]; rfl, ?_⟩
        · rw [upd_ne (ne_of_none e fsl)]
          exact sm _ _ e
        · rw [upd_same, tk, GM.passes_snoc, List.map_append, GM.through_snoc]
          rfl
    · rintro σ H' ⟨sm, v4, rfl, hl⟩
      rw [List.length_map, List.take_length] at hl
      rw [List.length_map, List.take_length]
      have gi := g.same sm
      have a := GM.ans_goes R.plt l20 lk lp
      refine ⟨_, rfl, p, dx, _, rfl, gi.ins, gf_no _ _ _ _ _ (by decide +kernel), _, rfl, p, dx, pa, ca, n, h.through h.pests l, rfl, gi, _, rfl, ?_⟩
      rw [ep]
      have fin : ∀ y : Int, y = (if h.through h.pests l &&& h.pests = 0 then 1 else 0) → ∀ (d : Addr), H' d = none → ∀ r, (upd H' d (.lst [.int y])) r = none → Q (.ref r) (upd (upd H' d (.lst [.int y])) r (.lst ([.int y] ++ (h.passes h.pests l).map vn))) := fun y ey d hd r hr => by
        have sm2 : Same H (upd H' d (.lst [.int y])) := Same.trans sm (same_new hd)
        refine z _ r (Same.trans sm2 (same_new hr)) ?_ (Same.free sm2 hr)
        rw [upd_same, a.2, vn_ints, ← ey]
        rfl
      refine ite2 (fun h3 => ?_) (fun h3 => ?_)
      · refine ⟨le_line (by decide), fun d hd => ⟨_, rfl, d, sl, _, _, rfl, rfl, upd_same, same_new hd _ _ hl, ?_, fin 1 (by rw [if_pos (of_decide_eq_true h3)]) d hd⟩⟩
        rw [List.length_map, GM.passes_len]
        exact le_line (by show 1 + (l.length + 1) ≤ 1000; omega)
      · refine ⟨le_line (by decide), fun d hd => ⟨_, rfl, d, sl, _, _, rfl, rfl, upd_same, same_new hd _ _ hl, ?_, fin 0 (by rw [if_neg fun q => h3 (decide_eq_true q)]) d hd⟩⟩
        rw [List.length_map, GM.passes_len]
        exact le_line (by show 1 + (l.length + 1) ≤ 1000; omega)
end
end G
set_option Elab.async false
set_option maxRecDepth 100000
set_option maxHeartbeats 2000000
namespace G
open PySem PySem.Spec PyProof.Rows L2
/-! ### the found sets as a dict -/
theorem val_none : ∀ {E : List Ent} {x : Nat}, valV (E.map kvE) (Sum.inl (x : Int)) = none → ∀ e ∈ E, e.1 ≠ x
  | [], _, _, e, m => by cases m
  | a :: E, x, h, e, m => by
    by_cases q : (kvE a).1 = Sum.inl (x : Int)
    · rw [List.map_cons, valV_pos q] at h
      cases h
    · rw [List.map_cons, valV_neg q] at h
      rcases List.mem_cons.mp m with rfl | m
      · exact fun z => q (by rw [← z]; rfl)
      · exact val_none h e m
theorem val_in : ∀ {E : List Ent} {x : Nat} {v : V}, valV (E.map kvE) (Sum.inl (x : Int)) = some v → ∃ e ∈ E, e.1 = x
  | [], x, v, h => by cases h
  | a :: E, x, v, h => by
    by_cases q : (kvE a).1 = Sum.inl (x : Int)
    · refine ⟨a, List.mem_cons_self .., ?_⟩
      have q : (Sum.inl (a.1 : Int) : Key) = Sum.inl (x : Int) := q
      injection q with q
      omega
    · rw [List.map_cons, valV_neg q] at h
      obtain ⟨e, m, z⟩ := val_in h
      exact ⟨e, List.mem_cons_of_mem _ m, z⟩
theorem val_at : ∀ {E : List Ent}, (E.map (·.1)).Nodup → ∀ e ∈ E, valV (E.map kvE) (Sum.inl (e.1 : Int)) = some (V.ref e.2.2)
  | [], _, e, m => by cases m
  | a :: E, nd, e, m => by
    have nd : (a.1 :: E.map (·.1)).Nodup := nd
    obtain ⟨n1, n2⟩ := List.nodup_cons.mp nd
    rcases List.mem_cons.mp m with rfl | m
    · rw [List.map_cons]
      exact valV_pos rfl
    · have ne : ¬ (kvE a).1 = Sum.inl (e.1 : Int) := fun q => by
        have q : (Sum.inl (a.1 : Int) : Key) = Sum.inl (e.1 : Int) := q
        injection q with q
        have q : a.1 = e.1 := by omega
        exact n1 (q ▸ List.mem_map.mpr ⟨e, m, rfl⟩)
      rw [List.map_cons, valV_neg ne]
      exact val_at n2 e m
theorem fst_dE (E : List Ent) : (E.map dE).map (·.1) = E.map (·.1) := by
  rw [List.map_map]
  rfl
theorem get_dE {E : List Ent} {j : Nat} {e : Ent} (h : E[j]? = some e) : (E.map dE)[j]? = some (e.1, e.2.1) := by
  rw [List.getElem?_map, h]
  rfl
theorem of_get_dE {E : List Ent} {j x : Nat} {r : List Nat} (h : (E.map dE)[j]? = some (x, r)) : ∃ e, E[j]? = some e ∧ e.1 = x ∧ e.2.1 = r := by
  rw [List.getElem?_map] at h
  obtain ⟨e, a, b⟩ := Option.map_eq_some_iff.mp h
  have b : (e.1, e.2.1) = (x, r) := b
  injection b with b1 b2
  exact ⟨e, a, b1, b2⟩
theorem get_xE {E : List Ent} {i : Nat} {x : V} (h : (E.map xE)[i]? = some x) : ∃ e, E[i]? = some e ∧ x = vn e.1 := by
  rw [List.getElem?_map] at h
  obtain ⟨e, a, b⟩ := Option.map_eq_some_iff.mp h
  exact ⟨e, a, b.symm⟩
section
variable {P : Program} {w : World} {K : PySem.W.Frag} {mg : Str → Option Value} {base : Heap}
/-! ### lengthen -/
theorem scN2 : FnScope ["self", "rows", "newest", "choices", "reached", "there", "choice", "later"] ["self", "rows", "newest"] (defScope sLen) := ⟨rfl, rfl, rfl, by decide +kernel, rfl, by decide +kernel, by decide +kernel⟩
/-- the state: the sets found are E and, behind them, M -/
structure AtL (H H' : Hp) (d cl rl : Addr) (h : Si67.House) (E M : List Ent) (i b : Nat) : Prop where
  dr : DR H' d (E ++ M)
  ch : H' cl = some (.lst (h.choices.map vn))
  re : H' rl = some (.lst (M.map xE))
  bf : GM.Bfs h ((E ++ M).map dE) i b
  kp : ∀ b o, H b = some o → b ≠ d → H' b = some o
  fc : H cl = none
  fr : H rl = none
  ne : cl ≠ rl
  ap : ∀ e ∈ E ++ M, e.2.2 ≠ rl ∧ e.2.2 ≠ cl
theorem ok_len {f C fH fL : Addr} {fd fdH fdL : FuncData} (F : Fun K "lengthen" "Glasshouse.lengthen" sLen f fd) (T : Txt K mg C)
    (GH : FnOk P w K mg base CX0 3 fH fdH ["group", "kind"] spHolds) (FH : Fun K "holds" "holds" sHolds fH fdH) (bH : Binds K fdH ["group", "kind"] []) (mH : mg "holds" = some (.ref fH))
    (GL : FnOk P w K mg base CX0 3 fL fdL ["self", "there", "choice"] (spChoice C)) (bL : Binds K fdL ["self", "there", "choice"] []) (mL : Meth K C "after_choice" fL) :
    FnOk P w K mg base CX0 4 f fd ["self", "rows", "newest"] (spLen C) := by
  refine F.ok scN2 (fun vs H Q E h => ?_) (fun cdv A outer s H vs Q E hr h => ?_)
  · obtain ⟨p, dx, pa, ca, d, nl, n, h, E, i, rfl, _⟩ := h
    rfl
  · obtain ⟨p, dx, pa, ca, d, nl, n, h, En, i0, rfl, g, R, dr, hn, hi0, B0, z⟩ := h
    have ek := R.kinds
    have ep := R.pests
    have k6 := R.k6
    have hu := hu_of hr
    refine ⟨_, pss_cons (ps_setLc (i := 3) (own := [("choice", 6)]) rfl scN2.nd rfl rfl (sw_true rfl rfl rfl rfl) (pi_range1 rfl T.range (pa_cons (pe_op op_add (pe_fld (pv 0) rfl) pe_int) pa_nil)) (blkOk_by (by show blkC ["self", "rows", "newest", "choices", "reached", "there", "choice", "later"] (defScope sLen) _ _ = true; decide +kernel))
        (fun _ _ _ _ _ => pg_name (i := 6) scN2.nd rfl (Or.inl rfl))
        (fun _ _ _ _ _ => pts_one (pt_not (pt_val (pe_call GH hr rfl mH FH.kp bH .nil pass0 (pa_cons (pe_fldK (K := K) rfl (pv 0) rfl) (pa_cons (pv 6) pa_nil))))))
        (fun _ _ _ _ _ => pv 6))
      (pss_cons (ps_set (i := 4) scN2.nd rfl (Or.inl rfl) (pe_lst pa_nil))
      (pss_cons (ps_for PassesOwn.never rfl (pi_list (pv 2)) (pg_name (i := 5) scN2.nd rfl (Or.inl rfl))
        (pss_one (ps_for PassesOwn.never rfl (pi_list (pv 3)) (pg_name (i := 6) scN2.nd rfl (Or.inl rfl))
          (pss_cons (ps_set (i := 7) scN2.nd rfl (Or.inl rfl) (pe_meth (pv 0) T.cl mL GL hr bL .nil pass0 (pa_cons (pv 5) (pa_cons (pv 6) pa_nil))))
          (pss_one (ps_if (pt_cmp (pc_dnotin hu (pv 7) (pv 1)))
            (pss_cons (ps_dput hu (pv 1) (pv 7) (pe_op op_cat (pe_dget hu (pv 1) (pv 5) (fun _ _ => rfl)) (pe_lst (pa_cons (pv 6) pa_nil))) rfl)
            (pss_one (ps_expr (pe_bm PySem.F.plainAttrs_list PySem.F.slot_list_append PySem.F.type_list_append mt_append (pv 4) (pa_cons (pv 7) pa_nil))))) pss_nil))))))
      (pss_one (ps_ret (pv 4))))), ?_⟩
    refine ⟨_, rfl, p, C, dx, _, _, rfl, g.ins, T.cl, T.nKinds, gf_kinds _ _ _ _ _, _, _, rfl, rfl, (n.kinds : Int) + 1, rfl, by omega, by omega, fun cl hcl => ?_⟩
    have ecs := GM.choices_filter (h := h) R.plt
    have e1 : ((n.kinds : Int) + 1).toNat = h.kinds + 1 := by omega
    rw [e1]
    refine lc_range (n := h.kinds + 1) (fun i H' => H' = upd H cl (.lst (((List.range i).filter fun c => !h.pests.testBit c).map vn))) rfl ?_ ?_
    · rintro i H' hi rfl
      have gi := g.same (same_new (o := .lst (((List.range i).filter fun c => !h.pests.testBit c).map vn)) hcl)
      rw [Int.zero_add]
      refine ⟨rfl, _, rfl, p, C, dx, _, _, rfl, gi.ins, T.cl, T.nPests, gf_pests _ _ _ _ _, _, rfl, n.pests, i, rfl, _, rfl, ?_⟩
      rw [ep]
      refine ite2 (fun hb => ?_) (fun hb => ?_)
      · refine ⟨_, rfl, _, upd_same, ?_, ?_⟩
        · rw [List.length_map]
          have := List.length_filter_le (fun c => !h.pests.testBit c) (List.range i)
          rw [List.length_range] at this
          exact small1000 (by omega)
        · rw [upd_upd, List.range_succ, List.filter_append, List.map_append, List.filter_cons, if_pos hb]
          rfl
      · rw [List.range_succ, List.filter_append, List.filter_cons, if_neg hb, List.filter_nil, List.append_nil]
    rintro H1 rfl
    rw [ecs]
    have s1 : Same H (upd H cl (.lst (h.choices.map vn))) := same_new hcl
    generalize hH1 : upd H cl (.lst (h.choices.map vn)) = H1 at s1
    have hcl1 : H1 cl = some (.lst (h.choices.map vn)) := by rw [← hH1]; exact upd_same
    refine ⟨le_line (by decide), fun rl hrl => ?_⟩
    have frl := Same.free s1 hrl
    have s2 : Same H (upd H1 rl (.lst [])) := Same.trans s1 (same_new hrl)
    have start : AtL H (upd H1 rl (.lst [])) d cl rl h En [] i0 0 := by
      refine ⟨by rw [List.append_nil]; exact ⟨s2 _ _ dr.dict, fun e m => s2 _ _ (dr.rows e m), dr.short⟩, same_new hrl _ _ hcl1, upd_same, by rw [List.append_nil]; exact B0, fun b o e _ => s2 _ _ e, hcl, frl, ne_of_none hcl1 hrl, fun e m => ?_⟩
      rw [List.append_nil] at m
      exact ⟨ne_of_none (dr.rows e m) frl, ne_of_none (dr.rows e m) hcl⟩
    have nnd : nl ≠ d := ne_of hn dr.dict (by intro q; cases q)
    have npd : p ≠ d := ne_of g.ins dr.dict (by intro q; cases q)
    have nad : pa ≠ d := ne_of g.prey dr.dict (by intro q; cases q)
    have ncd : ca ≠ d := ne_of g.costs dr.dict (by intro q; cases q)
    have gAt : ∀ {H' : Hp} {M : List Ent} {i b : Nat}, AtL H H' d cl rl h En M i b → GA C H' p dx pa ca n := fun I => ⟨I.kp _ _ g.ins npd, I.kp _ _ g.prey nad, I.kp _ _ g.costs ncd, g.ne⟩
    refine ⟨_, rfl, nl, rfl, ⟨_, SqL.of (s2 _ _ hn)⟩, ?_⟩
    refine for_list (xs := (En.drop i0).map xE) (fun j σ H' => ∃ (M : List Ent) (v5 v6 v7 : Option V), σ = [some (.ref p), some (.ref d), some (.ref nl), some (.ref cl), some (.ref rl), v5, v6, v7] ∧ AtL H H' d cl rl h En M (i0 + j) 0)
      ⟨[], none, none, none, rfl, start⟩ (fun j σ H' _ ⟨M, v5, v6, v7, _, I⟩ => SqL.of (I.kp _ _ hn nnd)) ?_ ?_
    · rintro j x σ H' ej0 ⟨M, v5, v6, v7, rfl, I⟩
      obtain ⟨en, ej, rfl⟩ := get_xE ej0
      rw [List.getElem?_drop] at ej
      refine ⟨_, rfl, cl, rfl, ⟨_, SqL.of I.ch⟩, ?_⟩
      refine for_list (xs := h.choices.map vn) (fun c σ H' => ∃ (M : List Ent) (b : Nat) (v6 v7 : Option V), σ = [some (.ref p), some (.ref d), some (.ref nl), some (.ref cl), some (.ref rl), some (vn en.1), v6, v7] ∧ GM.Upto h.choices c b ∧ AtL H H' d cl rl h En M (i0 + j) b)
        ⟨M, 0, v6, v7, rfl, GM.upto_zero _, I⟩ (fun c σ H' _ ⟨M, b, v6, v7, _, _, I⟩ => SqL.of I.ch) ?_ ?_
      · rintro c x σ H' ec0 ⟨M, b, v6, v7, rfl, U, I⟩
        obtain ⟨k, ec, rfl⟩ := get_vn ec0
        have hk : k ∈ h.choices := List.mem_of_getElem? ec
        have em : (En ++ M)[i0 + j]? = some en := by
          rw [List.getElem?_append_left (List.getElem?_eq_some_iff.mp ej).1]
          exact ej
        have emm : en ∈ En ++ M := List.mem_of_getElem? em
        have B := U.skip I.bf ec
        have xlt := B.xs_lt R.plt (get_dE em)
        have gi := gAt I
        have U' := GM.upto_succ (GM.asc_choices h) ec
        refine ⟨_, rfl, p, dx, _, rfl, gi.ins, gf_no _ _ _ _ _ (by decide +kernel), _, rfl, _, rfl, p, dx, pa, ca, n, h, en.1, k, rfl, gi, R, xlt, ?_⟩
        have nd : ((En ++ M).map (·.1)).Nodup := by
          rw [← fst_dE]
          exact B.nodup k6
        have len64 := B.len k6 R.plt
        rw [List.length_map] at len64
        refine ⟨_, rfl, _, rfl, d, _, rfl, DGet.k (k := Sum.inl ((h.loose en.1 k : Nat) : Int)) I.dr.dict, _, rfl, ?_⟩
        cases ev : valV ((En ++ M).map kvE) (Sum.inl ((h.loose en.1 k : Nat) : Int)) with
        | some v =>
          obtain ⟨e', me, ee⟩ := val_in ev
          obtain ⟨j', ej'⟩ := List.getElem?_of_mem me
          have B' := B.old (get_dE em) fun _ => ⟨j', e'.2.1, by rw [get_dE ej', ee]⟩
          exact iteF ⟨M, k + 1, _, _, rfl, U', ⟨I.dr, I.ch, I.re, B', I.kp, I.fc, I.fr, I.ne, I.ap⟩⟩
        | none =>
          have nw := val_none ev
          have er := I.dr.rows en emm
          have sh := I.dr.short en emm
          refine iteT ⟨_, rfl, _, rfl, d, _, rfl, by rw [← val_at nd en emm]; exact DGet.k (k := Sum.inl (en.1 : Int)) I.dr.dict, _, rfl, le1 _, fun ol hol => ?_⟩
          have sol := same_new (o := .lst [vn k]) hol
          refine ⟨en.2.2, ol, _, _, rfl, rfl, sol _ _ er, upd_same, ?_, fun ra hra => ?_⟩
          · rw [List.length_map]
            exact le_line (by show en.2.1.length + 1 ≤ 1000; omega)
          have sra := Same.trans sol (same_new (o := .lst (en.2.1.map vn ++ [vn k])) hra)
          generalize hH2 : upd (upd H' ol (.lst [vn k])) ra (.lst (en.2.1.map vn ++ [vn k])) = H2 at sra
          have hra2 : H2 ra = some (.lst (en.2.1.map vn ++ [vn k])) := by rw [← hH2]; exact upd_same
          have fra : H' ra = none := Same.free sol hra
          have hd2 := sra _ _ I.dr.dict
          refine ⟨_, rfl, _, rfl, d, _, rfl, DPut.k (k := Sum.inl ((h.loose en.1 k : Nat) : Int)) hd2 (by rw [List.length_map]; exact small1000 (by omega)), ?_⟩
          rw [putK_new _ ev]
          have rld : rl ≠ d := ne_of I.re I.dr.dict (by intro q; cases q)
          have cld : cl ≠ d := ne_of I.ch I.dr.dict (by intro q; cases q)
          have hre2 : (upd H2 d (.dK ((En ++ M).map kvE ++ [(Sum.inl ((h.loose en.1 k : Nat) : Int), V.ref ra)]))) rl = some (.lst (M.map xE)) := by
            rw [upd_ne rld]
            exact sra _ _ I.re
          refine ⟨_, rfl, .inl ⟨rfl, _, SqL.of hre2⟩, _, rfl, rl, _, _, rfl, rfl, hre2, ?_, ?_⟩
          · rw [List.length_map]
            rw [List.length_append] at len64
            exact small1000 (by omega)
          have rad : ra ≠ d := (ne_of_none I.dr.dict fra).symm
          have rar : ra ≠ rl := (ne_of_none I.re fra).symm
          have rac : ra ≠ cl := (ne_of_none I.ch fra).symm
          refine ⟨M ++ [(h.loose en.1 k, en.2.1 ++ [k], ra)], k + 1, _, _, rfl, U', ⟨⟨?_, fun e m => ?_, fun e m => ?_⟩, ?_, ?_, ?_, fun b o eb nb => ?_, I.fc, I.fr, I.ne, fun e m => ?_⟩⟩
          · rw [upd_ne rld.symm, upd_same, ← List.append_assoc, List.map_append (l₁ := En ++ M)]
            rfl
          · rw [← List.append_assoc] at m
            rcases List.mem_append.mp m with m | m
            · have a := I.ap e m
              have ed : e.2.2 ≠ d := ne_of (I.dr.rows e m) I.dr.dict (by intro q; cases q)
              rw [upd_ne a.1, upd_ne ed]
              exact sra _ _ (I.dr.rows e m)
            · rw [List.mem_singleton] at m
              subst m
              show (upd (upd H2 d _) rl _) ra = some (.lst ((en.2.1 ++ [k]).map vn))
              rw [upd_ne rar, upd_ne rad, hra2, List.map_append]
              rfl
          · rw [← List.append_assoc] at m ⊢
            rw [List.length_append]
            rcases List.mem_append.mp m with m | m
            · have := I.dr.short e m
              show e.2.1.length < (En ++ M).length + 1
              omega
            · rw [List.mem_singleton] at m
              subst m
              show (en.2.1 ++ [k]).length < (En ++ M).length + 1
              rw [List.length_append]
              show en.2.1.length + 1 < (En ++ M).length + 1
              omega
          · rw [upd_ne I.ne, upd_ne cld]
            exact sra _ _ I.ch
          · rw [upd_same, List.map_append]
            rfl
          · rw [← List.append_assoc, List.map_append]
            exact B.new k6 (get_dE em) hk fun j' r' q => by
              obtain ⟨e', a, b1, _⟩ := of_get_dE q
              exact nw e' (List.mem_of_getElem? a) b1
          · rw [upd_ne (ne_of_none eb I.fr), upd_ne nb]
            exact sra _ _ (I.kp b o eb nb)
          · rw [← List.append_assoc] at m
            rcases List.mem_append.mp m with m | m
            · exact I.ap e m
            · rw [List.mem_singleton] at m
              subst m
              exact ⟨rar, rac⟩
      · rintro σ H' ⟨M, b, v6, v7, rfl, U, I⟩
        rw [List.length_map] at U
        exact ⟨M, _, _, _, rfl, ⟨I.dr, I.ch, I.re, I.bf.next U.done, I.kp, I.fc, I.fr, I.ne, I.ap⟩⟩
    · rintro σ H' ⟨M, v5, v6, v7, rfl, I⟩
      have el : i0 + ((En.drop i0).map xE).length = En.length := by
        rw [List.length_map, List.length_drop]
        omega
      rw [el] at I
      exact ⟨_, rfl, z H' rl M I.dr I.re I.fr I.bf I.kp⟩
/-! ### row -/
theorem scO : FnScope ["self", "rows", "newest", "there"] ["self"] (defScope sRow) := ⟨rfl, rfl, rfl, by decide +kernel, rfl, by decide +kernel, by decide +kernel⟩
/-- how many there are -/
def lenD : Option HO → Nat
  | some (.dK kvs) => kvs.length
  | _ => 0
def lenL : Option HO → Nat
  | some (.lst xs) => xs.length
  | _ => 0
def refAt (i : Nat) (σ : L2.St) : Addr := match σ[i]? with
  | some (some (.ref a)) => a
  | _ => 0
/-- the state: E found, the newest from i on, none of those ahead without pests -/
structure AtR (H H' : Hp) (d nl : Addr) (h : Si67.House) (E : List Ent) (i : Nat) : Prop where
  dr : DR H' d E
  ne : H' nl = some (.lst ((E.drop i).map xE))
  bf : GM.Bfs h (E.map dE) i 0
  le : i ≤ E.length
  sm : Same H H'
  fd : H d = none
  no : ∀ j e, j < i → E[j]? = some e → h.clean e.1 = false
theorem ok_row {f C fN fF : Addr} {fd fdN fdF : FuncData} (F : Fun K "row" "Glasshouse.row" sRow f fd) (T : Txt K mg C)
    (GN : FnOk P w K mg base CX0 4 fN fdN ["self", "rows", "newest"] (spLen C)) (bN : Binds K fdN ["self", "rows", "newest"] []) (mN : Meth K C "lengthen" fN)
    (GF : FnOk P w K mg base CX0 4 fF fdF ["self", "there"] (spFree C)) (bF : Binds K fdF ["self", "there"] []) (mF : Meth K C "free_of_pests" fF) :
    FnOk P w K mg base CX0 5 f fd ["self"] (spCall C aRow) := by
  obtain ⟨tn, hmn⟩ := T.noway
  refine F.ok scO (fun vs H Q E h => ?_) (fun cdv A outer s H vs Q E hr h => ?_)
  · obtain ⟨p, dx, pa, ca, n, h, c, as, rfl, ⟨rfl, rfl⟩, _⟩ := h
    rfl
  · obtain ⟨p, dx, pa, ca, n, h, c, as, rfl, ⟨rfl, rfl⟩, g, R, z⟩ := h
    have ek := R.kinds
    have ep := R.pests
    have k6 := R.k6
    have hu := hu_of hr
    refine ⟨_, pss_cons (ps_set (i := 1) scO.nd rfl (Or.inl rfl) (pe_disp (pps_cons (pe_fld (pv 0) rfl) (pe_lst pa_nil) pps_nil) rfl rfl (by decide) (by decide)))
      (pss_cons (ps_set (i := 2) scO.nd rfl (Or.inl rfl) (pe_lst (pa_cons (pe_fld (pv 0) rfl) pa_nil)))
      (pss_cons (ps_while PassesOwn.never (pt_cmpR op_gt (pe_callB call_len_seq rfl T.len PySem.boot_len (pa_cons (pv 2) pa_nil)) pe_int (nomark _))
        (pss_cons (ps_for PassesOwn.never rfl (pi_list (pv 2)) (pg_name (i := 3) scO.nd rfl (Or.inl rfl))
          (pss_one (ps_if (pt_val (pe_meth (pv 0) T.cl mF GF hr bF .nil pass0 (pa_cons (pv 3) pa_nil)))
            (pss_one (ps_ret (pe_op op_cat (pe_lst (pa_cons (pe_callB call_len_seq rfl T.len PySem.boot_len (pa_cons (pe_dget hu (pv 1) (pv 3) (fun _ _ => rfl)) pa_nil)) pa_nil)) (pe_dget hu (pv 1) (pv 3) (fun _ _ => rfl))))) pss_nil)))
        (pss_one (ps_set (i := 2) scO.nd rfl (Or.inl rfl) (pe_meth (pv 0) T.cl mN GN hr bN .nil pass0 (pa_cons (pv 1) (pa_cons (pv 2) pa_nil)))))))
      (pss_one (ps_ret (pe_lst (pa_cons (pe_glob (v := .int (-6)) rfl hmn ⟨_, rfl⟩) pa_nil)))))), ?_⟩
    intro d hd
    have g0 := g.same (same_new (o := .dK []) hd)
    refine ⟨_, rfl, p, C, dx, _, _, rfl, g0.ins, T.cl, T.nPests, gf_pests _ _ _ _ _, le_line (by decide), fun r0 hr0 => ?_⟩
    have ndr : d ≠ r0 := ne_of_none upd_same hr0
    refine ⟨same_new hr0 _ _ upd_same, [(Sum.inl (n.pests : Int), V.ref r0)], rfl, by show 1 ≤ 15; decide, ?_⟩
    have fr0 : H r0 = none := by
      rw [upd_ne ndr.symm] at hr0
      exact hr0
    generalize hH1 : upd (upd (upd H d (.dK [])) r0 (.lst [])) d (.dK (mergeK [] [(Sum.inl (n.pests : Int), V.ref r0)])) = H1
    have s1 : Same H H1 := fun b o e => by
      rw [← hH1, upd_ne (ne_of_none e hd), upd_ne (ne_of_none e fr0), upd_ne (ne_of_none e hd)]
      exact e
    have hd1 : H1 d = some (.dK [(Sum.inl (n.pests : Int), V.ref r0)]) := by
      rw [← hH1, upd_same]
      rfl
    have hr1 : H1 r0 = some (.lst []) := by
      rw [← hH1, upd_ne ndr.symm, upd_same]
    have g1 := g.same s1
    refine ⟨_, rfl, p, C, dx, _, _, rfl, g1.ins, T.cl, T.nPests, gf_pests _ _ _ _ _, le1 _, fun nl hnl => ?_⟩
    have s2 := same_new (o := .lst [.int (n.pests : Int)]) hnl
    have start : AtR H (upd H1 nl (.lst [.int (n.pests : Int)])) d nl h [(h.pests, [], r0)] 0 := by
      refine ⟨⟨?_, fun e m => ?_, fun e m => ?_⟩, ?_, GM.bfs_start h, Nat.zero_le _, Same.trans s1 s2, hd, fun j e l => by omega⟩
      · rw [s2 _ _ hd1, ep]
        rfl
      · rw [List.mem_singleton] at m
        subst m
        exact s2 _ _ hr1
      · rw [List.mem_singleton] at m
        subst m
        show 0 < 1
        decide
      · rw [upd_same, ep]
        rfl
    refine while_by (fun σ H' => ∃ (nl : Addr) (v3 : Option V) (E : List Ent) (i : Nat), σ = [some (.ref p), some (.ref d), some (.ref nl), v3] ∧ AtR H H' d nl h E i)
      (fun σ H' => 65 - (lenD (H' d) - lenL (H' (refAt 2 σ)))) ⟨nl, none, _, 0, rfl, start⟩ ?_ (fun σ H Q Q' f ⟨u, eu, y, ys, e1, e2, i, j, e4, e5, k, ek, q⟩ => ⟨u, eu, y, ys, e1, e2, i, j, e4, e5, k, ek, f _ _ q⟩)
    rintro σ H' ⟨nl, v3, En, i, rfl, I⟩
    have gi := g.same I.sm
    have len64 := I.bf.len k6 R.plt
    rw [List.length_map] at len64
    have nd : (En.map (·.1)).Nodup := by
      rw [← fst_dE]
      exact I.bf.nodup k6
    refine ⟨_, rfl, nl, _, rfl, .inl (SqL.of I.ne), _, _, rfl, rfl, _, rfl, ite2 (fun h0 => ?_) (fun h0 => ?_)⟩
    · have lt : i < En.length := by
        have e : (0 : Int) < (((En.drop i).map xE).length : Int) := of_decide_eq_true h0
        rw [List.length_map, List.length_drop] at e
        omega
      refine ⟨_, rfl, nl, rfl, ⟨_, SqL.of I.ne⟩, ?_⟩
      refine for_list (xs := (En.drop i).map xE) (fun j σ Hj => Hj = H' ∧ (∃ v3 : Option V, σ = [some (.ref p), some (.ref d), some (.ref nl), v3]) ∧ ∀ j' e, j' < i + j → En[j']? = some e → h.clean e.1 = false)
        ⟨rfl, ⟨v3, rfl⟩, I.no⟩ (fun j σ Hj _ J => by rw [J.1]; exact SqL.of I.ne) ?_ ?_
      · rintro j x σ Hj ej0 ⟨rfl, ⟨v3, rfl⟩, no⟩
        obtain ⟨en, ej, rfl⟩ := get_xE ej0
        rw [List.getElem?_drop] at ej
        have me : en ∈ En := List.mem_of_getElem? ej
        refine ⟨_, rfl, p, dx, _, rfl, gi.ins, gf_no _ _ _ _ _ (by decide +kernel), _, rfl, p, dx, pa, ca, n, en.1, rfl, gi, _, rfl, ?_⟩
        have ecl := GM.clean_eq h R.plt en.1
        rw [ep, ← ecl]
        refine ite2 (fun h1 => ?_) (fun h1 => ?_)
        · have row := I.bf.found k6 R.plt (get_dE ej) h1 fun j' x' s' l e' => by
            obtain ⟨e2, a, b, _⟩ := of_get_dE e'
            rw [← b]
            exact no j' e2 l a
          have dg := val_at nd en me
          have er := I.dr.rows en me
          have sh := I.dr.short en me
          have get : ∀ {H2 : Hp}, Same Hj H2 → DGet H2 d (vn en.1) (some (V.ref en.2.2)) := fun s => by
            rw [← dg]
            exact DGet.k (k := Sum.inl (en.1 : Int)) (s _ _ I.dr.dict)
          refine ⟨_, rfl, _, rfl, d, _, rfl, get (Same.refl _), en.2.2, _, rfl, .inl (SqL.of er), le1 _, fun ol hol => ?_⟩
          refine ⟨_, rfl, _, rfl, d, _, rfl, get (same_new hol), ol, en.2.2, _, _, rfl, rfl, upd_same, same_new hol _ _ er, ?_, fun l hl => ?_⟩
          · rw [List.length_map]
            exact le_line (by show 1 + en.2.1.length ≤ 1000; omega)
          have sm2 := Same.trans I.sm (same_new (o := .lst [V.int ((en.2.1.map vn).length : Int)]) hol)
          refine done_same z g R (GM.ans_row row) (Same.trans sm2 (same_new hl)) (Same.free sm2 hl) ?_
          rw [upd_same, List.length_map, vn_ints]
          rfl
        · refine ⟨rfl, ⟨_, rfl⟩, fun j' e l a => ?_⟩
          by_cases q : j' = i + j
          · subst q
            rw [ej] at a
            cases a
            simpa using h1
          · exact no j' e (by omega) a
      · rintro σ Hj ⟨rfl, ⟨v3, rfl⟩, no⟩
        have el : i + ((En.drop i).map xE).length = En.length := by
          rw [List.length_map, List.length_drop]
          omega
        rw [el] at no
        refine ⟨_, rfl, p, dx, _, rfl, gi.ins, gf_no _ _ _ _ _ (by decide +kernel), _, rfl, _, rfl, p, dx, pa, ca, d, nl, n, h, En, i, rfl, gi, R, I.dr, I.ne, I.le, I.bf, fun H2 rl M dr2 re2 fr2 bf2 kp2 => ?_⟩
        refine ⟨⟨rl, _, En ++ M, En.length, rfl, ⟨dr2, by rw [List.drop_left]; exact re2, bf2, by rw [List.length_append]; omega, fun b o e => kp2 b o (I.sm _ _ e) (ne_of_none e I.fd), I.fd, fun j e l a => ?_⟩⟩, ?_⟩
        · rw [List.getElem?_append_left l] at a
          exact no j e l a
        · show 65 - (lenD (H2 d) - lenL (H2 rl)) < 65 - (lenD (Hj d) - lenL (Hj nl))
          rw [dr2.dict, re2, I.dr.dict, I.ne]
          show 65 - (((En ++ M).map kvE).length - (M.map xE).length) < 65 - ((En.map kvE).length - ((En.drop i).map xE).length)
          rw [List.length_map, List.length_map, List.length_map, List.length_map, List.length_append, List.length_drop]
          omega
    · have e : i = En.length := by
        have q : ¬ (0 : Int) < (((En.drop i).map xE).length : Int) := fun q => h0 (decide_eq_true q)
        rw [List.length_map, List.length_drop] at q
        have := I.le
        omega
      subst e
      have bf := I.bf
      have row : h.row = none := by
        refine GM.Bfs.none (D := En.map dE) (b := 0) R.plt (by rw [List.length_map]; exact bf) fun j x s ej => ?_
        obtain ⟨e2, a, b, _⟩ := of_get_dE ej
        rw [← b]
        exact I.no j e2 (List.getElem?_eq_some_iff.mp a).1 a
      exact ⟨le_line (by decide), fun l hl => done_same z g R (GM.ans_row_no row) (Same.trans I.sm (same_new hl)) (Same.free I.sm hl) upd_same⟩
end
end G
set_option Elab.async false
set_option maxRecDepth 100000
set_option maxHeartbeats 2000000
namespace G
open PySem PySem.Spec PyProof.Rows L2
theorem goes_state (h : Si67.House) (l : List Nat) : (Si67.step h (.goes l)).1 = h := by
  show (if _ then _ else _ : Si67.House × Si67.Ans).1 = h
  split
  · rfl
  · split <;> rfl
def spAnswer (C : Addr) : Sp := fun vs H Q _ => ∃ (p dx pa ca nl : Addr) (n : GM.Nums) (h : Si67.House) (c : Si67.Call) (y : Int) (ns : List Int), vs = [.ref p, .int y, .ref nl] ∧ H nl = some (.lst (ns.map V.int)) ∧ GM.Form (y :: ns) c ∧ GA C H p dx pa ca n ∧ GM.Rel h n ∧ Cont C H p dx pa ca h c Q
/-- the defs that answer asks -/
structure Calls (P : Program) (w : World) (K : PySem.W.Frag) (mg : Str → Option Value) (base : Heap) (C : Addr) where
  fB : Addr
  dB : FuncData
  gB : FnOk P w K mg base CX0 5 fB dB ["self", "kinds", "pests"] (spCall C aBegins)
  bB : Binds K dB ["self", "kinds", "pests"] []
  mB : Meth K C "begins" fB
  fE : Addr
  dE : FuncData
  gE : FnOk P w K mg base CX0 5 fE dE ["self", "kind", "other"] (spCall C aEats)
  bE : Binds K dE ["self", "kind", "other"] []
  mE : Meth K C "eats" fE
  fC : Addr
  dC : FuncData
  gC : FnOk P w K mg base CX0 5 fC dC ["self", "helper", "price"] (spCall C aCost)
  bC : Binds K dC ["self", "helper", "price"] []
  mC : Meth K C "cost" fC
  fS : Addr
  dS : FuncData
  gS : FnOk P w K mg base CX0 5 fS dS ["self", "helpers"] (spCall C aWeeks)
  bS : Binds K dS ["self", "helpers"] []
  mS : Meth K C "weeks" fS
  fT : Addr
  dT : FuncData
  gT : FnOk P w K mg base CX0 5 fT dT ["self"] (spCall C aBest)
  bT : Binds K dT ["self"] []
  mT : Meth K C "best" fT
  fG : Addr
  dG : FuncData
  gG : FnOk P w K mg base CX0 5 fG dG ["self", "choices"] (spGoes C)
  bG : Binds K dG ["self", "choices"] []
  mG : Meth K C "goes" fG
  fO : Addr
  dO : FuncData
  gO : FnOk P w K mg base CX0 5 fO dO ["self"] (spCall C aRow)
  bO : Binds K dO ["self"] []
  mO : Meth K C "row" fO
section
variable {P : Program} {w : World} {K : PySem.W.Frag} {mg : Str → Option Value} {base : Heap}
theorem scA : FnScope ["glasshouse", "call", "numbers"] ["glasshouse", "call", "numbers"] (defScope sAnswer) := ⟨rfl, rfl, rfl, by decide +kernel, rfl, by decide +kernel, by decide +kernel⟩
theorem ok_answer {f C : Addr} {fd : FuncData} (F : Fun K "answer" "answer" sAnswer f fd) (T : Txt K mg C) (L : Calls P w K mg base C) :
    FnOk P w K mg base CX0 6 f fd ["glasshouse", "call", "numbers"] (spAnswer C) := by
  obtain ⟨t0, h0⟩ := T.cBegins
  obtain ⟨t1, h1⟩ := T.cEats
  obtain ⟨t2, h2⟩ := T.cCost
  obtain ⟨t3, h3⟩ := T.cWeeks
  obtain ⟨t4, h4⟩ := T.cBest
  obtain ⟨t5, h5⟩ := T.cGoes
  obtain ⟨t6, h6⟩ := T.cRow
  refine F.ok scA (fun vs H Q E h => ?_) (fun cdv A outer s H vs Q E hr h => ?_)
  · obtain ⟨p, dx, pa, ca, nl, n, h, c, y, ns, rfl, _⟩ := h
    rfl
  · obtain ⟨p, dx, pa, ca, nl, n, h, c, y, ns, rfl, hn, fm, g, R, z⟩ := h
    refine ⟨_, pss_cons (ps_if (pt_cmpR op_eq (pv 1) (pe_glob (v := .int 0) rfl h0 ⟨_, rfl⟩) (nomark _))
        (pss_one (ps_ret (pe_meth (pv 0) T.cl L.mB L.gB hr L.bB .nil pass0 (pa_cons (pe_ix ix_list (pv 2) pe_int (fun _ _ => rfl)) (pa_cons (pe_ix ix_list (pv 2) pe_int (fun _ _ => rfl)) pa_nil))))) pss_nil)
      (pss_cons (ps_if (pt_cmpR op_eq (pv 1) (pe_glob (v := .int 1) rfl h1 ⟨_, rfl⟩) (nomark _))
        (pss_one (ps_ret (pe_meth (pv 0) T.cl L.mE L.gE hr L.bE .nil pass0 (pa_cons (pe_ix ix_list (pv 2) pe_int (fun _ _ => rfl)) (pa_cons (pe_ix ix_list (pv 2) pe_int (fun _ _ => rfl)) pa_nil))))) pss_nil)
      (pss_cons (ps_if (pt_cmpR op_eq (pv 1) (pe_glob (v := .int 2) rfl h2 ⟨_, rfl⟩) (nomark _))
        (pss_one (ps_ret (pe_meth (pv 0) T.cl L.mC L.gC hr L.bC .nil pass0 (pa_cons (pe_ix ix_list (pv 2) pe_int (fun _ _ => rfl)) (pa_cons (pe_ix ix_list (pv 2) pe_int (fun _ _ => rfl)) pa_nil))))) pss_nil)
      (pss_cons (ps_if (pt_cmpR op_eq (pv 1) (pe_glob (v := .int 3) rfl h3 ⟨_, rfl⟩) (nomark _))
        (pss_one (ps_ret (pe_meth (pv 0) T.cl L.mS L.gS hr L.bS .nil pass0 (pa_cons (pe_ix ix_list (pv 2) pe_int (fun _ _ => rfl)) pa_nil)))) pss_nil)
      (pss_cons (ps_if (pt_cmpR op_eq (pv 1) (pe_glob (v := .int 4) rfl h4 ⟨_, rfl⟩) (nomark _))
        (pss_one (ps_ret (pe_meth0 (pv 0) T.cl L.mT L.gT hr L.bT .nil pass0))) pss_nil)
      (pss_cons (ps_if (pt_cmpR op_eq (pv 1) (pe_glob (v := .int 5) rfl h5 ⟨_, rfl⟩) (nomark _))
        (pss_one (ps_ret (pe_meth (pv 0) T.cl L.mG L.gG hr L.bG .nil pass0 (pa_cons (pv 2) pa_nil)))) pss_nil)
      (pss_cons (ps_if (pt_cmpR op_eq (pv 1) (pe_glob (v := .int 6) rfl h6 ⟨_, rfl⟩) (nomark _))
        (pss_one (ps_ret (pe_meth0 (pv 0) T.cl L.mO L.gO hr L.bO .nil pass0))) pss_nil)
      pss_never)))))), ?_⟩
    cases fm with
    | begins k q _ _ =>
      refine ⟨_, rfl, rfl, _, rfl, itY (by decide) ?_⟩
      exact ⟨_, rfl, p, dx, _, rfl, g.ins, gf_no _ _ _ _ _ (by decide +kernel), _, rfl, nl, _, _, _, rfl, rfl, SqL.of hn, at_of (j := 0) rfl rfl, _, rfl, nl, _, _, _, rfl, rfl, SqL.of hn, at_of (j := 1) rfl rfl,
        p, dx, pa, ca, n, h, _, _, rfl, ⟨k, q, rfl, rfl⟩, g, R, z⟩
    | eats a b _ _ =>
      refine ⟨_, rfl, rfl, _, rfl, itN (by decide) ?_⟩
      refine ⟨_, rfl, rfl, _, rfl, itY (by decide) ?_⟩
      exact ⟨_, rfl, p, dx, _, rfl, g.ins, gf_no _ _ _ _ _ (by decide +kernel), _, rfl, nl, _, _, _, rfl, rfl, SqL.of hn, at_of (j := 0) rfl rfl, _, rfl, nl, _, _, _, rfl, rfl, SqL.of hn, at_of (j := 1) rfl rfl,
        p, dx, pa, ca, n, h, _, _, rfl, ⟨a, b, rfl, rfl⟩, g, R, z⟩
    | cost a b _ _ =>
      refine ⟨_, rfl, rfl, _, rfl, itN (by decide) ?_⟩
      refine ⟨_, rfl, rfl, _, rfl, itN (by decide) ?_⟩
      refine ⟨_, rfl, rfl, _, rfl, itY (by decide) ?_⟩
      exact ⟨_, rfl, p, dx, _, rfl, g.ins, gf_no _ _ _ _ _ (by decide +kernel), _, rfl, nl, _, _, _, rfl, rfl, SqL.of hn, at_of (j := 0) rfl rfl, _, rfl, nl, _, _, _, rfl, rfl, SqL.of hn, at_of (j := 1) rfl rfl,
        p, dx, pa, ca, n, h, _, _, rfl, ⟨a, b, rfl, rfl⟩, g, R, z⟩
    | weeks a _ =>
      refine ⟨_, rfl, rfl, _, rfl, itN (by decide) ?_⟩
      refine ⟨_, rfl, rfl, _, rfl, itN (by decide) ?_⟩
      refine ⟨_, rfl, rfl, _, rfl, itN (by decide) ?_⟩
      refine ⟨_, rfl, rfl, _, rfl, itY (by decide) ?_⟩
      exact ⟨_, rfl, p, dx, _, rfl, g.ins, gf_no _ _ _ _ _ (by decide +kernel), _, rfl, nl, _, _, _, rfl, rfl, SqL.of hn, at_of (j := 0) rfl rfl,
        p, dx, pa, ca, n, h, _, _, rfl, ⟨a, rfl, rfl⟩, g, R, z⟩
    | best =>
      refine ⟨_, rfl, rfl, _, rfl, itN (by decide) ?_⟩
      refine ⟨_, rfl, rfl, _, rfl, itN (by decide) ?_⟩
      refine ⟨_, rfl, rfl, _, rfl, itN (by decide) ?_⟩
      refine ⟨_, rfl, rfl, _, rfl, itN (by decide) ?_⟩
      refine ⟨_, rfl, rfl, _, rfl, itY (by decide) ?_⟩
      exact ⟨_, rfl, p, dx, _, rfl, g.ins, gf_no _ _ _ _ _ (by decide +kernel), p, dx, pa, ca, n, h, _, _, rfl, ⟨rfl, rfl⟩, g, R, z⟩
    | goes l _ _ =>
      refine ⟨_, rfl, rfl, _, rfl, itN (by decide) ?_⟩
      refine ⟨_, rfl, rfl, _, rfl, itN (by decide) ?_⟩
      refine ⟨_, rfl, rfl, _, rfl, itN (by decide) ?_⟩
      refine ⟨_, rfl, rfl, _, rfl, itN (by decide) ?_⟩
      refine ⟨_, rfl, rfl, _, rfl, itN (by decide) ?_⟩
      refine ⟨_, rfl, rfl, _, rfl, itY (by decide) ?_⟩
      refine ⟨_, rfl, p, dx, _, rfl, g.ins, gf_no _ _ _ _ _ (by decide +kernel), _, rfl, p, dx, pa, ca, nl, n, h, l, rfl, ?_, g, R, fun H' r sm hr' nr => ?_⟩
      · rw [hn, List.map_map]
        rfl
      · exact done_same z g R ⟨goes_state h l, rfl⟩ sm nr hr'
    | row =>
      refine ⟨_, rfl, rfl, _, rfl, itN (by decide) ?_⟩
      refine ⟨_, rfl, rfl, _, rfl, itN (by decide) ?_⟩
      refine ⟨_, rfl, rfl, _, rfl, itN (by decide) ?_⟩
      refine ⟨_, rfl, rfl, _, rfl, itN (by decide) ?_⟩
      refine ⟨_, rfl, rfl, _, rfl, itN (by decide) ?_⟩
      refine ⟨_, rfl, rfl, _, rfl, itN (by decide) ?_⟩
      refine ⟨_, rfl, rfl, _, rfl, itY (by decide) ?_⟩
      exact ⟨_, rfl, p, dx, _, rfl, g.ins, gf_no _ _ _ _ _ (by decide +kernel), p, dx, pa, ca, n, h, _, _, rfl, ⟨rfl, rfl⟩, g, R, z⟩
/-! ### answers -/
theorem upd_none {H : Hp} {a b : Addr} {o : HO} (h : upd H a o b = none) : b ≠ a ∧ H b = none := by
  by_cases e : b = a
  · rw [e, upd_same] at h
    cases h
  · rw [upd_ne e] at h
    exact ⟨e, h⟩
theorem small_of {n : Nat} (h : n ≤ 10000) : n < sizeLine := Nat.lt_of_le_of_lt h (by decide)
theorem drop_get {l r : List Int} {i : Nat} {x : Int} (e : l.drop i = x :: r) : l[i]? = some x ∧ l.drop (i + 1) = r ∧ i < l.length := by
  have h1 : (l.drop i)[0]? = some x := by rw [e]; rfl
  rw [List.getElem?_drop] at h1
  have h2 : (l.drop i).drop 1 = r := by rw [e]; rfl
  rw [List.drop_drop] at h2
  exact ⟨h1, h2, (List.getElem?_eq_some_iff.mp h1).1⟩
theorem drop_len {l r : List Int} {i : Nat} (e : l.drop i = r) (h : i ≤ l.length) : l.length = i + r.length := by
  have := congrArg List.length e
  rw [List.length_drop] at this
  omega
theorem cut_drop {l ns r : List Int} {i : Nat} (e : l.drop i = ns ++ r) (h : i ≤ l.length) : cutV (l.map V.int) (some ((i : Nat) : Int)) (some ((i + ns.length : Nat) : Int)) = ns.map V.int := by
  have hl := drop_len e h
  rw [List.length_append] at hl
  unfold cutV
  rw [HT.sIx_nat, HT.sIx_nat, List.length_map, Nat.min_eq_left h, Nat.min_eq_left (by omega)]
  rw [← List.map_drop, e, show i + ns.length - i = ns.length by omega, ← List.map_take]
  simp
theorem int_at {l : List Int} {i : Nat} {x : Int} (h : l[i]? = some x) : atI (l.map V.int) (i : Int) = some (V.int x) := atI_nat (by rw [List.getElem?_map, h]; rfl)
theorem scZ : FnScope ["calls", "glasshouse", "given", "place", "first", "behind", "answered"] ["calls"] (defScope sAns) := ⟨rfl, rfl, rfl, by decide +kernel, rfl, by decide +kernel, by decide +kernel⟩
/-- what a line's calls may be -/
def Good (q : List Int) : Prop := GM.Asked q
def spAns (K : PySem.W.Frag) : Sp := fun vs H Q _ => ∃ (a : Addr) (l : List Int) (qs : List (List Int)), vs = [.ref a] ∧ SqL K H a (l.map V.int) ∧ GM.Parse l qs ∧ qs.length ≤ 60 ∧ (∀ q ∈ qs, Good q) ∧
  ∀ (H' : Hp) (r : Addr), H' r = some (.lst ((GM.dueFrom Si67.init qs).map V.int)) → Q (.ref r) H'
/-- the state of the loop -/
structure At (C : Addr) (H H' : Hp) (l due : List Int) (p gl : Addr) (place : Nat) : Prop where
  st : ∃ (dx pa ca : Addr) (n : GM.Nums) (h : Si67.House) (qs : List (List Int)) (out : List Int), GA C H' p dx pa ca n ∧ GM.Rel h n ∧ GM.Parse (l.drop place) qs ∧ (∀ q ∈ qs, Good q) ∧ H' gl = some (.lst (out.map V.int)) ∧ gl ≠ pa ∧ gl ≠ ca ∧
    due = out ++ GM.dueFrom h qs ∧ out.length + 101 * qs.length ≤ 6060 ∧ H pa = none ∧ H ca = none
  le : place ≤ l.length
  sm : Same H H'
  np : H p = none
  ng : H gl = none
theorem ok_ans {f C fI fA : Addr} {fd fdI fdA : FuncData} (F : Fun K "answers" "answers" sAns f fd) (T : Txt K mg C) (M : Mk K C fI) (GI : FnOk P w K mg base CX0 2 fI fdI ["self"] (spInit C)) (bI : Binds K fdI ["self"] [])
    (GA4 : FnOk P w K mg base CX0 6 fA fdA ["glasshouse", "call", "numbers"] (spAnswer C)) (bA : Binds K fdA ["glasshouse", "call", "numbers"] []) (mA : mg "answer" = some (.ref fA)) (kA : PySem.W.keepIn K (.ref fA) = true) :
    FnOk P w K mg base CX0 7 f fd ["calls"] (spAns K) := by
  refine F.ok scZ (fun vs H Q E h => ?_) (fun cdv A outer s H vs Q E hr h => ?_)
  · obtain ⟨a, l, qs, rfl, _⟩ := h
    rfl
  · obtain ⟨a, l, qs, rfl, hS, hP, hlen, hG, z⟩ := h
    have hr3 : Room 3 _ := hr.mono (by decide)
    refine ⟨_, pss_cons (ps_set (i := 1) scZ.nd rfl (Or.inl rfl) (pe_make0 M GI hr3 rfl T.mgC bI .nil pass0))
      (pss_cons (ps_set (i := 2) scZ.nd rfl (Or.inl rfl) (pe_lst pa_nil))
      (pss_cons (ps_set (i := 3) scZ.nd rfl (Or.inl rfl) pe_int)
      (pss_cons (ps_while PassesOwn.never (pt_cmpR op_lt (pv 3) (pe_callB call_len_seq rfl T.len PySem.boot_len (pa_cons (pv 0) pa_nil)) (nomark _))
        (pss_cons (ps_set (i := 4) scZ.nd rfl (Or.inl rfl) (pe_op op_add (pv 3) pe_int))
        (pss_cons (ps_set (i := 5) scZ.nd rfl (Or.inl rfl) (pe_op op_add (pv 4) (pe_ix ix_list (pv 0) (pe_op op_add (pv 3) pe_int) (fun _ _ => rfl))))
        (pss_cons (ps_set (i := 6) scZ.nd rfl (Or.inl rfl) (pe_call GA4 hr rfl mA kA bA .nil pass0 (pa_cons (pv 1) (pa_cons (pe_ix ix_list (pv 0) (pv 3) (fun _ _ => rfl)) (pa_cons (pe_slice sl_list (pv 0) (po_some (pv 4)) (po_some (pv 5))) pa_nil)))))
        (pss_cons (ps_expr (pe_bm PySem.F.plainAttrs_list PySem.F.slot_list_append PySem.F.type_list_append mt_append (pv 2) (pa_cons (pe_callB call_len_seq rfl T.len PySem.boot_len (pa_cons (pv 6) pa_nil)) pa_nil)))
        (pss_cons (ps_expr (pe_bm PySem.F.plainAttrs_list PySem.F.slot_list_extend PySem.F.type_list_extend mt_extend (pv 2) (pa_cons (pv 6) pa_nil)))
        (pss_one (ps_set (i := 3) scZ.nd rfl (Or.inl rfl) (pe_op op_add (pv 5) pe_int)))))))))
      (pss_one (ps_ret (pv 2)))))), ?_⟩
    intro p dx np ndx nex
    refine ⟨p, dx, rfl, upd_same, fun H1 pa ca g1 f1 f2 k1 => ⟨rfl, ?_⟩⟩
    have s1 : Same H H1 := Same.made np ndx k1
    have npa : H pa = none := (upd_none (upd_none f1).2).2
    have nca : H ca = none := (upd_none (upd_none f2).2).2
    refine ⟨le_line (by decide), fun gl hgl => ?_⟩
    have s2 : Same H1 (upd H1 gl (.lst [])) := same_new hgl
    refine while_by (fun σ H' => ∃ (place : Nat) (v4 v5 v6 : Option V), σ = [some (.ref a), some (.ref p), some (.ref gl), some (vn place), v4, v5, v6] ∧ At C H H' l (GM.dueFrom Si67.init qs) p gl place)
      (fun σ _ => l.length - slot 3 σ) ⟨0, none, none, none, rfl, ⟨⟨dx, pa, ca, _, _, qs, [], g1.same s2, GM.rel_init, hP, hG, upd_same, ?_, ?_, rfl, ?_, npa, nca⟩, Nat.zero_le _, Same.trans s1 s2, np, Same.free s1 hgl⟩⟩ ?_ (fun σ H Q Q' f ⟨u, eu, v, ev, y, e1, e2, e3, i, j, e4, e5, k, ek, q⟩ => ⟨u, eu, v, ev, y, e1, e2, e3, i, j, e4, e5, k, ek, f _ _ q⟩)
    · exact fun e => by rw [e, g1.prey] at hgl; cases hgl
    · exact fun e => by rw [e, g1.costs] at hgl; cases hgl
    · show 0 + 101 * qs.length ≤ 6060
      omega
    rintro σ H' ⟨place, v4, v5, v6, rfl, I⟩
    obtain ⟨⟨dx', pa', ca', n, h, rs, out, g, R, hP', hG', hgl', n1, n2, due, bound, fpa, fca⟩, le, sm, _, ng⟩ := I
    have hS' := Same.seq sm hS
    refine ⟨_, rfl, _, rfl, a, _, rfl, .inl hS', _, _, rfl, rfl, _, rfl, ite2 (fun h2 => ?_) (fun h2 => ?_)⟩
    · have lt : place < l.length := by
        have e : ((place : Nat) : Int) < ((l.map V.int).length : Int) := of_decide_eq_true h2
        rw [List.length_map] at e
        omega
      generalize hd : l.drop place = r at hP'
      cases hP' with
      | nil =>
        have := drop_len hd le
        rw [List.length_nil] at this
        omega
      | cons y ns rest qs' P' =>
        obtain ⟨i0, d1, _⟩ := drop_get hd
        obtain ⟨i1, d2, lt2⟩ := drop_get d1
        have ll := drop_len d2 (by omega)
        rw [List.length_append, List.length_cons] at ll
        have cut := cut_drop d2 (by omega)
        have d3 : l.drop (place + 2 + ns.length + 1) = rest := by
          have : (l.drop (place + 1 + 1)).drop (ns.length + 1) = rest := by
            rw [d2]
            simp
          rw [List.drop_drop] at this
          rw [show place + 2 + ns.length + 1 = place + 1 + 1 + (ns.length + 1) by omega]
          exact this
        have e1 : ((place : Nat) : Int) + 1 = ((place + 1 : Nat) : Int) := by omega
        have e2 : ((place : Nat) : Int) + 2 = ((place + 2 : Nat) : Int) := by omega
        have e3 : ((place + 2 : Nat) : Int) + (ns.length : Int) = ((place + 2 + ns.length : Nat) : Int) := by omega
        have e4 : ((place + 2 + ns.length : Nat) : Int) + 1 = ((place + 2 + ns.length + 1 : Nat) : Int) := by omega
        refine ⟨_, rfl, _, _, rfl, rfl, ?_⟩
        dsimp only
        rw [e2]
        refine ⟨_, rfl, _, rfl, _, rfl, _, _, rfl, rfl, a, _, _, _, rfl, rfl, hS', by rw [e1]; exact int_at i1, _, _, rfl, rfl, ?_⟩
        dsimp only
        rw [e3]
        refine ⟨_, rfl, _, rfl, _, rfl, a, _, _, _, rfl, rfl, hS', int_at i0, _, rfl, _, rfl, _, rfl, _, rfl, _, rfl, a, _, rfl, hS', fun nl hnl => ?_⟩
        try dsimp only
        rw [cut]
        have s3 : Same H' (upd H' nl (.lst (ns.map V.int))) := same_new hnl
        have gq := hG' _ (List.mem_cons_self ..)
        obtain ⟨c, ec, fm⟩ := GM.form_of gq
        refine ⟨p, dx', pa', ca', nl, n, h, c, y, ns, rfl, upd_same, fm, g.same s3, R, fun H2 al pa2 ca2 m g2 R2 hal nal opa oca kp => ?_⟩
        have la : (GM.ans h c).length ≤ 100 := GM.ans_len R fm
        have hglx : (upd H' nl (.lst (ns.map V.int))) gl = some (.lst (out.map V.int)) := s3 _ _ hgl'
        have ngp : gl ≠ p := fun e => by
          have := g.ins
          rw [← e, hgl'] at this
          cases this
        have hgl2 : H2 gl = some (.lst (out.map V.int)) := kp gl _ hglx ngp n1 n2
        have nga : gl ≠ al := ne_of_none hglx nal
        have ngp2 : gl ≠ pa2 := by
          rcases opa with e | e
          · rw [e]
            exact n1
          · exact ne_of_none hglx e
        have ngc2 : gl ≠ ca2 := by
          rcases oca with e | e
          · rw [e]
            exact n2
          · exact ne_of_none hglx e
        have fpa2 : H pa2 = none := by
          rcases opa with e | e
          · rw [e]
            exact fpa
          · exact Same.free sm (upd_none e).2
        have fca2 : H ca2 = none := by
          rcases oca with e | e
          · rw [e]
            exact fca
          · exact Same.free sm (upd_none e).2
        have bound' : out.length + (101 * qs'.length + 101) ≤ 6060 := by
          rw [List.length_cons, Nat.mul_succ] at bound
          exact bound
        refine ⟨_, rfl, .inl ⟨rfl, _, SqL.of hgl2⟩, _, rfl, al, _, rfl, .inl (SqL.of hal), gl, _, _, rfl, rfl, hgl2, ?_, ?_⟩
        · rw [List.length_map]
          exact small_of (by omega)
        refine ⟨_, rfl, .inl ⟨rfl, _, SqL.of upd_same⟩, _, rfl, gl, al, _, _, rfl, rfl, upd_same, by rw [upd_ne nga.symm]; exact hal, ?_, ?_⟩
        · rw [List.length_append, List.length_map, List.length_map]
          show out.length + 1 + (GM.ans h c).length ≤ sizeLine
          exact Nat.le_of_lt (small_of (by omega))
        rw [upd_upd]
        refine ⟨_, rfl, _, _, rfl, rfl, ?_⟩
        dsimp only
        rw [e4]
        have at' : At C H (upd H2 gl (.lst ((out.map V.int ++ [V.int (((GM.ans h c).map V.int).length : Int)]) ++ (GM.ans h c).map V.int))) l (GM.dueFrom Si67.init qs) p gl (place + 2 + ns.length + 1) := by
          refine ⟨⟨dx', pa2, ca2, m, (Si67.step h c).1, qs', out ++ (((GM.ans h c).length : Nat) : Int) :: GM.ans h c, ⟨?_, ?_, ?_, g2.ne⟩, R2, by rw [d3]; exact P', fun q m => hG' q (List.mem_cons_of_mem _ m), ?_, ngp2, ngc2, ?_, ?_, fpa2, fca2⟩, by omega, fun b o e => ?_, np, ng⟩
          · rw [upd_ne ngp.symm]
            exact g2.ins
          · rw [upd_ne ngp2.symm]
            exact g2.prey
          · rw [upd_ne ngc2.symm]
            exact g2.costs
          · rw [upd_same, List.length_map, List.append_assoc, List.map_append]
            rfl
          · rw [due, GM.due_cons, GM.step_is ec, List.append_assoc]
            rfl
          · rw [List.length_append, List.length_cons]
            omega
          · rw [upd_ne (ne_of_none e ng)]
            exact kp b o (s3 _ _ (sm _ _ e)) (ne_of_none e np) (ne_of_none e fpa) (ne_of_none e fca)
        refine ⟨⟨place + 2 + ns.length + 1, _, _, _, rfl, at'⟩, ?_⟩
        show l.length - (((place + 2 + ns.length + 1 : Nat) : Int)).toNat < l.length - (((place : Nat) : Int)).toNat
        rw [Int.toNat_natCast, Int.toNat_natCast]
        omega
    · have e : l.drop place = [] := by
        have q : ¬ ((place : Nat) : Int) < ((l.map V.int).length : Int) := fun q => h2 (decide_eq_true q)
        rw [List.length_map] at q
        exact List.drop_eq_nil_of_le (by omega)
      rw [e] at hP'
      cases hP'
      rw [GM.due_nil, List.append_nil] at due
      refine ⟨_, rfl, z H' gl ?_⟩
      rw [due]
      exact hgl'
end
end G
set_option Elab.async false
set_option maxRecDepth 100000
set_option maxHeartbeats 2000000
namespace G
open PySem PySem.Spec PyProof.Rows L2
open PySem.W (Codec)
theorem all_mk {P : Program} {w : World} {K : PySem.W.Frag} {h : Heap} {mg : Str → Option Value} {fa C fH fI fR fB fE fQ fS fW fT fD fP fF fG fL fO fN fA fZ : Addr} {odH anH odI anI odR anR odB anB odE anE odQ anQ odS anS odW anW odT anT odD anD odP anP odF anF odG anG odL anL odO anO odN anN odA anA odZ anZ : Option Addr} {slH slI slR slB slE slQ slS slW slT slD slP slF slG slL slO slN slA slZ : Array (Option Value)} {ocH kVH dcH pmH cdH ctH ocI kVI dcI pmI cdI ctI ocR kVR dcR pmR cdR ctR ocB kVB dcB pmB cdB ctB ocE kVE dcE pmE cdE ctE ocQ kVQ dcQ pmQ cdQ ctQ ocS kVS dcS pmS cdS ctS ocW kVW dcW pmW cdW ctW ocT kVT dcT pmT cdT ctT ocD kVD dcD pmD cdD ctD ocP kVP dcP pmP cdP ctP ocF kVF dcF pmF cdF ctF ocG kVG dcG pmG cdG ctG ocL kVL dcL pmL cdL ctL ocO kVO dcO pmO cdO ctO ocN kVN dcN pmN cdN ctN ocA kVA dcA pmA cdA ctA ocZ kVZ dcZ pmZ cdZ ctZ : Value} {t_mKinds t_mCost t_mWeeks t_bad t_there t_allowed t_noway t_cBegins t_cEats t_cCost t_cWeeks t_cBest t_cGoes t_cRow : Tok} (X : K.In h) (G : h.Ns mainGlobals mg) (hfa : mg "answers" = some (.ref fa))
    (aC : PySem.W.nsIn K mainGlobals "Glasshouse" = some (some (.ref C)))
    (aH : PySem.W.nsIn K mainGlobals "holds" = some (some (.ref fH)))
    (lH : K.lookup fH = some ⟨ocH, odH, .func (PySem.W.fnOf "holds" "holds" (defArgs sHolds) (defBody sHolds) (defScope sHolds) .none kVH dcH pmH anH cdH ctH), slH⟩)
    (cH : PySem.W.codeIn K cdH "holds" = true)
    (kH : PySem.W.keepIn K (.ref fH) = true)
    (aI : PySem.W.findIn K (.ref C) "__init__" = some (some (.ref fI)))
    (iI : PySem.W.isFn K (.ref fI) = true)
    (lI : K.lookup fI = some ⟨ocI, odI, .func (PySem.W.fnOf "__init__" "Glasshouse.__init__" (defArgs sInit) (defBody sInit) (defScope sInit) .none kVI dcI pmI anI cdI ctI), slI⟩)
    (cI : PySem.W.codeIn K cdI "Glasshouse.__init__" = true)
    (kI : PySem.W.keepIn K (.ref fI) = true)
    (aR : PySem.W.findIn K (.ref C) "renew" = some (some (.ref fR)))
    (iR : PySem.W.isFn K (.ref fR) = true)
    (lR : K.lookup fR = some ⟨ocR, odR, .func (PySem.W.fnOf "renew" "Glasshouse.renew" (defArgs sRenew) (defBody sRenew) (defScope sRenew) .none kVR dcR pmR anR cdR ctR), slR⟩)
    (cR : PySem.W.codeIn K cdR "Glasshouse.renew" = true)
    (kR : PySem.W.keepIn K (.ref fR) = true)
    (aB : PySem.W.findIn K (.ref C) "begins" = some (some (.ref fB)))
    (iB : PySem.W.isFn K (.ref fB) = true)
    (lB : K.lookup fB = some ⟨ocB, odB, .func (PySem.W.fnOf "begins" "Glasshouse.begins" (defArgs sBegins) (defBody sBegins) (defScope sBegins) .none kVB dcB pmB anB cdB ctB), slB⟩)
    (cB : PySem.W.codeIn K cdB "Glasshouse.begins" = true)
    (kB : PySem.W.keepIn K (.ref fB) = true)
    (aE : PySem.W.findIn K (.ref C) "eats" = some (some (.ref fE)))
    (iE : PySem.W.isFn K (.ref fE) = true)
    (lE : K.lookup fE = some ⟨ocE, odE, .func (PySem.W.fnOf "eats" "Glasshouse.eats" (defArgs sEats) (defBody sEats) (defScope sEats) .none kVE dcE pmE anE cdE ctE), slE⟩)
    (cE : PySem.W.codeIn K cdE "Glasshouse.eats" = true)
    (kE : PySem.W.keepIn K (.ref fE) = true)
    (aQ : PySem.W.findIn K (.ref C) "cost" = some (some (.ref fQ)))
    (iQ : PySem.W.isFn K (.ref fQ) = true)
    (lQ : K.lookup fQ = some ⟨ocQ, odQ, .func (PySem.W.fnOf "cost" "Glasshouse.cost" (defArgs sCost) (defBody sCost) (defScope sCost) .none kVQ dcQ pmQ anQ cdQ ctQ), slQ⟩)
    (cQ : PySem.W.codeIn K cdQ "Glasshouse.cost" = true)
    (kQ : PySem.W.keepIn K (.ref fQ) = true)
    (aS : PySem.W.findIn K (.ref C) "weeks" = some (some (.ref fS)))
    (iS : PySem.W.isFn K (.ref fS) = true)
    (lS : K.lookup fS = some ⟨ocS, odS, .func (PySem.W.fnOf "weeks" "Glasshouse.weeks" (defArgs sWeeks) (defBody sWeeks) (defScope sWeeks) .none kVS dcS pmS anS cdS ctS), slS⟩)
    (cS : PySem.W.codeIn K cdS "Glasshouse.weeks" = true)
    (kS : PySem.W.keepIn K (.ref fS) = true)
    (aW : PySem.W.findIn K (.ref C) "after_week" = some (some (.ref fW)))
    (iW : PySem.W.isFn K (.ref fW) = true)
    (lW : K.lookup fW = some ⟨ocW, odW, .func (PySem.W.fnOf "after_week" "Glasshouse.after_week" (defArgs sWeek) (defBody sWeek) (defScope sWeek) .none kVW dcW pmW anW cdW ctW), slW⟩)
    (cW : PySem.W.codeIn K cdW "Glasshouse.after_week" = true)
    (kW : PySem.W.keepIn K (.ref fW) = true)
    (aT : PySem.W.findIn K (.ref C) "best" = some (some (.ref fT)))
    (iT : PySem.W.isFn K (.ref fT) = true)
    (lT : K.lookup fT = some ⟨ocT, odT, .func (PySem.W.fnOf "best" "Glasshouse.best" (defArgs sBest) (defBody sBest) (defScope sBest) .none kVT dcT pmT anT cdT ctT), slT⟩)
    (cT : PySem.W.codeIn K cdT "Glasshouse.best" = true)
    (kT : PySem.W.keepIn K (.ref fT) = true)
    (aD : PySem.W.findIn K (.ref C) "rids" = some (some (.ref fD)))
    (iD : PySem.W.isFn K (.ref fD) = true)
    (lD : K.lookup fD = some ⟨ocD, odD, .func (PySem.W.fnOf "rids" "Glasshouse.rids" (defArgs sRids) (defBody sRids) (defScope sRids) .none kVD dcD pmD anD cdD ctD), slD⟩)
    (cD : PySem.W.codeIn K cdD "Glasshouse.rids" = true)
    (kD : PySem.W.keepIn K (.ref fD) = true)
    (aP : PySem.W.findIn K (.ref C) "price_of" = some (some (.ref fP)))
    (iP : PySem.W.isFn K (.ref fP) = true)
    (lP : K.lookup fP = some ⟨ocP, odP, .func (PySem.W.fnOf "price_of" "Glasshouse.price_of" (defArgs sPrice) (defBody sPrice) (defScope sPrice) .none kVP dcP pmP anP cdP ctP), slP⟩)
    (cP : PySem.W.codeIn K cdP "Glasshouse.price_of" = true)
    (kP : PySem.W.keepIn K (.ref fP) = true)
    (aF : PySem.W.findIn K (.ref C) "free_of_pests" = some (some (.ref fF)))
    (iF : PySem.W.isFn K (.ref fF) = true)
    (lF : K.lookup fF = some ⟨ocF, odF, .func (PySem.W.fnOf "free_of_pests" "Glasshouse.free_of_pests" (defArgs sFree) (defBody sFree) (defScope sFree) .none kVF dcF pmF anF cdF ctF), slF⟩)
    (cF : PySem.W.codeIn K cdF "Glasshouse.free_of_pests" = true)
    (kF : PySem.W.keepIn K (.ref fF) = true)
    (aG : PySem.W.findIn K (.ref C) "goes" = some (some (.ref fG)))
    (iG : PySem.W.isFn K (.ref fG) = true)
    (lG : K.lookup fG = some ⟨ocG, odG, .func (PySem.W.fnOf "goes" "Glasshouse.goes" (defArgs sGoes) (defBody sGoes) (defScope sGoes) .none kVG dcG pmG anG cdG ctG), slG⟩)
    (cG : PySem.W.codeIn K cdG "Glasshouse.goes" = true)
    (kG : PySem.W.keepIn K (.ref fG) = true)
    (aL : PySem.W.findIn K (.ref C) "after_choice" = some (some (.ref fL)))
    (iL : PySem.W.isFn K (.ref fL) = true)
    (lL : K.lookup fL = some ⟨ocL, odL, .func (PySem.W.fnOf "after_choice" "Glasshouse.after_choice" (defArgs sChoice) (defBody sChoice) (defScope sChoice) .none kVL dcL pmL anL cdL ctL), slL⟩)
    (cL : PySem.W.codeIn K cdL "Glasshouse.after_choice" = true)
    (kL : PySem.W.keepIn K (.ref fL) = true)
    (aO : PySem.W.findIn K (.ref C) "row" = some (some (.ref fO)))
    (iO : PySem.W.isFn K (.ref fO) = true)
    (lO : K.lookup fO = some ⟨ocO, odO, .func (PySem.W.fnOf "row" "Glasshouse.row" (defArgs sRow) (defBody sRow) (defScope sRow) .none kVO dcO pmO anO cdO ctO), slO⟩)
    (cO : PySem.W.codeIn K cdO "Glasshouse.row" = true)
    (kO : PySem.W.keepIn K (.ref fO) = true)
    (aN : PySem.W.findIn K (.ref C) "lengthen" = some (some (.ref fN)))
    (iN : PySem.W.isFn K (.ref fN) = true)
    (lN : K.lookup fN = some ⟨ocN, odN, .func (PySem.W.fnOf "lengthen" "Glasshouse.lengthen" (defArgs sLen) (defBody sLen) (defScope sLen) .none kVN dcN pmN anN cdN ctN), slN⟩)
    (cN : PySem.W.codeIn K cdN "Glasshouse.lengthen" = true)
    (kN : PySem.W.keepIn K (.ref fN) = true)
    (aA : PySem.W.nsIn K mainGlobals "answer" = some (some (.ref fA)))
    (lA : K.lookup fA = some ⟨ocA, odA, .func (PySem.W.fnOf "answer" "answer" (defArgs sAnswer) (defBody sAnswer) (defScope sAnswer) .none kVA dcA pmA anA cdA ctA), slA⟩)
    (cA : PySem.W.codeIn K cdA "answer" = true)
    (kA : PySem.W.keepIn K (.ref fA) = true)
    (aZ : PySem.W.nsIn K mainGlobals "answers" = some (some (.ref fZ)))
    (lZ : K.lookup fZ = some ⟨ocZ, odZ, .func (PySem.W.fnOf "answers" "answers" (defArgs sAns) (defBody sAns) (defScope sAns) .none kVZ dcZ pmZ anZ cdZ ctZ), slZ⟩)
    (cZ : PySem.W.codeIn K cdZ "answers" = true)
    (kZ : PySem.W.keepIn K (.ref fZ) = true)
    (pg : PySem.W.plainGet K C Str.empty = true)
    (hd : PySem.W.hasDictIn K C = true)
    (po : PySem.W.plainOver K C = true)
    (sa : PySem.W.findIn K (.ref C) "__setattr__" = some (some (.builtin "object.__setattr__")))
    (mk : PySem.W.makesIn K C = true)
    (kc : PySem.W.keepIn K (.ref C) = true)
    (nKinds : PySem.W.findIn K (.ref C) "kinds" = some none)
    (nPests : PySem.W.findIn K (.ref C) "pests" = some none)
    (nPrey : PySem.W.findIn K (.ref C) "prey" = some none)
    (nTold : PySem.W.findIn K (.ref C) "told" = some none)
    (nCosts : PySem.W.findIn K (.ref C) "costs" = some none)
    (g_mKinds : PySem.W.nsIn K mainGlobals "MOST_KINDS" = some (some (.int 6 t_mKinds)))
    (g_mCost : PySem.W.nsIn K mainGlobals "MOST_COST" = some (some (.int 1000 t_mCost)))
    (g_mWeeks : PySem.W.nsIn K mainGlobals "MOST_WEEKS" = some (some (.int 20 t_mWeeks)))
    (g_bad : PySem.W.nsIn K mainGlobals "BAD_NUMBER" = some (some (.int (-1) t_bad)))
    (g_there : PySem.W.nsIn K mainGlobals "NOT_THERE" = some (some (.int (-2) t_there)))
    (g_allowed : PySem.W.nsIn K mainGlobals "NOT_ALLOWED" = some (some (.int (-4) t_allowed)))
    (g_noway : PySem.W.nsIn K mainGlobals "NO_WAY" = some (some (.int (-6) t_noway)))
    (g_cBegins : PySem.W.nsIn K mainGlobals "BEGINS" = some (some (.int 0 t_cBegins)))
    (g_cEats : PySem.W.nsIn K mainGlobals "EATS" = some (some (.int 1 t_cEats)))
    (g_cCost : PySem.W.nsIn K mainGlobals "COST" = some (some (.int 2 t_cCost)))
    (g_cWeeks : PySem.W.nsIn K mainGlobals "WEEKS" = some (some (.int 3 t_cWeeks)))
    (g_cBest : PySem.W.nsIn K mainGlobals "BEST" = some (some (.int 4 t_cBest)))
    (g_cGoes : PySem.W.nsIn K mainGlobals "GOES" = some (some (.int 5 t_cGoes)))
    (g_cRow : PySem.W.nsIn K mainGlobals "ROW" = some (some (.int 6 t_cRow)))
    (z_range : PySem.W.nsIn K mainGlobals "range" = some none)
    (z_len : PySem.W.nsIn K mainGlobals "len" = some none)
    (z_sum : PySem.W.nsIn K mainGlobals "sum" = some none)
    (z_any : PySem.W.nsIn K mainGlobals "any" = some none)
    : ∃ fd : FuncData, (∀ (s : Shared) (us : List Value), us.length = (["calls"] : List Str).length → BindsTo s fd ⟨us, []⟩ ((["calls"] : List Str).zip us)) ∧ ∀ base : Heap, K.In base → base.Ns mainGlobals mg → FnOk P w K mg base CX0 7 fa fd ["calls"] (spAns K) := by
  have e := hfa.symm.trans (PySem.W.mg_of X G aZ)
  cases e
  have T : Txt K mg C := ⟨⟨pg, hd, po, sa⟩, nKinds, nPests, nPrey, nTold, nCosts, PySem.W.mg_of X G aC, PySem.W.mg_none_of X G z_range, PySem.W.mg_none_of X G z_len, PySem.W.mg_none_of X G z_sum, PySem.W.mg_none_of X G z_any, ⟨_, PySem.W.mg_of X G g_mKinds⟩, ⟨_, PySem.W.mg_of X G g_mCost⟩, ⟨_, PySem.W.mg_of X G g_mWeeks⟩, ⟨_, PySem.W.mg_of X G g_bad⟩, ⟨_, PySem.W.mg_of X G g_there⟩, ⟨_, PySem.W.mg_of X G g_allowed⟩, ⟨_, PySem.W.mg_of X G g_noway⟩, ⟨_, PySem.W.mg_of X G g_cBegins⟩, ⟨_, PySem.W.mg_of X G g_cEats⟩, ⟨_, PySem.W.mg_of X G g_cCost⟩, ⟨_, PySem.W.mg_of X G g_cWeeks⟩, ⟨_, PySem.W.mg_of X G g_cBest⟩, ⟨_, PySem.W.mg_of X G g_cGoes⟩, ⟨_, PySem.W.mg_of X G g_cRow⟩⟩
  have FH := fun_mk (st := sHolds) lH cH kH
  have bH := FH.binds (ps := ["group", "kind"]) fun _ _ _ _ _ _ us hl => match us, hl with | [_, _], _ => rfl
  have FI := fun_mk (st := sInit) lI cI kI
  have bI := FI.binds (ps := ["self"]) fun _ _ _ _ _ _ us hl => match us, hl with | [_], _ => rfl
  have FR := fun_mk (st := sRenew) lR cR kR
  have bR := FR.binds (ps := ["self", "kinds", "pests"]) fun _ _ _ _ _ _ us hl => match us, hl with | [_, _, _], _ => rfl
  have FB := fun_mk (st := sBegins) lB cB kB
  have bB := FB.binds (ps := ["self", "kinds", "pests"]) fun _ _ _ _ _ _ us hl => match us, hl with | [_, _, _], _ => rfl
  have FE := fun_mk (st := sEats) lE cE kE
  have bE := FE.binds (ps := ["self", "kind", "other"]) fun _ _ _ _ _ _ us hl => match us, hl with | [_, _, _], _ => rfl
  have FQ := fun_mk (st := sCost) lQ cQ kQ
  have bQ := FQ.binds (ps := ["self", "helper", "price"]) fun _ _ _ _ _ _ us hl => match us, hl with | [_, _, _], _ => rfl
  have FS := fun_mk (st := sWeeks) lS cS kS
  have bS := FS.binds (ps := ["self", "helpers"]) fun _ _ _ _ _ _ us hl => match us, hl with | [_, _], _ => rfl
  have FW := fun_mk (st := sWeek) lW cW kW
  have bW := FW.binds (ps := ["self", "there"]) fun _ _ _ _ _ _ us hl => match us, hl with | [_, _], _ => rfl
  have FT := fun_mk (st := sBest) lT cT kT
  have bT := FT.binds (ps := ["self"]) fun _ _ _ _ _ _ us hl => match us, hl with | [_], _ => rfl
  have FD := fun_mk (st := sRids) lD cD kD
  have bD := FD.binds (ps := ["self", "helpers"]) fun _ _ _ _ _ _ us hl => match us, hl with | [_, _], _ => rfl
  have FP := fun_mk (st := sPrice) lP cP kP
  have bP := FP.binds (ps := ["self", "helpers"]) fun _ _ _ _ _ _ us hl => match us, hl with | [_, _], _ => rfl
  have FF := fun_mk (st := sFree) lF cF kF
  have bF := FF.binds (ps := ["self", "there"]) fun _ _ _ _ _ _ us hl => match us, hl with | [_, _], _ => rfl
  have FG := fun_mk (st := sGoes) lG cG kG
  have bG := FG.binds (ps := ["self", "choices"]) fun _ _ _ _ _ _ us hl => match us, hl with | [_, _], _ => rfl
  have FL := fun_mk (st := sChoice) lL cL kL
  have bL := FL.binds (ps := ["self", "there", "choice"]) fun _ _ _ _ _ _ us hl => match us, hl with | [_, _, _], _ => rfl
  have FO := fun_mk (st := sRow) lO cO kO
  have bO := FO.binds (ps := ["self"]) fun _ _ _ _ _ _ us hl => match us, hl with | [_], _ => rfl
  have FN := fun_mk (st := sLen) lN cN kN
  have bN := FN.binds (ps := ["self", "rows", "newest"]) fun _ _ _ _ _ _ us hl => match us, hl with | [_, _, _], _ => rfl
  have FA := fun_mk (st := sAnswer) lA cA kA
  have bA := FA.binds (ps := ["glasshouse", "call", "numbers"]) fun _ _ _ _ _ _ us hl => match us, hl with | [_, _, _], _ => rfl
  have FZ := fun_mk (st := sAns) lZ cZ kZ
  have bZ := FZ.binds (ps := ["calls"]) fun _ _ _ _ _ _ us hl => match us, hl with | [_], _ => rfl
  have mH := PySem.W.mg_of X G aH
  have mR : Meth K C "renew" fR := ⟨aR, iR, kR⟩
  refine ⟨PySem.W.fnOf "answers" "answers" (defArgs sAns) (defBody sAns) (defScope sAns) .none kVZ dcZ pmZ anZ cdZ ctZ, fun s us hu => match us, hu with | [_], _ => .of_eq rfl, fun base _ _ => ?_⟩
  have mW : Meth K C "after_week" fW := ⟨aW, iW, kW⟩
  have mF : Meth K C "free_of_pests" fF := ⟨aF, iF, kF⟩
  have mL : Meth K C "after_choice" fL := ⟨aL, iL, kL⟩
  have GH : FnOk P w K mg base CX0 1 fH _ ["group", "kind"] spHolds := ok_holds FH
  have GW : FnOk P w K mg base CX0 2 fW _ ["self", "there"] (spWeek C) := ok_week FW T FH bH mH
  have GF : FnOk P w K mg base CX0 1 fF _ ["self", "there"] (spFree C) := ok_free FF T
  have GL : FnOk P w K mg base CX0 3 fL _ ["self", "there", "choice"] (spChoice C) := ok_choice FL T GW bW mW
  have GD : FnOk P w K mg base CX0 3 fD _ ["self", "helpers"] (spRids C) := ok_rids FD T GW bW mW (GF.mono (by decide)) bF mF
  have GP : FnOk P w K mg base CX0 2 fP _ ["self", "helpers"] (spPrice C) := ok_price FP T GH FH bH mH
  have GN : FnOk P w K mg base CX0 4 fN _ ["self", "rows", "newest"] (spLen C) := ok_len FN T (GH.mono (by decide)) FH bH mH GL bL mL
  have L : Calls P w K mg base C := {
    fB := fB, dB := _, gB := (ok_begins FB T FR bR mR).mono (by decide), bB := bB, mB := ⟨aB, iB, kB⟩
    fE := fE, dE := _, gE := (ok_eats FE T FH bH mH).mono (by decide), bE := bE, mE := ⟨aE, iE, kE⟩
    fC := fQ, dC := _, gC := (ok_cost FQ T FH bH mH).mono (by decide), bC := bQ, mC := ⟨aQ, iQ, kQ⟩
    fS := fS, dS := _, gS := (ok_weeks FS T FW bW mW FH bH mH).mono (by decide), bS := bS, mS := ⟨aS, iS, kS⟩
    fT := fT, dT := _, gT := (ok_best FT T GD bD ⟨aD, iD, kD⟩ (GP.mono (by decide)) bP ⟨aP, iP, kP⟩).mono (by decide), bT := bT, mT := ⟨aT, iT, kT⟩
    fG := fG, dG := _, gG := (ok_goes FG T (GH.mono (by decide)) FH bH mH GL bL mL (GF.mono (by decide)) bF mF).mono (by decide), bG := bG, mG := ⟨aG, iG, kG⟩
    fO := fO, dO := _, gO := ok_row FO T GN bN ⟨aN, iN, kN⟩ (GF.mono (by decide)) bF mF, bO := bO, mO := ⟨aO, iO, kO⟩ }
  exact ok_ans FZ T ⟨mk, aI, iI, kc⟩ (ok_init FI T FR bR mR) bI (ok_answer FA T L) bA (PySem.W.mg_of X G aA) kA
end G
open PySem PySem.W PyProof.Rows
set_option maxRecDepth 100000 in
set_option maxHeartbeats 0 in
theorem PySem.Challenge.cw_glasshelpers_s01_answers_holds : PySem.Challenge.rw_glasshelpers_s01_answers.Holds := by
  w_on; k_headS; (case hw => exact ⟨[.list [.int 4, .int 0, .int 0]], by decide +kernel, by decide +kernel⟩)
  k_fillS
  refine L2.walk_specK (r := PySem.Challenge.rw_glasshelpers_s01_answers) (k := 7) (CX := L2.CX0) (ps := ["calls"]) (sp := G.spAns) (by decide +kernel) rfl rfl ⟨rfl, by decide, by decide⟩ (fun w h Y => PySem.W.kIn_of Y) ?F ?S (fun _ _ _ _ z => z)
  case F =>
    intro w mg fa h Y KX GG hmg
    refine' G.all_mk KX GG hmg ?aC ?aH ?lH ?cH ?kH ?aI ?iI ?lI ?cI ?kI ?aR ?iR ?lR ?cR ?kR ?aB ?iB ?lB ?cB ?kB ?aE ?iE ?lE ?cE ?kE ?aQ ?iQ ?lQ ?cQ ?kQ ?aS ?iS ?lS ?cS ?kS ?aW ?iW ?lW ?cW ?kW ?aT ?iT ?lT ?cT ?kT ?aD ?iD ?lD ?cD ?kD ?aP ?iP ?lP ?cP ?kP ?aF ?iF ?lF ?cF ?kF ?aG ?iG ?lG ?cG ?kG ?aL ?iL ?lL ?cL ?kL ?aO ?iO ?lO ?cO ?kO ?aN ?iN ?lN ?cN ?kN ?aA ?lA ?cA ?kA ?aZ ?lZ ?cZ ?kZ ?pg ?hd ?po ?sa ?mk ?kc ?nKinds ?nPests ?nPrey ?nTold ?nCosts ?g_mKinds ?g_mCost ?g_mWeeks ?g_bad ?g_there ?g_allowed ?g_noway ?g_cBegins ?g_cEats ?g_cCost ?g_cWeeks ?g_cBest ?g_cGoes ?g_cRow ?z_range ?z_len ?z_sum ?z_any
    (case aC => k_is)
    (case aH => k_is)
    (case lH => k_is)
    (case cH => k_is)
    (case kH => k_is)
    (case aI => k_is)
    (case iI => k_is)
    (case lI => k_is)
    (case cI => k_is)
    (case kI => k_is)
    (case aR => k_is)
    (case iR => k_is)
    (case lR => k_is)
    (case cR => k_is)
    (case kR => k_is)
    (case aB => k_is)
    (case iB => k_is)
    (case lB => k_is)
    (case cB => k_is)
    (case kB => k_is)
    (case aE => k_is)
    (case iE => k_is)
    (case lE => k_is)
    (case cE => k_is)
    (case kE => k_is)
    (case aQ => k_is)
    (case iQ => k_is)
    (case lQ => k_is)
    (case cQ => k_is)
    (case kQ => k_is)
    (case aS => k_is)
    (case iS => k_is)
    (case lS => k_is)
    (case cS => k_is)
    (case kS => k_is)
    (case aW => k_is)
    (case iW => k_is)
    (case lW => k_is)
    (case cW => k_is)
    (case kW => k_is)
    (case aT => k_is)
    (case iT => k_is)
    (case lT => k_is)
    (case cT => k_is)
    (case kT => k_is)
    (case aD => k_is)
    (case iD => k_is)
    (case lD => k_is)
    (case cD => k_is)
    (case kD => k_is)
    (case aP => k_is)
    (case iP => k_is)
    (case lP => k_is)
    (case cP => k_is)
    (case kP => k_is)
    (case aF => k_is)
    (case iF => k_is)
    (case lF => k_is)
    (case cF => k_is)
    (case kF => k_is)
    (case aG => k_is)
    (case iG => k_is)
    (case lG => k_is)
    (case cG => k_is)
    (case kG => k_is)
    (case aL => k_is)
    (case iL => k_is)
    (case lL => k_is)
    (case cL => k_is)
    (case kL => k_is)
    (case aO => k_is)
    (case iO => k_is)
    (case lO => k_is)
    (case cO => k_is)
    (case kO => k_is)
    (case aN => k_is)
    (case iN => k_is)
    (case lN => k_is)
    (case cN => k_is)
    (case kN => k_is)
    (case aA => k_is)
    (case lA => k_is)
    (case cA => k_is)
    (case kA => k_is)
    (case aZ => k_is)
    (case lZ => k_is)
    (case cZ => k_is)
    (case kZ => k_is)
    (case pg => k_is)
    (case hd => k_is)
    (case po => k_is)
    (case sa => k_is)
    (case mk => k_is)
    (case kc => k_is)
    (case nKinds => k_is)
    (case nPests => k_is)
    (case nPrey => k_is)
    (case nTold => k_is)
    (case nCosts => k_is)
    (case g_mKinds => k_is)
    (case g_mCost => k_is)
    (case g_mWeeks => k_is)
    (case g_bad => k_is)
    (case g_there => k_is)
    (case g_allowed => k_is)
    (case g_noway => k_is)
    (case g_cBegins => k_is)
    (case g_cEats => k_is)
    (case g_cCost => k_is)
    (case g_cWeeks => k_is)
    (case g_cBest => k_is)
    (case g_cGoes => k_is)
    (case g_cRow => k_is)
    (case z_range => k_is)
    (case z_len => k_is)
    (case z_sum => k_is)
    (case z_any => k_is)
  case S =>
    intro K H xs a hO hwi hask hx
    cases hx with
    | cons h1 h2 =>
      cases h2
      cases h1 with
      | lst hs ha =>
        have e := L2.ints_dw a.1 _ ha
        subst e
        obtain ⟨qs, P, A, l60, due⟩ := GM.asked_of (l := a.1) hask
        exact ⟨_, a.1, qs, rfl, hs, P, l60, A, fun H' p hp => .lst (L2.SqL.of hp) (by rw [← due]; exact L2.dw_ints _)⟩
